"""Endlessplane: a floor without end, told by few numbers."""
