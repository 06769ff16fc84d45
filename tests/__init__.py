"""The tests of endlessplane."""
