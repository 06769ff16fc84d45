import PyProof.Rows.All
import Wide.All
import OpenK.AllK
import Wide.FinOn
import HandS.ForMost
import HandS.ForExc
import HandS.ExcInit
import HandS.ExcField
import HandS.ExcIs
import HandS.IsInst
import HandS.Lambda
import HandS.EndTab
import HandS.Wide
import HandS.Style
import HandS.RaiseMore
import HandS.Flow
import HandS.HeadHook1
import KE.KExcIs
import PyProof.CallFns
import HandS.Defaults
import PyProof.WalksMore
import PyProof.FactsAll.range
import HandS.TryMany
import HandS.NoneIn
import PySem.Challenge.RW_endlessplane_k08_lattices_told
/-! Bs -/
set_option Elab.async false
set_option linter.all false
set_option maxRecDepth 100000
set_option maxHeartbeats 4000000
namespace Iz
open PySem PySem.Spec PyProof.Rows L2
theorem cx_K {CX : CXT} {P : Program} {w : World} {K : PySem.W.Frag} {mg : Str → Option Value} {base : Heap} {N : List Str} {q : Str} {sc : Scope} {f : Addr} {cd : Value} {A : Around} {outer : List Env} {s : Shared} {H : Hp} {E : XK} : (cxOf CX P w K mg base N q sc f cd A outer s H E).K = K := rfl
/-! ### defs by name, calls -/
/-- the global x is a def that keeps sp -/
structure OkF (P : Program) (w : World) (K : PySem.W.Frag) (mg : Str → Option Value) (base : Heap) (CX : CXT) (k : Nat) (x : Str) (ps : List Str) (sp : Sp) : Prop where
  ex : ∃ (f : Addr) (fd : FuncData), mg x = some (.ref f) ∧ PySem.W.keepIn K (.ref f) = true ∧ Binds K fd ps [] ∧ FnOk P w K mg base CX k f fd ps sp
theorem OkF.imp {P : Program} {w : World} {K : PySem.W.Frag} {mg : Str → Option Value} {base : Heap} {CX : CXT} {k : Nat} {x : Str} {ps : List Str} {sp sp' : Sp} (F : OkF P w K mg base CX k x ps sp) (h : ∀ vs H Q E, sp' vs H Q E → sp vs H Q E) : OkF P w K mg base CX k x ps sp' :=
  let ⟨f, fd, g, kp, b, G⟩ := F.ex
  ⟨f, fd, g, kp, b, G.imp h⟩
/-- inside a def that may raise: what is raised goes on out -/
theorem passE {P : Program} {w : World} {K : PySem.W.Frag} {mg : Str → Option Value} {base : Heap} {N : List Str} {q : Str} {sc : Scope} {f : Addr} {cd : Value} {A : Around} {outer : List Env} {s : Shared} {H : Hp} {E : XK} :
    Passes (L2.CX P w) (cxOf (L2.CX P w) P w K mg base N q sc f cd A outer s H E) E := passes_call (W := fun cls d _ H => E cls d H) (takes_of rfl rfl rfl rfl) fun _ _ _ _ h => h
theorem takesE {P : Program} {w : World} {K : PySem.W.Frag} {mg : Str → Option Value} {base : Heap} {N : List Str} {q : Str} {sc : Scope} {f : Addr} {cd : Value} {A : Around} {outer : List Env} {s : Shared} {H : Hp} {E : XK} :
    Takes (cxOf (L2.CX P w) P w K mg base N q sc f cd A outer s H E) (fun cls d _ H => E cls d H) := takes_of rfl rfl rfl rfl
section
variable {X : Cx} {k : Nat} {x : Str} {ps : List Str} {sp : Sp} {E : XK} {e : Expr} {es : List Expr} {t : TA} {p pos : Pos}
/-- f(e, ..) -/
theorem pcl {CX : CXT} (O : OkF X.prog X.w X.K X.mg X.base CX k x ps sp) (hr : Room k X.A) (hx : Passes CX X E) (ha : PA X (e :: es) t) (hg : Gl X x := by rfl) (hdb : (x == ("__debug__" : Str)) = false := by decide)
    (he : starEach (e :: es) X.env = (false, eval e X.env) :: starEach es X.env := by rfl) (hpl : (backTo pos (starEach es X.env)).any (·.1) = false := by rfl) : PE X (.Call (.Name x p) (e :: es) [] pos) (tCall sp [] E t) := by
  obtain ⟨f, fd, g, kp, b, G⟩ := O.ex
  exact pe_call G hr hg g kp b .nil hx ha hdb he hpl
end
theorem op_fdivF {X : Cx} : OpR X (binaryOp .FloorDiv) (rI (fun _ j => j ≠ 0 ∧ j.natAbs.log2 < 9000) fun i j => .int (i.fdiv j)) := opI fun i j _ _ _ _ _ hc q => floordiv_int hc.1 q (.inl (PyProof.noPylong_of_log2 hc.2))
theorem log_lt {x : Int} {n m : Nat} (h : x.natAbs < 2 ^ n) (hm : n ≤ m) (h0 : 0 < m) : x.natAbs.log2 < m := PySem.Flt.log2_lt_of h0 (Nat.lt_of_lt_of_le h (Nat.pow_le_pow_right (by decide) hm))
/-! ### readings in a form that simp reads: an object is named by what stands at it -/
section
variable {X : Cx} {e a b : Expr} {es : List Expr} {t t' ta tb : TE}
theorem PE.imp (h : PE X e t) (k : ∀ σ H Q, t' σ H Q → t σ H Q) : PE X e t' := ⟨fun pins s σ H Q I q => h.run pins s σ H Q I (k σ H Q q)⟩
theorem PS.imp {st : Stmt} {t t' : TS} (h : PS X st t) (k : ∀ D σ H, t' D σ H → t D σ H) : PS X st t' := ⟨fun pins s σ H D I q => h.run pins s σ H D I (k D σ H q)⟩
theorem PG.imp {tg : Expr} {t t' : TG} (h : PG X tg t) (k : ∀ v σ H Q, t' v σ H Q → t v σ H Q) : PG X tg t' := ⟨fun pins s σ H v u Q I r q => h.run pins s σ H v u Q I r (k v σ H Q q)⟩
theorem CallR.imp {f : Value} {r r' : List V → Hp → VK → Prop} (h : CallR X f r) (k : ∀ xs H Q, r' xs H Q → r xs H Q) : CallR X f r' := fun pins s σ H xs us Q I rv q => h pins s σ H xs us Q I rv (k xs H Q q)
theorem Same.upd {H : Hp} {p : Addr} {o : HO} (h : H p = none) : Same H (L2.upd H p o) := fun b u e => by rw [upd_ne (ne_of_none e h)]; exact e
/-- a new object: from then on some heap that has it and all else -/
def News (H : Hp) (o : HO) (Q : V → Hp → Prop) : Prop := ∀ p H2, H p = none → Same H H2 → H2 p = some o → Q (.ref p) H2
theorem News.all {H : Hp} {o : HO} {Q : V → Hp → Prop} (n : News H o Q) : ∀ p, H p = none → Q (.ref p) (upd H p o) := fun p hp => n p _ hp (Same.upd hp) upd_same
def tTupN (t : TA) : TE := fun σ H Q => t σ H fun xs H1 => xs.length ≤ sizeLine ∧ News H1 (.tup xs) Q
def tLstN (t : TA) : TE := fun σ H Q => t σ H fun xs H1 => xs.length ≤ sizeLine ∧ News H1 (.lst xs) Q
/-- what a reading gives, weakened -/
def mcl {α : Type} (t : L2.St → Hp → (α → Hp → Prop) → Prop) : L2.St → Hp → (α → Hp → Prop) → Prop := fun σ H Q => ∃ Q0, t σ H Q0 ∧ ∀ v H1, Q0 v H1 → Q v H1
theorem PA.mcl {t : TA} (h : PA X es t) : PA X es (mcl t) := ⟨fun pos pins s σ H Q I ⟨Q0, q, k⟩ => thn (h.run pos pins s σ H Q0 I q) fun us s1 ⟨vs, H1, I1, r, q1⟩ => ⟨vs, H1, I1, r, k vs H1 q1⟩⟩
theorem PE.mcl {t : TE} (h : PE X e t) : PE X e (mcl t) := ⟨fun pins s σ H Q I ⟨Q0, q, k⟩ => thn (h.run pins s σ H Q0 I q) fun u s1 ⟨v, H1, I1, r, q1⟩ => ⟨v, H1, I1, r, k v H1 q1⟩⟩
theorem pe_tupN {t : TA} {x1 : Nat} {pos : Pos} (h : PA X es t) : PE X (.Tuple es x1 pos) (tTupN t) := PE.imp (pe_tup (PA.mcl h)) fun σ H Q q => ⟨_, q, fun vs H1 ⟨z, n⟩ => ⟨z, n.all⟩⟩
theorem pe_lstN {t : TA} {pos : Pos} (h : PA X es t) : PE X (.List es pos) (tLstN t) := PE.imp (pe_lst (PA.mcl h)) fun σ H Q q => ⟨_, q, fun vs H1 ⟨z, n⟩ => ⟨z, n.all⟩⟩
def rIxTN : R2 := fun x y H Q => ∃ p xs i v, x = .ref p ∧ y = .int i ∧ H p = some (.tup xs) ∧ atI xs i = some v ∧ Q v H
theorem ix_tupN : IxR X rIxTN := fun v0 sl pins s σ H x y v u Q I rx ry q hs => ix_tup v0 sl pins s σ H x y v u Q I rx ry (let ⟨p, xs, i, z, a, b, c, d, q⟩ := q; ⟨p, xs, i, z, a, b, SqT.of c, d, q⟩) hs
def rIxLN : R2 := fun x y H Q => ∃ p xs i v, x = .ref p ∧ y = .int i ∧ H p = some (.lst xs) ∧ atI xs i = some v ∧ Q v H
theorem ix_listN : IxR X rIxLN := fun v0 sl pins s σ H x y v u Q I rx ry q hs => ix_list v0 sl pins s σ H x y v u Q I rx ry (let ⟨p, xs, i, z, a, b, c, d, q⟩ := q; ⟨p, xs, i, z, a, b, SqL.of c, d, q⟩) hs
def gTupN (n : Nat) (t : TGs) : TG := fun v σ H Q => ∃ a xs, v = .ref a ∧ H a = some (.tup xs) ∧ xs.length = n ∧ t xs σ H Q
theorem pg_tupN {k : Nat} {pos : Pos} {t : TGs} {n : Nat} (hc : X.calm = true) (h : PGs X es t) (hn : (assignEach es X.env).length = n := by rfl) (hst : (assignEach es X.env).findIdx? (·.1) = none := by rfl) : PG X (.Tuple es k pos) (gTupN n t) :=
  PG.imp (pg_tup hc h hn hst) fun v σ H Q ⟨p, xs, a, c, d, q⟩ => ⟨p, xs, a, SqT.of c, d, q⟩
def rLenL : List V → Hp → VK → Prop := fun xs H Q => ∃ p ys, xs = [.ref p] ∧ H p = some (.lst ys) ∧ Q (.int ys.length) H
theorem call_lenL : CallR X (.builtin "len") rLenL := CallR.imp call_len_seq fun xs H Q ⟨p, ys, a, b, q⟩ => ⟨p, ys, a, .inl (SqL.of b), q⟩
def rLenT : List V → Hp → VK → Prop := fun xs H Q => ∃ p ys, xs = [.ref p] ∧ H p = some (.tup ys) ∧ Q (.int ys.length) H
theorem call_lenT : CallR X (.builtin "len") rLenT := CallR.imp call_len_seq fun xs H Q ⟨p, ys, a, b, q⟩ => ⟨p, ys, a, .inr (SqT.of b), q⟩
def rIntI : List V → Hp → VK → Prop := fun xs H Q => ∃ i, xs = [.int i] ∧ Q (.int i) H
theorem call_intI : CallR X (.type "int") rIntI := CallR.imp call_int1 fun xs H Q q => .inl q
def rIntB : List V → Hp → VK → Prop := fun xs H Q => ∃ k, xs = [.bl k] ∧ Q (.int (if k then 1 else 0)) H
theorem call_intB : CallR X (.type "int") rIntB := CallR.imp call_int1 fun xs H Q q => .inr q
def rAbs : List V → Hp → VK → Prop := fun xs H Q => ∃ i, xs = [.int i] ∧ Q (.int (i.natAbs : Int)) H
theorem call_absN : CallR X (.builtin "abs") rAbs := CallR.imp call_abs fun xs H Q ⟨i, a, q⟩ => ⟨i, a, by rw [show (if i < 0 then -i else i) = (i.natAbs : Int) by split <;> omega]; exact q⟩
def rListS (K : PySem.W.Frag) : List V → Hp → VK → Prop := fun xs H Q => ∃ p ys, xs = [.ref p] ∧ SqL K H p ys ∧ News H (.lst ys) Q
theorem call_listS : CallR X (.type "list") (rListS X.K) := CallR.imp call_list_of fun xs H Q ⟨p, ys, a, b, n⟩ => ⟨p, ys, a, .inl b, n.all⟩
/-- a truth: what the test says -/
theorem atI0 {α : Type} {a : α} {l : List α} : atI (a :: l) 0 = some a := by simp [atI, ixN]
theorem ixN_ok {n : Nat} {i : Int} (h : 0 ≤ i) (h2 : i < n) : ixN n i = some i.toNat := by simp [ixN, h, h2]
theorem atI_ok {α : Type} {l : List α} {i : Int} {v : α} (h : 0 ≤ i) (h2 : l[i.toNat]? = some v) : atI l i = some v := by
  have h3 := (List.getElem?_eq_some_iff.mp h2).1
  unfold atI
  rw [ixN_ok h (by omega)]
  exact h2
theorem atI1 {α : Type} {a b : α} {l : List α} : atI (a :: b :: l) 1 = some b := atI_ok (by decide) rfl
theorem atI2 {α : Type} {a b c : α} {l : List α} : atI (a :: b :: c :: l) 2 = some c := atI_ok (by decide) rfl
theorem atI3 {α : Type} {a b c d : α} {l : List α} : atI (a :: b :: c :: d :: l) 3 = some d := atI_ok (by decide) rfl
theorem ite_iff {c A B : Prop} [Decidable c] : (if c then A else B) ↔ ((c → A) ∧ (¬ c → B)) := by
  by_cases h : c <;> simp [h]
/-- a while's test may be asked for less -/
theorem mono_eq {r : R2} {i : Nat} {v : V} (hr : ∀ x y H Q Q', (∀ z H1, Q z H1 → Q' z H1) → r x y H Q → r x y H Q') : ∀ (σ : L2.St) (H : Hp) (Q Q' : Bool → Hp → Prop), (∀ b H1, Q b H1 → Q' b H1) → tTest (tOp r (tVar i) (tC v)) σ H Q → tTest (tOp r (tVar i) (tC v)) σ H Q' :=
  fun _ _ _ _ k ⟨x, h, q⟩ => ⟨x, h, hr _ _ _ _ _ (fun _ _ ⟨b, e, q⟩ => ⟨b, e, k _ _ q⟩) q⟩
theorem mono_ne {i : Nat} {v : V} : ∀ (σ : L2.St) (H : Hp) (Q Q' : Bool → Hp → Prop), (∀ b H1, Q b H1 → Q' b H1) → tTest (tOp rNe (tVar i) (tC v)) σ H Q → tTest (tOp rNe (tVar i) (tC v)) σ H Q' := mono_eq fun _ _ _ _ _ k ⟨a, q⟩ => ⟨a, k _ _ q⟩
end
/-- H2 is H with o at p -/
def Put (H H2 : Hp) (p : Addr) (o : HO) : Prop := H2 p = some o ∧ ∀ b, b ≠ p → H2 b = H b
def rSetLN : V → V → V → Hp → (Hp → Prop) → Prop := fun o i v H Q => ∃ p xs k j, o = .ref p ∧ i = .int k ∧ H p = some (.lst xs) ∧ ixN xs.length k = some j ∧ ∀ H2, Put H H2 p (.lst (xs.set j v)) → Q H2
theorem set_listN {X : Cx} : PSet X rSetLN := fun pins s σ H o i v ov iv u Q I ro ri rv ⟨p, xs, k, j, a, b, c, d, q⟩ => set_list pins s σ H o i v ov iv u Q I ro ri rv ⟨p, xs, k, j, a, b, c, d, q _ ⟨upd_same, fun _ h => upd_ne h⟩⟩
theorem PT.imp {X : Cx} {e : Expr} {t t' : TT} (h : PT X e t) (k : ∀ σ H Q, t' σ H Q → t σ H Q) : PT X e t' := ⟨fun pins s σ H Q I q => h.run pins s σ H Q I (k σ H Q q)⟩
/-- a list's truth -/
def tTruL (te : TE) : TT := fun σ H Q => te σ H fun x H1 => ∃ p xs, x = .ref p ∧ H1 p = some (.lst xs) ∧ Q (!xs.isEmpty) H1
theorem pt_truL {X : Cx} {e : Expr} {te : TE} (h : PE X e te) (hw : ∀ t : Sem Value, isTrue e X.env t = (t >>= fun v => standAt e.pos >>= fun _ => holding [v] (truthy v)) := by intro _; rfl) : PT X e (tTruL te) :=
  PT.imp (pt_truth (PE.mcl h) hw) fun σ H Q q => ⟨_, q, fun v H1 ⟨p, xs, a, b, q⟩ => ⟨_, by subst a; exact .inl ⟨xs, SqL.of b, rfl⟩, q⟩⟩
theorem ixN0 {n : Nat} : ixN (n + 1) 0 = some 0 := ixN_ok (by decide) (by omega)
theorem ixN1 {n : Nat} : ixN (n + 1 + 1) 1 = some 1 := ixN_ok (by decide) (by omega)
theorem scal_ii {i j : Int} : scal (.int i) (.int j) = true := rfl
theorem scal_in {i : Int} : scal (.int i) .non = true := rfl
theorem scal_ni {i : Int} : scal .non (.int i) = true := rfl
theorem scal_nn : scal .non .non = true := rfl
theorem scal_bb {i j : Bool} : scal (.bl i) (.bl j) = true := rfl
theorem scal_ss {i j : Str} : scal (.str i) (.str j) = true := rfl
theorem scal_sn {i : Str} : scal (.str i) .non = true := rfl
theorem scal_ns {i : Str} : scal .non (.str i) = true := rfl
theorem scal_bn {i : Bool} : scal (.bl i) .non = true := rfl
theorem scal_nb {i : Bool} : scal .non (.bl i) = true := rfl
/-- xs.append(e) -/
def tApp (to : TE) (ta : TA) : TE := fun σ H Q => to σ H fun x H1 => ∃ l, x = .ref l ∧ (∃ xs, H1 l = some (.lst xs)) ∧ ta σ H1 fun vs H2 => ∃ y xs, vs = [y] ∧ H2 l = some (.lst xs) ∧ xs.length < sizeLine ∧ ∀ H3, Put H2 H3 l (.lst (xs ++ [y])) → Q .non H3
theorem pe_appN {X : Cx} {o e : Expr} {to : TE} {ta : TA} {apos cpos : Pos} (ho : PE X o to) (ha : PA X [e] ta)
    (hbase : attributeBase o "append" X.env (eval o X.env) = eval o X.env := by rfl)
    (hfew : ((backTo cpos (starEach [e] X.env)).all (fun x => !x.1) && (backToKw cpos (keywordEach [] X.env)).all (fun x => x.1.isSome) && decide ([e].length + ([] : List Keyword).length + (if ([] : List Keyword).isEmpty then 0 else 1) < 30)) = true := by rfl)
    (hline : (apos.endLine == cpos.line) = true := by rfl) (hs : starEach [e] X.env = (false, eval e X.env) :: starEach [] X.env := by rfl) (hplain : (backTo cpos (starEach [] X.env)).any (·.1) = false := by rfl) :
    PE X (.Call (.Attribute o "append" apos) [e] [] cpos) (tApp to ta) :=
  PE.imp (pe_bm PySem.F.plainAttrs_list PySem.F.slot_list_append PySem.F.type_list_append mt_append (PE.mcl ho) (PA.mcl ha) hbase hfew hline hs hplain) fun σ H Q q =>
    ⟨_, q, fun x H1 ⟨l, hx, ⟨xs, hl⟩, q⟩ => by subst hx; exact ⟨.inl ⟨rfl, xs, SqL.of hl⟩, _, q, fun vs H2 ⟨y, xs, a, b, c, q⟩ => ⟨l, xs, y, rfl, a, b, c, q _ ⟨upd_same, fun _ h => upd_ne h⟩⟩⟩⟩
/-- a statement whose ways join behind it: M holds there -/
def tCut (t : TS) : TS := fun D σ H => ∃ M : L2.St → Hp → Prop, t { D with nx := M } σ H ∧ ∀ σ' H', M σ' H' → D.nx σ' H'
theorem ps_cut {X : Cx} {st : Stmt} {t : TS} (h : PS X st t) : PS X st (tCut t) := ⟨fun pins s σ H D I ⟨M, q, k⟩ => thn (h.run pins s σ H { D with nx := M } I q) fun f s1 r => by
  cases f with
  | next => obtain ⟨σ', H', J, m⟩ := r; exact ⟨σ', H', J, k σ' H' m⟩
  | brk => exact r
  | cont => exact r
  | ret u => exact r⟩
/-! ### loops -/
section
variable {g : TG} {tb : TS} {D : Ends} {σ : L2.St} {H : Hp} {ta : TA} {tl : TE}
theorem st_forR1 (j : Int) (hj : -(2 ^ 62) ≤ j ∧ j < 2 ^ 62) (ha : ∀ Q : List V → Hp → Prop, Q [.int j] H → ta σ H Q) (Pv : Nat → L2.St → Hp → Prop) (h0 : Pv 0 σ H)
    (hs : ∀ i σ H, i < j.toNat → Pv i σ H → g (.int i) σ H fun σ2 H2 => tb { D with nx := Pv (i + 1), ct := Pv (i + 1), bk := D.nx } σ2 H2) (hd : ∀ σ H, Pv j.toNat σ H → D.nx σ H) : tFor (iRng1 ta) g tb D σ H :=
  ha _ ⟨j, rfl, hj.1, hj.2, for_range Pv h0 (fun i σ H hi p => by rw [Int.zero_add]; exact hs i σ H hi p) hd⟩
theorem st_forR2 (lo j : Int) (hl : -(2 ^ 62) ≤ lo ∧ lo < 2 ^ 62) (hj : -(2 ^ 62) ≤ j ∧ j < 2 ^ 62) (ha : ∀ Q : List V → Hp → Prop, Q [.int lo, .int j] H → ta σ H Q) (Pv : Nat → L2.St → Hp → Prop) (h0 : Pv 0 σ H)
    (hs : ∀ i σ H, i < (j - lo).toNat → Pv i σ H → g (.int (lo + i)) σ H fun σ2 H2 => tb { D with nx := Pv (i + 1), ct := Pv (i + 1), bk := D.nx } σ2 H2) (hd : ∀ σ H, Pv (j - lo).toNat σ H → D.nx σ H) : tFor (iRng2 ta) g tb D σ H :=
  ha _ ⟨lo, j, rfl, ⟨hl.1, hl.2, hj.1, hj.2⟩, for_range Pv h0 hs hd⟩
end
/-! ### values of any kind -/
/-- a plain int -/
def isI : V → Bool
  | .int _ => true
  | _ => false
theorem isI_int {x : V} (h : isI x = true) : ∃ i, x = .int i := by cases x <;> simp_all [isI]
/-- is_whole tells rightly of x -/
def Wh (K : PySem.W.Frag) (H : Hp) (x : V) : Prop := ∃ t b1 b2, TyX K H x t ∧ PySem.W.kitOne K t (.type "int") = some b1 ∧ PySem.W.kitOne K t (.type "bool") = some b2 ∧ (b1 && !b2) = isI x
section
variable {K : PySem.W.Frag} {H : Hp}
theorem wh_int {i : Int} : Wh K H (.int i) := ⟨_, true, false, .base (.int i), kit_ty (by decide +kernel), kit_ty (by decide +kernel), rfl⟩
theorem wh_bl {b : Bool} : Wh K H (.bl b) := ⟨_, true, true, .base (.bl b), kit_ty (by decide +kernel), kit_ty (by decide +kernel), rfl⟩
theorem wh_non : Wh K H .non := ⟨_, false, false, .base .non, kit_ty (by decide +kernel), kit_ty (by decide +kernel), rfl⟩
theorem wh_str {x : Str} : Wh K H (.str x) := ⟨_, false, false, .base (.str x), kit_ty (by decide +kernel), kit_ty (by decide +kernel), rfl⟩
theorem wh_tup {p : Addr} {xs : List V} (h : H p = some (.tup xs)) : Wh K H (.ref p) := ⟨_, false, false, .base (.tup h), kit_ty (by decide +kernel), kit_ty (by decide +kernel), rfl⟩
theorem wh_lst {p : Addr} {xs : List V} (h : H p = some (.lst xs)) : Wh K H (.ref p) := ⟨_, false, false, .base (.lst h), kit_ty (by decide +kernel), kit_ty (by decide +kernel), rfl⟩
end
/-- isinstance with a built-in class, with an own one -/
def rIsTy (K : PySem.W.Frag) : List V → Hp → VK → Prop := fun xs H Q => ∃ x n t b, xs = [x, .ty n] ∧ TyX K H x t ∧ PySem.W.kitOne K t (.type n) = some b ∧ Q (.bl b) H
theorem call_isTy {X : Cx} : CallR X (.builtin "isinstance") (rIsTy X.K) := CallR.imp call_isi fun xs H Q ⟨x, n, t, b, a, ty, k, q⟩ => ⟨x, .ty n, t, .type n, b, a, .ty n, ty, k, q⟩
/-! ### own errors with one field -/
open He (ga)
def spXI (K : PySem.W.Frag) (fld : Str) : Sp := fun vs H Q _ => ∃ (a C : Addr) (v : V), vs = [.ref a, v] ∧ OexC K C ∧ PySem.W.findIn K (.ref C) fld = some none ∧ H a = some (exo a C none) ∧
  ∀ dx, H dx = none → dx ≠ a → Q .non (upd (upd H dx (exd dx [(fld, v)])) a (exo a C (some dx)))
section
variable {P : Program} {w : World} {K : PySem.W.Frag} {mg : Str → Option Value} {base : Heap}
theorem vis_of {N ps : List Str} {sc : Scope} (S : FnScope N ps sc) {x : Str} (h : x ∈ ps) : Vis sc x := (S.par x h).elim .inl fun e => .inr (.inl e)
theorem ok_xi {qual fld : Str} {st : Stmt} {f : Addr} {fd : FuncData} {p1 p2 p3 p4 : Pos} (F : Fun K "__init__" qual st f fd) (S : FnScope ["self", fld] ["self", fld] (defScope st))
    (hb : defBody st = [.Assign [.Attribute (.Name "self" p1) fld p2] (.Name fld p3) p4]) (h1 : (fld == ("__debug__" : Str)) = false) (h2 : (fld == ("__classdict__" : Str)) = false) : FnOk P w K mg base CX0 1 f fd ["self", fld] (spXI K fld) := by
  refine F.ok S (fun vs H Q E h => ?_) (fun cdv A outer s H vs Q E hr h => ?_)
  · obtain ⟨a, C, v, rfl, _⟩ := h; rfl
  · obtain ⟨a, C, v, rfl, T, hn, ha, k⟩ := h
    rw [hb]
    refine ⟨_, pss_one (ps_ost (pe_var (i := 0) rfl (vis_of S (by simp))) (pe_var (i := 1) rfl (vis_of S (by simp)) h1 h2)), ?_⟩
    exact ⟨v, rfl, .ref a, rfl, a, C, rfl, T, hn, .inl ⟨ha, k⟩⟩
/-- what the top has made of the class x, whose __init__ keeps its one argument in fld -/
structure ExT (K : PySem.W.Frag) (mg : Str → Option Value) (x fld : Str) : Prop where
  g : mg x = some (.ref (ga K x))
  ox : OexC K (ga K x)
  xf : XfC K (ga K x)
  no : PySem.W.findIn K (.ref (ga K x)) fld = some none
  ini : ∃ (qual : Str) (st : Stmt) (f : Addr) (fd : FuncData) (p1 p2 p3 p4 : Pos), PySem.W.findIn K (.ref (ga K x)) "__init__" = some (some (.ref f)) ∧ PySem.W.typeIn K (.ref f) = some (.type "function") ∧ Fun K "__init__" qual st f fd ∧ FnScope ["self", fld] ["self", fld] (defScope st) ∧
    defBody st = [.Assign [.Attribute (.Name "self" p1) fld p2] (.Name fld p3) p4] ∧ Binds K fd ["self", fld] []
/-- an error of the class x with fld = v is let out -/
def Rse (K : PySem.W.Frag) (E : XK) (H : Hp) (x fld : Str) (v : V) : Prop := ∀ d H', H d = none → Same H H' → H' d = some (.xd [(fld, v)]) → E (.ref (ga K x)) (some d) H'
theorem Rse.mono {K : PySem.W.Frag} {E : XK} {H H2 : Hp} {x f : Str} {v : V} (r : Rse K E H x f v) (s : Same H H2) : Rse K E H2 x f v := fun d H' hd s2 h => r d H' (s.free hd) (s.trans s2) h
def tRaiseX (K : PySem.W.Frag) (x fld : Str) (W : WX) (te : TE) : TS := fun _ σ H => te σ H fun v H1 => Rse K (fun cls d H' => W cls d σ H') H1 x fld v
theorem ps_raiseX {X : Cx} {x fld : Str} {W : WX} {e : Expr} {te : TE} {p pos pos2 : Pos} (T : ExT X.K X.mg x fld) (hr : Room 2 X.A) (tk : Takes X W) (he : PE X e te) (hc : X.calm = true := by rfl) (hg : Gl X x := by rfl) (hdb : (x == ("__debug__" : Str)) = false := by decide)
    (hd1 : (fld == ("__debug__" : Str)) = false := by decide) (hd2 : (fld == ("__classdict__" : Str)) = false := by decide)
    (hs : starEach [e] X.env = (false, eval e X.env) :: starEach [] X.env := by rfl) (hpl : (backTo pos (starEach [] X.env)).any (·.1) = false := by rfl) : PS X (.Raise (some (.Call (.Name x p) [e] [] pos)) none pos2) (tRaiseX X.K x fld W te) := by
  obtain ⟨qual, st, f, fd, p1, p2, p3, p4, hi, ht, F, S, hb, B⟩ := T.ini
  have G : FnOk X.prog X.w X.K X.mg X.base CX0 1 f fd ["self", fld] (spXI X.K fld) := ok_xi F S hb hd1 hd2
  refine PS.imp (ps_raise hc tk (pmk_oex (k := 1) T.ox hi ht G hr B .nil (pass0) hg T.g (pa_cons (PE.mcl he) pa_nil hs) hdb hs hpl)) fun D σ H q => ?_
  refine ⟨_, q, fun v H1 k => ?_⟩
  refine ⟨by show 1 ≤ 1000; decide, fun a ha => ⟨a, _, v, rfl, T.ox, T.no, upd_same, fun dx hdx hne => ⟨rfl, dx, _, upd_same, by rw [upd_ne hne, upd_same], ?_, ?_⟩⟩⟩
  · rw [upd_ne hne] at hdx; exact hdx
  · have hdn : H1 dx = none := by rw [upd_ne hne] at hdx; exact hdx
    refine k dx _ hdn (fun b u e => ?_) upd_same
    have h1 := ne_of_none e hdn
    have h2 := ne_of_none e ha
    rw [upd_ne h1, del_ne h2, upd_ne h2, upd_ne h1, upd_ne h2]
    exact e
end
end Iz
/-! Bx -/
set_option Elab.async false
set_option linter.all false
set_option maxRecDepth 100000
set_option maxHeartbeats 4000000
namespace Iz
open PySem PySem.Spec PyProof.Rows L2 LamX
open He (ga)
/-! ### repr of plain values -/
def ReprV : V → Str → Prop
  | .non, s => s = "None"
  | .bl b, s => s = if b = true then Str.ofString "True" else Str.ofString "False"
  | .int i, s => i.natAbs.log2 < 1920 ∧ s = Str.ofString (toString i)
  | .str x, s => (reprText x).length ≤ sizeLine ∧ s = reprText x
  | _, _ => False
def rRepr : List V → Hp → VK → Prop := fun xs H Q => ∃ x s, xs = [x] ∧ ReprV x s ∧ Q (.str s) H
theorem call_reprN {X : Cx} : CallR X (.builtin "repr") rRepr := by
  intro pins s σ H xs us Q I r h
  obtain ⟨x, z, rfl, hz, q⟩ := h
  cases r with
  | cons rx rr =>
    cases rr
    cases x with
    | non => cases rx; cases hz; exact PySem.P.repr_of_none ⟨.str _, H, I.tok _, ⟨_, rfl⟩, q⟩
    | bl b => cases rx; cases hz; exact PySem.P.repr_of_bool ⟨.str _, H, I.tok _, ⟨_, rfl⟩, q⟩
    | int i => obtain ⟨t, rfl⟩ := rx; obtain ⟨hb, rfl⟩ := hz; exact PySem.P.repr_of_int hb ⟨.str _, H, I.tok _, ⟨_, rfl⟩, q⟩
    | str y => obtain ⟨t, rfl⟩ := rx; obtain ⟨hb, rfl⟩ := hz; exact PySem.P.repr_of_str ⟨.str _, H, I.tok _, ⟨_, rfl⟩, q⟩ hb
    | byt b => cases hz
    | flt b => cases hz
    | ref a => cases hz
    | ty n => cases hz
/-! ### isinstance of a caught error -/
structure ExI (K : PySem.W.Frag) (D : Addr) : Prop where
  hc : (PySem.W.clsIn K D).isSome = true
  ha : PySem.W.findIn K (.ref D) "__class__" = some (some (.builtin "object.__class__"))
  hn : PySem.W.specialIn K (.builtin "object.__class__") "__get__" = some (some (.builtin "getset_descriptor.__get__"))
  ht : PySem.W.takesIn K (.builtin "object.__class__") = some true
  hm : PySem.W.mroIn K D (.type "object") = some true
def rIsX (K : PySem.W.Frag) (a : Addr) (cls : Value) (d : Option Addr) : List V → Hp → VK → Prop := fun xs H Q => ∃ (c D dd : Addr) (fs : List (Str × V)) (b : Bool), xs = [.ref a, .ref c] ∧ cls = .ref D ∧ d = some dd ∧ H dd = some (.xd fs) ∧ XfC K D ∧ ExI K D ∧ PySem.W.kitOne K (.ref D) (.ref c) = some b ∧ Q (.bl b) H
theorem call_isX {X : Cx} {a : Addr} {oe : Obj} {cls : Value} {d : Option Addr} {pn : List (Addr × Obj)} (hz : Zc cls d oe) (hf : ∃ vs, oe.data = .fields vs) : CallR (X.suite a ((a, oe) :: pn)) (.builtin "isinstance") (rIsX X.K a cls d) := by
  intro pins s σ H xs us Q I r h
  obtain ⟨c, D, dd, fs, b, rfl, rfl, rfl, hd, T, U, hk, q⟩ := h
  cases r with
  | cons rx rr =>
    cases rr with
    | cons ry rr =>
      cases rr; cases rx; cases ry
      have hget := (I.pin (a, oe) (List.mem_append.mpr (.inl List.mem_cons_self))).1
      obtain ⟨vs, hv⟩ := hf
      have hx : ObjOk X.prog X.w H s.heap dd (.xd fs) := I.hok dd _ hd
      obtain ⟨mA, hns, _⟩ := hx
      obtain ⟨od, ho, _⟩ := lookIn_ns hns
      have J : PySem.W.InstAt s.heap a oe D (some od) := ⟨hget, hz.1, by unfold PySem.W.notCls; rw [hv], by rw [hz.2]; exact ho⟩
      refine PySem.W.kia_one (PySem.W.kitx_exc U.hc T.ga T.gg T.exC U.ha U.hn U.ht U.hm) I.kIn J hk (fun z => nomatch z) fun tk => ?_
      exact ⟨.bl b, H, I.kept (t' := tk) fun _ _ z => z, rfl, q⟩
/-! ### a suite knows how many slots there are -/
def tLen (n : Nat) (t : TS) : TS := fun D σ H => σ.length = n → t D σ H
theorem pss_len {X : Cx} {st : List Stmt} {t : TS} {n : Nat} (h : PSs X st t) (hn : X.N.length = n) : PSs X st (tLen n t) := ⟨fun pins s σ H D I q => h.run pins s σ H D I (q (I.len.trans hn))⟩
/-! ### defs that make lambdas: their code object is named -/
def cOf (K : PySem.W.Frag) (x : Str) : Addr := ((PySem.W.tabIn K x).getD (0, 0)).1
def pOf (K : PySem.W.Frag) (x : Str) : Addr := ((PySem.W.tabIn K x).getD (0, 0)).2
structure LamF (K : PySem.W.Frag) (mg : Str → Option Value) (x : Str) (st : Stmt) : Prop where
  ex : ∃ (f : Addr) (oc : Value) (od : Option Addr) (kV doc pm : Value) (an : Option Addr) (ct : Value) (osl : Array (Option Value)), mg x = some (.ref f) ∧ PySem.W.keepIn K (.ref f) = true ∧
    K.lookup f = some ⟨oc, od, .func (PySem.W.fnOf x x (defArgs st) (defBody st) (defScope st) .none kV doc pm an (.ref (cOf K x)) ct), osl⟩ ∧ PySem.W.codeIn K (.ref (cOf K x)) x = true
/-- as Fun.okX, the code object known -/
theorem LamF.okF {P : Program} {w : World} {K : PySem.W.Frag} {mg : Str → Option Value} {base : Heap} {x : Str} {st : Stmt} {N ps : List Str} {k : Nat} {sp : Sp} (F : LamF K mg x st) (S : FnScope N ps (defScope st))
    (hbind : ∀ (kV doc pm : Value) (an : Option Addr) (cdv ct : Value) (us : List Value), us.length = ps.length → bindArgs (PySem.W.fnOf x x (defArgs st) (defBody st) (defScope st) .none kV doc pm an cdv ct) ⟨us, []⟩ = pure (ps.zip us))
    (len : ∀ vs H Q E, sp vs H Q E → vs.length = ps.length)
    (hbody : ∀ (f : Addr) (A : Around) (outer : List Env) (s : Shared) (H : Hp) (vs : List V) (Q : VK) (E : XK), Room k (A.deeper (envOfC x (defScope st) s.heap.objs.size f (.ref (cOf K x)))) → sp vs H Q E →
      ∃ t, PSs (cxOf (L2.CX P w) P w K mg base N x (defScope st) f (.ref (cOf K x)) A outer s H E) (defBody st) t ∧ t { nx := fun _ H' => Q .non H', rt := Q } (L2.start N vs) H) : OkF P w K mg base (L2.CX P w) (k + 1) x ps sp := by
  obtain ⟨f, oc, od, kV, doc, pm, an, ct, osl, g, kp, lk, hcd⟩ := F.ex
  exact ⟨f, _, g, kp, .all (hbind kV doc pm an _ ct), fn_of lk hcd S len fun A outer s H vs Q E hr hsp => hbody f A outer s H vs Q E hr hsp⟩
theorem passLam {X : Cx} {A : Around} {outer : List Env} {s : Shared} {H : Hp} {E : XK} {scope : Scope} {f c : Addr} : Passes (L2.CX X.prog X.w) (lamCx X A outer s H E scope f c) E :=
  passes_call (W := fun cls d _ H => E cls d H) (takes_of rfl rfl rfl rfl) fun _ _ _ _ h => h
/-- told(lambda: body), told a def of the text -/
theorem plam {X : Cx} {x a : Str} {st : Stmt} {N : List Str} {TT : (XK → Hp → VK → Prop) → Hp → VK → Prop} {c P : Addr} {qn : Str} {k : Nat} {params : Arguments} {body : Expr} {scope : Scope} {t : XK → TE} {p lpos pos : Pos}
    (F : ∃ (f : Addr) (fd : FuncData), X.mg x = some (.ref f) ∧ Fun X.K x x st f fd) (S : FnScope N [a] (defScope st))
    (hb : ∀ (kV doc pm : Value) (an : Option Addr) (cdv ct : Value) (us : List Value), us.length = [a].length → bindArgs (PySem.W.fnOf x x (defArgs st) (defBody st) (defScope st) .none kV doc pm an cdv ct) ⟨us, []⟩ = pure ([a].zip us))
    (hG : ∀ (g : Addr) (cdg : Value), GivesTo X N x (defScope st) g cdg (defBody st) a qn TT)
    (TB : TabB X.base X.mg c P) (hcode : X.env.code = .ref c) (hq : X.env.qual ++ "<lambda>" = qn) (hr : Room (k + 2) X.A) (L : lamSB X.env.scope scope = true)
    (hbody : ∀ (A : Around) (outer : List Env) (s : Shared) (H : Hp) (E : XK) (f c' : Addr), Room k (A.deeper (lamEnv X scope s.heap.objs.size f c')) → PE (lamCx X A outer s H E scope f c') body (t E))
    (hdef : defaultsOf params X.env = ([], []) := by rfl) (hg : Gl X x := by rfl) (hv : Vis (defScope st) a := by first | exact Or.inl rfl | exact Or.inr (Or.inl rfl)) (hNa : N[0]? = some a := by rfl)
    (hbind : ∀ (q : Str) (cl : List (Str × Addr)) (pm cv ctv : Value), bindArgs (PySem.W.kla_fn "<lambda>" q params body scope cl pm cv ctv) ⟨[], []⟩ = pure [] := by intros; rfl)
    (hdb : (x == ("__debug__" : Str)) = false := by decide) (hd : (a == ("__debug__" : Str)) = false := by decide) (hcd : (a == ("__classdict__" : Str)) = false := by decide) :
    PE X (.Call (.Name x p) [.Lambda params body scope lpos] [] pos) (tLam [(P, qn)] TT t) := by
  subst hq
  obtain ⟨g, fd, hm, F⟩ := F
  obtain ⟨oc, od, kV, doc, pm, an, cdv, ct, osl, rfl, lk, hcg⟩ := F.ex
  exact pe_lamcall hg hm F.kp lk hcg (.all (hb kV doc pm an cdv ct)) S hNa hv (hG g cdv) TB hcode (List.mem_singleton.mpr rfl) (fun q hq _ => by rw [List.mem_singleton.mp hq]) hr (lamS_by L) hdef hbind hbody hdb hd hcd
theorem extL {H H' : Hp} {p : Addr} {xs : List V} (e : ExtN H H') (h : H p = some (.lst xs)) : H' p = some (.lst xs) := e p _ h fun ps z => by cases z
theorem extT {H H' : Hp} {p : Addr} {xs : List V} (e : ExtN H H') (h : H p = some (.tup xs)) : H' p = some (.tup xs) := e p _ h fun ps z => by cases z
theorem extS {H H' : Hp} (e : Same H H') : ExtN H H' := fun b o h _ => e b o h
/-! ### comprehensions -/
theorem st_lcL {K : PySem.W.Frag} {tl : TE} {g : TG} {tt : TT} {te : TE} {vs : List Nat} {σ : L2.St} {H : Hp} {Q : VK} {a : Addr} {xs : List V} (ha : ∀ R : V → Hp → Prop, R (.ref a) H → tl σ H R) (hx : H a = some (.lst xs)) (Pv : Addr → Nat → Hp → Prop)
    (h0 : ∀ D H1, H D = none → Same H H1 → H1 D = some (.lst []) → Pv D 0 H1) (hl : ∀ D i H, Pv D i H → H a = some (.lst xs))
    (hs : ∀ D i x H, xs[i]? = some x → Pv D i H → g x (wipe σ vs) H fun σ2 H2 => wipe σ2 vs = wipe σ vs ∧ tt σ2 H2 fun b H3 => if b = true then te σ2 H3 fun y H4 => ∃ acc, H4 D = some (.lst acc) ∧ acc.length < sizeLine ∧ Pv D (i + 1) (upd H4 D (.lst (acc ++ [y]))) else Pv D (i + 1) H3)
    (hd : ∀ D H, Pv D xs.length H → Q (.ref D) H) : tLc (iList K tl) g tt te vs σ H Q :=
  ha _ ⟨a, rfl, ⟨xs, SqL.of hx⟩, fun D hD => lc_list (Pv D) (h0 D _ hD (Same.upd hD) upd_same) (fun i H _ p => SqL.of (hl D i H p)) (hs D) (hd D)⟩
/-- deep == of what is alike -/
theorem dataEq {d : PyData} (h : SeqAt.shaped d = true) : PyData.eqv d d = true := SeqAt.eqv_refl d (SeqAt.canLay_of_shaped h)
theorem lk0 {f : Str} {v : V} : List.lookup f [(f, v)] = some v := by simp [List.lookup]
theorem ne_same {K : PySem.W.Frag} {x y : V} {H : Hp} {d : PyData} {R : VK} (hx : Dp K H x d) (hy : Dp K H y d) (h : SeqAt.shaped d = true) (r : R (.bl false) H) : rNeD K x y H R := ⟨d, d, hx, hy, h, h, by rw [dataEq h]; exact r⟩
theorem eq_same {K : PySem.W.Frag} {x y : V} {H : Hp} {d : PyData} {R : VK} (hx : Dp K H x d) (hy : Dp K H y d) (h : SeqAt.shaped d = true) (r : R (.bl true) H) : rEqD K x y H R := ⟨d, d, hx, hy, h, h, by rw [dataEq h]; exact r⟩
theorem dp_ss {K : PySem.W.Frag} {H : Hp} {p : Addr} {x y : Str} (h : H p = some (.tup [.str x, .str y])) : Dp K H (.ref p) (.tuple [.str x, .str y]) := .tup (SqT.of h) (.cons (.str x) (.cons (.str y) .nil))
theorem sh_ss {x y : Str} (hx : PyData.strOk x = true) (hy : PyData.strOk y = true) : SeqAt.shaped (.tuple [.str x, .str y]) = true := by simp [SeqAt.shaped, PyData.canLay0, PyData.canLayAll0, PyData.depth, PyData.depthAll, hx, hy]
theorem dp_nil {K : PySem.W.Frag} {H : Hp} {p : Addr} (h : H p = some (.lst [])) : Dp K H (.ref p) (.list []) := .lst (SqL.of h) .nil
/-- the rules that name the written part, within a comprehension -/
theorem op_neDk {X : Cx} {K : PySem.W.Frag} (e : X.K = K) (hu : X.A.units + 64 < cLine) : OpR X (compareOp .NotEq) (rNeD K) := e ▸ op_neD hu
theorem op_eqDk {X : Cx} {K : PySem.W.Frag} (e : X.K = K) (hu : X.A.units + 64 < cLine) : OpR X (compareOp .Eq) (rEqD K) := e ▸ op_eqD hu
/-! ### what the top has made, from facts -/
theorem ga_of {K : PySem.W.Frag} {x : Str} {a : Addr} (h : PySem.W.nsIn K mainGlobals x = some (some (.ref a))) : ga K x = a := by unfold ga; rw [h]
theorem ext_mk {K : PySem.W.Frag} {mg : Str → Option Value} {h : Heap} (X : K.In h) (G : h.Ns mainGlobals mg) {x fld qual nm q : Str} {st : Stmt} {C f N : Addr} {bs bm sub : List Value} {sn : List Str} {ab : Bool} {col : Option Bool} {dd od an : Option Addr} {m0 m1 m2 m3 m5 : Option Value} {oc kV dc pm cd ct : Value} {sl : Array (Option Value)} {p1 p2 p3 p4 : Pos}
    (aC : PySem.W.nsIn K mainGlobals x = some (some (.ref C))) (xL : K.lookup C = some (excClassObj nm q C N bs bm true sn sub ab col dd m0 m1 m2 m3 m5 "ValueError.__new__")) (hbm : PySem.HandSPX.refsVE bm = true)
    (sa : PySem.W.findIn K (.ref C) "__setattr__" = some (some (.builtin "object.__setattr__"))) (exC : PySem.W.subIn K (.ref C) (.type "BaseException") = some true) (tyC : PySem.W.typeIn K (.ref C) = some (.type "type")) (kC : PySem.W.keepIn K (.ref C) = true)
    (gA : PySem.W.findIn K (.ref C) "__getattribute__" = some (some (.builtin "BaseException.__getattribute__"))) (gG : PySem.W.findIn K (.ref C) "__getattr__" = some none) (hd : PySem.W.hasDictIn K C = true) (no : PySem.W.findIn K (.ref C) fld = some none)
    (iC : PySem.W.findIn K (.ref C) "__init__" = some (some (.ref f))) (tI : PySem.W.typeIn K (.ref f) = some (.type "function"))
    (lI : K.lookup f = some ⟨oc, od, .func (PySem.W.fnOf "__init__" qual (defArgs st) (defBody st) (defScope st) .none kV dc pm an cd ct), sl⟩) (cI : PySem.W.codeIn K cd qual = true) (kI : PySem.W.keepIn K (.ref f) = true)
    (S : FnScope ["self", fld] ["self", fld] (defScope st)) (hb : defBody st = [.Assign [.Attribute (.Name "self" p1) fld p2] (.Name fld p3) p4])
    (hB : ∀ (kV doc pm : Value) (an : Option Addr) (cdv ct : Value) (us : List Value), us.length = (["self", fld] : List Str).length → bindArgs (PySem.W.fnOf "__init__" qual (defArgs st) (defBody st) (defScope st) .none kV doc pm an cdv ct) ⟨us, []⟩ = pure ((["self", fld] : List Str).zip us)) : ExT K mg x fld := by
  have e := ga_of aC
  refine ⟨?_, ?_, ?_, ?_, ?_⟩
  · rw [e]; exact PySem.W.mg_of X G aC
  · rw [e]; exact ⟨⟨_, _, _, _, _, _, _, _, _, _, _, _, _, _, _, xL, hbm⟩, sa, exC, tyC, kC⟩
  · rw [e]; exact ⟨gA, gG, exC, hd⟩
  · rw [e]; exact no
  · rw [e]; exact ⟨qual, st, f, _, p1, p2, p3, p4, iC, tI, fun_mk lI cI kI, S, hb, (fun_mk (st := st) lI cI kI).binds hB⟩
theorem exi_mk {K : PySem.W.Frag} {x : Str} {C : Addr} (aC : PySem.W.nsIn K mainGlobals x = some (some (.ref C))) (hc : (PySem.W.clsIn K C).isSome = true) (ha : PySem.W.findIn K (.ref C) "__class__" = some (some (.builtin "object.__class__")))
    (hn : PySem.W.specialIn K (.builtin "object.__class__") "__get__" = some (some (.builtin "getset_descriptor.__get__"))) (ht : PySem.W.takesIn K (.builtin "object.__class__") = some true) (hm : PySem.W.mroIn K C (.type "object") = some true) : ExI K (ga K x) := by
  rw [ga_of aC]; exact ⟨hc, ha, hn, ht, hm⟩
theorem lamf_mk {K : PySem.W.Frag} {mg : Str → Option Value} {h : Heap} (X : K.In h) (G : h.Ns mainGlobals mg) {x : Str} {st : Stmt} {f c P : Addr} {od an : Option Addr} {oc kV dc pm ct : Value} {sl : Array (Option Value)}
    (a : PySem.W.nsIn K mainGlobals x = some (some (.ref f))) (l : K.lookup f = some ⟨oc, od, .func (PySem.W.fnOf x x (defArgs st) (defBody st) (defScope st) .none kV dc pm an (.ref c) ct), sl⟩) (cI : PySem.W.codeIn K (.ref c) x = true) (kI : PySem.W.keepIn K (.ref f) = true)
    (t : PySem.W.tabIn K x = some (c, P)) : LamF K mg x st := by
  have e : cOf K x = c := by unfold cOf; rw [t]; rfl
  refine ⟨f, oc, od, kV, dc, pm, an, ct, sl, PySem.W.mg_of X G a, kI, ?_, ?_⟩
  · rw [e]; exact l
  · rw [e]; exact cI
end Iz
/-! Bc -/
set_option Elab.async false
set_option linter.all false
set_option maxRecDepth 100000
set_option maxHeartbeats 4000000
namespace Iz
open PySem PySem.Spec PyProof.Rows L2
open He (ga)
/-! ### own classes: their instances stand still -/
/-- how the parameters bind, the last ones by their defaults -/
def BindD (K : PySem.W.Frag) (fd : FuncData) (ps : List Str) (dvs : List V) : Prop := ∀ j, j ≤ dvs.length → ∃ ds, Vals (dvs.drop j) ds ∧ Binds K fd ps ds
theorem BindD.none {K : PySem.W.Frag} {fd : FuncData} {ps : List Str} (b : Binds K fd ps []) : BindD K fd ps [] := fun _ _ => ⟨[], by rw [List.drop_nil]; exact .nil, b⟩
/-- the method m of the class x keeps sp -/
structure OkM (P : Program) (w : World) (K : PySem.W.Frag) (mg : Str → Option Value) (base : Heap) (CX : CXT) (k : Nat) (x m : Str) (ps : List Str) (dvs : List V) (sp : Sp) : Prop where
  ex : ∃ (f : Addr) (fd : FuncData), Meth K (ga K x) m f ∧ BindD K fd ps dvs ∧ FnOk P w K mg base CX k f fd ps sp
/-- a call of the class x keeps sp -/
structure OkK (P : Program) (w : World) (K : PySem.W.Frag) (mg : Str → Option Value) (base : Heap) (CX : CXT) (k : Nat) (x : Str) (ps : List Str) (dvs : List V) (sp : Sp) : Prop where
  ex : ∃ (f : Addr) (fd : FuncData) (si : Sp), Mk K (ga K x) f ∧ mg x = some (.ref (ga K x)) ∧ BindD K fd ("self" :: ps) dvs ∧ FnOk P w K mg base CX k f fd ("self" :: ps) si ∧
    ∀ vs H Q E, sp vs H Q E → ∀ p dx, H p = none → H dx = none → dx ≠ p → si (.ref p :: vs) (upd (upd H dx (.own p)) p (.ins (ga K x) dx [])) (fun v H2 => v = .non ∧ Q (.ref p) H2) E
/-- a new instance -/
def NewsI (H : Hp) (C : Addr) (fs : List (Str × V)) (Q : V → Hp → Prop) : Prop := ∀ p dx H2, H p = none → Same H H2 → H2 p = some (.ins C dx fs) → Q (.ref p) H2
def tMt (C : Addr) (m : Str) (sp : Sp) (dv : List V) (E : XK) (ta : TE) (t : TA) : TE := fun σ H Q => ta σ H fun x H1 => ∃ a dx fs, x = .ref a ∧ H1 a = some (.ins C dx fs) ∧ fs.lookup m = none ∧ t σ H1 fun vs H2 => sp (x :: (vs ++ dv)) H2 Q E
section
variable {X : Cx} {CX : CXT} {k j : Nat} {x m f : Str} {ps : List Str} {dvs : List V} {sp : Sp} {E : XK} {o e : Expr} {es : List Expr} {ta : TE} {t : TA} {p pos apos : Pos}
theorem pmt {pl : Sem Bool} (O : OkM X.prog X.w X.K X.mg X.base CX k x m ps dvs sp) (C : Cls X.K (ga X.K x)) (he : PE X o ta) (hj : j ≤ dvs.length) (hr : Room k X.A) (hx : Passes CX X E) (ha : PA X (e :: es) t)
    (hst : starEach (e :: es) X.env = (false, eval e X.env) :: starEach es X.env := by rfl) (hpl : (backTo pos (starEach es X.env)).any (·.1) = false := by rfl)
    (ht : eval (.Call (.Attribute o m apos) (e :: es) [] pos) X.env = (do
      let ov ← eval o X.env; standAt apos.atName
      let (f, first) ← holding [ov] (getMethod ov m pl)
      callWith pos f first (backTo pos (starEach (e :: es) X.env)) (backToKw pos (keywordEach [] X.env))) := by rfl) :
    PE X (.Call (.Attribute o m apos) (e :: es) [] pos) (tMt (ga X.K x) m sp (dvs.drop j) E ta t) := by
  obtain ⟨f, fd, M, b, G⟩ := O.ex
  obtain ⟨ds, hv, hb⟩ := b j hj
  exact pe_meth he C M G hr hb hv hx ha hst hpl ht
theorem pmt0 {pl : Sem Bool} (O : OkM X.prog X.w X.K X.mg X.base CX k x m ps dvs sp) (C : Cls X.K (ga X.K x)) (he : PE X o ta) (hj : j ≤ dvs.length) (hr : Room k X.A) (hx : Passes CX X E)
    (ht : eval (.Call (.Attribute o m apos) [] [] pos) X.env = (do
      let ov ← eval o X.env; standAt apos.atName
      let (f, first) ← holding [ov] (getMethod ov m pl)
      callWith pos f first (backTo pos (starEach [] X.env)) (backToKw pos (keywordEach [] X.env))) := by rfl) :
    PE X (.Call (.Attribute o m apos) [] [] pos) (tMt (ga X.K x) m sp (dvs.drop j) E ta tNil) := by
  obtain ⟨f, fd, M, b, G⟩ := O.ex
  obtain ⟨ds, hv, hb⟩ := b j hj
  exact pe_meth0 he C M G hr hb hv hx ht
theorem pmk (O : OkK X.prog X.w X.K X.mg X.base CX k x ps dvs sp) (hj : j ≤ dvs.length) (hr : Room (k + 1) X.A) (hx : Passes CX X E) (ha : PA X (e :: es) t) (hg : Gl X x := by rfl) (hdb : (x == ("__debug__" : Str)) = false := by decide)
    (he : starEach (e :: es) X.env = (false, eval e X.env) :: starEach es X.env := by rfl) (hpl : (backTo pos (starEach es X.env)).any (·.1) = false := by rfl) : PE X (.Call (.Name x p) (e :: es) [] pos) (tCall sp (dvs.drop j) E t) := by
  obtain ⟨f, fd, si, M, g, b, G, q⟩ := O.ex
  obtain ⟨ds, hv, hb⟩ := b j hj
  exact PE.imp (pe_make M G hr hg g hb hv hx (PA.mcl ha) hdb he hpl) fun σ H Q h => ⟨_, h, fun vs H1 h1 p dx h2 h3 h4 => q _ H1 Q _ h1 p dx h2 h3 h4⟩
theorem pmk0 (O : OkK X.prog X.w X.K X.mg X.base CX k x ps dvs sp) (hj : j ≤ dvs.length) (hr : Room (k + 1) X.A) (hx : Passes CX X E) (hg : Gl X x := by rfl) (hdb : (x == ("__debug__" : Str)) = false := by decide) : PE X (.Call (.Name x p) [] [] pos) (tCall sp (dvs.drop j) E tNil) := by
  obtain ⟨f, fd, si, M, g, b, G, q⟩ := O.ex
  obtain ⟨ds, hv, hb⟩ := b j hj
  exact PE.imp (pe_make0 M G hr hg g hb hv hx hdb) fun σ H Q h => fun p dx h2 h3 h4 => q _ H Q _ h p dx h2 h3 h4
def tFldN (C : Addr) (ta : TE) (f : Str) : TE := fun σ H Q => ta σ H fun x H1 => ∃ a dx fs v, x = .ref a ∧ H1 a = some (.ins C dx fs) ∧ fs.lookup f = some v ∧ Q v H1
theorem pe_fldN {C : Addr} (c : Cls X.K C) (n : NoAttr X.K C f) (h : PE X o ta) (hb : attributeBase o f X.env (eval o X.env) = eval o X.env := by rfl) : PE X (.Attribute o f apos) (tFldN C ta f) :=
  PE.imp (pe_fld (PE.mcl h) hb) fun σ H Q q => ⟨_, q, fun x H1 ⟨a, dx, fs, v, e1, e2, e3, q⟩ => ⟨a, C, dx, fs, v, e1, e2, c, n, e3, q⟩⟩
end
theorem lk1 {f g : Str} {v w : V} (h : (f == g) = false) : List.lookup f [(g, w), (f, v)] = some v := by simp [List.lookup, h]
theorem lkn2 {f g h : Str} {v w : V} (h1 : (f == g) = false) (h2 : (f == h) = false) : List.lookup f [(g, v), (h, w)] = none := by simp [List.lookup, h1, h2]
theorem lkh {f : Str} {v : V} {l : List (Str × V)} : List.lookup f ((f, v) :: l) = some v := by simp [List.lookup]
/-- None or an int -/
def ov : Option Int → V
  | none => .non
  | some i => .int i
theorem wh_ov {K : PySem.W.Frag} {H : Hp} {o : Option Int} : Wh K H (ov o) := by cases o; exact wh_non; exact wh_int
theorem putF_nil {f : Str} {v : V} : putF f v [] = [(f, v)] := rfl
theorem putF_cons {f g : Str} {v w : V} {l : List (Str × V)} (h : g ≠ f) : putF f v ((g, w) :: l) = (g, w) :: putF f v l := by
  show (if g = f then _ else _) = _
  rw [if_neg h]
/-- self.f = e, the object's class known -/
def tSto (C : Addr) (f : Str) (ta tv : TE) : TS := fun D σ H => tv σ H fun y H1 => ta σ H1 fun x H2 => ∃ a dx fs, x = .ref a ∧ H2 a = some (.ins C dx fs) ∧ fs.length < 1000 ∧ ∀ H3, Put H2 H3 a (.ins C dx (putF f y fs)) → D.nx σ H3
theorem ps_fldN {X : Cx} {C : Addr} {f : Str} {o e : Expr} {ta tv : TE} {apos pos : Pos} (c : Cls X.K C) (n : NoAttr X.K C f) (ho : PE X o ta) (he : PE X e tv) (hs : swapsWith e (some (.Attribute o f apos)) pos.line X.env = pure false := by rfl) : PS X (.Assign [.Attribute o f apos] e pos) (tSto C f ta tv) :=
  PS.imp (ps_fld (PE.mcl ho) (PE.mcl he) hs) fun D σ H q => ⟨_, q, fun y H1 q1 => ⟨_, q1, fun x H2 ⟨a, dx, fs, e1, e2, e3, k⟩ => ⟨a, C, dx, fs, e1, e2, c, n, e3, k _ ⟨upd_same, fun _ h => upd_ne h⟩⟩⟩⟩
theorem tyX_mono {K : PySem.W.Frag} {H H' : Hp} {x : V} {t : Value} (h : TyX K H x t) (s : Same H H') : TyX K H' x t := by
  cases h with
  | base b =>
    cases b with
    | non => exact .base .non
    | bl b => exact .base (.bl b)
    | int i => exact .base (.int i)
    | str y => exact .base (.str y)
    | flt y => exact .base (.flt y)
    | lst e => exact .base (.lst (s _ _ e))
    | frz e => exact .base (.frz (s _ _ e))
    | tup e => exact .base (.tup (s _ _ e))
    | dK e => exact .base (.dK (s _ _ e))
    | dT e => exact .base (.dT (s _ _ e))
    | ins e a b c d f => exact .base (.ins (s _ _ e) a b c d f)
  | byt b => exact .byt b
  | set e => exact .set (s _ _ e)
  | kList e c => exact .kList e c
  | kTuple e c => exact .kTuple e c
  | kDict e c => exact .kDict e c
  | fTuple e => exact .fTuple (s _ _ e)
  | fDict e => exact .fDict (s _ _ e)
theorem wh_mono {K : PySem.W.Frag} {H H' : Hp} {x : V} (h : Wh K H x) (s : Same H H') : Wh K H' x := let ⟨t, b, c, ty, r⟩ := h; ⟨t, b, c, tyX_mono ty s, r⟩
theorem same_made {H H' : Hp} {p dx : Addr} {o o' : HO} (hp : H p = none) (hd : H dx = none) (h : ∀ b, b ≠ p → H' b = upd (upd H dx o) p o' b) : Same H H' := fun b u e => by
  rw [h b (ne_of_none e hp), upd_ne (ne_of_none e hp), upd_ne (ne_of_none e hd)]; exact e
/-- isinstance with an own class -/
def rIsOw (K : PySem.W.Frag) : List V → Hp → VK → Prop := fun xs H Q => ∃ x c, xs = [x, .ref c] ∧ ∃ t b, TyX K H x t ∧ PySem.W.kitOne K t (.ref c) = some b ∧ Q (.bl b) H
theorem call_isOw {X : Cx} : CallR X (.builtin "isinstance") (rIsOw X.K) := CallR.imp call_isi fun xs H Q ⟨x, c, a, t, b, ty, k, q⟩ => ⟨x, .ref c, t, .ref c, b, a, .own c, ty, k, q⟩
/-- what isinstance asks of an own class -/
structure ClsI (K : PySem.W.Frag) (C : Addr) : Prop where
  c : Cls K C
  ha : PySem.W.findIn K (.ref C) "__class__" = some (some (.builtin "object.__class__"))
  hn : PySem.W.specialIn K (.builtin "object.__class__") "__get__" = some (some (.builtin "getset_descriptor.__get__"))
  ht : PySem.W.takesIn K (.builtin "object.__class__") = some true
  hm : PySem.W.mroIn K C (.type "object") = some true
theorem ClsI.ty {K : PySem.W.Frag} {C : Addr} {H : Hp} {a dx : Addr} {fs : List (Str × V)} (T : ClsI K C) (h : H a = some (.ins C dx fs)) : TyX K H (.ref a) (.ref C) := .base (.ins h T.c T.ha T.hn T.ht T.hm)
theorem kit_self {K : PySem.W.Frag} {t : Value} (h : (t == t) = true := by simp) : PySem.W.kitOne K t t = some true := by unfold PySem.W.kitOne; rw [if_pos h]
end Iz
/-! RlA -/
set_option Elab.async false
set_option linter.all false
set_option maxRecDepth 100000
set_option maxHeartbeats 4000000
namespace Iz
open PySem PySem.Spec PyProof.Rows L2
/-! ### ranges with great ends: another iterator goes through them -/
theorem slotL_next : Slot "longrange_iterator" "__next__" "longrange_iterator.__next__" :=
  .of (owner := "longrange_iterator") (n := "__next__") (by rw [typeLookup_type, builtinLookup_eq_fast]; kernel_rfl) (by decide +kernel) (by decide +kernel) (by decide +kernel)
    (by first | exact .inl (by decide +kernel) | exact .inr (by decide +kernel)) (by rw [isSubtype_type]; kernel_rfl)
theorem ownerL : Manifest.owners.lookup (String.ofList ['r', 'o', 't', 'a', 'r', 'e', 't', 'i', '_', 'e', 'g', 'n', 'a', 'r', 'g', 'n', 'o', 'l'].reverse) = some Manifest.sig_longrange_iterator := by kernel_rfl
theorem entryL_next : entryFor table "longrange_iterator.__next__" = some Builtin.«longrange_iterator.__next__» := entryFor_of_tree (by kernel_rfl)
theorem argsL_next (a : Value) : argsOk "longrange_iterator.__next__" ⟨[a], []⟩ := by
  unfold argsOk; rw [signature?_of (id := "longrange_iterator.__next__") (n := ['_', '_', 't', 'x', 'e', 'n', '_', '_']) (o := ['r', 'o', 't', 'a', 'r', 'e', 't', 'i', '_', 'e', 'g', 'n', 'a', 'r', 'g', 'n', 'o', 'l']) (by kernel_rfl) ownerL]; kernel_rfl
abbrev IsLR (h : Heap) (it : Addr) (x left step : Int) : Prop := h.get? it = some { cls := .type "longrange_iterator", dict := none, data := .fields #[rawInt x, rawInt left, rawInt step], slots := #[] }
theorem slotL_iter : Slot "longrange_iterator" "__iter__" "longrange_iterator.__iter__" :=
  .of (owner := "longrange_iterator") (n := "__iter__") (by rw [typeLookup_type, builtinLookup_eq_fast]; kernel_rfl) (by decide +kernel) (by decide +kernel) (by decide +kernel)
    (by first | exact .inl (by decide +kernel) | exact .inr (by decide +kernel)) (by rw [isSubtype_type]; kernel_rfl)
theorem argsL_iter (a : Value) : argsOk "longrange_iterator.__iter__" ⟨[a], []⟩ := by
  unfold argsOk; rw [signature?_of (id := "longrange_iterator.__iter__") (n := ['_', '_', 'r', 'e', 't', 'i', '_', '_']) (o := ['r', 'o', 't', 'a', 'r', 'e', 't', 'i', '_', 'e', 'g', 'n', 'a', 'r', 'g', 'n', 'o', 'l']) (by kernel_rfl) ownerL]; kernel_rfl
theorem entryL_iter : entryFor table "longrange_iterator.__iter__" = some Builtin.«dict_keyiterator.__iter__» :=
  entryFor_alias (id' := "dict_keyiterator.__iter__") (by kernel_rfl) (by first | rfl | decide +kernel | (unfold String.splitOn; simp +decide [String.splitOnAux])) (by decide +kernel) (by kernel_rfl)
end Iz
/-! Rl -/
set_option Elab.async false
set_option linter.all false
set_option maxRecDepth 100000
set_option maxHeartbeats 4000000
namespace Iz
open PySem PySem.Spec PyProof.Rows L2
theorem meetsL_next (it : Addr) (x left step : Int) (hc0 : ¬left ≤ 0) :
    Meets (Builtin.«longrange_iterator.__next__» ⟨[.ref it], []⟩) (fun _ R s => s.heap.get? it = some { cls := .type "longrange_iterator", dict := none, data := .fields #[rawInt x, rawInt left, rawInt step], slots := #[] } ∧ R (.ok (.ret (Value.int x s.toks))) { s with heap := (s.heap.update it (Obj.mapFields fun x_1 => x_1.setIfInBounds 0 (rawInt (x + step)))).update it (Obj.mapFields fun x => x.setIfInBounds 1 (rawInt (left - 1))), toks := s.toks + 1 }) :=
  .of_wp fun prog w A R s h => by obtain ⟨hp, g, d, tk, os⟩ := s; obtain ⟨hl, h⟩ := h; unfold Builtin.«longrange_iterator.__next__» Builtin.Iterators_pickling.intField; wp_walk; exact ⟨_, rfl, h⟩
section
variable {prog : Program} {w : World} {A : Around} {E : Value → Shared → Prop} {s : Shared}
theorem nextL_item {it : Addr} {x left step : Int} {Q : Option Value → Shared → Prop} (hit : IsLR s.heap it x left step) (hleft : 0 < left)
    (hQ : ∀ h', IsLR h' it (x + step) (left - 1) step → Heap.SameBut it s.heap h' → Q (some (.int x s.toks)) { s with heap := h', toks := s.toks + 1 }) :
    wpAny (model prog w) A (pyNext (.ref it)) Q E s := by
  have hT : s.TypeIs (.ref it) "longrange_iterator" := ⟨_, hit, rfl⟩
  unfold pyNext
  refine wpAny_bind (wpAny_attempt (wpAny_callSpecial?_slot (name := Str.ofString "__next__") hT slotL_next
    (call_meets slotL_next hT entryL_next (argsL_next _) (meetsL_next it x left step (by omega)) ⟨hit, ?_⟩)))
  exact wpAny_pure (hQ _ (Heap.get?_update_self _ (Heap.get?_update_self _ hit rfl) rfl) ((Heap.SameBut.update ..).trans (Heap.SameBut.update ..)))
theorem intF {id : String} {a : Addr} {o : Obj} {vs : Array Value} {i : Nat} {x : Int} {Q : Int → Shared → Prop} (ho : s.heap.get? a = some o) (hd : o.data = .fields vs) (hi : vs[i]? = some (rawInt x)) (h : Q x s) :
    wpAny (model prog w) A (Builtin.Iterators_pickling.intField id (.ref a) i) Q E s := by
  unfold Builtin.Iterators_pickling.intField
  exact wpAny_bind (wpAny_field ho hd hi (wpAny_pure h))
theorem nextL_end {it : Addr} {x left step : Int} {Q : Option Value → Shared → Prop} (hh : A.handled = none) (hit : IsLR s.heap it x left step) (hleft : left ≤ 0)
    (hQ : ∀ h', Heap.ExtBut it s.heap h' → Q none { s with heap := h' }) : wpAny (model prog w) A (pyNext (.ref it)) Q E s := by
  have hT : s.TypeIs (.ref it) "longrange_iterator" := ⟨_, hit, rfl⟩
  unfold pyNext
  refine wpAny_bind (wpAny_attempt (wpAny_callSpecial?_slot (name := Str.ofString "__next__") hT slotL_next
    (wpAny_call_entry slotL_next hT entryL_next ?_ (argsL_next _))))
  unfold Builtin.«longrange_iterator.__next__»
  refine wpAny_bind (wpAny_of_eq (a := #[some (Value.ref it)]) (by first | rfl | kernel_rfl) ?_)
  refine wpAny_bind (intF hit rfl (x := x) rfl ?_)
  refine wpAny_bind (intF hit rfl (x := left) rfl ?_)
  refine wpAny_bind (intF hit rfl (x := step) rfl ?_)
  simp only [if_pos hleft]
  refine wpAny_bind (wpAny_rule ?_)
  simp only [newExc, newTuple]
  refine wpAny_bind ?_
  refine wpAny_bind (wpAny_newObj_type ?_ (by size_fits))
  refine wpAny_bind (m := firstArgMember _ _) (wpAny_of_eq (a := Value.none) (by first | rfl | (simp only [firstArgMember]; rfl)) ?_)
  refine wpAny_newObj_type ?_ (by size_fits)
  simp only [raiseNew]
  refine wpAny_bind (wpAny_bind (wpAny_handled ?_))
  first | rw [show A.in1.handled = none from hh] | rw [hh]
  refine wpAny_throw ?_
  refine wpAny_bind (wpAny_isInstance (T := "StopIteration") (b := true) ⟨_, Heap.get?_push_size _ rfl, rfl⟩ isSubtype_stop ?_)
  exact wpAny_pure (hQ _ (((Heap.ExtBut.refl it s.heap).push _).push _))
theorem iterL_self {it : Addr} {x left step : Int} {Q : Value → Shared → Prop} (hit : IsLR s.heap it x left step) (h : Q (.ref it) s) : wpAny (model prog w) A (pyIter (.ref it)) Q E s := by
  have hT : s.TypeIs (.ref it) "longrange_iterator" := ⟨_, hit, rfl⟩
  refine wpAny_pyIter_slot hT slotL_iter (wpAny_call_entry slotL_iter hT entryL_iter ?_ (argsL_iter _))
  show wpAny _ _ (ret (.ref it)) _ _ s
  exact wpAny_pure ⟨_, rfl, "longrange_iterator", _, hT, slotL_next.lookup, h⟩
theorem iterL_range {r : Addr} {a b c : Int} {t u v : Tok} {Q : Value → Shared → Prop} (hr : IsRange s.heap r a b c t u v) (hsmall : ¬ Builtin.Range.small a b c = true)
    (hQ : Q (.ref s.heap.objs.size) { s with heap := s.heap.push { cls := .type "longrange_iterator", data := .fields #[rawInt a, rawInt (Builtin.Range.rangeSize a b c), rawInt c] } }) :
    wpAny (model prog w) A (pyIter (.ref r)) Q E s := by
  have hT : s.TypeIs (.ref r) "range" := ⟨_, hr, rfl⟩
  refine wpAny_pyIter_slot hT F.slot_range_iter (call_meets F.slot_range_iter hT F.entry_range_iter (F.args_range_iter_1 _)
    (AutoRange.range___iter___range_0 r a b c t u v (by have e := Bool.eq_false_iff.mpr hsmall; unfold Builtin.Range.small at e; rw [e]; rfl)) ⟨hr, ?_⟩)
  unfold Builtin.Range.small at hsmall
  rw [if_neg hsmall]
  exact ⟨"longrange_iterator", _, ⟨_, Heap.get?_push_size _ rfl, rfl⟩, slotL_next.lookup, hQ⟩
end
theorem turnL {P : Program} {w : World} {K : PySem.W.Frag} {tg : Expr} (it : Addr) (lo : Int) (n : Nat) : Turn P w K tg (Itr lo n) [it] it (fun i h => IsLR h it (lo + (i : Nat)) ((n : Int) - (i : Nat)) 1) where
  mem := by simp
  obj := fun i h st b hb => by
    have e : b = it := by simpa using hb
    subst e
    exact ⟨_, st, fun v z => by
      have z' : Data.fields _ = Data.cell v := z
      cases z'⟩
  keep := fun i h h' st k => k it (by simp) _ st
  item := by
    intro X hP hw hK hc i pins s σ H E I hf st hg
    subst hP hw hK
    obtain ⟨f0, f1, f2, f3, f4, f5⟩ := hf it (by simp)
    have hg' : i < n := hg
    refine nextL_item st (by omega) fun h' st' sb => ?_
    have I1 : Inv X pins σ H { s with heap := h', toks := s.toks + 1 } := I.turned (fun b o hb e => (sb.2 b hb).trans e) f0 f1 f3 f4 f5
    have e1 : lo + ((i + 1 : Nat) : Int) = lo + (i : Int) + 1 := by omega
    have e2 : (n : Int) - ((i + 1 : Nat) : Int) = (n : Int) - (i : Int) - 1 := by omega
    refine ⟨_, rfl, go_of (s := { s with heap := h', toks := s.toks + 1 }) (n := "longrange_iterator") st' rfl rfl (by decide) ⟨.int (lo + i), H, I1, ⟨_, rfl⟩, ⟨rfl, rfl⟩, ?_, fun b hb => (hf b hb).1⟩⟩
    show IsLR h' it (lo + ((i + 1 : Nat) : Int)) ((n : Int) - ((i + 1 : Nat) : Int)) 1
    rw [e1, e2]; exact st'
  done := by
    intro X hP hw hK hc i pins s σ H E I hf st hg
    subst hP hw hK
    obtain ⟨f0, f1, f2, f3, f4, f5⟩ := hf it (by simp)
    exact nextL_end (I.ok.hd hc) st (by have : n ≤ i := hg; omega) fun h' eb => ⟨rfl, I.turned (t' := s.toks) (fun b o hb e => eb b o hb e) f0 f1 f3 f4 f5⟩
  self := fun _ _ _ _ _ st h => iterL_self st h
section
variable {X : Cx} {tg : Expr}
theorem range_itL {pins : List (Addr × Obj)} {σ : L2.St} {H : Hp} {s : Shared} {R : It → Hp → Prop} {E : Value → Shared → Prop} {lo hi : Int} {t u v : Tok} {tk : Nat} (I : Inv X pins σ H s)
    (q : R (Itr lo (hi - lo).toNat) H) : wpAny (model X.prog X.w) X.A (pyIter (.ref s.heap.objs.size)) (PIE X pins σ tg R) E { s with heap := s.heap.push { cls := .type "range", data := .fields #[.int lo t, .int hi u, .int 1 v] }, toks := tk } := by
  have I1 : Inv X pins σ H { s with heap := s.heap.push { cls := .type "range", data := .fields #[.int lo t, .int hi u, .int 1 v] }, toks := tk } := I.kept fun b o e => Heap.get?_push_of_some _ e
  have e2 : (((hi - lo).toNat : Nat) : Int) - ((0 : Nat) : Int) = Builtin.Range.rangeSize lo hi 1 := by rw [rangeSize_one]; split <;> omega
  by_cases hs : Builtin.Range.small lo hi 1 = true
  · refine wpAny_pyIter_range (IsRange.new ..) hs ?_
    refine ⟨(s.heap.push { cls := .type "range", data := .fields #[.int lo t, .int hi u, .int 1 v] }).objs.size, [(s.heap.push { cls := .type "range", data := .fields #[.int lo t, .int hi u, .int 1 v] }).objs.size], _, _, H, rfl,
      I1.kept (t' := tk) fun b o e => Heap.get?_push_of_some _ e, turn_range _ lo (hi - lo).toNat, ?_, fun b hb => ?_, q⟩
    · have e1 : lo + ((0 : Nat) : Int) * 1 = lo := by simp
      show IsRangeIter _ _ (lo + ((0 : Nat) : Int) * 1) ((((hi - lo).toNat : Nat) : Int) - ((0 : Nat) : Int)) 1
      rw [e1, e2]
      exact Heap.get?_push_size _ rfl
    · have e : b = (s.heap.push { cls := .type "range", data := .fields #[.int lo t, .int hi u, .int 1 v] }).objs.size := by simpa using hb
      subst e
      exact I1.fpOk (Nat.le_refl _) (I1.hok.fresh (Nat.le_refl _))
  · refine iterL_range (IsRange.new ..) hs ?_
    refine ⟨(s.heap.push { cls := .type "range", data := .fields #[.int lo t, .int hi u, .int 1 v] }).objs.size, [(s.heap.push { cls := .type "range", data := .fields #[.int lo t, .int hi u, .int 1 v] }).objs.size], _, _, H, rfl,
      I1.kept (t' := tk) fun b o e => Heap.get?_push_of_some _ e, turnL _ lo (hi - lo).toNat, ?_, fun b hb => ?_, q⟩
    · have e1 : lo + ((0 : Nat) : Int) = lo := by simp
      show IsLR _ _ (lo + ((0 : Nat) : Int)) ((((hi - lo).toNat : Nat) : Int) - ((0 : Nat) : Int)) 1
      rw [e1, e2]
      exact Heap.get?_push_size _ rfl
    · have e : b = (s.heap.push { cls := .type "range", data := .fields #[.int lo t, .int hi u, .int 1 v] }).objs.size := by simpa using hb
      subst e
      exact I1.fpOk (Nat.le_refl _) (I1.hok.fresh (Nat.le_refl _))
/-- range(lo, hi), of any size -/
def iRngL (ta : TA) : TI := fun σ H R => ta σ H fun vs H1 => ∃ i j : Int, vs = [.int i, .int j] ∧ R (Itr i (j - i).toNat) H1
theorem pi_rangeL {a b : Expr} {ta : TA} {p pos : Pos} (hg : Gl X "range") (hm : X.mg "range" = none) (ha : PA X [a, b] ta) (hs : starEach [a, b] X.env = [(false, eval a X.env), (false, eval b X.env)] := by rfl) (hs2 : starEach [b] X.env = [(false, eval b X.env)] := by rfl) :
    PI X tg (.Call (.Name "range" p) [a, b] [] pos) (iRngL ta) := by
  refine ⟨fun pins s σ H R I h => ?_⟩
  refine Call_ (ld_blt I hg hm boot_range (PyProof.Rows.callWith_type1 (thn (ha.run pos pins s σ H _ I h) fun us s1 ⟨vs, H1, I1, r1, q1⟩ => ?_) (by rw [hs, hs2]) (by rw [hs2]; rfl)))
  obtain ⟨i, j, e, q⟩ := q1
  subst e
  cases r1 with
  | cons r rr =>
    cases rr with
    | cons r' rr =>
      cases rr
      obtain ⟨t, rfl⟩ := r
      obtain ⟨t', rfl⟩ := r'
      exact call_range_2 (range_itL I1 q)
end
end Iz
/-! Ls -/
set_option Elab.async false
set_option linter.all false
set_option maxRecDepth 100000
set_option maxHeartbeats 4000000
namespace Iz
open PySem PySem.Spec PyProof.Rows L2
/-! ### loops over lists, tuples and ranges, comprehensions of what is told by functions -/
section
variable {K : PySem.W.Frag} {g : TG} {tb : TS} {D : Ends} {σ : L2.St} {H : Hp} {ta : TA} {tl : TE} {tt : TT} {te : TE} {vs : List Nat} {Q : VK}
theorem st_forRL (lo j : Int) (ha : ∀ R : List V → Hp → Prop, R [.int lo, .int j] H → ta σ H R) (Pv : Nat → L2.St → Hp → Prop) (h0 : Pv 0 σ H)
    (hs : ∀ i σ H, i < (j - lo).toNat → Pv i σ H → g (.int (lo + i)) σ H fun σ2 H2 => tb { D with nx := Pv (i + 1), ct := Pv (i + 1), bk := D.nx } σ2 H2) (hd : ∀ σ H, Pv (j - lo).toNat σ H → D.nx σ H) : tFor (iRngL ta) g tb D σ H :=
  ha _ ⟨lo, j, rfl, for_range Pv h0 hs hd⟩
theorem st_forL {a : Addr} {xs : List V} (ha : ∀ R : V → Hp → Prop, R (.ref a) H → tl σ H R) (hx : H a = some (.lst xs)) (Pv : Nat → L2.St → Hp → Prop) (h0 : Pv 0 σ H) (hl : ∀ i σ H, Pv i σ H → H a = some (.lst xs))
    (hs : ∀ i x σ H, xs[i]? = some x → Pv i σ H → g x σ H fun σ2 H2 => tb { D with nx := Pv (i + 1), ct := Pv (i + 1), bk := D.nx } σ2 H2) (hd : ∀ σ H, Pv xs.length σ H → D.nx σ H) : tFor (iList K tl) g tb D σ H :=
  ha _ ⟨a, rfl, ⟨xs, SqL.of hx⟩, for_list Pv h0 (fun i σ H _ p => SqL.of (hl i σ H p)) hs hd⟩
theorem st_forT {a : Addr} {xs : List V} (ha : ∀ R : V → Hp → Prop, R (.ref a) H → tl σ H R) (hx : H a = some (.tup xs)) (Pv : Nat → L2.St → Hp → Prop) (h0 : Pv 0 σ H) (hl : ∀ i σ H, Pv i σ H → H a = some (.tup xs))
    (hs : ∀ i x σ H, xs[i]? = some x → Pv i σ H → g x σ H fun σ2 H2 => tb { D with nx := Pv (i + 1), ct := Pv (i + 1), bk := D.nx } σ2 H2) (hd : ∀ σ H, Pv xs.length σ H → D.nx σ H) : tFor (iTup K tl) g tb D σ H :=
  ha _ ⟨a, rfl, ⟨xs, SqT.of hx⟩, for_tup Pv h0 (fun i σ H _ p => SqT.of (hl i σ H p)) hs hd⟩
/-- lo, .., j - 1 -/
def intsB (lo j : Int) : List Int := (List.range (j - lo).toNat).map fun (k : Nat) => lo + (k : Int)
theorem mem_intsB {lo j i : Int} : i ∈ intsB lo j ↔ lo ≤ i ∧ i < j := by
  simp only [intsB, List.mem_map, List.mem_range]
  constructor
  · rintro ⟨k, hk, rfl⟩; omega
  · rintro ⟨h1, h2⟩; exact ⟨(i - lo).toNat, by omega, by omega⟩
theorem take_filter_succ {α : Type} {xs : List α} {i : Nat} {x : α} (h : xs[i]? = some x) (p : α → Bool) : (xs.take (i + 1)).filter p = (xs.take i).filter p ++ (if p x = true then [x] else []) := by
  rw [List.take_succ, h, List.filter_append]
  congr 1
  by_cases e : p x = true <;> simp [e]
/-- [f(x) for x in xs if p(x)] -/
theorem st_lcLF {a : Addr} {xs : List V} (ha : ∀ R : V → Hp → Prop, R (.ref a) H → tl σ H R) (hx : H a = some (.lst xs)) (hz : xs.length ≤ sizeLine) (p : V → Bool) (f : V → V)
    (hs : ∀ x H' (A : Hp → Prop) (B : VK), x ∈ xs → Same H H' → (p x = false → ∀ H3, Same H' H3 → A H3) → (p x = true → ∀ H4, Same H' H4 → B (f x) H4) →
      g x (wipe σ vs) H' fun σ2 H2 => wipe σ2 vs = wipe σ vs ∧ tt σ2 H2 fun b H3 => if b = true then te σ2 H3 B else A H3)
    (hd : ∀ D H', H D = none → Same H H' → H' D = some (.lst ((xs.filter p).map f)) → Q (.ref D) H') : tLc (iList K tl) g tt te vs σ H Q := by
  refine ha _ ⟨a, rfl, ⟨xs, SqL.of hx⟩, fun D hD => lc_list (fun i H' => Same H H' ∧ H' D = some (.lst (((xs.take i).filter p).map f))) ⟨Same.upd hD, upd_same⟩ (fun i H' _ q => SqL.of (q.1 _ _ hx)) (fun i x H' hi q => ?_) (fun H' q => hd D H' hD q.1 (by rw [q.2, List.take_length]))⟩
  refine hs x H' _ _ (List.mem_of_getElem? hi) q.1 (fun e H3 s3 => ⟨q.1.trans s3, ?_⟩) (fun e H4 s4 => ⟨_, s4 _ _ q.2, ?_, ?_, ?_⟩)
  · rw [s3 _ _ q.2, take_filter_succ hi, e]; simp
  · have hi' := (List.getElem?_eq_some_iff.mp hi).1
    have h1 : ((xs.take i).filter p).length ≤ (xs.take i).length := List.length_filter_le _ _
    have h2 : (xs.take i).length ≤ i := by rw [List.length_take]; exact Nat.min_le_left _ _
    rw [List.length_map]; omega
  · exact fun b u e2 => by
      have hb : b ≠ D := ne_of_none e2 hD
      rw [upd_ne hb]; exact s4 _ _ (q.1 _ _ e2)
  · rw [upd_same, take_filter_succ hi, e]; simp
/-- [f(x) for x in range(lo, j) if p(x)] -/
theorem st_lcRF (lo j : Int) (ha : ∀ R : List V → Hp → Prop, R [.int lo, .int j] H → ta σ H R) (hz : (j - lo).toNat ≤ sizeLine) (p : Int → Bool) (f : Int → V)
    (hs : ∀ x H' (A : Hp → Prop) (B : VK), lo ≤ x → x < j → Same H H' → (p x = false → ∀ H3, Same H' H3 → A H3) → (p x = true → ∀ H4, Same H' H4 → B (f x) H4) →
      g (.int x) (wipe σ vs) H' fun σ2 H2 => wipe σ2 vs = wipe σ vs ∧ tt σ2 H2 fun b H3 => if b = true then te σ2 H3 B else A H3)
    (hd : ∀ D H', H D = none → Same H H' → H' D = some (.lst (((intsB lo j).filter p).map f)) → Q (.ref D) H') : tLc (iRngL ta) g tt te vs σ H Q := by
  refine ha _ ⟨lo, j, rfl, fun D hD => lc_range (fun i H' => Same H H' ∧ H' D = some (.lst ((((intsB lo j).take i).filter p).map f))) ⟨Same.upd hD, upd_same⟩ (fun i H' hi q => ?_) (fun H' q => hd D H' hD q.1 (by rw [q.2, show (j - lo).toNat = (intsB lo j).length by simp [intsB], List.take_length]))⟩
  have hi' : (intsB lo j)[i]? = some (lo + (i : Int)) := by simp [intsB, hi]
  refine hs (lo + i) H' _ _ (by omega) (by omega) q.1 (fun e H3 s3 => ⟨q.1.trans s3, ?_⟩) (fun e H4 s4 => ⟨_, s4 _ _ q.2, ?_, ?_, ?_⟩)
  · rw [s3 _ _ q.2, take_filter_succ hi', e]; simp
  · have h1 : (((intsB lo j).take i).filter p).length ≤ ((intsB lo j).take i).length := List.length_filter_le _ _
    have h2 : ((intsB lo j).take i).length ≤ i := by rw [List.length_take]; exact Nat.min_le_left _ _
    rw [List.length_map]; omega
  · exact fun b u e2 => by
      have hb : b ≠ D := ne_of_none e2 hD
      rw [upd_ne hb]; exact s4 _ _ (q.1 _ _ e2)
  · rw [upd_same, take_filter_succ hi', e]; simp
end
end Iz
namespace Iz
open PySem PySem.Spec PyProof.Rows L2
/-! ### slices, + of lists, deep ==, in the form that simp reads -/
section
variable {X : Cx} {e : Expr} {te : TE}
def tRevLN (te : TE) : TE := fun σ H Q => te σ H fun x H1 => ∃ a xs, x = .ref a ∧ H1 a = some (.lst xs) ∧ News H1 (.lst xs.reverse) Q
theorem pe_revLN {k : Nat} {p1 p2 p3 pos : Pos} (he : PE X e te) : PE X (.Subscript e (.Slice none none (some (.UnaryOp .USub (.Constant (.int 1) k p1) p2)) p3) pos) (tRevLN te) :=
  PE.imp (pe_revL (PE.mcl he)) fun σ H Q q => ⟨_, q, fun v H1 ⟨a, xs, e1, e2, n⟩ => ⟨a, xs, e1, SqL.of e2, n.all⟩⟩
def rCatN : R2 := fun x y H Q => ∃ l b xs zs, x = .ref l ∧ y = .ref b ∧ H l = some (.lst xs) ∧ H b = some (.lst zs) ∧ xs.length + zs.length ≤ sizeLine ∧ News H (.lst (xs ++ zs)) Q
theorem op_catN : OpR X (binaryOp .Add) rCatN := fun pins s σ H x y v u Q I rx ry ⟨l, b, xs, zs, e1, e2, e3, e4, e5, n⟩ => op_cat pins s σ H x y v u Q I rx ry ⟨l, b, xs, zs, e1, e2, e3, e4, e5, n.all⟩
end
/-- x in xs, x not in xs: flat things -/
def rInTN (neg : Bool) : R2 := fun x y H Q => ∃ p xs, y = .ref p ∧ H p = some (.tup xs) ∧ flatV x = true ∧ xs.all flatV = true ∧ Q (.bl (if neg then !inV x xs else inV x xs)) H
def rInLN (neg : Bool) : R2 := fun x y H Q => ∃ p xs, y = .ref p ∧ H p = some (.lst xs) ∧ flatV x = true ∧ xs.all flatV = true ∧ Q (.bl (if neg then !inV x xs else inV x xs)) H
theorem op_inTN {X : Cx} : OpR X (compareOp .In) (rInTN false) := fun pins s σ H x y v u Q I rx ry ⟨p, xs, e1, e2, e3, e4, q⟩ => op_in_seq pins s σ H x y v u Q I rx ry ⟨p, xs, e1, .inr (SqT.of e2), e3, e4, q⟩
theorem op_notInTN {X : Cx} : OpR X (compareOp .NotIn) (rInTN true) := fun pins s σ H x y v u Q I rx ry ⟨p, xs, e1, e2, e3, e4, q⟩ => op_notIn_seq pins s σ H x y v u Q I rx ry ⟨p, xs, e1, .inr (SqT.of e2), e3, e4, q⟩
theorem op_inLN {X : Cx} : OpR X (compareOp .In) (rInLN false) := fun pins s σ H x y v u Q I rx ry ⟨p, xs, e1, e2, e3, e4, q⟩ => op_in_seq pins s σ H x y v u Q I rx ry ⟨p, xs, e1, .inl (SqL.of e2), e3, e4, q⟩
theorem op_notInLN {X : Cx} : OpR X (compareOp .NotIn) (rInLN true) := fun pins s σ H x y v u Q I rx ry ⟨p, xs, e1, e2, e3, e4, q⟩ => op_notIn_seq pins s σ H x y v u Q I rx ry ⟨p, xs, e1, .inl (SqL.of e2), e3, e4, q⟩
def ShN (n : Nat) (d : PyData) : Prop := d.canLay0 = true ∧ d.depth ≤ n
theorem ShN.up {n m : Nat} {d : PyData} (h : ShN n d) (k : n ≤ m) : ShN m d := ⟨h.1, Nat.le_trans h.2 k⟩
theorem ShN.non {n : Nat} : ShN n .none := ⟨by simp [PyData.canLay0], by simp [PyData.depth]⟩
theorem ShN.int {n : Nat} {i : Int} : ShN n (.int i) := ⟨by simp [PyData.canLay0], by simp [PyData.depth]⟩
theorem ShN.bool {n : Nat} {b : Bool} : ShN n (.bool b) := ⟨by simp [PyData.canLay0], by simp [PyData.depth]⟩
theorem shAll {n : Nat} {ds : List PyData} (h : ∀ d ∈ ds, ShN n d) : PyData.canLayAll0 ds = true ∧ PyData.depthAll ds ≤ n := by
  induction ds with
  | nil => exact ⟨by simp [PyData.canLayAll0], by simp [PyData.depthAll]⟩
  | cons d ds ih =>
    have h1 := h d (by simp)
    have h2 := ih fun x hx => h x (by simp [hx])
    exact ⟨by simp [PyData.canLayAll0, h1.1, h2.1], by simp only [PyData.depthAll]; exact Nat.max_le.mpr ⟨h1.2, h2.2⟩⟩
theorem ShN.list {n : Nat} {ds : List PyData} (h : ∀ d ∈ ds, ShN n d) : ShN (n + 1) (.list ds) := ⟨by simp only [PyData.canLay0]; exact (shAll h).1, by simp only [PyData.depth]; have := (shAll h).2; omega⟩
theorem ShN.tuple {n : Nat} {ds : List PyData} (h : ∀ d ∈ ds, ShN n d) : ShN (n + 1) (.tuple ds) := ⟨by simp only [PyData.canLay0]; exact (shAll h).1, by simp only [PyData.depth]; have := (shAll h).2; omega⟩
theorem ShN.ok {n : Nat} {d : PyData} (h : ShN n d) (k : n ≤ 64 := by decide) : SeqAt.shaped d = true := by
  unfold SeqAt.shaped
  rw [h.1]; simpa using Nat.le_trans h.2 k
/-- None or an int, as data -/
def dO : Option Int → PyData
  | none => .none
  | some i => .int i
theorem dp_ov {K : PySem.W.Frag} {H : Hp} {o : Option Int} : Dp K H (ov o) (dO o) := by cases o; exact .non; exact .int _
theorem sh_dO {n : Nat} {o : Option Int} : ShN n (dO o) := by cases o; exact .non; exact .int
/-- a list of pairs -/
inductive PAll (H : Hp) : List V → List (Option Int × Option Int) → Prop
  | nil : PAll H [] []
  | cons {a : Addr} {xs : List V} {q : Option Int × Option Int} {ps : List (Option Int × Option Int)} : H a = some (.tup [ov q.1, ov q.2]) → PAll H xs ps → PAll H (.ref a :: xs) (q :: ps)
def PairsAt (H : Hp) (a : Addr) (ps : List (Option Int × Option Int)) : Prop := ∃ xs, H a = some (.lst xs) ∧ PAll H xs ps
theorem PAll.length {H : Hp} {xs : List V} {ps : List (Option Int × Option Int)} (h : PAll H xs ps) : xs.length = ps.length := by induction h <;> simp_all
theorem PAll.mono {H H' : Hp} {xs : List V} {ps : List (Option Int × Option Int)} (h : PAll H xs ps) (s : Same H H') : PAll H' xs ps := by
  induction h with
  | nil => exact .nil
  | cons e _ ih => exact .cons (s _ _ e) ih
theorem PAll.monoT {H H' : Hp} {xs : List V} {ps : List (Option Int × Option Int)} (h : PAll H xs ps) (s : ∀ b us, H b = some (.tup us) → H' b = some (.tup us)) : PAll H' xs ps := by
  induction h with
  | nil => exact .nil
  | cons e _ ih => exact .cons (s _ _ e) ih
theorem PAll.snoc {H : Hp} {a : Addr} {q : Option Int × Option Int} {xs : List V} {ps : List (Option Int × Option Int)} (h : PAll H xs ps) (e : H a = some (.tup [ov q.1, ov q.2])) : PAll H (xs ++ [.ref a]) (ps ++ [q]) := by
  induction h with
  | nil => exact .cons e .nil
  | cons e2 _ ih => exact .cons e2 ih
theorem PAll.rev {H : Hp} {xs : List V} {ps : List (Option Int × Option Int)} (h : PAll H xs ps) : PAll H xs.reverse ps.reverse := by
  induction h with
  | nil => exact .nil
  | cons e _ ih => rw [List.reverse_cons, List.reverse_cons]; exact ih.snoc e
theorem PAll.get {H : Hp} {xs : List V} {ps : List (Option Int × Option Int)} (h : PAll H xs ps) {i : Nat} {x : V} (e : xs[i]? = some x) : ∃ a q, x = .ref a ∧ ps[i]? = some q ∧ H a = some (.tup [ov q.1, ov q.2]) := by
  induction h generalizing i with
  | nil => simp at e
  | cons e2 _ ih =>
    cases i with
    | zero => simp at e; subst e; exact ⟨_, _, rfl, rfl, e2⟩
    | succ i => exact ih (by simpa using e)
theorem PairsAt.mono {H H' : Hp} {a : Addr} {ps : List (Option Int × Option Int)} (h : PairsAt H a ps) (s : Same H H') : PairsAt H' a ps := let ⟨xs, e, p⟩ := h; ⟨xs, s _ _ e, p.mono s⟩
theorem drop_of {α : Type} {l : List α} {i : Nat} {x : α} (h : l[i]? = some x) : l.drop i = x :: l.drop (i + 1) := by
  have := (List.getElem?_eq_some_iff.mp h)
  obtain ⟨h1, h2⟩ := this
  rw [← h2]; exact List.drop_eq_getElem_cons h1
def dP (q : Option Int × Option Int) : PyData := .tuple [dO q.1, dO q.2]
theorem PAll.dp {K : PySem.W.Frag} {H : Hp} {xs : List V} {ps : List (Option Int × Option Int)} (h : PAll H xs ps) : DpAll K H xs (ps.map dP) := by
  induction h with
  | nil => exact .nil
  | cons e _ ih => exact .cons (.tup (SqT.of e) (.cons dp_ov (.cons dp_ov .nil))) ih
theorem sh_dP {q : Option Int × Option Int} : ShN 1 (dP q) := ShN.tuple fun d h => by
  simp only [List.mem_cons, List.not_mem_nil, or_false] at h
  rcases h with rfl | rfl <;> exact sh_dO
theorem PairsAt.dp {K : PySem.W.Frag} {H : Hp} {a : Addr} {ps : List (Option Int × Option Int)} (h : PairsAt H a ps) : Dp K H (.ref a) (.list (ps.map dP)) := let ⟨_, e, p⟩ := h; .lst (SqL.of e) p.dp
theorem sh_dPs {ps : List (Option Int × Option Int)} : ShN 2 (.list (ps.map dP)) := ShN.list fun d h => by
  obtain ⟨q, _, rfl⟩ := List.mem_map.mp h; exact sh_dP
/-- xs == [] -/
theorem eq_nil {K : PySem.W.Frag} {H : Hp} {a b : Addr} {ps : List (Option Int × Option Int)} {R : VK} (h : PairsAt H a ps) (h2 : H b = some (.lst [])) (r : R (.bl ps.isEmpty) H) : rEqD K (.ref a) (.ref b) H R :=
  ⟨_, _, h.dp, dp_nil h2, sh_dPs.ok, (ShN.list (n := 0) fun _ h => by simp at h).ok, by cases ps <;> simp_all [PyData.eqv, PyData.eqvAll]⟩
end Iz
namespace Iz
open PySem PySem.Spec PyProof.Rows L2
open He (ga)
/-! ### within a lambda: the rules that name the written part -/
section
variable {X : Cx} {CX : CXT} {k j : Nat} {x m f : Str} {ps : List Str} {dvs : List V} {sp : Sp} {E : XK} {o e : Expr} {es : List Expr} {ta : TE} {t : TA} {p pos apos : Pos} {K : PySem.W.Frag}
theorem pmtK {pl : Sem Bool} (hK : X.K = K) (O : OkM X.prog X.w X.K X.mg X.base CX k x m ps dvs sp) (C : Cls X.K (ga X.K x)) (he : PE X o ta) (hj : j ≤ dvs.length) (hr : Room k X.A) (hx : Passes CX X E) (ha : PA X (e :: es) t)
    (hst : starEach (e :: es) X.env = (false, eval e X.env) :: starEach es X.env := by rfl) (hpl : (backTo pos (starEach es X.env)).any (·.1) = false := by rfl)
    (ht : eval (.Call (.Attribute o m apos) (e :: es) [] pos) X.env = (do
      let ov ← eval o X.env; standAt apos.atName
      let (f, first) ← holding [ov] (getMethod ov m pl)
      callWith pos f first (backTo pos (starEach (e :: es) X.env)) (backToKw pos (keywordEach [] X.env))) := by rfl) :
    PE X (.Call (.Attribute o m apos) (e :: es) [] pos) (tMt (ga K x) m sp (dvs.drop j) E ta t) := by subst hK; exact pmt O C he hj hr hx ha hst hpl ht
theorem pmt0K {pl : Sem Bool} (hK : X.K = K) (O : OkM X.prog X.w X.K X.mg X.base CX k x m ps dvs sp) (C : Cls X.K (ga X.K x)) (he : PE X o ta) (hj : j ≤ dvs.length) (hr : Room k X.A) (hx : Passes CX X E)
    (ht : eval (.Call (.Attribute o m apos) [] [] pos) X.env = (do
      let ov ← eval o X.env; standAt apos.atName
      let (f, first) ← holding [ov] (getMethod ov m pl)
      callWith pos f first (backTo pos (starEach [] X.env)) (backToKw pos (keywordEach [] X.env))) := by rfl) :
    PE X (.Call (.Attribute o m apos) [] [] pos) (tMt (ga K x) m sp (dvs.drop j) E ta tNil) := by subst hK; exact pmt0 O C he hj hr hx ht
theorem pe_fldNK {C : Addr} (hK : X.K = K) (c : Cls K C) (n : NoAttr K C f) (h : PE X o ta) (hb : attributeBase o f X.env (eval o X.env) = eval o X.env := by rfl) : PE X (.Attribute o f apos) (tFldN C ta f) := by subst hK; exact pe_fldN c n h hb
end
end Iz
/-! Ow -/
set_option Elab.async false
set_option linter.all false
set_option maxRecDepth 100000
set_option maxHeartbeats 4000000
namespace Iz
open PySem PySem.Spec PyProof.Rows L2
open He (ga)
/-! ### operators by a class's own methods -/
section
variable {X : Cx} {pins : List (Addr × Obj)} {σ : L2.St} {H : Hp} {s : Shared}
/-- the type of a value is seen -/
theorem looksTy {x : V} {u t : Value} (I : Inv X pins σ H s) (rx : RelV x u) (ty : TyX X.K H x t) : PySem.W.Looks (model X.prog X.w) s.heap (typeOf u) t := by
  have R : ∀ {a : Addr} {o : Obj}, s.heap.get? a = some o → o.cls = t → PySem.W.Looks (model X.prog X.w) s.heap (typeOf (.ref a)) t := fun ho hc A Q E s2 k q => wpAny_typeOf_ref (k _ _ ho) (by rw [hc]; exact q)
  cases ty with
  | base b =>
    cases b with
    | non => cases (show u = Value.none from rx); exact .of_pure rfl
    | bl y => cases (show u = Value.bool y from rx); exact .of_pure rfl
    | int i => obtain ⟨t, q⟩ := (show ∃ t, u = Value.int i t from rx); cases q; exact .of_pure rfl
    | str y => obtain ⟨t, q⟩ := (show ∃ t, u = Value.str y t from rx); cases q; exact .of_pure rfl
    | flt y => obtain ⟨t, q⟩ := (show ∃ t, u = Value.float y t from rx); cases q; exact .of_pure rfl
    | @lst a xs ea =>
      cases rx
      obtain ⟨_, _, n, _, h1⟩ := (show ObjOk X.prog X.w H s.heap a (.lst xs) from I.hok a _ ea)
      exact R h1 rfl
    | @frz a ob xs ea =>
      cases rx
      obtain ⟨_, _, _, n, _, h1⟩ := (show ObjOk X.prog X.w H s.heap a (.frz ob (.lst xs)) from I.hok a _ ea)
      exact R h1 rfl
    | @tup a xs ea =>
      cases rx
      obtain ⟨_, _, _, o, h1, h2, _⟩ := (show ObjOk X.prog X.w H s.heap a (.tup xs) from I.hok a _ ea)
      exact R h1 h2
    | @dK a kvs ea =>
      cases rx
      obtain ⟨_, _, vs, _, o, es, ep, h1, h2, _⟩ := (show ObjOk X.prog X.w H s.heap a (.dK kvs) from I.hok a _ ea)
      exact R h1 h2.1
    | @dT a kvs ea =>
      cases rx
      obtain ⟨_, _, xs, _, o, es, ep, h1, h2, _⟩ := (show ObjOk X.prog X.w H s.heap a (.dT kvs) from I.hok a _ ea)
      exact R h1 h2.1
    | @ins a C dx fs ea cl ha hn htk hm =>
      cases rx
      obtain ⟨mA, O, _⟩ := ins_get I.hok ea
      obtain ⟨od, J, _⟩ := O.look
      exact J.type
  | byt y => obtain ⟨t, q⟩ := (show ∃ t, u = Value.bytes y t from rx); cases q; exact .of_pure rfl
  | @set a S n ea =>
    cases rx
    obtain ⟨o, _, _, _, e, ex, _⟩ := I.hok a _ ea
    exact R e ex.1
  | @kList a o e c => cases rx; exact R (I.kIn a o e) c
  | @kTuple a o e c => cases rx; exact R (I.kIn a o e) c
  | @kDict a o e c => cases rx; exact R (I.kIn a o e) c
  | @fTuple a ob xs ea =>
    cases rx
    obtain ⟨_, _, _, _, o, h1, h2, _⟩ := (show ObjOk X.prog X.w H s.heap a (.frz ob (.tup xs)) from I.hok a _ ea)
    exact R h1 h2
  | @fDict a ob kvs ea =>
    cases rx
    obtain ⟨_, _, _, vs, _, o, es, ep, h1, h2, _⟩ := (show ObjOk X.prog X.w H s.heap a (.frz ob (.dK kvs)) from I.hok a _ ea)
    exact R h1 h2.1
end
section
variable {X : Cx} {CX : CXT} {k : Nat} {x m : Str} {ps : List Str} {sp : Sp} {E : XK}
/-- a method called by its address, within an operator -/
theorem own_call {f a : Addr} {fd : FuncData} {y : V} {u : Value} {pins : List (Addr × Obj)} {σ : L2.St} {H : Hp} {s : Shared} {Q : VK} {R : Value → Shared → Prop} (I : Inv X pins σ H s) (F : FnOk X.prog X.w X.K X.mg X.base CX k f fd ps sp) (hb : Binds X.K fd ps []) (hr : Room k X.A) (hx : Passes CX X E)
    (ry : RelV y u) (hsp : sp [.ref a, y] H Q E) (hR : ∀ v w H' s', Inv X pins σ H' s' → RelV v w → Q v H' → R w s') : wpAny (model X.prog X.w) X.A (call (.ref f) [.ref a, u]) R X.xe s := by
  have hl := F.len _ _ _ _ hsp
  have bd := hb s [.ref a, u] I.kIn (by simpa using hl)
  refine wpAny_call (codeAny_mono (F.run X.A X.stack s H ⟨[.ref a, u], []⟩ [.ref a, u] [.ref a, y] _ E hr I.env0 (by simpa using bd) (.cons rfl (.cons ry .nil)) hsp) fun r s' z => ?_)
  cases r with
  | error e => exact hx _ _ _ _ _ _ I z
  | ok fl =>
    cases fl with
    | ret w => obtain ⟨v, H', I', rv, q⟩ := I.after z; exact hR v w H' s' I' rv q
    | next => exact False.elim z
    | brk => exact False.elim z
    | cont => exact False.elim z
/-- x op y, where x's class has the method: it hands back a truth -/
def rOwn (K : PySem.W.Frag) (C : Addr) (sp : Sp) (E : XK) : R2 := fun x y H Q => ∃ a dx fs, x = .ref a ∧ H a = some (.ins C dx fs) ∧ (∃ t, TyX K H y t ∧ PySem.W.notFirst K C t = true) ∧ sp [.ref a, y] H (fun v H' => ∃ b, v = .bl b ∧ Q (.bl b) H') E
theorem op_own {op : CmpOp} (hop : ∀ a b, compareOp op a b = richCompare op a b) (O : OkM X.prog X.w X.K X.mg X.base CX k x m ps [] sp) (hm : (cmpInfo op).2.1 = m) (hr : Room k X.A) (hx : Passes CX X E) : OpR X (compareOp op) (rOwn X.K (ga X.K x) sp E) := by
  intro pins s σ H v0 y v u Q I rx ry h
  obtain ⟨a, dx, fs, rfl, ha, ⟨t, ty, nf⟩, hsp⟩ := h
  cases rx
  obtain ⟨f, fd, M, b, F⟩ := O.ex
  obtain ⟨ds, hd, hb⟩ := b 0 (Nat.le_refl _)
  cases hd
  obtain ⟨mA, O', _⟩ := ins_get I.hok ha
  obtain ⟨od, J, _⟩ := O'.look
  obtain ⟨mm, hF⟩ := I.fr
  subst hm
  rw [hop]
  refine PySem.W.cmp_K hr.units0 hF I.ok.mod.kin J (looksTy I ry ty) nf M.at_ M.fn (own_call I F hb hr hx ry hsp fun v w H' s' I' rv q => ?_)
  obtain ⟨b, rfl, q⟩ := q
  cases rv
  exact ⟨.bl b, H', I', rfl, q⟩
/-- x in y, where y's class has __contains__ -/
def rOwnIn (C : Addr) (neg : Bool) (sp : Sp) (E : XK) : R2 := fun x y H Q => ∃ a dx fs, y = .ref a ∧ H a = some (.ins C dx fs) ∧ sp [.ref a, x] H (fun v H' => ∃ b, v = .bl b ∧ Q (.bl (if neg then !b else b)) H') E
theorem op_ownIn (O : OkM X.prog X.w X.K X.mg X.base CX k x "__contains__" ps [] sp) (hr : Room k X.A) (hx : Passes CX X E) : OpR X (compareOp .In) (rOwnIn (ga X.K x) false sp E) := by
  intro pins s σ H v0 y v u Q I rx ry h
  obtain ⟨a, dx, fs, rfl, ha, hsp⟩ := h
  cases ry
  obtain ⟨f, fd, M, b, F⟩ := O.ex
  obtain ⟨ds, hd, hb⟩ := b 0 (Nat.le_refl _)
  cases hd
  obtain ⟨mA, O', _⟩ := ins_get I.hok ha
  obtain ⟨od, J, _⟩ := O'.look
  obtain ⟨mm, hF⟩ := I.fr
  refine PySem.W.in_K hF I.ok.mod.kin J M.at_ M.fn (own_call I F hb hr hx rx hsp fun v w H' s' I' rv q => ?_)
  obtain ⟨b, rfl, q⟩ := q
  cases rv
  exact wpAny_truthy_bool ⟨.bl b, H', I', rfl, q⟩
theorem op_ownNotIn (O : OkM X.prog X.w X.K X.mg X.base CX k x "__contains__" ps [] sp) (hr : Room k X.A) (hx : Passes CX X E) : OpR X (compareOp .NotIn) (rOwnIn (ga X.K x) true sp E) := by
  intro pins s σ H v0 y v u Q I rx ry h
  obtain ⟨a, dx, fs, rfl, ha, hsp⟩ := h
  cases ry
  obtain ⟨f, fd, M, b, F⟩ := O.ex
  obtain ⟨ds, hd, hb⟩ := b 0 (Nat.le_refl _)
  cases hd
  obtain ⟨mA, O', _⟩ := ins_get I.hok ha
  obtain ⟨od, J, _⟩ := O'.look
  obtain ⟨mm, hF⟩ := I.fr
  refine PySem.W.notIn_K hF I.ok.mod.kin J M.at_ M.fn (own_call I F hb hr hx rx hsp fun v w H' s' I' rv q => ?_)
  obtain ⟨b, rfl, q⟩ := q
  cases rv
  exact wpAny_truthy_bool ⟨.bl (!b), H', I', rfl, q⟩
end
end Iz
/-! Tn -/
set_option Elab.async false
set_option linter.all false
set_option maxRecDepth 100000
set_option maxHeartbeats 4000000
namespace Iz
open PySem PySem.Spec PyProof.Rows L2
/-! ### try: .. with several clauses «except x as n», one of which catches -/
abbrev Clause := Value × Nat × (Addr → Value → Option Addr → TS)
def unset (D : Ends) (i : Nat) : Ends := { nx := fun σ H => D.nx (σ.set i none) H, rt := D.rt, bk := fun σ H => D.bk (σ.set i none) H, ct := fun σ H => D.ct (σ.set i none) H }
/-- the first clause that catches; one of them does -/
def wNamed (K : PySem.W.Frag) (D : Ends) : List Clause → WX
  | [] => fun _ _ _ _ => False
  | q :: r => fun cls d σ H => ∃ b, PySem.W.exmOne K cls q.1 = some b ∧ (b = true → ∀ a, H a = none → q.2.2 a cls d (unset D q.2.1) (σ.set q.2.1 (some (.ref a))) H) ∧ (b = false → wNamed K D r cls d σ H)
structure ClauseOk (X : Cx) (x n : Str) (q : Clause) (st : Stmt) (ss : List Stmt) : Prop where
  at_ : X.N[q.2.1]? = some n
  loc : X.env.kindOf n = some .local
  cls : Names X x q.1
  run : ∀ a oe cls d pn, Zc cls d oe → (∃ vs, oe.data = .fields vs) → PSs (X.suite a ((a, oe) :: pn)) (st :: ss) (q.2.2 a cls d)
inductive Clauses (X : Cx) : List ExceptHandler → List Clause → Prop
  | nil : Clauses X [] []
  | cons {x n : Str} {q : Clause} {st : Stmt} {ss : List Stmt} {p p' : Pos} {hds : List ExceptHandler} {l : List Clause} : ClauseOk X x n q st ss → Clauses X hds l → Clauses X (.ExceptHandler (some (.Name x p)) (some n) (st :: ss) p' :: hds) (q :: l)
section
variable {X : Cx} {body : List Stmt} {h₀ : ExceptHandler} {hds : List ExceptHandler} {l : List Clause} {pos : Pos} {tb : WX → TS}
theorem ps_try_named (hN : X.N.Nodup)
    (hb : ∀ W pn xe, Takes (X.tr pn xe) W → PassesOwn (model X.prog X.w) X.A X.env xe → PSs (X.tr pn xe) body (tb W)) (hh : Clauses X (h₀ :: hds) l) (hs : X.stack = X.env :: X.outer := by rfl) (hf : X.env.frame = some X.env.locals := by rfl) :
    PS X (.Try body (h₀ :: hds) [] [] pos) (fun D σ H => tb (wNamed X.K D l) D σ H) := by
  constructor
  intro pins s σ H D I h
  have ok := I.ok
  have fr1 : X.A.frames = some (X.env :: X.outer) := hs ▸ ok.frames
  let catcher : Value → Shared → Prop := fun e z1 => wpAny (model X.prog X.w) X.A (noteFrame e X.env) (fun _ z2 => wpAny (model X.prog X.w) X.A (setFlight e none) (fun _ z3 => wpAny (model X.prog X.w) X.A (handleBy e X.env (h₀ :: hds)) (SP X pins D) X.xe z3) X.xe z2) X.xe z1
  have tk : Takes (X.tr (X.pn ++ pins) catcher) (wNamed X.K D l) := by
    intro u z xx
    obtain ⟨a, B, sI, pins', σ1, H1, cls, d, rfl, J0, nb, up, sky, na, os, ag, wish⟩ := xx
    have J : Inv X pins σ1 H1 sI := J0.ofTry ok
    refine Sky.land Zc.steady fr1 hf (show Sky B (X.env :: X.outer) a (Zc cls d) X.env.locals z.heap from hs ▸ sky) fun g fl upg => ?_
    have J1 : Inv X pins σ1 H1 { z with heap := g } := J.landed nb fl.1 (up.trans upg) os ag
    obtain ⟨o1, vs1, at1, z1, dt1⟩ := fl.there
    have out : a ∉ frs (X.env :: X.outer) := fun hm => by
      obtain ⟨_, o', at', no⟩ := fl.2.2.1.mem hm
      rw [at1] at at'
      cases at'
      exact no _ dt1
    have neL : a ≠ X.env.locals := fun e => out (by rw [e]; exact List.mem_filterMap.mpr ⟨X.env, List.mem_cons_self, hf⟩)
    have neF : a ∉ X.fs := fun hm => by
      obtain ⟨e, he, q⟩ := List.mem_filterMap.mp hm
      exact out (List.mem_filterMap.mpr ⟨e, .tail _ he, q⟩)
    have S1 := J1.suite at1 dt1 na neL neF
    have all : ∀ {hs' : List ExceptHandler} {l' : List Clause}, Clauses X hs' l' → wNamed X.K D l' cls d σ1 H1 → wpAny (model X.prog X.w) X.A (handleBy (.ref a) X.env hs') (SP X pins D) X.xe { z with heap := g } := by
      intro hs' l' hc
      induction hc with
      | nil => exact fun w => w.elim
      | @cons x n q st ss p p' hds l C r ih =>
        rintro ⟨b, hb1, yes, no⟩
        obtain ⟨c, i, ts⟩ := q
        refine wpAny_handleBy_cons (codeAny_handlers_test ?_) (by intro q; cases q)
        have LM := PySem.W.exm_one (M := model X.prog X.w) J1.kIn (fun A Q E z' k q => wpAny_typeOf_ref (k _ _ at1) (by rw [z1.1]; exact q)) hb1
        have seen : ∀ {Q E : Value → Shared → Prop}, Q c { z with heap := g } → wpAny (model X.prog X.w) (X.A.mark (some (.ref a))) (eval (.Name x p) X.env) Q E { z with heap := g } := fun {Q E} q => by
          obtain ⟨hg, hdb, own | ⟨n0, bv, nn⟩⟩ := C.cls
          · exact ld_glob (X := X.suite a ((a, o1) :: (X.pn ++ pins))) S1 hg own q hdb
          · exact ld_blt (X := X.suite a ((a, o1) :: (X.pn ++ pins))) S1 hg n0 bv q nn hdb
        refine seen (LM.here ?_)
        cases b with
        | false => exact ih (no rfl)
        | true =>
          refine codeAny_handlers_suite_as (HandSPX.lands_againZ fl fun g2 fl2 up2 => ?_)
          have J2 : Inv X pins σ1 H1 { z with heap := g2 } := J.landed nb fl2.1 ((up.trans upg).trans up2) os ag
          obtain ⟨o2, vs2, at2, z2, dt2⟩ := fl2.there
          refine store_ok (X := X.suite a ((a, o2) :: (X.pn ++ pins))) (v := .ref a) (J2.suite at2 dt2 na neL neF) hN C.at_ (.inl C.loc) rfl (fun s5 S5 => ?_) (.inr C.loc)
          have bye : ∀ {σ6 : L2.St} {H6 : Hp} {s6 : Shared} {Q : Shared → Prop}, Inv (X.suite a ((a, o2) :: (X.pn ++ pins))) [] σ6 H6 s6 → (∀ s7, Inv X pins (σ6.set i none) H6 s7 → Q s7) →
              wpAny (model X.prog X.w) X.A (do bindName X.env n .none; unbindBehindTheSuite X.env n p') (fun _ s7 => Q s7) X.xe s6 := fun S6 hq => gone_ok (S6.unsuite ok) hN C.at_ C.loc hq
          refine wpAny_mono ((C.run a o2 cls d (X.pn ++ pins) z2 ⟨_, dt2⟩).run [] s5 _ H1 _ S5 (yes rfl a na)) (fun f s6 done => ?_) fun _ _ z => z.elim
          cases f with
          | ret u => obtain ⟨v, σ6, H6, S6, rv, q⟩ := done; exact bye S6 fun s7 J7 => ⟨v, _, _, J7, rv, q⟩
          | next => obtain ⟨σ6, H6, S6, q⟩ := done; exact bye S6 fun s7 J7 => ⟨_, _, J7, q⟩
          | brk => obtain ⟨σ6, H6, S6, q⟩ := done; exact bye S6 fun s7 J7 => ⟨_, _, J7, q⟩
          | cont => obtain ⟨σ6, H6, S6, q⟩ := done; exact bye S6 fun s7 J7 => ⟨_, _, J7, q⟩
    exact all hh wish
  refine wpAny_Try_except (wpAny_mono ((hb _ (X.pn ++ pins) catcher tk PassesOwn.looking).run [] s σ H D (I.toTry _) h) (fun f s1 done => ?_) fun e s1 he => he)
  cases f with
  | ret u => obtain ⟨v, σ1, H1, J, r, q⟩ := done; exact ⟨v, σ1, H1, J.ofTry ok, r, q⟩
  | next => obtain ⟨σ1, H1, J, q⟩ := done; exact wpAny_execs_nil ⟨σ1, H1, J.ofTry ok, q⟩
  | brk => obtain ⟨σ1, H1, J, q⟩ := done; exact ⟨σ1, H1, J.ofTry ok, q⟩
  | cont => obtain ⟨σ1, H1, J, q⟩ := done; exact ⟨σ1, H1, J.ofTry ok, q⟩
end
end Iz
/-! Nx -/
set_option Elab.async false
set_option linter.all false
set_option maxRecDepth 100000
set_option maxHeartbeats 4000000
namespace Iz
open PySem PySem.Spec PyProof.Rows L2
open He (ga)
/-! ### slices, max, min, unpacking, in the form that simp reads -/
def rSlLN (K : PySem.W.Frag) : V → Option Int → Option Int → Hp → VK → Prop := fun x lo hi H Q => ∃ a xs, x = .ref a ∧ SqL K H a xs ∧ News H (.lst (cutV xs lo hi)) Q
theorem sl_listN {X : Cx} : SlR X (rSlLN X.K) := fun pins s σ H x v vl vu lo hi sl Q I rx hs pl pu ⟨a, xs, e, h, n⟩ => sl_list pins s σ H x v vl vu lo hi sl Q I rx hs pl pu ⟨a, xs, e, h, n.all⟩
def rMax2 : List V → Hp → VK → Prop := fun xs H Q => ∃ i j, xs = [.int i, .int j] ∧ Q (.int (max i j)) H
theorem call_max2N {X : Cx} (hc : X.calm = true) : CallR X (.builtin "max") rMax2 := CallR.imp (call_max2 hc) fun xs H Q ⟨i, j, a, q⟩ => ⟨i, j, a, by rw [show (if j > i then j else i) = max i j by rw [Int.max_def]; split <;> split <;> omega]; exact q⟩
def rMin2 : List V → Hp → VK → Prop := fun xs H Q => ∃ i j, xs = [.int i, .int j] ∧ Q (.int (min i j)) H
theorem call_min2N {X : Cx} (hc : X.calm = true) : CallR X (.builtin "min") rMin2 := CallR.imp (call_min2 hc) fun xs H Q ⟨i, j, a, q⟩ => ⟨i, j, a, by rw [show (if j < i then j else i) = min i j by rw [Int.min_def]; split <;> split <;> omega]; exact q⟩
def gUnlN (n : Nat) (t : TGs) : TG := fun v σ H Q => ∃ a xs, v = .ref a ∧ H a = some (.lst xs) ∧ xs.length = n ∧ t xs σ H Q
theorem pg_unlN {X : Cx} {es : List Expr} {k : Nat} {pos : Pos} {t : TGs} {n : Nat} (hc : X.calm = true) (h : PGs X es t) (hn : (assignEach es X.env).length = n := by rfl) (hst : (assignEach es X.env).findIdx? (·.1) = none := by rfl) : PG X (.Tuple es k pos) (gUnlN n t) :=
  PG.imp (pg_unl hc h hn hst) fun v σ H Q ⟨p, xs, a, c, d, q⟩ => ⟨p, xs, a, SqL.of c, d, q⟩
/-! ### for x in what an expression gives -/
theorem for_inT {K : PySem.W.Frag} {tl : TE} {g : TG} {tb : TS} {D : Ends} {σ : L2.St} {H : Hp} (h : tl σ H fun x H1 => tFor (iTup K fun _ H R => R x H) g tb D σ H1) : tFor (iTup K tl) g tb D σ H := h
theorem for_inL {K : PySem.W.Frag} {tl : TE} {g : TG} {tb : TS} {D : Ends} {σ : L2.St} {H : Hp} (h : tl σ H fun x H1 => tFor (iList K fun _ H R => R x H) g tb D σ H1) : tFor (iList K tl) g tb D σ H := h
/-! ### two clauses in one comprehension, both over ranges from 0 -/
theorem st_lc2R {ta ta1 : TA} {g g1 : TG} {te : TE} {vs vs1 : List Nat} {σ : L2.St} {H : Hp} {Q : VK} (n : Int) (hn : -(2 ^ 62) ≤ n ∧ n < 2 ^ 62) (ha : ∀ R : List V → Hp → Prop, R [.int n] H → ta σ H R)
    (Pv : Addr → Nat → Hp → Prop) (Pw : Addr → Nat → Nat → Hp → Prop) (h0 : ∀ D H1, H D = none → Same H H1 → H1 D = some (.lst []) → Pv D 0 H1)
    (hs : ∀ D i H, i < n.toNat → Pv D i H → g (.int i) (wipe σ vs) H fun σ2 H2 => wipe σ2 vs = wipe σ vs ∧ ∃ m : Int, (-(2 ^ 62) ≤ m ∧ m < 2 ^ 62) ∧ (∀ R : List V → Hp → Prop, R [.int m] H2 → ta1 σ2 H2 R) ∧ Pw D i 0 H2 ∧ (∀ H, Pw D i m.toNat H → Pv D (i + 1) H) ∧
      ∀ j H, j < m.toNat → Pw D i j H → g1 (.int j) (wipe σ2 vs1) H fun σ3 H5 => wipe σ3 vs1 = wipe σ2 vs1 ∧ te σ3 H5 fun y H7 => ∃ acc, H7 D = some (.lst acc) ∧ acc.length < sizeLine ∧ Pw D i (j + 1) (upd H7 D (.lst (acc ++ [y]))))
    (hg : ∀ v σ H (Q Q' : L2.St → Hp → Prop), (∀ σ H, Q σ H → Q' σ H) → g v σ H Q → g v σ H Q') (hg1 : ∀ v σ H (Q Q' : L2.St → Hp → Prop), (∀ σ H, Q σ H → Q' σ H) → g1 v σ H Q → g1 v σ H Q')
    (hd : ∀ D H, Pv D n.toNat H → Q (.ref D) H) : tLc2 (iRng1 ta) g tYes (iRng1 ta1) g1 tYes te vs vs1 σ H Q := by
  refine ha _ ⟨n, rfl, hn.1, hn.2, fun D hD => ?_⟩
  refine ⟨fun i m H => m = n.toNat - i ∧ i ≤ n.toNat ∧ Pv D i H, ⟨_, rfl, Nat.zero_le _, h0 D _ hD (Same.upd hD) upd_same⟩, ?_⟩
  rintro i m H1 ⟨rfl, hi, p⟩
  by_cases hlt : i < n.toNat
  · refine .inr ⟨hlt, Pv D (i + 1), fun H' p' => ⟨n.toNat - (i + 1), by omega, rfl, hlt, p'⟩, ?_⟩
    rintro x _ ⟨rfl, rfl⟩
    rw [Int.zero_add]
    refine hg _ _ _ _ _ (fun σ2 H2 q => ?_) (hs D i _ hlt p)
    obtain ⟨e, m, hm, hr, w0, wd, ws⟩ := q
    refine ⟨e, ?_⟩
    simp only [tYes, if_true]
    refine hr _ ⟨m, rfl, hm.1, hm.2, ?_⟩
    refine ⟨fun j k H => k = m.toNat - j ∧ j ≤ m.toNat ∧ Pw D i j H, ⟨_, rfl, Nat.zero_le _, w0⟩, ?_⟩
    rintro j k H3 ⟨rfl, hj, pw⟩
    by_cases hjt : j < m.toNat
    · refine .inr ⟨hjt, Pw D i (j + 1), fun H' p' => ⟨m.toNat - (j + 1), by omega, rfl, hjt, p'⟩, ?_⟩
      rintro x _ ⟨rfl, rfl⟩
      rw [Int.zero_add]
      refine hg1 _ _ _ _ _ (fun σ3 H5 q => ⟨q.1, ?_⟩) (ws j _ hjt pw)
      exact q.2
    · have ej : j = m.toNat := by omega
      subst ej
      exact .inl ⟨Nat.le_refl _, wd _ pw⟩
  · have ei : i = n.toNat := by omega
    subst ei
    exact .inl ⟨Nat.le_refl _, hd D _ p⟩
theorem gName_mono {i : Nat} : ∀ v σ H (Q Q' : L2.St → Hp → Prop), (∀ σ H, Q σ H → Q' σ H) → gName i v σ H Q → gName i v σ H Q' := fun _ _ _ _ _ k q => k _ _ q
/-! ### == and != of what is read as data -/
section
variable {K : PySem.W.Frag} {H : Hp} {R : VK}
/-- a pair of ints, at a -/
abbrev P2 (H : Hp) (a : Addr) (x y : Int) : Prop := H a = some (.tup [.int x, .int y])
theorem P2.dp {a : Addr} {x y : Int} (h : P2 H a x y) : Dp K H (.ref a) (.tuple [.int x, .int y]) := .tup (SqT.of h) (.cons (.int x) (.cons (.int y) .nil))
theorem sh_P2 {n : Nat} {x y : Int} : ShN (n + 1) (.tuple [.int x, .int y]) := (ShN.tuple (n := 0) fun d h => by
  simp only [List.mem_cons, List.not_mem_nil, or_false] at h
  rcases h with rfl | rfl <;> exact .int).up (by omega)
theorem eqv_P2 {x y u v : Int} : PyData.eqv (.tuple [.int x, .int y]) (.tuple [.int u, .int v]) = decide (x = u ∧ y = v) := by
  simp [PyData.eqv, PyData.eqvAll]
  by_cases h1 : x = u <;> by_cases h2 : y = v <;> simp [h1, h2]
theorem eq_P2 {a b : Addr} {x y u v : Int} (ha : P2 H a x y) (hb : P2 H b u v) (r : R (.bl (decide (x = u ∧ y = v))) H) : rEqD K (.ref a) (.ref b) H R := ⟨_, _, ha.dp, hb.dp, (sh_P2 (n := 0)).ok, (sh_P2 (n := 0)).ok, by rw [eqv_P2]; exact r⟩
theorem ne_P2 {a b : Addr} {x y u v : Int} (ha : P2 H a x y) (hb : P2 H b u v) (r : R (.bl (!decide (x = u ∧ y = v))) H) : rNeD K (.ref a) (.ref b) H R := ⟨_, _, ha.dp, hb.dp, (sh_P2 (n := 0)).ok, (sh_P2 (n := 0)).ok, by rw [eqv_P2]; exact r⟩
/-- a list of ints, at a -/
theorem dp_ints {a : Addr} {ns : List Int} (h : H a = some (.lst (ns.map V.int))) : Dp K H (.ref a) (.list (ns.map PyData.int)) := by
  refine .lst (SqL.of h) ?_
  clear h
  induction ns with
  | nil => exact .nil
  | cons z zs ih => exact .cons (.int z) ih
theorem sh_ints {n : Nat} {ns : List Int} : ShN (n + 1) (.list (ns.map PyData.int)) := (ShN.list (n := 0) fun d hd => by
  obtain ⟨z, hz, rfl⟩ := List.mem_map.mp hd; exact .int).up (by omega)
theorem eqv_ints {ns ms : List Int} : PyData.eqv (.list (ns.map PyData.int)) (.list (ms.map PyData.int)) = decide (ns = ms) := by
  simp only [PyData.eqv]
  induction ns generalizing ms with
  | nil => cases ms <;> simp [PyData.eqvAll]
  | cons n ns ih => cases ms with
    | nil => simp [PyData.eqvAll]
    | cons m ms =>
      simp only [List.map_cons, PyData.eqvAll, ih, PyData.eqv]
      by_cases h1 : n = m <;> by_cases h2 : ns = ms <;> simp [h1, h2]
theorem eq_ints {a b : Addr} {ns ms : List Int} (ha : H a = some (.lst (ns.map V.int))) (hb : H b = some (.lst (ms.map V.int))) (r : R (.bl (decide (ns = ms))) H) : rEqD K (.ref a) (.ref b) H R := ⟨_, _, dp_ints ha, dp_ints hb, (sh_ints (n := 0)).ok, (sh_ints (n := 0)).ok, by rw [eqv_ints]; exact r⟩
theorem ne_ints {a b : Addr} {ns ms : List Int} (ha : H a = some (.lst (ns.map V.int))) (hb : H b = some (.lst (ms.map V.int))) (r : R (.bl (!decide (ns = ms))) H) : rNeD K (.ref a) (.ref b) H R := ⟨_, _, dp_ints ha, dp_ints hb, (sh_ints (n := 0)).ok, (sh_ints (n := 0)).ok, by rw [eqv_ints]; exact r⟩
/-- a list of two texts, at a -/
theorem dp_l2 {a : Addr} {x y : Str} (h : H a = some (.lst [.str x, .str y])) : Dp K H (.ref a) (.list [.str x, .str y]) := .lst (SqL.of h) (.cons (.str x) (.cons (.str y) .nil))
theorem sh_l2 {n : Nat} {x y : Str} (hx : PyData.strOk x = true) (hy : PyData.strOk y = true) : ShN (n + 1) (.list [.str x, .str y]) := (ShN.list (n := 0) fun d h => by
  simp only [List.mem_cons, List.not_mem_nil, or_false] at h
  have st : ∀ {z : Str}, PyData.strOk z = true → ShN 0 (.str z) := fun h => ⟨by simp [PyData.canLay0, h], by simp [PyData.depth]⟩
  rcases h with rfl | rfl
  · exact st hx
  · exact st hy).up (by omega)
theorem ne_sameN {x y : V} {d : PyData} {n : Nat} (hx : Dp K H x d) (hy : Dp K H y d) (h : ShN n d) (r : R (.bl false) H) (k : n ≤ 64 := by decide) : rNeD K x y H R := ne_same hx hy (h.ok k) r
theorem eq_sameN {x y : V} {d : PyData} {n : Nat} (hx : Dp K H x d) (hy : Dp K H y d) (h : ShN n d) (r : R (.bl true) H) (k : n ≤ 64 := by decide) : rEqD K x y H R := eq_same hx hy (h.ok k) r
end
/-! ### a value that may be a pair of ints -/
/-- the pair that stands there -/
def pairL : List V → Option (Int × Int)
  | [.int x, .int y] => some (x, y)
  | _ => none
def pairV (H : Hp) : V → Option (Int × Int)
  | .ref p => match H p with
    | some (.tup xs) => pairL xs
    | _ => none
  | _ => none
theorem pairL_some {xs : List V} {q : Int × Int} (h : pairL xs = some q) : xs = [.int q.1, .int q.2] := by
  unfold pairL at h
  split at h
  · cases h; rfl
  · cases h
theorem pairL_none {xs : List V} (h : ¬ (xs.length : Int) = 2) : pairL xs = none := by
  unfold pairL
  split
  · simp at h
  · rfl
theorem pairV_of {H : Hp} {p : Addr} {x y : Int} (h : P2 H p x y) : pairV H (.ref p) = some (x, y) := by simp only [pairV, h, pairL]
theorem pairV_some {H : Hp} {v : V} {q : Int × Int} (h : pairV H v = some q) : ∃ p, v = .ref p ∧ P2 H p q.1 q.2 := by
  unfold pairV at h
  split at h
  · rename_i p
    split at h
    · rename_i xs e; exact ⟨p, rfl, by rw [P2, e, pairL_some h]⟩
    · cases h
  · cases h
/-- what is asked of a value that is_pair looks at -/
inductive PairK (K : PySem.W.Frag) (H : Hp) : V → Prop
  | non : PairK K H .non
  | bl (b : Bool) : PairK K H (.bl b)
  | int (i : Int) : PairK K H (.int i)
  | str (s : Str) : PairK K H (.str s)
  | lst {p : Addr} {xs : List V} : H p = some (.lst xs) → PairK K H (.ref p)
  | tup {p : Addr} {xs : List V} : H p = some (.tup xs) → (∀ z ∈ xs, Wh K H z) → PairK K H (.ref p)
  | ins {p C dx : Addr} {fs : List (Str × V)} : H p = some (.ins C dx fs) → ClsI K C → PySem.W.kitOne K (.ref C) (.type "tuple") = some false → PairK K H (.ref p)
theorem PairK.ty {K : PySem.W.Frag} {H : Hp} {v : V} (h : PairK K H v) : (∃ p xs, v = .ref p ∧ H p = some (.tup xs) ∧ ∀ z ∈ xs, Wh K H z) ∨ ∃ t, TyX K H v t ∧ PySem.W.kitOne K t (.type "tuple") = some false ∧ pairV H v = none := by
  cases h with
  | non => exact .inr ⟨_, .base .non, kit_ty (by decide +kernel), rfl⟩
  | bl b => exact .inr ⟨_, .base (.bl b), kit_ty (by decide +kernel), rfl⟩
  | int i => exact .inr ⟨_, .base (.int i), kit_ty (by decide +kernel), rfl⟩
  | str s => exact .inr ⟨_, .base (.str s), kit_ty (by decide +kernel), rfl⟩
  | lst h => exact .inr ⟨_, .base (.lst h), kit_ty (by decide +kernel), by simp only [pairV, h]⟩
  | tup h w => exact .inl ⟨_, _, rfl, h, w⟩
  | ins h T k => exact .inr ⟨_, T.ty h, k, by simp only [pairV, h]⟩
theorem P2.k {K : PySem.W.Frag} {H : Hp} {p : Addr} {x y : Int} (h : P2 H p x y) : PairK K H (.ref p) := .tup h fun z hz => by
  simp only [List.mem_cons, List.not_mem_nil, or_false] at hz
  rcases hz with rfl | rfl <;> exact wh_int
theorem PairK.mono {K : PySem.W.Frag} {H H' : Hp} {v : V} (h : PairK K H v) (s : Same H H') : PairK K H' v := by
  cases h with
  | non => exact .non
  | bl b => exact .bl b
  | int i => exact .int i
  | str s => exact .str s
  | lst h => exact .lst (s _ _ h)
  | tup h w => exact .tup (s _ _ h) fun z hz => wh_mono (w z hz) s
  | ins h T k => exact .ins (s _ _ h) T k
theorem pairV_mono {H H' : Hp} {p : Addr} {o : HO} (h : H p = some o) (s : Same H H') : pairV H' (.ref p) = pairV H (.ref p) := by simp only [pairV, h, s _ _ h]
theorem PairK.same {K : PySem.W.Frag} {H H' : Hp} {v : V} (h : PairK K H v) (s : Same H H') : pairV H' v = pairV H v := by
  cases h with
  | non => rfl
  | bl b => rfl
  | int i => rfl
  | str s => rfl
  | lst h => exact pairV_mono h s
  | tup h w => exact pairV_mono h s
  | ins h T k => exact pairV_mono h s
/-! ### a list of pairs grows -/
theorem PairsAt.push {H : Hp} {D t : Addr} {ps : List (Option Int × Option Int)} {q : Option Int × Option Int} (h : PairsAt H D ps) (e : H t = some (.tup [ov q.1, ov q.2])) (hl : ps.length < 100000) :
    ∃ acc, H D = some (.lst acc) ∧ acc.length < sizeLine ∧ PairsAt (L2.upd H D (.lst (acc ++ [.ref t]))) D (ps ++ [q]) := by
  obtain ⟨xs, hD, hp⟩ := h
  refine ⟨xs, hD, by rw [hp.length, sizeLine_eq]; omega, _, upd_same, PAll.snoc (hp.monoT fun b us hb => ?_) ?_⟩
  · rw [upd_ne (ne_of hb hD (by intro z; cases z))]; exact hb
  · rw [upd_ne (ne_of e hD (by intro z; cases z))]; exact e
/-! ### the operators of own classes, asked -/
theorem own_in {C a dx : Addr} {fs : List (Str × V)} {sp : Sp} {E : XK} {x : V} {H : Hp} {Q : VK} {neg : Bool} (h : H a = some (.ins C dx fs)) (q : sp [.ref a, x] H (fun v H' => ∃ b, v = .bl b ∧ Q (.bl (if neg = true then !b else b)) H') E) : rOwnIn C neg sp E x (.ref a) H Q := ⟨a, dx, fs, rfl, h, q⟩
theorem own_op {K : PySem.W.Frag} {C a dx : Addr} {fs : List (Str × V)} {sp : Sp} {E : XK} {y : V} {H : Hp} {Q : VK} (h : H a = some (.ins C dx fs)) {t : Value} (ty : TyX K H y t) (n : PySem.W.notFirst K C t = true) (q : sp [.ref a, y] H (fun v H' => ∃ b, v = .bl b ∧ Q (.bl b) H') E) : rOwn K C sp E (.ref a) y H Q := ⟨a, dx, fs, rfl, h, ⟨t, ty, n⟩, q⟩
theorem notFirst_self {K : PySem.W.Frag} {C : Addr} : PySem.W.notFirst K C (.ref C) = true := by simp [PySem.W.notFirst]
/-! ### a comprehension over a range from 0 -/
theorem st_lcR1 {ta : TA} {g : TG} {tt : TT} {te : TE} {vs : List Nat} {σ : L2.St} {H : Hp} {Q : VK} (n : Int) (hn : -(2 ^ 62) ≤ n ∧ n < 2 ^ 62) (ha : ∀ R : List V → Hp → Prop, R [.int n] H → ta σ H R)
    (Pv : Addr → Nat → Hp → Prop) (h0 : ∀ D H1, H D = none → Same H H1 → H1 D = some (.lst []) → Pv D 0 H1)
    (hs : ∀ D i H, i < n.toNat → Pv D i H → g (.int i) (wipe σ vs) H fun σ2 H2 => wipe σ2 vs = wipe σ vs ∧ tt σ2 H2 fun b H3 => if b = true then te σ2 H3 fun y H4 => ∃ acc, H4 D = some (.lst acc) ∧ acc.length < sizeLine ∧ Pv D (i + 1) (upd H4 D (.lst (acc ++ [y]))) else Pv D (i + 1) H3)
    (hd : ∀ D H, Pv D n.toNat H → Q (.ref D) H) : tLc (iRng1 ta) g tt te vs σ H Q :=
  ha _ ⟨n, rfl, hn.1, hn.2, fun D hD => lc_range (Pv D) (h0 D _ hD (Same.upd hD) upd_same) (fun i H hi p => by rw [Int.zero_add]; exact hs D i H hi p) (hd D)⟩
theorem PAll.app {H : Hp} {xs ys : List V} {ps qs : List (Option Int × Option Int)} (h : PAll H xs ps) (k : PAll H ys qs) : PAll H (xs ++ ys) (ps ++ qs) := by
  induction h with
  | nil => exact k
  | cons e _ ih => exact .cons e ih
/-! ### kept where tables of code may grow -/
section
open LamX
theorem tyX_ext {K : PySem.W.Frag} {H H' : Hp} {x : V} {t : Value} (h : TyX K H x t) (s : ExtN H H') : TyX K H' x t := by
  cases h with
  | base b =>
    cases b with
    | non => exact .base .non
    | bl b => exact .base (.bl b)
    | int i => exact .base (.int i)
    | str y => exact .base (.str y)
    | flt y => exact .base (.flt y)
    | lst e => exact .base (.lst (s _ _ e fun _ z => by cases z))
    | frz e => exact .base (.frz (s _ _ e fun _ z => by cases z))
    | tup e => exact .base (.tup (s _ _ e fun _ z => by cases z))
    | dK e => exact .base (.dK (s _ _ e fun _ z => by cases z))
    | dT e => exact .base (.dT (s _ _ e fun _ z => by cases z))
    | ins e a b c d f => exact .base (.ins (s _ _ e fun _ z => by cases z) a b c d f)
  | byt b => exact .byt b
  | set e => exact .set (s _ _ e fun _ z => by cases z)
  | kList e c => exact .kList e c
  | kTuple e c => exact .kTuple e c
  | kDict e c => exact .kDict e c
  | fTuple e => exact .fTuple (s _ _ e fun _ z => by cases z)
  | fDict e => exact .fDict (s _ _ e fun _ z => by cases z)
theorem wh_ext {K : PySem.W.Frag} {H H' : Hp} {x : V} (h : Wh K H x) (s : ExtN H H') : Wh K H' x := let ⟨t, b, c, ty, r⟩ := h; ⟨t, b, c, tyX_ext ty s, r⟩
theorem PairK.ext {K : PySem.W.Frag} {H H' : Hp} {v : V} (h : PairK K H v) (s : ExtN H H') : PairK K H' v := by
  cases h with
  | non => exact .non
  | bl b => exact .bl b
  | int i => exact .int i
  | str s => exact .str s
  | lst h => exact .lst (s _ _ h fun _ z => by cases z)
  | tup h w => exact .tup (s _ _ h fun _ z => by cases z) fun z hz => wh_ext (w z hz) s
  | ins h T k => exact .ins (s _ _ h fun _ z => by cases z) T k
theorem PairK.sameX {K : PySem.W.Frag} {H H' : Hp} {v : V} (h : PairK K H v) (s : ExtN H H') : pairV H' v = pairV H v := by
  cases h with
  | non => rfl
  | bl b => rfl
  | int i => rfl
  | str s => rfl
  | lst h => simp only [pairV, h, s _ _ h fun _ z => by cases z]
  | tup h w => simp only [pairV, h, s _ _ h fun _ z => by cases z]
  | ins h T k => simp only [pairV, h, s _ _ h fun _ z => by cases z]
theorem extI {H H' : Hp} {p C dx : Addr} {fs : List (Str × V)} (e : ExtN H H') (h : H p = some (.ins C dx fs)) : H' p = some (.ins C dx fs) := e p _ h fun ps z => by cases z
/-- a list that grows by an item: the tables stay -/
theorem Tabs.put {T : List (Addr × Str)} {H H' : Hp} {L : Addr} {xs ys : List V} (hT : Tabs T H) (hL : H L = some (.lst xs)) (p : Put H H' L (.lst ys)) : Tabs T H' := by
  have key : ∀ b o, H b = some o → (∀ xs, o ≠ .lst xs) → H' b = some o := fun b o h hn => by
    rw [p.2 b (fun z => by subst z; rw [hL] at h; exact hn _ (Option.some.inj h).symm)]; exact h
  intro x hx
  obtain ⟨ps, h1, h2, h3⟩ := hT x hx
  refine ⟨ps, key _ _ h1 (fun xs z => by cases z), h2, fun pos cv hcv => ?_⟩
  obtain ⟨c0, e1, e2⟩ := h3 pos cv hcv
  exact ⟨c0, e1, key _ _ e2 (fun xs z => by unfold CodeO at z; cases z)⟩
theorem Put.other {H H' : Hp} {L b : Addr} {o u : HO} (p : Put H H' L o) (h : H b = some u) (n : b ≠ L) : H' b = some u := by rw [p.2 b n]; exact h
end
/-! ### texts as data -/
theorem ShN.str {n : Nat} {z : Str} (h : PyData.strOk z = true) : ShN n (.str z) := ⟨by simp [PyData.canLay0, h], by simp [PyData.depth]⟩
theorem dp_strs {K : PySem.W.Frag} {H : Hp} {p : Addr} {zs : List Str} (h : H p = some (.lst (zs.map V.str))) : Dp K H (.ref p) (.list (zs.map PyData.str)) := by
  refine .lst (SqL.of h) ?_
  clear h
  induction zs with
  | nil => exact .nil
  | cons z zs ih => exact .cons (.str z) ih
theorem sh_strs {n : Nat} {zs : List Str} (h : ∀ z ∈ zs, PyData.strOk z = true) : ShN (n + 1) (.list (zs.map PyData.str)) := (ShN.list (n := 0) fun d hd => by
  obtain ⟨z, hz, rfl⟩ := List.mem_map.mp hd; exact ShN.str (h z hz)).up (by omega)
theorem sh_ll {n : Nat} {x y u v : Str} (hx : PyData.strOk x = true) (hy : PyData.strOk y = true) (hu : PyData.strOk u = true) (hv : PyData.strOk v = true) : ShN (n + 2) (.list [.list [.str x, .str y], .list [.str u, .str v]]) := (ShN.list (n := 1) fun d h => by
  simp only [List.mem_cons, List.not_mem_nil, or_false] at h
  rcases h with rfl | rfl
  · exact sh_l2 (n := 0) hx hy
  · exact sh_l2 (n := 0) hu hv).up (by omega)
/-! ### the script -/
def rLenS (K : PySem.W.Frag) : List V → Hp → VK → Prop := fun xs H Q => ∃ p ys, xs = [.ref p] ∧ SqL K H p ys ∧ Q (.int ys.length) H
theorem call_lenS {X : Cx} : CallR X (.builtin "len") (rLenS X.K) := CallR.imp call_len_seq fun xs H Q ⟨p, ys, a, b, q⟩ => ⟨p, ys, a, .inl b, q⟩
theorem sqL_ext {K : PySem.W.Frag} {H H' : Hp} {a : Addr} {xs : List V} (h : SqL K H a xs) (e : LamX.ExtN H H') : SqL K H' a xs :=
  h.elim (fun h => .inl (h.elim (fun h => .inl (e _ _ h fun _ z => by cases z)) fun ⟨o, h⟩ => .inr ⟨o, e _ _ h fun _ z => by cases z⟩)) fun h => .inr h
end Iz
/-! Mx -/
namespace Iz
/-! ### how great a number is -/
def lg (x : Int) : Nat := if x = 0 then 0 else x.natAbs.log2 + 1
theorem lg_lt {x : Int} {n : Nat} (h : x.natAbs < 2 ^ n) : lg x ≤ n := by
  unfold lg
  split
  · omega
  · rename_i hx
    have := (Nat.log2_lt (n := x.natAbs) (k := n) (by omega)).mpr h
    omega
theorem lg_self (x : Int) : x.natAbs < 2 ^ lg x := by
  unfold lg
  split
  · rename_i h; subst h; decide
  · exact Nat.lt_log2_self
theorem lg_mono {x y : Int} (h : x.natAbs ≤ y.natAbs) : lg x ≤ lg y := lg_lt (Nat.lt_of_le_of_lt h (lg_self y))
theorem lg_half {x y : Int} (h : 2 * x.natAbs < y.natAbs) : lg x + 1 ≤ lg y := by
  have h1 := lg_self y
  have hy : 0 < lg y := by unfold lg; split <;> omega
  obtain ⟨n, hn⟩ : ∃ n, lg y = n + 1 := ⟨lg y - 1, by omega⟩
  rw [hn] at h1 ⊢
  have h2 : x.natAbs < 2 ^ n := by rw [Nat.pow_succ] at h1; omega
  have := lg_lt h2
  omega
def same (d r : Int) : Prop := (0 ≤ d ∧ 0 ≤ r) ∨ (d ≤ 0 ∧ r ≤ 0)
instance (d r : Int) : Decidable (same d r) := by unfold same; infer_instance
def bud (d r : Int) : Nat := if same d r then lg d + lg r + (if d.natAbs < r.natAbs then 1 else 0) else 2 * lg r + 1
/-- the rest of a division by floors -/
theorem rest_pos {d r : Int} (h : 0 < r) : 0 ≤ d - d.fdiv r * r ∧ d - d.fdiv r * r < r := by
  rw [Int.fdiv_eq_ediv_of_nonneg d (by omega)]
  have h1 := Int.emod_nonneg d (b := r) (by omega)
  have h2 := Int.emod_lt_of_pos d h
  have h3 := Int.emod_add_mul_ediv d r
  rw [Int.mul_comm] at h3
  omega
theorem rest_neg {d r : Int} (h : r < 0) : r < d - d.fdiv r * r ∧ d - d.fdiv r * r ≤ 0 := by
  have h1 := rest_pos (d := -d) (r := -r) (by omega)
  rw [Int.neg_fdiv_neg, Int.mul_neg] at h1
  omega
theorem fdiv_le (d r : Int) : (d.fdiv r).natAbs ≤ d.natAbs := by
  by_cases h : 0 ≤ r
  · rw [Int.fdiv_eq_ediv_of_nonneg d h]; exact Int.natAbs_ediv_le_natAbs _ _
  · rw [← Int.neg_fdiv_neg, Int.fdiv_eq_ediv_of_nonneg _ (by omega), ← Int.natAbs_neg d]; exact Int.natAbs_ediv_le_natAbs _ _
theorem fdiv_same {d r : Int} (hr : r ≠ 0) (hs : same d r) (hl : r.natAbs ≤ d.natAbs) : 2 * (d - d.fdiv r * r).natAbs < d.natAbs := by
  rcases Int.lt_or_gt_of_ne hr with h | h
  · have hd : d < 0 := by rcases hs with hs | hs <;> omega
    have h1 := rest_neg (d := d) h
    have ht : 1 ≤ d.fdiv r := by
      rw [← Int.neg_fdiv_neg, Int.fdiv_eq_ediv_of_nonneg _ (by omega)]
      exact (Int.le_ediv_iff_mul_le (by omega)).mpr (by omega)
    have h2 : d.fdiv r * r ≤ 1 * r := Int.mul_le_mul_of_nonpos_right ht (by omega)
    omega
  · have hd : 0 < d := by rcases hs with hs | hs <;> omega
    have h1 := rest_pos (d := d) h
    have ht : 1 ≤ d.fdiv r := by
      rw [Int.fdiv_eq_ediv_of_nonneg _ (by omega)]
      exact (Int.le_ediv_iff_mul_le (by omega)).mpr (by omega)
    have h2 : 1 * r ≤ d.fdiv r * r := Int.mul_le_mul_of_nonneg_right ht (by omega)
    omega
theorem fdiv_small {d r : Int} (hr : r ≠ 0) (hs : same d r) (hl : d.natAbs < r.natAbs) : d - d.fdiv r * r = d := by
  have : d.fdiv r = 0 := by
    rcases Int.lt_or_gt_of_ne hr with h | h
    · rw [← Int.neg_fdiv_neg, Int.fdiv_eq_ediv_of_nonneg _ (by omega)]
      exact Int.ediv_eq_zero_of_lt (by rcases hs with hs | hs <;> omega) (by rcases hs with hs | hs <;> omega)
    · rw [Int.fdiv_eq_ediv_of_nonneg _ (by omega)]
      exact Int.ediv_eq_zero_of_lt (by rcases hs with hs | hs <;> omega) (by rcases hs with hs | hs <;> omega)
  rw [this]; omega
theorem bud_step {d r : Int} (hr : r ≠ 0) : bud r (d - d.fdiv r * r) < bud d r := by
  have hlt : (d - d.fdiv r * r).natAbs < r.natAbs := by
    rcases Int.lt_or_gt_of_ne hr with h | h
    · have := rest_neg (d := d) h; omega
    · have := rest_pos (d := d) h; omega
  have hs' : same r (d - d.fdiv r * r) := by
    rcases Int.lt_or_gt_of_ne hr with h | h
    · have := rest_neg (d := d) h; exact .inr ⟨by omega, by omega⟩
    · have := rest_pos (d := d) h; exact .inl ⟨by omega, by omega⟩
  unfold bud
  rw [if_pos hs', if_neg (by omega)]
  by_cases hs : same d r
  · rw [if_pos hs]
    by_cases hl : d.natAbs < r.natAbs
    · rw [if_pos hl, fdiv_small hr hs hl]; omega
    · rw [if_neg hl]
      have := lg_half (fdiv_same hr hs (by omega))
      omega
  · rw [if_neg hs]
    have := lg_mono (x := d - d.fdiv r * r) (y := r) (by omega)
    omega
theorem bud_le {d r : Int} {n : Nat} (hd : d.natAbs < 2 ^ n) (hr : r.natAbs < 2 ^ n) : bud d r ≤ 2 * n + 1 := by
  have h1 := lg_lt hd
  have h2 := lg_lt hr
  unfold bud
  split
  · split <;> omega
  · omega
/-! ### the weighed divisor's loop -/
structure EI (one other d u v r nu nv : Int) (k : Nat) : Prop where
  e1 : u * one + v * other = d
  e2 : nu * one + nv * other = r
  g : Int.gcd d r = Int.gcd one other
  hd : d.natAbs < 2 ^ 250
  hr : r.natAbs < 2 ^ 250
  bu : u.natAbs ≤ 2 ^ (251 * k)
  bv : v.natAbs ≤ 2 ^ (251 * k)
  bnu : nu.natAbs ≤ 2 ^ (251 * k)
  bnv : nv.natAbs ≤ 2 ^ (251 * k)
  kb : k + bud d r ≤ 501
theorem EI.start {one other : Int} (h1 : one.natAbs < 2 ^ 250) (h2 : other.natAbs < 2 ^ 250) : EI one other one 1 0 other 0 1 0 :=
  ⟨by omega, by omega, rfl, h1, h2, by decide, by decide, by decide, by decide, by have := bud_le h1 h2; omega⟩
theorem grow {u t nu : Int} {k : Nat} (hu : u.natAbs ≤ 2 ^ (251 * k)) (hn : nu.natAbs ≤ 2 ^ (251 * k)) (ht : t.natAbs < 2 ^ 250) : (u - t * nu).natAbs ≤ 2 ^ (251 * (k + 1)) := by
  have h1 : (t * nu).natAbs ≤ 2 ^ 250 * 2 ^ (251 * k) := by rw [Int.natAbs_mul]; exact Nat.mul_le_mul (Nat.le_of_lt ht) hn
  have h2 : (u - t * nu).natAbs ≤ u.natAbs + (t * nu).natAbs := by omega
  have h3 : 2 ^ (251 * (k + 1)) = 2 * 2 ^ 250 * 2 ^ (251 * k) := by rw [Nat.mul_succ, Nat.pow_add, show (251 : Nat) = 250 + 1 from rfl, Nat.pow_succ]; rw [Nat.mul_comm, Nat.mul_comm (2 ^ 250) 2]
  have h4 : (1 : Nat) * 2 ^ (251 * k) ≤ 2 ^ 250 * 2 ^ (251 * k) := Nat.mul_le_mul_right _ (Nat.one_le_two_pow)
  rw [h3, Nat.mul_assoc]
  generalize 2 ^ 250 * 2 ^ (251 * k) = A at *
  omega
theorem EI.next {one other d u v r nu nv : Int} {k : Nat} (I : EI one other d u v r nu nv k) (h : r ≠ 0) :
    EI one other r nu nv (d - d.fdiv r * r) (u - d.fdiv r * nu) (v - d.fdiv r * nv) (k + 1) := by
  have ht : (d.fdiv r).natAbs < 2 ^ 250 := Nat.lt_of_le_of_lt (fdiv_le d r) I.hd
  have hm : ∀ {z : Int}, z.natAbs ≤ 2 ^ (251 * k) → z.natAbs ≤ 2 ^ (251 * (k + 1)) := fun hz => Nat.le_trans hz (Nat.pow_le_pow_right (by decide) (by omega))
  refine ⟨I.e2, ?_, ?_, I.hr, ?_, hm I.bnu, hm I.bnv, grow I.bu I.bnu ht, grow I.bv I.bnv ht, ?_⟩
  · generalize d.fdiv r = t
    rw [← I.e1, ← I.e2, Int.sub_mul, Int.sub_mul, Int.mul_add, Int.mul_assoc, Int.mul_assoc]; omega
  · rw [← I.g, Int.gcd_comm d r, Int.mul_comm]; exact Int.gcd_sub_mul_left_right _ _ _
  · refine Nat.lt_trans (?_ : _ < r.natAbs) I.hr
    rcases Int.lt_or_gt_of_ne h with h | h
    · have := rest_neg (d := d) h; omega
    · have := rest_pos (d := d) h; omega
  · have := bud_step (d := d) h
    have := I.kb
    omega
theorem EI.done {one other d u v nu nv : Int} {k : Nat} (I : EI one other d u v 0 nu nv k) : d.natAbs = Int.gcd one other ∧ u * one + v * other = d ∧ u.natAbs ≤ 2 ^ 130000 := by
  refine ⟨?_, I.e1, Nat.le_trans I.bu (Nat.pow_le_pow_right (by decide) (by have := I.kb; omega))⟩
  have := I.g
  rw [Int.gcd_zero_right] at this
  exact this
theorem EI.quo {one other d u v r nu nv : Int} {k : Nat} (I : EI one other d u v r nu nv k) : (d.fdiv r).natAbs < 2 ^ 250 := Nat.lt_of_le_of_lt (fdiv_le d r) I.hd
theorem EI.big {one other d u v r nu nv z : Int} {k : Nat} (I : EI one other d u v r nu nv k) (h : z.natAbs ≤ 2 ^ (251 * k)) : z.natAbs < 2 ^ 130000 := Nat.lt_of_le_of_lt h (Nat.pow_lt_pow_right (by decide) (by have := I.kb; omega))
end Iz
/-! My -/
namespace Iz
theorem gpos {b p : Int} (hp : 1 ≤ p) : 0 < (Int.gcd b p : Int) := by have := Int.gcd_pos_of_ne_zero_right b (show p ≠ 0 by omega); omega
theorem qpos {b p : Int} (hp : 1 ≤ p) : 0 < p / (Int.gcd b p : Int) := Int.ediv_pos_of_pos_of_dvd (by omega) (by omega) (Int.gcd_dvd_right b p)
theorem line_sol {a b r p u v : Int} (hp : 1 ≤ p) (h : u * b + v * p = (Int.gcd b p : Int)) (hd : (r - a) % (Int.gcd b p : Int) = 0) :
    (a + b * ((r - a) / (Int.gcd b p : Int) * u % (p / (Int.gcd b p : Int))) - r) % p = 0 := by
  have hg := gpos (b := b) hp
  have e1 : (Int.gcd b p : Int) * (p / (Int.gcd b p : Int)) = p := Int.mul_ediv_cancel' (Int.gcd_dvd_right b p)
  have e2 : (Int.gcd b p : Int) * (b / (Int.gcd b p : Int)) = b := Int.mul_ediv_cancel' (Int.gcd_dvd_left b p)
  have e3 : (Int.gcd b p : Int) * ((r - a) / (Int.gcd b p : Int)) = r - a := Int.mul_ediv_cancel' (Int.dvd_of_emod_eq_zero hd)
  generalize (Int.gcd b p : Int) = g at *
  generalize hq : p / g = q at *
  generalize hk : (r - a) / g = k at *
  generalize hb : b / g = b' at *
  have e4 := Int.emod_add_mul_ediv (k * u) q
  generalize k * u % q = s at *
  generalize k * u / q = m at *
  refine Int.emod_eq_zero_of_dvd ⟨-(k * v + b' * m), ?_⟩
  have e5 : s = k * u - q * m := by omega
  have e6 : b * s = b * (k * u) - b * (q * m) := by rw [e5, Int.mul_sub]
  have e7 : b * (q * m) = p * (b' * m) := by rw [← e1, ← e2, Int.mul_assoc g b', Int.mul_assoc g q]; congr 1; rw [← Int.mul_assoc, ← Int.mul_assoc, Int.mul_comm b' q, Int.mul_assoc]
  have e8 : b * (k * u) = k * (u * b) := by rw [Int.mul_comm b, Int.mul_assoc]
  have e9 : k * (u * b) = k * g - k * (v * p) := by rw [← Int.mul_sub]; congr 1; omega
  have e10 : k * (v * p) = p * (k * v) := by rw [← Int.mul_assoc, Int.mul_comm]
  have e11 : k * g = r - a := by rw [Int.mul_comm]; exact e3
  rw [Int.mul_neg, Int.mul_add]
  omega
theorem dvd_line {b p k : Int} (hp : 1 ≤ p) : p ∣ b * k ↔ p / (Int.gcd b p : Int) ∣ k := by
  have hg := gpos (b := b) hp
  have e1 : (Int.gcd b p : Int) * (p / (Int.gcd b p : Int)) = p := Int.mul_ediv_cancel' (Int.gcd_dvd_right b p)
  have e2 : (Int.gcd b p : Int) * (b / (Int.gcd b p : Int)) = b := Int.mul_ediv_cancel' (Int.gcd_dvd_left b p)
  have co := Int.gcd_ediv_gcd_ediv_gcd (i := b) (j := p) (by omega)
  generalize (Int.gcd b p : Int) = g at *
  generalize p / g = q at *
  generalize b / g = b' at *
  rw [← e1, ← e2, Int.mul_assoc, Int.mul_dvd_mul_iff_left (by omega)]
  constructor
  · intro h
    have h2 : q.natAbs ∣ b'.natAbs * k.natAbs := by rw [← Int.natAbs_mul]; exact Int.natAbs_dvd_natAbs.mpr h
    have h3 : Nat.Coprime q.natAbs b'.natAbs := by
      rw [Int.gcd_eq_natAbs_gcd_natAbs, Nat.gcd_comm] at co; exact co
    exact Int.natAbs_dvd_natAbs.mp (h3.dvd_of_dvd_mul_left h2)
  · exact fun h => Int.dvd_mul_of_dvd_right h
/-- of which i a + b i is r modulo p -/
theorem line_iff {a b r p s i : Int} (hp : 1 ≤ p) (h : (a + b * s - r) % p = 0) : (a + b * i - r) % p = 0 ↔ (i - s) % (p / (Int.gcd b p : Int)) = 0 := by
  have h1 := Int.dvd_of_emod_eq_zero h
  have e : a + b * i - r = (a + b * s - r) + b * (i - s) := by rw [Int.mul_sub]; omega
  rw [← Int.dvd_iff_emod_eq_zero, ← Int.dvd_iff_emod_eq_zero, e, ← dvd_line hp]
  exact Int.dvd_add_right h1
theorem gcd_small {b p : Int} {n : Nat} (hp : 1 ≤ p) (h : p.natAbs < 2 ^ n) : (Int.gcd b p : Int).natAbs < 2 ^ n := by
  have := Int.le_of_dvd (by omega) (Int.gcd_dvd_right b p)
  have := gpos (b := b) hp
  omega
theorem ediv_small {x g : Int} {n : Nat} (h : x.natAbs < 2 ^ n) : (x / g).natAbs < 2 ^ n := Nat.lt_of_le_of_lt (Int.natAbs_ediv_le_natAbs _ _) h
theorem pow_small {x m n : Nat} (h : x < 2 ^ m) (hm : m ≤ n) : x < 2 ^ n := Nat.lt_of_lt_of_le h (Nat.pow_le_pow_right (by decide) hm)
theorem mod_sub {a m n r : Int} (h : n ∣ m) (hr : n ∣ a - r) : (a % m - r) % n = 0 := by
  refine Int.emod_eq_zero_of_dvd ?_
  have h1 : n ∣ a - a % m := Int.dvd_trans h Int.dvd_self_sub_emod
  have e : a % m - r = (a - r) - (a - a % m) := by omega
  rw [e]; exact Int.dvd_sub hr h1
theorem both_sol {r p o q s : Int} (hq : 1 ≤ q) (h : (r + p * s - o) % q = 0) :
    ((r + p * s) % (p * (q / (Int.gcd p q : Int))) - r) % p = 0 ∧ ((r + p * s) % (p * (q / (Int.gcd p q : Int))) - o) % q = 0 := by
  refine ⟨mod_sub (Int.dvd_mul_right _ _) (by rw [show r + p * s - r = p * s by omega]; exact Int.dvd_mul_right _ _), mod_sub ?_ (Int.dvd_of_emod_eq_zero h)⟩
  have e1 : (Int.gcd p q : Int) * (q / (Int.gcd p q : Int)) = q := Int.mul_ediv_cancel' (Int.gcd_dvd_right p q)
  obtain ⟨c, hc⟩ := Int.gcd_dvd_left p q
  refine ⟨c, ?_⟩
  have : p * (q / (Int.gcd p q : Int)) = (Int.gcd p q : Int) * (q / (Int.gcd p q : Int)) * c := by
    conv => lhs; rw [hc]
    rw [Int.mul_assoc, Int.mul_assoc, Int.mul_comm c]
    congr 2
    rw [← hc]
  rw [this, e1]
/-! ### Euclid's steps -/
theorem bud_mod {d r : Int} (h : 0 < r) : bud r (d % r) < bud d r := by
  have := bud_step (d := d) (r := r) (by omega)
  rw [Int.fdiv_eq_ediv_of_nonneg d (by omega)] at this
  have e := Int.emod_def d r
  rw [Int.mul_comm] at e
  rw [e]; exact this
theorem mod_swap {a b g : Int} : (a - b) % g = 0 ↔ (b - a) % g = 0 := by
  rw [← Int.dvd_iff_emod_eq_zero, ← Int.dvd_iff_emod_eq_zero, ← Int.dvd_neg]
  rw [show -(a - b) = b - a by omega]
theorem mul_div_gcd {p q : Int} : p * (q / (Int.gcd p q : Int)) = p / (Int.gcd p q : Int) * q := by
  rw [← Int.mul_ediv_assoc _ (Int.gcd_dvd_right p q), Int.mul_comm p q, Int.mul_ediv_assoc _ (Int.gcd_dvd_left p q), Int.mul_comm]
theorem lcm_abs {x y : Int} : (x.natAbs : Int) / (Int.gcd (x.natAbs : Int) (y.natAbs : Int) : Int) * (y.natAbs : Int) = ((x * y).natAbs : Int) / (Int.gcd x y : Int) := by
  have e : Int.gcd (x.natAbs : Int) (y.natAbs : Int) = Int.gcd x y := by rw [Int.gcd_eq_natAbs_gcd_natAbs, Int.gcd_eq_natAbs_gcd_natAbs]; rfl
  have d : (Int.gcd x y : Int) ∣ (y.natAbs : Int) := Int.dvd_natAbs.mpr (Int.gcd_dvd_right x y)
  have d2 : (Int.gcd x y : Int) ∣ (x.natAbs : Int) := Int.dvd_natAbs.mpr (Int.gcd_dvd_left x y)
  rw [e, Int.natAbs_mul, Int.natCast_mul, Int.mul_comm (x.natAbs : Int) (y.natAbs : Int), Int.mul_ediv_assoc _ d2, Int.mul_comm]
end Iz
/-! k08_text -/
set_option Elab.async false
set_option linter.all false
set_option maxRecDepth 100000
set_option maxHeartbeats 4000000
namespace Iz
open PySem PySem.Spec PyProof.Rows L2
open He (ga)
local macro_rules | `(tactic| walk_at "wp") => `(tactic| simp only [tSl, tPart, tNoPart, rSlLN, rMax2, rMin2, gUnlN, tYes, rLenS, cx_K, Value.ref.injEq, HO.xd.injEq, lk0, tSeq, tPar3, tPar, tCons, tNil, tVar, tC, tAsg, gName, gCons, gNil, gTupN, gSub, tOp, rI, rI0, rU, tTest, rNe, rEq, rIxTN, rIxLN, rLenL, rLenT, rIntI, rIntB, rAbs, rSetLN, tTruL, tRaiseX, rIsTy, rIsOw, ixN0, ixN1, tRet, tIf, tIfS, tNext, tBreak, tCont, tDrop, tTupN, tLstN, tUn, tCB, tCall, tNot, tAnd, tOr, tB, tAndV, tOrV, tNotV, tChain, tApp, LamX.tLam, tRevLN, rCatN, rInTN, rInLN, flatV, inV, List.all_cons, List.all_nil, List.any_cons, List.any_nil, Bool.and_self, Bool.and_true, if_true, Bool.false_eq_true, if_false, tMt, tFldN, tSto, HO.ins.injEq, lkh, List.drop_zero, List.drop_succ_cons, List.drop_nil, rListS, wipe, L2.start, List.map_cons, List.map_nil, List.length_cons, List.length_nil, List.replicate, List.cons_append, List.nil_append, List.append_nil, Nat.reduceAdd, Nat.reduceSub, Nat.zero_add, List.replicate_succ, List.replicate_zero, List.getElem?_cons_zero, List.getElem?_cons_succ, List.set_cons_zero, List.set_cons_succ, Option.some.injEq, V.int.injEq, V.bl.injEq, V.ref.injEq, V.str.injEq, V.ty.injEq, List.cons.injEq, HO.tup.injEq, HO.lst.injEq, and_true, true_and, and_assoc, exists_eq_left, exists_eq_left', exists_and_left, exists_eq', atI0, atI1, atI2, atI3, Int.cast_ofNat_Int, Int.reduceToNat, scal_ii, scal_in, scal_ni, scal_nn, scal_bb, scal_ss, scal_sn, scal_ns, scal_bn, scal_nb, ite_iff, decide_eq_true_eq, decide_eq_false_iff_not, Bool.not_eq_true', Classical.not_not, ne_eq, not_false_eq_true, not_true_eq_false, forall_const, true_implies, false_implies, imp_self, sizeLine_eq, Nat.reduceLeDiff, reduceCtorEq, decide_true, decide_false])
def top (i : Nat) : Stmt := PySem.Challenge.pw_endlessplane_k08_lattices_told.main.body.getD i (.Pass ⟨0, 0, 0, 0⟩)
abbrev s_is_whole : Stmt := top 8
abbrev N_is_whole : List Str := ["value"]
theorem sc_is_whole : FnScope ["value"] ["value"] (defScope s_is_whole) := ⟨rfl, rfl, rfl, by decide +kernel, rfl, by decide +kernel, by decide +kernel⟩
abbrev s_is_from : Stmt := top 9
abbrev N_is_from : List Str := ["value", "least"]
theorem sc_is_from : FnScope ["value", "least"] ["value", "least"] (defScope s_is_from) := ⟨rfl, rfl, rfl, by decide +kernel, rfl, by decide +kernel, by decide +kernel⟩
abbrev s_is_pair : Stmt := top 10
abbrev N_is_pair : List Str := ["value"]
theorem sc_is_pair : FnScope ["value"] ["value"] (defScope s_is_pair) := ⟨rfl, rfl, rfl, by decide +kernel, rfl, by decide +kernel, by decide +kernel⟩
abbrev s_require_whole : Stmt := top 11
abbrev N_require_whole : List Str := ["value"]
theorem sc_require_whole : FnScope ["value"] ["value"] (defScope s_require_whole) := ⟨rfl, rfl, rfl, by decide +kernel, rfl, by decide +kernel, by decide +kernel⟩
abbrev s_require_pair : Stmt := top 12
abbrev N_require_pair : List Str := ["value", "part"]
theorem sc_require_pair : FnScope ["value", "part"] ["value", "part"] (defScope s_require_pair) := ⟨rfl, rfl, rfl, by decide +kernel, rfl, by decide +kernel, by decide +kernel⟩
abbrev s_greatest_divisor : Stmt := top 14
abbrev N_greatest_divisor : List Str := ["one", "other"]
theorem sc_greatest_divisor : FnScope ["one", "other"] ["one", "other"] (defScope s_greatest_divisor) := ⟨rfl, rfl, rfl, by decide +kernel, rfl, by decide +kernel, by decide +kernel⟩
abbrev s_weighed_divisor : Stmt := top 15
abbrev N_weighed_divisor : List Str := ["one", "other", "divisor", "u", "v", "rest", "next_u", "next_v", "times"]
theorem sc_weighed_divisor : FnScope ["one", "other", "divisor", "u", "v", "rest", "next_u", "next_v", "times"] ["one", "other"] (defScope s_weighed_divisor) := ⟨rfl, rfl, rfl, by decide +kernel, rfl, by decide +kernel, by decide +kernel⟩
abbrev s_is_shift : Stmt := top 17
abbrev N_is_shift : List Str := ["value"]
theorem sc_is_shift : FnScope ["value"] ["value"] (defScope s_is_shift) := ⟨rfl, rfl, rfl, by decide +kernel, rfl, by decide +kernel, by decide +kernel⟩
abbrev s_Lattice___init__ : Stmt := inClass (top 18) 0
abbrev N_Lattice___init__ : List Str := ["self", "a", "b", "d"]
theorem sc_Lattice___init__ : FnScope ["self", "a", "b", "d"] ["self", "a", "b", "d"] (defScope s_Lattice___init__) := ⟨rfl, rfl, rfl, by decide +kernel, rfl, by decide +kernel, by decide +kernel⟩
abbrev s_Lattice___eq__ : Stmt := inClass (top 18) 1
abbrev N_Lattice___eq__ : List Str := ["self", "other"]
theorem sc_Lattice___eq__ : FnScope ["self", "other"] ["self", "other"] (defScope s_Lattice___eq__) := ⟨rfl, rfl, rfl, by decide +kernel, rfl, by decide +kernel, by decide +kernel⟩
abbrev s_Lattice___le__ : Stmt := inClass (top 18) 2
abbrev N_Lattice___le__ : List Str := ["self", "other"]
theorem sc_Lattice___le__ : FnScope ["self", "other"] ["self", "other"] (defScope s_Lattice___le__) := ⟨rfl, rfl, rfl, by decide +kernel, rfl, by decide +kernel, by decide +kernel⟩
abbrev s_Lattice___contains__ : Stmt := inClass (top 18) 3
abbrev N_Lattice___contains__ : List Str := ["self", "shift"]
theorem sc_Lattice___contains__ : FnScope ["self", "shift"] ["self", "shift"] (defScope s_Lattice___contains__) := ⟨rfl, rfl, rfl, by decide +kernel, rfl, by decide +kernel, by decide +kernel⟩
abbrev s_Lattice_area : Stmt := inClass (top 18) 4
abbrev N_Lattice_area : List Str := ["self"]
theorem sc_Lattice_area : FnScope ["self"] ["self"] (defScope s_Lattice_area) := ⟨rfl, rfl, rfl, by decide +kernel, rfl, by decide +kernel, by decide +kernel⟩
abbrev s_Lattice_place : Stmt := inClass (top 18) 5
abbrev N_Lattice_place : List Str := ["self", "cell", "x", "y", "up"]
theorem sc_Lattice_place : FnScope ["self", "cell", "x", "y", "up"] ["self", "cell"] (defScope s_Lattice_place) := ⟨rfl, rfl, rfl, by decide +kernel, rfl, by decide +kernel, by decide +kernel⟩
abbrev s_Lattice_order : Stmt := inClass (top 18) 6
abbrev N_Lattice_order : List Str := ["self", "shift", "x", "y", "times", "rest"]
theorem sc_Lattice_order : FnScope ["self", "shift", "x", "y", "times", "rest"] ["self", "shift"] (defScope s_Lattice_order) := ⟨rfl, rfl, rfl, by decide +kernel, rfl, by decide +kernel, by decide +kernel⟩
abbrev s_Lattice_places : Stmt := inClass (top 18) 7
abbrev N_Lattice_places : List Str := ["self", "y", "x"]
theorem sc_Lattice_places : FnScope ["self", "y", "x"] ["self"] (defScope s_Lattice_places) := ⟨rfl, rfl, rfl, by decide +kernel, rfl, by decide +kernel, by decide +kernel⟩
abbrev s_require_lattice_numbers : Stmt := top 19
abbrev N_require_lattice_numbers : List Str := ["a", "b", "d"]
theorem sc_require_lattice_numbers : FnScope ["a", "b", "d"] ["a", "b", "d"] (defScope s_require_lattice_numbers) := ⟨rfl, rfl, rfl, by decide +kernel, rfl, by decide +kernel, by decide +kernel⟩
abbrev s__law_opened : Stmt := top 21
abbrev N__law_opened : List Str := ["_law_script", "_law_k", "_law_start", "_law_whole", "_law_seed"]
theorem sc__law_opened : FnScope ["_law_script", "_law_k", "_law_start", "_law_whole", "_law_seed"] ["_law_script", "_law_k"] (defScope s__law_opened) := ⟨rfl, rfl, rfl, by decide +kernel, rfl, by decide +kernel, by decide +kernel⟩
abbrev s__law_draw : Stmt := top 22
abbrev N__law_draw : List Str := ["_law_pool", "_law_many", "_law_found"]
theorem sc__law_draw : FnScope ["_law_pool", "_law_many", "_law_found"] ["_law_pool", "_law_many"] (defScope s__law_draw) := ⟨rfl, rfl, rfl, by decide +kernel, rfl, by decide +kernel, by decide +kernel⟩
abbrev s__law_pick : Stmt := top 23
abbrev N__law_pick : List Str := ["_law_pool", "_law_some"]
theorem sc__law_pick : FnScope ["_law_pool", "_law_some"] ["_law_pool", "_law_some"] (defScope s__law_pick) := ⟨rfl, rfl, rfl, by decide +kernel, rfl, by decide +kernel, by decide +kernel⟩
abbrev s__law_int : Stmt := top 24
abbrev N__law_int : List Str := ["_law_pool", "_law_size"]
theorem sc__law_int : FnScope ["_law_pool", "_law_size"] ["_law_pool"] (defScope s__law_int) := ⟨rfl, rfl, rfl, by decide +kernel, rfl, by decide +kernel, by decide +kernel⟩
abbrev s__law_three : Stmt := top 25
abbrev N__law_three : List Str := ["_law_pool", "_law_most", "_law_wide"]
theorem sc__law_three : FnScope ["_law_pool", "_law_most", "_law_wide"] ["_law_pool", "_law_most"] (defScope s__law_three) := ⟨rfl, rfl, rfl, by decide +kernel, rfl, by decide +kernel, by decide +kernel⟩
abbrev s__law_place : Stmt := top 26
abbrev N__law_place : List Str := ["_law_three_here", "_law_x", "_law_y", "_law_wide", "_law_slant", "_law_high"]
theorem sc__law_place : FnScope ["_law_three_here", "_law_x", "_law_y", "_law_wide", "_law_slant", "_law_high"] ["_law_three_here", "_law_x", "_law_y"] (defScope s__law_place) := ⟨rfl, rfl, rfl, by decide +kernel, rfl, by decide +kernel, by decide +kernel⟩
abbrev s__law_holds : Stmt := top 27
abbrev N__law_holds : List Str := ["_law_three_here", "_law_x", "_law_y"]
theorem sc__law_holds : FnScope ["_law_three_here", "_law_x", "_law_y"] ["_law_three_here", "_law_x", "_law_y"] (defScope s__law_holds) := ⟨rfl, rfl, rfl, by decide +kernel, rfl, by decide +kernel, by decide +kernel⟩
abbrev s__law_refused : Stmt := top 28
abbrev N__law_refused : List Str := ["_law_call", "e"]
theorem sc__law_refused : FnScope ["_law_call", "e"] ["_law_call"] (defScope s__law_refused) := ⟨rfl, rfl, rfl, by decide +kernel, rfl, by decide +kernel, by decide +kernel⟩
abbrev s__law_order : Stmt := top 29
abbrev N__law_order : List Str := ["_law_three_here", "_law_x", "_law_y", "_law_n"]
theorem sc__law_order : FnScope ["_law_three_here", "_law_x", "_law_y", "_law_n"] ["_law_three_here", "_law_x", "_law_y"] (defScope s__law_order) := ⟨rfl, rfl, rfl, by decide +kernel, rfl, by decide +kernel, by decide +kernel⟩
abbrev s__law_told_right : Stmt := top 30
abbrev N__law_told_right : List Str := ["_law_pool", "_law_three_here", "_law_lattice", "_law_places", "_law_is_small", "_law_y", "_law_x", "_law_step", "_law_near"]
theorem sc__law_told_right : FnScope ["_law_pool", "_law_three_here", "_law_lattice", "_law_places", "_law_is_small", "_law_y", "_law_x", "_law_step", "_law_near"] ["_law_pool", "_law_three_here"] (defScope s__law_told_right) := ⟨rfl, rfl, rfl, by decide +kernel, rfl, by decide +kernel, by decide +kernel⟩
abbrev s__law_within_right : Stmt := top 31
abbrev N__law_within_right : List Str := ["_law_one", "_law_other", "_law_held", "_law_first", "_law_second"]
theorem sc__law_within_right : FnScope ["_law_one", "_law_other", "_law_held", "_law_first", "_law_second"] ["_law_one", "_law_other"] (defScope s__law_within_right) := ⟨rfl, rfl, rfl, by decide +kernel, rfl, by decide +kernel, by decide +kernel⟩
abbrev s__law_none_right : Stmt := top 32
abbrev N__law_none_right : List Str := ["_law_three_here", "_law_rows", "_law_lattice", "_law_odd"]
theorem sc__law_none_right : FnScope ["_law_three_here", "_law_rows", "_law_lattice", "_law_odd"] ["_law_three_here"] (defScope s__law_none_right) := ⟨rfl, rfl, rfl, by decide +kernel, rfl, by decide +kernel, by decide +kernel⟩
abbrev s_law : Stmt := top 33
abbrev N_law : List Str := ["_law_script", "_law_k", "_law_pool", "_law_one", "_law_great", "_law_other", "_law_inner", "_law_pair"]
theorem sc_law : FnScope ["_law_script", "_law_k", "_law_pool", "_law_one", "_law_great", "_law_other", "_law_inner", "_law_pair"] ["_law_script"] (defScope s_law) := ⟨rfl, rfl, rfl, by decide +kernel, rfl, by decide +kernel, by decide +kernel⟩
abbrev s_BadNumber___init__ : Stmt := inClass (top 3) 0
abbrev N_BadNumber___init__ : List Str := ["self", "number"]
theorem sc_BadNumber___init__ : FnScope ["self", "number"] ["self", "number"] (defScope s_BadNumber___init__) := ⟨rfl, rfl, rfl, by decide +kernel, rfl, by decide +kernel, by decide +kernel⟩
abbrev s_BadPart___init__ : Stmt := inClass (top 2) 0
abbrev N_BadPart___init__ : List Str := ["self", "part"]
theorem sc_BadPart___init__ : FnScope ["self", "part"] ["self", "part"] (defScope s_BadPart___init__) := ⟨rfl, rfl, rfl, by decide +kernel, rfl, by decide +kernel, by decide +kernel⟩
theorem b_Lattice___init__ {K : PySem.W.Frag} {f : Addr} {fd : FuncData} (F : FunD K "__init__" "Lattice.__init__" (defArgs s_Lattice___init__) (defBody s_Lattice___init__) (defScope s_Lattice___init__) [] [] f fd) : BindD K fd ["self", "a", "b", "d"] [] := BindD.none (F.bindsN fun _ _ _ _ _ _ us hl => match us, hl with | [_, _, _, _], _ => rfl)
theorem b_Lattice___eq__ {K : PySem.W.Frag} {f : Addr} {fd : FuncData} (F : FunD K "__eq__" "Lattice.__eq__" (defArgs s_Lattice___eq__) (defBody s_Lattice___eq__) (defScope s_Lattice___eq__) [] [] f fd) : BindD K fd ["self", "other"] [] := BindD.none (F.bindsN fun _ _ _ _ _ _ us hl => match us, hl with | [_, _], _ => rfl)
theorem b_Lattice___le__ {K : PySem.W.Frag} {f : Addr} {fd : FuncData} (F : FunD K "__le__" "Lattice.__le__" (defArgs s_Lattice___le__) (defBody s_Lattice___le__) (defScope s_Lattice___le__) [] [] f fd) : BindD K fd ["self", "other"] [] := BindD.none (F.bindsN fun _ _ _ _ _ _ us hl => match us, hl with | [_, _], _ => rfl)
theorem b_Lattice___contains__ {K : PySem.W.Frag} {f : Addr} {fd : FuncData} (F : FunD K "__contains__" "Lattice.__contains__" (defArgs s_Lattice___contains__) (defBody s_Lattice___contains__) (defScope s_Lattice___contains__) [] [] f fd) : BindD K fd ["self", "shift"] [] := BindD.none (F.bindsN fun _ _ _ _ _ _ us hl => match us, hl with | [_, _], _ => rfl)
theorem b_Lattice_area {K : PySem.W.Frag} {f : Addr} {fd : FuncData} (F : FunD K "area" "Lattice.area" (defArgs s_Lattice_area) (defBody s_Lattice_area) (defScope s_Lattice_area) [] [] f fd) : BindD K fd ["self"] [] := BindD.none (F.bindsN fun _ _ _ _ _ _ us hl => match us, hl with | [_], _ => rfl)
theorem b_Lattice_place {K : PySem.W.Frag} {f : Addr} {fd : FuncData} (F : FunD K "place" "Lattice.place" (defArgs s_Lattice_place) (defBody s_Lattice_place) (defScope s_Lattice_place) [] [] f fd) : BindD K fd ["self", "cell"] [] := BindD.none (F.bindsN fun _ _ _ _ _ _ us hl => match us, hl with | [_, _], _ => rfl)
theorem b_Lattice_order {K : PySem.W.Frag} {f : Addr} {fd : FuncData} (F : FunD K "order" "Lattice.order" (defArgs s_Lattice_order) (defBody s_Lattice_order) (defScope s_Lattice_order) [] [] f fd) : BindD K fd ["self", "shift"] [] := BindD.none (F.bindsN fun _ _ _ _ _ _ us hl => match us, hl with | [_, _], _ => rfl)
theorem b_Lattice_places {K : PySem.W.Frag} {f : Addr} {fd : FuncData} (F : FunD K "places" "Lattice.places" (defArgs s_Lattice_places) (defBody s_Lattice_places) (defScope s_Lattice_places) [] [] f fd) : BindD K fd ["self"] [] := BindD.none (F.bindsN fun _ _ _ _ _ _ us hl => match us, hl with | [_], _ => rfl)
structure Txt (K : PySem.W.Frag) (mg : Str → Option Value) : Prop where
  d_is_whole : ∃ (f : Addr) (fd : FuncData), mg "is_whole" = some (.ref f) ∧ Fun K "is_whole" "is_whole" s_is_whole f fd
  d_is_from : ∃ (f : Addr) (fd : FuncData), mg "is_from" = some (.ref f) ∧ Fun K "is_from" "is_from" s_is_from f fd
  d_is_pair : ∃ (f : Addr) (fd : FuncData), mg "is_pair" = some (.ref f) ∧ Fun K "is_pair" "is_pair" s_is_pair f fd
  d_require_whole : ∃ (f : Addr) (fd : FuncData), mg "require_whole" = some (.ref f) ∧ Fun K "require_whole" "require_whole" s_require_whole f fd
  d_require_pair : ∃ (f : Addr) (fd : FuncData), mg "require_pair" = some (.ref f) ∧ Fun K "require_pair" "require_pair" s_require_pair f fd
  d_greatest_divisor : ∃ (f : Addr) (fd : FuncData), mg "greatest_divisor" = some (.ref f) ∧ Fun K "greatest_divisor" "greatest_divisor" s_greatest_divisor f fd
  d_weighed_divisor : ∃ (f : Addr) (fd : FuncData), mg "weighed_divisor" = some (.ref f) ∧ Fun K "weighed_divisor" "weighed_divisor" s_weighed_divisor f fd
  d_is_shift : ∃ (f : Addr) (fd : FuncData), mg "is_shift" = some (.ref f) ∧ Fun K "is_shift" "is_shift" s_is_shift f fd
  d_require_lattice_numbers : ∃ (f : Addr) (fd : FuncData), mg "require_lattice_numbers" = some (.ref f) ∧ Fun K "require_lattice_numbers" "require_lattice_numbers" s_require_lattice_numbers f fd
  d__law_opened : ∃ (f : Addr) (fd : FuncData), mg "_law_opened" = some (.ref f) ∧ Fun K "_law_opened" "_law_opened" s__law_opened f fd
  d__law_draw : ∃ (f : Addr) (fd : FuncData), mg "_law_draw" = some (.ref f) ∧ Fun K "_law_draw" "_law_draw" s__law_draw f fd
  d__law_pick : ∃ (f : Addr) (fd : FuncData), mg "_law_pick" = some (.ref f) ∧ Fun K "_law_pick" "_law_pick" s__law_pick f fd
  d__law_int : ∃ (f : Addr) (fd : FuncData), mg "_law_int" = some (.ref f) ∧ Fun K "_law_int" "_law_int" s__law_int f fd
  d__law_three : ∃ (f : Addr) (fd : FuncData), mg "_law_three" = some (.ref f) ∧ Fun K "_law_three" "_law_three" s__law_three f fd
  d__law_place : ∃ (f : Addr) (fd : FuncData), mg "_law_place" = some (.ref f) ∧ Fun K "_law_place" "_law_place" s__law_place f fd
  d__law_holds : ∃ (f : Addr) (fd : FuncData), mg "_law_holds" = some (.ref f) ∧ Fun K "_law_holds" "_law_holds" s__law_holds f fd
  d__law_refused : ∃ (f : Addr) (fd : FuncData), mg "_law_refused" = some (.ref f) ∧ Fun K "_law_refused" "_law_refused" s__law_refused f fd
  d__law_order : ∃ (f : Addr) (fd : FuncData), mg "_law_order" = some (.ref f) ∧ Fun K "_law_order" "_law_order" s__law_order f fd
  d__law_told_right : ∃ (f : Addr) (fd : FuncData), mg "_law_told_right" = some (.ref f) ∧ Fun K "_law_told_right" "_law_told_right" s__law_told_right f fd
  d__law_within_right : ∃ (f : Addr) (fd : FuncData), mg "_law_within_right" = some (.ref f) ∧ Fun K "_law_within_right" "_law_within_right" s__law_within_right f fd
  lam__law_none_right : LamF K mg "_law_none_right" s__law_none_right
  d_law : ∃ (f : Addr) (fd : FuncData), mg "law" = some (.ref f) ∧ Fun K "law" "law" s_law f fd
  ci_Lattice : ClsI K (ga K "Lattice")
  c_Lattice : Cls K (ga K "Lattice")
  g_Lattice : mg "Lattice" = some (.ref (ga K "Lattice"))
  na_Lattice_a : NoAttr K (ga K "Lattice") "a"
  na_Lattice_b : NoAttr K (ga K "Lattice") "b"
  na_Lattice_d : NoAttr K (ga K "Lattice") "d"
  d_Lattice___init__ : ∃ (f : Addr) (fd : FuncData), Mk K (ga K "Lattice") f ∧ FunD K "__init__" "Lattice.__init__" (defArgs s_Lattice___init__) (defBody s_Lattice___init__) (defScope s_Lattice___init__) [] [] f fd
  d_Lattice___eq__ : ∃ (f : Addr) (fd : FuncData), Meth K (ga K "Lattice") "__eq__" f ∧ FunD K "__eq__" "Lattice.__eq__" (defArgs s_Lattice___eq__) (defBody s_Lattice___eq__) (defScope s_Lattice___eq__) [] [] f fd
  d_Lattice___le__ : ∃ (f : Addr) (fd : FuncData), Meth K (ga K "Lattice") "__le__" f ∧ FunD K "__le__" "Lattice.__le__" (defArgs s_Lattice___le__) (defBody s_Lattice___le__) (defScope s_Lattice___le__) [] [] f fd
  d_Lattice___contains__ : ∃ (f : Addr) (fd : FuncData), Meth K (ga K "Lattice") "__contains__" f ∧ FunD K "__contains__" "Lattice.__contains__" (defArgs s_Lattice___contains__) (defBody s_Lattice___contains__) (defScope s_Lattice___contains__) [] [] f fd
  d_Lattice_area : ∃ (f : Addr) (fd : FuncData), Meth K (ga K "Lattice") "area" f ∧ FunD K "area" "Lattice.area" (defArgs s_Lattice_area) (defBody s_Lattice_area) (defScope s_Lattice_area) [] [] f fd
  d_Lattice_place : ∃ (f : Addr) (fd : FuncData), Meth K (ga K "Lattice") "place" f ∧ FunD K "place" "Lattice.place" (defArgs s_Lattice_place) (defBody s_Lattice_place) (defScope s_Lattice_place) [] [] f fd
  d_Lattice_order : ∃ (f : Addr) (fd : FuncData), Meth K (ga K "Lattice") "order" f ∧ FunD K "order" "Lattice.order" (defArgs s_Lattice_order) (defBody s_Lattice_order) (defScope s_Lattice_order) [] [] f fd
  d_Lattice_places : ∃ (f : Addr) (fd : FuncData), Meth K (ga K "Lattice") "places" f ∧ FunD K "places" "Lattice.places" (defArgs s_Lattice_places) (defBody s_Lattice_places) (defScope s_Lattice_places) [] [] f fd
  m_isinstance : mg "isinstance" = none
  m_int : mg "int" = none
  m_bool : mg "bool" = none
  m_tuple : mg "tuple" = none
  m_len : mg "len" = none
  m_abs : mg "abs" = none
  m_list : mg "list" = none
  m_range : mg "range" = none
  m_repr : mg "repr" = none
  m_max : mg "max" = none
  m_min : mg "min" = none
  x_BadNumber : ExT K mg "BadNumber" "number"
  x_BadPart : ExT K mg "BadPart" "part"
  nfS : PySem.W.notFirst K (ga K "Lattice") (.type "str") = true
  kSL : PySem.W.kitOne K (.type "str") (.ref (ga K "Lattice")) = some false
  gI : mg "BadIndex" = some (.ref (ga K "BadIndex"))
  gS : mg "NotSo" = some (.ref (ga K "NotSo"))
  gM : mg "TooMany" = some (.ref (ga K "TooMany"))
  mPP : PySem.W.exmOne K (.ref (ga K "BadPart")) (.ref (ga K "BadPart")) = some true
end Iz
/-! k08_a -/
set_option Elab.async false
set_option linter.all false
set_option maxRecDepth 100000
set_option maxHeartbeats 4000000
namespace Iz
open PySem PySem.Spec PyProof.Rows L2
open He (ga)
local macro_rules | `(tactic| walk_at "wp") => `(tactic| simp only [tSl, tPart, tNoPart, rSlLN, rMax2, rMin2, gUnlN, tYes, rLenS, cx_K, Value.ref.injEq, HO.xd.injEq, lk0, tSeq, tPar3, tPar, tCons, tNil, tVar, tC, tAsg, gName, gCons, gNil, gTupN, gSub, tOp, rI, rI0, rU, tTest, rNe, rEq, rIxTN, rIxLN, rLenL, rLenT, rIntI, rIntB, rAbs, rSetLN, tTruL, tRaiseX, rIsTy, rIsOw, ixN0, ixN1, tRet, tIf, tIfS, tNext, tBreak, tCont, tDrop, tTupN, tLstN, tUn, tCB, tCall, tNot, tAnd, tOr, tB, tAndV, tOrV, tNotV, tChain, tApp, LamX.tLam, tRevLN, rCatN, rInTN, rInLN, flatV, inV, List.all_cons, List.all_nil, List.any_cons, List.any_nil, Bool.and_self, Bool.and_true, if_true, Bool.false_eq_true, if_false, tMt, tFldN, tSto, HO.ins.injEq, lkh, List.drop_zero, List.drop_succ_cons, List.drop_nil, rListS, wipe, L2.start, List.map_cons, List.map_nil, List.length_cons, List.length_nil, List.replicate, List.cons_append, List.nil_append, List.append_nil, Nat.reduceAdd, Nat.reduceSub, Nat.zero_add, List.replicate_succ, List.replicate_zero, List.getElem?_cons_zero, List.getElem?_cons_succ, List.set_cons_zero, List.set_cons_succ, Option.some.injEq, V.int.injEq, V.bl.injEq, V.ref.injEq, V.str.injEq, V.ty.injEq, List.cons.injEq, HO.tup.injEq, HO.lst.injEq, and_true, true_and, and_assoc, exists_eq_left, exists_eq_left', exists_and_left, exists_eq', atI0, atI1, atI2, atI3, Int.cast_ofNat_Int, Int.reduceToNat, scal_ii, scal_in, scal_ni, scal_nn, scal_bb, scal_ss, scal_sn, scal_ns, scal_bn, scal_nb, ite_iff, decide_eq_true_eq, decide_eq_false_iff_not, Bool.not_eq_true', Classical.not_not, ne_eq, not_false_eq_true, not_true_eq_false, forall_const, true_implies, false_implies, imp_self, sizeLine_eq, Nat.reduceLeDiff, reduceCtorEq, decide_true, decide_false])
section
variable {P : Program} {w : World} {K : PySem.W.Frag} {mg : Str → Option Value} {base : Heap}
/-! ### basics -/
def spWhole (K : PySem.W.Frag) : Sp := fun vs H Q _ => ∃ x, vs = [x] ∧ Wh K H x ∧ Q (.bl (isI x)) H
theorem o_is_whole (T : Txt K mg) : OkF P w K mg base CX0 1 "is_whole" ["value"] (spWhole K) := by
  obtain ⟨f, fd, g, F⟩ := T.d_is_whole
  refine ⟨f, fd, g, F.kp, F.binds (fun _ _ _ _ _ _ us hl => match us, hl with | [_], _ => rfl), F.ok sc_is_whole (fun vs H Q E h => ?_) (fun cdv A outer s H vs Q E hr h => ?_)⟩
  · obtain ⟨x, rfl, _⟩ := h; rfl
  · obtain ⟨x, rfl, ⟨t, b1, b2, ty, k1, k2, e⟩, kk⟩ := h
    refine ⟨_, pss_one (ps_ret (pe_and (pe_callB call_isTy (by rfl) T.m_isinstance (by decide +kernel) (pa_cons (pv 0) (pa_cons ((pe_bltn (v := .ty "int") (by rfl) T.m_int (by decide +kernel) rfl)) pa_nil))) (pe_one (pe_not (pe_callB call_isTy (by rfl) T.m_isinstance (by decide +kernel) (pa_cons (pv 0) (pa_cons ((pe_bltn (v := .ty "bool") (by rfl) T.m_bool (by decide +kernel) rfl)) pa_nil))))))), ?_⟩
    walk_at "wp"
    rw [← e] at kk
    refine ⟨t, ty, b1, k1, fun h => ⟨t, ty, b2, k2, ?_⟩, fun h => ?_⟩
    · subst h; exact kk
    · cases b1
      · exact kk
      · exact absurd rfl h
def spFrom (K : PySem.W.Frag) : Sp := fun vs H Q _ => ∃ x l, vs = [x, .int l] ∧ Wh K H x ∧ (isI x = false → Q (.bl false) H) ∧ (∀ i, x = .int i → Q (.bl (decide (l ≤ i))) H)
theorem o_is_from (T : Txt K mg) : OkF P w K mg base CX0 2 "is_from" ["value", "least"] (spFrom K) := by
  have o_is_whole := o_is_whole (P := P) (w := w) (base := base) T
  obtain ⟨f, fd, g, F⟩ := T.d_is_from
  refine ⟨f, fd, g, F.kp, F.binds (fun _ _ _ _ _ _ us hl => match us, hl with | [_, _], _ => rfl), F.ok sc_is_from (fun vs H Q E h => ?_) (fun cdv A outer s H vs Q E hr h => ?_)⟩
  · obtain ⟨x, l, rfl, _⟩ := h; rfl
  · obtain ⟨x, l, rfl, W, k1, k2⟩ := h
    refine ⟨_, pss_one (ps_ret (pe_and (pcl o_is_whole (hr.mono (by decide)) pass0 (pa_cons (pv 0) pa_nil)) (pe_one (pe_cmpR op_ge (pv 0) (pv 1) (nomark _))))), ?_⟩
    walk_at "wp"
    simp only [spWhole, List.cons.injEq, and_true, exists_eq_left']
    refine ⟨W, _, rfl, ?_⟩
    cases e : isI x
    · exact ⟨fun h => (by cases h), fun _ => k1 e⟩
    · obtain ⟨i, rfl⟩ := isI_int e
      exact ⟨fun _ => ⟨i, rfl, k2 i rfl⟩, fun h => absurd rfl h⟩
def spReqW (K : PySem.W.Frag) : Sp := fun vs H Q E => ∃ x, vs = [x] ∧ Wh K H x ∧ (isI x = true → Q .non H) ∧ (isI x = false → Rse K E H "BadNumber" "number" x)
theorem o_require_whole (T : Txt K mg) : OkF P w K mg base (L2.CX P w) 3 "require_whole" ["value"] (spReqW K) := by
  have o_is_whole := o_is_whole (P := P) (w := w) (base := base) T
  obtain ⟨f, fd, g, F⟩ := T.d_require_whole
  refine ⟨f, fd, g, F.kp, F.binds (fun _ _ _ _ _ _ us hl => match us, hl with | [_], _ => rfl), F.okX sc_require_whole (fun vs H Q E h => ?_) (fun cdv A outer s H vs Q E hr h => ?_)⟩
  · obtain ⟨x, rfl, _⟩ := h; rfl
  · obtain ⟨x, rfl, W, k1, k2⟩ := h
    refine ⟨_, pss_one (ps_if (pt_not (pt_val (pcl o_is_whole (hr.mono (by decide)) pass0 (pa_cons (pv 0) pa_nil)))) (pss_one (ps_raiseX (T.x_BadNumber) (hr.mono (by decide)) takesE (pv 0))) (pss_nil)), ?_⟩
    walk_at "wp"
    simp only [spWhole, List.cons.injEq, and_true, exists_eq_left']
    exact ⟨W, _, rfl, ⟨k2, fun h => k1 (by cases e : isI x <;> simp_all)⟩⟩
/-- one is an int of 1 or more -/
def isP : V → Bool
  | .int i => decide (1 ≤ i)
  | _ => false
theorem isP_int {x : V} (h : isP x = true) : ∃ i, x = .int i ∧ 1 ≤ i := by cases x <;> simp_all [isP]

/-! ### pairs -/
def spPair (K : PySem.W.Frag) : Sp := fun vs H Q _ => ∃ x, vs = [x] ∧ PairK K H x ∧ Q (.bl (pairV H x).isSome) H
theorem o_is_pair (T : Txt K mg) : OkF P w K mg base CX0 2 "is_pair" ["value"] (spPair K) := by
  have o_is_whole := o_is_whole (P := P) (w := w) (base := base) T
  obtain ⟨f, fd, g, F⟩ := T.d_is_pair
  refine ⟨f, fd, g, F.kp, F.binds (fun _ _ _ _ _ _ us hl => match us, hl with | [_], _ => rfl), F.ok sc_is_pair (fun vs H Q E h => ?_) (fun cdv A outer s H vs Q E hr h => ?_)⟩
  · first | (obtain ⟨_, rfl, _⟩ := h; rfl) | (obtain ⟨_, _, rfl, _⟩ := h; rfl) | (obtain ⟨_, _, _, rfl, _⟩ := h; rfl) | (obtain ⟨_, _, _, _, rfl, _⟩ := h; rfl) | (obtain ⟨_, _, _, _, _, rfl, _⟩ := h; rfl) | (obtain ⟨_, _, _, _, _, _, rfl, _⟩ := h; rfl) | (obtain ⟨_, _, _, _, _, _, _, rfl, _⟩ := h; rfl)
  have hu64 := hr.units
  refine ⟨_, pss_one (ps_ret (pe_and (pe_callB call_isTy (by rfl) T.m_isinstance (by decide +kernel) (pa_cons (pv 0) (pa_cons ((pe_bltn (v := .ty "tuple") (by rfl) T.m_tuple (by decide +kernel) rfl)) pa_nil))) (pe_and (pe_cmpR op_eq (pe_callB call_lenT (by rfl) T.m_len (by decide +kernel) (pa_cons (pv 0) pa_nil)) (pe_int) (nomark _)) (pe_and (pcl o_is_whole (hr.mono (by decide)) pass0 (pa_cons (pe_ix ix_tupN (pv 0) (pe_int) (fun _ _ => rfl)) pa_nil)) (pe_one (pcl o_is_whole (hr.mono (by decide)) pass0 (pa_cons (pe_ix ix_tupN (pv 0) (pe_int) (fun _ _ => rfl)) pa_nil))))))), ?_⟩
  obtain ⟨x, rfl, hk, k⟩ := h
  simp only [spWhole, exists_and_left, tSl, tPart, tNoPart, rSlLN, rMax2, rMin2, gUnlN, tYes, rLenS, cx_K, Value.ref.injEq, HO.xd.injEq, lk0, tSeq, tPar3, tPar, tCons, tNil, tVar, tC, tAsg, gName, gCons, gNil, gTupN, gSub, tOp, rI, rI0, rU, tTest, rNe, rEq, rIxTN, rIxLN, rLenL, rLenT, rIntI, rIntB, rAbs, rSetLN, tTruL, tRaiseX, rIsTy, rIsOw, ixN0, ixN1, tRet, tIf, tIfS, tNext, tBreak, tCont, tDrop, tTupN, tLstN, tUn, tCB, tCall, tNot, tAnd, tOr, tB, tAndV, tOrV, tNotV, tChain, tApp, LamX.tLam, tRevLN, rCatN, rInTN, rInLN, flatV, inV, List.all_cons, List.all_nil, List.any_cons, List.any_nil, Bool.and_self, Bool.and_true, if_true, Bool.false_eq_true, if_false, tMt, tFldN, tSto, HO.ins.injEq, lkh, List.drop_zero, List.drop_succ_cons, List.drop_nil, rListS, wipe, L2.start, List.map_cons, List.map_nil, List.length_cons, List.length_nil, List.replicate, List.cons_append, List.nil_append, List.append_nil, Nat.reduceAdd, Nat.reduceSub, Nat.zero_add, List.replicate_succ, List.replicate_zero, List.getElem?_cons_zero, List.getElem?_cons_succ, List.set_cons_zero, List.set_cons_succ, Option.some.injEq, V.int.injEq, V.bl.injEq, V.ref.injEq, V.str.injEq, V.ty.injEq, List.cons.injEq, HO.tup.injEq, HO.lst.injEq, and_true, true_and, and_assoc, exists_eq_left, exists_eq_left', exists_and_left, exists_eq', atI0, atI1, atI2, atI3, Int.cast_ofNat_Int, Int.reduceToNat, scal_ii, scal_in, scal_ni, scal_nn, scal_bb, scal_ss, scal_sn, scal_ns, scal_bn, scal_nb, ite_iff, decide_eq_true_eq, decide_eq_false_iff_not, Bool.not_eq_true', Classical.not_not, ne_eq, not_false_eq_true, not_true_eq_false, forall_const, true_implies, false_implies, imp_self, sizeLine_eq, Nat.reduceLeDiff, reduceCtorEq, decide_true, decide_false]
  rcases hk.ty with ⟨p, xs, rfl, hx, hw⟩ | ⟨t, ty, e, no⟩
  · refine ⟨_, .base (.tup hx), true, kit_ty (by decide +kernel), fun _ => ?_, fun h => absurd rfl h⟩
    simp only [hx, exists_and_left, tSl, tPart, tNoPart, rSlLN, rMax2, rMin2, gUnlN, tYes, rLenS, cx_K, Value.ref.injEq, HO.xd.injEq, lk0, tSeq, tPar3, tPar, tCons, tNil, tVar, tC, tAsg, gName, gCons, gNil, gTupN, gSub, tOp, rI, rI0, rU, tTest, rNe, rEq, rIxTN, rIxLN, rLenL, rLenT, rIntI, rIntB, rAbs, rSetLN, tTruL, tRaiseX, rIsTy, rIsOw, ixN0, ixN1, tRet, tIf, tIfS, tNext, tBreak, tCont, tDrop, tTupN, tLstN, tUn, tCB, tCall, tNot, tAnd, tOr, tB, tAndV, tOrV, tNotV, tChain, tApp, LamX.tLam, tRevLN, rCatN, rInTN, rInLN, flatV, inV, List.all_cons, List.all_nil, List.any_cons, List.any_nil, Bool.and_self, Bool.and_true, if_true, Bool.false_eq_true, if_false, tMt, tFldN, tSto, HO.ins.injEq, lkh, List.drop_zero, List.drop_succ_cons, List.drop_nil, rListS, wipe, L2.start, List.map_cons, List.map_nil, List.length_cons, List.length_nil, List.replicate, List.cons_append, List.nil_append, List.append_nil, Nat.reduceAdd, Nat.reduceSub, Nat.zero_add, List.replicate_succ, List.replicate_zero, List.getElem?_cons_zero, List.getElem?_cons_succ, List.set_cons_zero, List.set_cons_succ, Option.some.injEq, V.int.injEq, V.bl.injEq, V.ref.injEq, V.str.injEq, V.ty.injEq, List.cons.injEq, HO.tup.injEq, HO.lst.injEq, and_true, true_and, and_assoc, exists_eq_left, exists_eq_left', exists_and_left, exists_eq', atI0, atI1, atI2, atI3, Int.cast_ofNat_Int, Int.reduceToNat, scal_ii, scal_in, scal_ni, scal_nn, scal_bb, scal_ss, scal_sn, scal_ns, scal_bn, scal_nb, ite_iff, decide_eq_true_eq, decide_eq_false_iff_not, Bool.not_eq_true', Classical.not_not, ne_eq, not_false_eq_true, not_true_eq_false, forall_const, true_implies, false_implies, imp_self, sizeLine_eq, Nat.reduceLeDiff, reduceCtorEq, decide_true, decide_false]
    have pv : pairV H (.ref p) = pairL xs := by simp only [pairV, hx]
    rw [pv] at k
    refine ⟨fun h2 => ?_, fun h2 => ?_⟩
    · obtain ⟨x, y, rfl⟩ : ∃ x y, xs = [x, y] := by
        match xs, h2 with
        | [x, y], _ => exact ⟨x, y, rfl⟩
        | [], h => simp at h
        | [x], h => simp at h
        | x :: y :: z :: r, h => simp at h; omega
      refine ⟨x, atI0, hw x (by simp), fun h => ⟨y, atI1, hw y (by simp), ?_⟩, fun h => ?_⟩
      · obtain ⟨i, rfl⟩ := isI_int h
        cases y <;> exact k
      · cases x <;> first | exact k | exact absurd rfl h
    · rw [pairL_none h2] at k; exact k
  · refine ⟨t, ty, false, e, fun h => (by cases h), fun _ => ?_⟩
    rw [no] at k; exact k
def spReqP (K : PySem.W.Frag) : Sp := fun vs H Q E => ∃ x y, vs = [x, y] ∧ PairK K H x ∧ ((pairV H x).isSome = true → Q .non H) ∧ (pairV H x = none → Rse K E H "BadPart" "part" y)
theorem o_require_pair (T : Txt K mg) : OkF P w K mg base (L2.CX P w) 3 "require_pair" ["value", "part"] (spReqP K) := by
  have o_is_pair := o_is_pair (P := P) (w := w) (base := base) T
  obtain ⟨f, fd, g, F⟩ := T.d_require_pair
  refine ⟨f, fd, g, F.kp, F.binds (fun _ _ _ _ _ _ us hl => match us, hl with | [_, _], _ => rfl), F.okX sc_require_pair (fun vs H Q E h => ?_) (fun cdv A outer s H vs Q E hr h => ?_)⟩
  · first | (obtain ⟨_, rfl, _⟩ := h; rfl) | (obtain ⟨_, _, rfl, _⟩ := h; rfl) | (obtain ⟨_, _, _, rfl, _⟩ := h; rfl) | (obtain ⟨_, _, _, _, rfl, _⟩ := h; rfl) | (obtain ⟨_, _, _, _, _, rfl, _⟩ := h; rfl) | (obtain ⟨_, _, _, _, _, _, rfl, _⟩ := h; rfl) | (obtain ⟨_, _, _, _, _, _, _, rfl, _⟩ := h; rfl)
  have hu64 := hr.units
  refine ⟨_, pss_one (ps_if (pt_not (pt_val (pcl o_is_pair (hr.mono (by decide)) pass0 (pa_cons (pv 0) pa_nil)))) (pss_one (ps_raiseX (T.x_BadPart) (hr.mono (by decide)) takesE (pv 1))) (pss_nil)), ?_⟩
  obtain ⟨x, y, rfl, hk, k1, k2⟩ := h
  simp only [spPair, exists_and_left, tSl, tPart, tNoPart, rSlLN, rMax2, rMin2, gUnlN, tYes, rLenS, cx_K, Value.ref.injEq, HO.xd.injEq, lk0, tSeq, tPar3, tPar, tCons, tNil, tVar, tC, tAsg, gName, gCons, gNil, gTupN, gSub, tOp, rI, rI0, rU, tTest, rNe, rEq, rIxTN, rIxLN, rLenL, rLenT, rIntI, rIntB, rAbs, rSetLN, tTruL, tRaiseX, rIsTy, rIsOw, ixN0, ixN1, tRet, tIf, tIfS, tNext, tBreak, tCont, tDrop, tTupN, tLstN, tUn, tCB, tCall, tNot, tAnd, tOr, tB, tAndV, tOrV, tNotV, tChain, tApp, LamX.tLam, tRevLN, rCatN, rInTN, rInLN, flatV, inV, List.all_cons, List.all_nil, List.any_cons, List.any_nil, Bool.and_self, Bool.and_true, if_true, Bool.false_eq_true, if_false, tMt, tFldN, tSto, HO.ins.injEq, lkh, List.drop_zero, List.drop_succ_cons, List.drop_nil, rListS, wipe, L2.start, List.map_cons, List.map_nil, List.length_cons, List.length_nil, List.replicate, List.cons_append, List.nil_append, List.append_nil, Nat.reduceAdd, Nat.reduceSub, Nat.zero_add, List.replicate_succ, List.replicate_zero, List.getElem?_cons_zero, List.getElem?_cons_succ, List.set_cons_zero, List.set_cons_succ, Option.some.injEq, V.int.injEq, V.bl.injEq, V.ref.injEq, V.str.injEq, V.ty.injEq, List.cons.injEq, HO.tup.injEq, HO.lst.injEq, and_true, true_and, and_assoc, exists_eq_left, exists_eq_left', exists_and_left, exists_eq', atI0, atI1, atI2, atI3, Int.cast_ofNat_Int, Int.reduceToNat, scal_ii, scal_in, scal_ni, scal_nn, scal_bb, scal_ss, scal_sn, scal_ns, scal_bn, scal_nb, ite_iff, decide_eq_true_eq, decide_eq_false_iff_not, Bool.not_eq_true', Classical.not_not, ne_eq, not_false_eq_true, not_true_eq_false, forall_const, true_implies, false_implies, imp_self, sizeLine_eq, Nat.reduceLeDiff, reduceCtorEq, decide_true, decide_false]
  exact ⟨hk, fun h => k2 (by simpa using h), fun h => k1 (by cases e : pairV H x <;> simp_all)⟩
theorem o_is_shift (T : Txt K mg) : OkF P w K mg base CX0 3 "is_shift" ["value"] (spPair K) := by
  have o_is_pair := o_is_pair (P := P) (w := w) (base := base) T
  obtain ⟨f, fd, g, F⟩ := T.d_is_shift
  refine ⟨f, fd, g, F.kp, F.binds (fun _ _ _ _ _ _ us hl => match us, hl with | [_], _ => rfl), F.ok sc_is_shift (fun vs H Q E h => ?_) (fun cdv A outer s H vs Q E hr h => ?_)⟩
  · first | (obtain ⟨_, rfl, _⟩ := h; rfl) | (obtain ⟨_, _, rfl, _⟩ := h; rfl) | (obtain ⟨_, _, _, rfl, _⟩ := h; rfl) | (obtain ⟨_, _, _, _, rfl, _⟩ := h; rfl) | (obtain ⟨_, _, _, _, _, rfl, _⟩ := h; rfl) | (obtain ⟨_, _, _, _, _, _, rfl, _⟩ := h; rfl) | (obtain ⟨_, _, _, _, _, _, _, rfl, _⟩ := h; rfl)
  have hu64 := hr.units
  refine ⟨_, pss_one (ps_ret (pcl o_is_pair (hr.mono (by decide)) pass0 (pa_cons (pv 0) pa_nil))), ?_⟩
  obtain ⟨x, rfl, hk, k⟩ := h
  simp only [spPair, exists_and_left, tSl, tPart, tNoPart, rSlLN, rMax2, rMin2, gUnlN, tYes, rLenS, cx_K, Value.ref.injEq, HO.xd.injEq, lk0, tSeq, tPar3, tPar, tCons, tNil, tVar, tC, tAsg, gName, gCons, gNil, gTupN, gSub, tOp, rI, rI0, rU, tTest, rNe, rEq, rIxTN, rIxLN, rLenL, rLenT, rIntI, rIntB, rAbs, rSetLN, tTruL, tRaiseX, rIsTy, rIsOw, ixN0, ixN1, tRet, tIf, tIfS, tNext, tBreak, tCont, tDrop, tTupN, tLstN, tUn, tCB, tCall, tNot, tAnd, tOr, tB, tAndV, tOrV, tNotV, tChain, tApp, LamX.tLam, tRevLN, rCatN, rInTN, rInLN, flatV, inV, List.all_cons, List.all_nil, List.any_cons, List.any_nil, Bool.and_self, Bool.and_true, if_true, Bool.false_eq_true, if_false, tMt, tFldN, tSto, HO.ins.injEq, lkh, List.drop_zero, List.drop_succ_cons, List.drop_nil, rListS, wipe, L2.start, List.map_cons, List.map_nil, List.length_cons, List.length_nil, List.replicate, List.cons_append, List.nil_append, List.append_nil, Nat.reduceAdd, Nat.reduceSub, Nat.zero_add, List.replicate_succ, List.replicate_zero, List.getElem?_cons_zero, List.getElem?_cons_succ, List.set_cons_zero, List.set_cons_succ, Option.some.injEq, V.int.injEq, V.bl.injEq, V.ref.injEq, V.str.injEq, V.ty.injEq, List.cons.injEq, HO.tup.injEq, HO.lst.injEq, and_true, true_and, and_assoc, exists_eq_left, exists_eq_left', exists_and_left, exists_eq', atI0, atI1, atI2, atI3, Int.cast_ofNat_Int, Int.reduceToNat, scal_ii, scal_in, scal_ni, scal_nn, scal_bb, scal_ss, scal_sn, scal_ns, scal_bn, scal_nb, ite_iff, decide_eq_true_eq, decide_eq_false_iff_not, Bool.not_eq_true', Classical.not_not, ne_eq, not_false_eq_true, not_true_eq_false, forall_const, true_implies, false_implies, imp_self, sizeLine_eq, Nat.reduceLeDiff, reduceCtorEq, decide_true, decide_false]
  exact ⟨hk, k⟩

end
end Iz
/-! k08_b -/
set_option Elab.async false
set_option linter.all false
set_option maxRecDepth 100000
set_option maxHeartbeats 4000000
namespace Iz
open PySem PySem.Spec PyProof.Rows L2
open He (ga)
local macro_rules | `(tactic| walk_at "wp") => `(tactic| simp only [tSl, tPart, tNoPart, rSlLN, rMax2, rMin2, gUnlN, tYes, rLenS, cx_K, Value.ref.injEq, HO.xd.injEq, lk0, tSeq, tPar3, tPar, tCons, tNil, tVar, tC, tAsg, gName, gCons, gNil, gTupN, gSub, tOp, rI, rI0, rU, tTest, rNe, rEq, rIxTN, rIxLN, rLenL, rLenT, rIntI, rIntB, rAbs, rSetLN, tTruL, tRaiseX, rIsTy, rIsOw, ixN0, ixN1, tRet, tIf, tIfS, tNext, tBreak, tCont, tDrop, tTupN, tLstN, tUn, tCB, tCall, tNot, tAnd, tOr, tB, tAndV, tOrV, tNotV, tChain, tApp, LamX.tLam, tRevLN, rCatN, rInTN, rInLN, flatV, inV, List.all_cons, List.all_nil, List.any_cons, List.any_nil, Bool.and_self, Bool.and_true, if_true, Bool.false_eq_true, if_false, tMt, tFldN, tSto, HO.ins.injEq, lkh, List.drop_zero, List.drop_succ_cons, List.drop_nil, rListS, wipe, L2.start, List.map_cons, List.map_nil, List.length_cons, List.length_nil, List.replicate, List.cons_append, List.nil_append, List.append_nil, Nat.reduceAdd, Nat.reduceSub, Nat.zero_add, List.replicate_succ, List.replicate_zero, List.getElem?_cons_zero, List.getElem?_cons_succ, List.set_cons_zero, List.set_cons_succ, Option.some.injEq, V.int.injEq, V.bl.injEq, V.ref.injEq, V.str.injEq, V.ty.injEq, List.cons.injEq, HO.tup.injEq, HO.lst.injEq, and_true, true_and, and_assoc, exists_eq_left, exists_eq_left', exists_and_left, exists_eq', atI0, atI1, atI2, atI3, Int.cast_ofNat_Int, Int.reduceToNat, scal_ii, scal_in, scal_ni, scal_nn, scal_bb, scal_ss, scal_sn, scal_ns, scal_bn, scal_nb, ite_iff, decide_eq_true_eq, decide_eq_false_iff_not, Bool.not_eq_true', Classical.not_not, ne_eq, not_false_eq_true, not_true_eq_false, forall_const, true_implies, false_implies, imp_self, sizeLine_eq, Nat.reduceLeDiff, reduceCtorEq, decide_true, decide_false])
section
variable {P : Program} {w : World} {K : PySem.W.Frag} {mg : Str → Option Value} {base : Heap}
def spWD : Sp := fun vs H Q _ => ∃ one other : Int, vs = [.int one, .int other] ∧ one.natAbs < 2 ^ 250 ∧ other.natAbs < 2 ^ 250 ∧
  ∀ u v : Int, u * one + v * other = (Int.gcd one other : Int) → u.natAbs ≤ 2 ^ 130000 → News H (.tup [.int (Int.gcd one other), .int u, .int v]) Q
theorem o_weighed_divisor (T : Txt K mg) : OkF P w K mg base CX0 1 "weighed_divisor" ["one", "other"] spWD := by
  obtain ⟨f, fd, g, F⟩ := T.d_weighed_divisor
  refine ⟨f, fd, g, F.kp, F.binds (fun _ _ _ _ _ _ us hl => match us, hl with | [_, _], _ => rfl), F.ok sc_weighed_divisor (fun vs H Q E h => ?_) (fun cdv A outer s H vs Q E hr h => ?_)⟩
  · obtain ⟨a, b, rfl, _⟩ := h; rfl
  · obtain ⟨one, other, rfl, h1, h2, kk⟩ := h
    refine ⟨_, pss_cons (ps_par3 (i := 2) (j := 3) (l := 4) (by rfl) sc_weighed_divisor.nd rfl rfl rfl (by decide) (by decide) (by decide) rfl rfl rfl (pa_cons (pv 0) (pa_cons (pe_int) (pa_cons (pe_int) pa_nil))) (by rfl))
      (pss_cons (ps_par3 (i := 5) (j := 6) (l := 7) (by rfl) sc_weighed_divisor.nd rfl rfl rfl (by decide) (by decide) (by decide) rfl rfl rfl (pa_cons (pv 1) (pa_cons (pe_int) (pa_cons (pe_int) pa_nil))) (by rfl))
      (pss_cons (ps_while PassesOwn.never (pt_cmpR op_ne (pv 5) (pe_int) (nomark _)) (pss_cons (ps_set (i := 8) sc_weighed_divisor.nd rfl (Or.inl rfl) (pe_op op_fdivF (pv 2) (pv 5)))
      (pss_cons (ps_par (i := 2) (j := 5) (by rfl) sc_weighed_divisor.nd rfl rfl (by decide) rfl rfl (pa_cons (pv 5) (pa_cons (pe_op op_sub (pv 2) (pe_op op_mulW (pv 8) (pv 5))) pa_nil)) (by rfl))
      (pss_cons (ps_par (i := 3) (j := 6) (by rfl) sc_weighed_divisor.nd rfl rfl (by decide) rfl rfl (pa_cons (pv 6) (pa_cons (pe_op op_sub (pv 3) (pe_op op_mulW (pv 8) (pv 6))) pa_nil)) (by rfl))
      (pss_one (ps_par (i := 4) (j := 7) (by rfl) sc_weighed_divisor.nd rfl rfl (by decide) rfl rfl (pa_cons (pv 7) (pa_cons (pe_op op_sub (pv 4) (pe_op op_mulW (pv 8) (pv 7))) pa_nil)) (by rfl)))))))
      (pss_one (ps_ret (pe_ifExp (pt_cmpR op_ge (pv 2) (pe_int) (nomark _)) (pe_tupN (pa_cons (pv 2) (pa_cons (pv 3) (pa_cons (pv 4) pa_nil)))) (pe_tupN (pa_cons (pe_un un_neg (pv 2)) (pa_cons (pe_un un_neg (pv 3)) (pa_cons (pe_un un_neg (pv 4)) pa_nil))))))))), ?_⟩
    walk_at "wp"
    refine while_by (fun σ H' => H' = H ∧ ∃ (d u v r nu nv : Int) (t : Option V) (k : Nat), σ = [some (.int one), some (.int other), some (.int d), some (.int u), some (.int v), some (.int r), some (.int nu), some (.int nv), t] ∧ EI one other d u v r nu nv k)
      (fun σ _ => match σ with | [_, _, some (.int d), _, _, some (.int r), _, _, _] => bud d r | _ => 0) ⟨rfl, _, _, _, _, _, _, _, _, rfl, EI.start h1 h2⟩ ?_ ?_
    · rintro _ _ ⟨rfl, d, u, v, r, nu, nv, t, k, rfl, I⟩
      walk_at "wp"
      refine ⟨fun hr => ⟨hr, log_lt I.hr (by decide) (by decide), ?_, ?_, ?_, ⟨_, I.next hr⟩, bud_step hr⟩, fun hr => ?_⟩
      · exact wide_mul (I.quo) I.hr (by decide) (by decide) (by decide)
      · exact wide_mul (I.quo) (I.big I.bnu) (by decide) (by decide) (by decide)
      · exact wide_mul (I.quo) (I.big I.bnv) (by decide) (by decide) (by decide)
      · subst hr
        obtain ⟨hg, he, hu⟩ := I.done
        refine ⟨fun hd => ?_, fun hd => ?_⟩
        · have e : d = (Int.gcd one other : Int) := by omega
          rw [e]
          exact kk _ _ (by omega) hu
        · have e : -d = (Int.gcd one other : Int) := by omega
          rw [e]
          exact kk _ _ (by rw [Int.neg_mul, Int.neg_mul]; omega) (by omega)
    · exact mono_ne
/-! ### lines -/
def spGD (K : PySem.W.Frag) : Sp := fun vs H Q E => ∃ x y, vs = [x, y] ∧ Wh K H x ∧ (isI x = false → Rse K E H "BadNumber" "number" x) ∧ (isI x = true → Wh K H y ∧ (isI y = false → Rse K E H "BadNumber" "number" y)) ∧
  (∀ i j : Int, x = .int i → y = .int j → i.natAbs < 2 ^ 250 ∧ j.natAbs < 2 ^ 250 ∧ ∀ H', Same H H' → Q (.int (Int.gcd i j)) H')
theorem o_greatest_divisor (T : Txt K mg) : OkF P w K mg base (L2.CX P w) 4 "greatest_divisor" ["one", "other"] (spGD K) := by
  have o_require_whole := o_require_whole (P := P) (w := w) (base := base) T
  have o_weighed_divisor := o_weighed_divisor (P := P) (w := w) (base := base) T
  obtain ⟨f, fd, g, F⟩ := T.d_greatest_divisor
  refine ⟨f, fd, g, F.kp, F.binds (fun _ _ _ _ _ _ us hl => match us, hl with | [_, _], _ => rfl), F.okX sc_greatest_divisor (fun vs H Q E h => ?_) (fun cdv A outer s H vs Q E hr h => ?_)⟩
  · first | (obtain ⟨_, rfl, _⟩ := h; rfl) | (obtain ⟨_, _, rfl, _⟩ := h; rfl) | (obtain ⟨_, _, _, rfl, _⟩ := h; rfl) | (obtain ⟨_, _, _, _, rfl, _⟩ := h; rfl) | (obtain ⟨_, _, _, _, _, rfl, _⟩ := h; rfl) | (obtain ⟨_, _, _, _, _, _, rfl, _⟩ := h; rfl) | (obtain ⟨_, _, _, _, _, _, _, rfl, _⟩ := h; rfl)
  have hu64 := hr.units
  refine ⟨_, pss_cons (ps_expr (pcl o_require_whole (hr.mono (by decide)) passE (pa_cons (pv 0) pa_nil)))
      (pss_cons (ps_expr (pcl o_require_whole (hr.mono (by decide)) passE (pa_cons (pv 1) pa_nil)))
      (pss_one (ps_ret (pe_ix ix_tupN (pcl o_weighed_divisor (hr.mono (by decide)) pass0 (pa_cons (pv 0) (pa_cons (pv 1) pa_nil))) (pe_int) (fun _ _ => rfl))))), ?_⟩
  obtain ⟨x, y, rfl, W1, k1, P2, k3⟩ := h
  simp only [spReqW, spWD, exists_and_left, tSl, tPart, tNoPart, rSlLN, rMax2, rMin2, gUnlN, tYes, rLenS, cx_K, Value.ref.injEq, HO.xd.injEq, lk0, tSeq, tPar3, tPar, tCons, tNil, tVar, tC, tAsg, gName, gCons, gNil, gTupN, gSub, tOp, rI, rI0, rU, tTest, rNe, rEq, rIxTN, rIxLN, rLenL, rLenT, rIntI, rIntB, rAbs, rSetLN, tTruL, tRaiseX, rIsTy, rIsOw, ixN0, ixN1, tRet, tIf, tIfS, tNext, tBreak, tCont, tDrop, tTupN, tLstN, tUn, tCB, tCall, tNot, tAnd, tOr, tB, tAndV, tOrV, tNotV, tChain, tApp, LamX.tLam, tRevLN, rCatN, rInTN, rInLN, flatV, inV, List.all_cons, List.all_nil, List.any_cons, List.any_nil, Bool.and_self, Bool.and_true, if_true, Bool.false_eq_true, if_false, tMt, tFldN, tSto, HO.ins.injEq, lkh, List.drop_zero, List.drop_succ_cons, List.drop_nil, rListS, wipe, L2.start, List.map_cons, List.map_nil, List.length_cons, List.length_nil, List.replicate, List.cons_append, List.nil_append, List.append_nil, Nat.reduceAdd, Nat.reduceSub, Nat.zero_add, List.replicate_succ, List.replicate_zero, List.getElem?_cons_zero, List.getElem?_cons_succ, List.set_cons_zero, List.set_cons_succ, Option.some.injEq, V.int.injEq, V.bl.injEq, V.ref.injEq, V.str.injEq, V.ty.injEq, List.cons.injEq, HO.tup.injEq, HO.lst.injEq, and_true, true_and, and_assoc, exists_eq_left, exists_eq_left', exists_and_left, exists_eq', atI0, atI1, atI2, atI3, Int.cast_ofNat_Int, Int.reduceToNat, scal_ii, scal_in, scal_ni, scal_nn, scal_bb, scal_ss, scal_sn, scal_ns, scal_bn, scal_nb, ite_iff, decide_eq_true_eq, decide_eq_false_iff_not, Bool.not_eq_true', Classical.not_not, ne_eq, not_false_eq_true, not_true_eq_false, forall_const, true_implies, false_implies, imp_self, sizeLine_eq, Nat.reduceLeDiff, reduceCtorEq, decide_true, decide_false]
  refine ⟨W1, fun h1 => ?_, k1⟩
  obtain ⟨W2, k2⟩ := P2 h1
  refine ⟨W2, fun h2 => ?_, k2⟩
  obtain ⟨i, rfl⟩ := isI_int h1
  obtain ⟨j, rfl⟩ := isI_int h2
  obtain ⟨b1, b2, kk⟩ := k3 i j rfl rfl
  refine ⟨i, rfl, j, rfl, b1, b2, fun u v _ _ p H2 hp hs h2 => ?_⟩
  simp only [h2, tSl, tPart, tNoPart, rSlLN, rMax2, rMin2, gUnlN, tYes, rLenS, cx_K, Value.ref.injEq, HO.xd.injEq, lk0, tSeq, tPar3, tPar, tCons, tNil, tVar, tC, tAsg, gName, gCons, gNil, gTupN, gSub, tOp, rI, rI0, rU, tTest, rNe, rEq, rIxTN, rIxLN, rLenL, rLenT, rIntI, rIntB, rAbs, rSetLN, tTruL, tRaiseX, rIsTy, rIsOw, ixN0, ixN1, tRet, tIf, tIfS, tNext, tBreak, tCont, tDrop, tTupN, tLstN, tUn, tCB, tCall, tNot, tAnd, tOr, tB, tAndV, tOrV, tNotV, tChain, tApp, LamX.tLam, tRevLN, rCatN, rInTN, rInLN, flatV, inV, List.all_cons, List.all_nil, List.any_cons, List.any_nil, Bool.and_self, Bool.and_true, if_true, Bool.false_eq_true, if_false, tMt, tFldN, tSto, HO.ins.injEq, lkh, List.drop_zero, List.drop_succ_cons, List.drop_nil, rListS, wipe, L2.start, List.map_cons, List.map_nil, List.length_cons, List.length_nil, List.replicate, List.cons_append, List.nil_append, List.append_nil, Nat.reduceAdd, Nat.reduceSub, Nat.zero_add, List.replicate_succ, List.replicate_zero, List.getElem?_cons_zero, List.getElem?_cons_succ, List.set_cons_zero, List.set_cons_succ, Option.some.injEq, V.int.injEq, V.bl.injEq, V.ref.injEq, V.str.injEq, V.ty.injEq, List.cons.injEq, HO.tup.injEq, HO.lst.injEq, and_true, true_and, and_assoc, exists_eq_left, exists_eq_left', exists_and_left, exists_eq', atI0, atI1, atI2, atI3, Int.cast_ofNat_Int, Int.reduceToNat, scal_ii, scal_in, scal_ni, scal_nn, scal_bb, scal_ss, scal_sn, scal_ns, scal_bn, scal_nb, ite_iff, decide_eq_true_eq, decide_eq_false_iff_not, Bool.not_eq_true', Classical.not_not, ne_eq, not_false_eq_true, not_true_eq_false, forall_const, true_implies, false_implies, imp_self, sizeLine_eq, Nat.reduceLeDiff, reduceCtorEq, decide_true, decide_false]
  exact kk H2 hs

end
end Iz
/-! k08_c -/
set_option Elab.async false
set_option linter.all false
set_option maxRecDepth 100000
set_option maxHeartbeats 4000000
namespace Iz
open PySem PySem.Spec PyProof.Rows L2
open He (ga)
local macro_rules | `(tactic| walk_at "wp") => `(tactic| simp only [tSl, tPart, tNoPart, rSlLN, rMax2, rMin2, gUnlN, tYes, rLenS, cx_K, Value.ref.injEq, HO.xd.injEq, lk0, tSeq, tPar3, tPar, tCons, tNil, tVar, tC, tAsg, gName, gCons, gNil, gTupN, gSub, tOp, rI, rI0, rU, tTest, rNe, rEq, rIxTN, rIxLN, rLenL, rLenT, rIntI, rIntB, rAbs, rSetLN, tTruL, tRaiseX, rIsTy, rIsOw, ixN0, ixN1, tRet, tIf, tIfS, tNext, tBreak, tCont, tDrop, tTupN, tLstN, tUn, tCB, tCall, tNot, tAnd, tOr, tB, tAndV, tOrV, tNotV, tChain, tApp, LamX.tLam, tRevLN, rCatN, rInTN, rInLN, flatV, inV, List.all_cons, List.all_nil, List.any_cons, List.any_nil, Bool.and_self, Bool.and_true, if_true, Bool.false_eq_true, if_false, tMt, tFldN, tSto, HO.ins.injEq, lkh, List.drop_zero, List.drop_succ_cons, List.drop_nil, rListS, wipe, L2.start, List.map_cons, List.map_nil, List.length_cons, List.length_nil, List.replicate, List.cons_append, List.nil_append, List.append_nil, Nat.reduceAdd, Nat.reduceSub, Nat.zero_add, List.replicate_succ, List.replicate_zero, List.getElem?_cons_zero, List.getElem?_cons_succ, List.set_cons_zero, List.set_cons_succ, Option.some.injEq, V.int.injEq, V.bl.injEq, V.ref.injEq, V.str.injEq, V.ty.injEq, List.cons.injEq, HO.tup.injEq, HO.lst.injEq, and_true, true_and, and_assoc, exists_eq_left, exists_eq_left', exists_and_left, exists_eq', atI0, atI1, atI2, atI3, Int.cast_ofNat_Int, Int.reduceToNat, scal_ii, scal_in, scal_ni, scal_nn, scal_bb, scal_ss, scal_sn, scal_ns, scal_bn, scal_nb, ite_iff, decide_eq_true_eq, decide_eq_false_iff_not, Bool.not_eq_true', Classical.not_not, ne_eq, not_false_eq_true, not_true_eq_false, forall_const, true_implies, false_implies, imp_self, sizeLine_eq, Nat.reduceLeDiff, reduceCtorEq, decide_true, decide_false])
section
variable {P : Program} {w : World} {K : PySem.W.Frag} {mg : Str → Option Value} {base : Heap}
/-! ### lattices -/
theorem lk3 {f g h : Str} {v w z : V} (h1 : (f == g) = false) (h2 : (f == h) = false) : List.lookup f [(g, w), (h, z), (f, v)] = some v := by simp [List.lookup, h1, h2]
theorem lk2 {f g : Str} {v w : V} {l : List (Str × V)} (h1 : (f == g) = false) : List.lookup f ((g, w) :: (f, v) :: l) = some v := by simp [List.lookup, h1]
theorem lkn3 {f g h k : Str} {v w z : V} (h1 : (f == g) = false) (h2 : (f == h) = false) (h3 : (f == k) = false) : List.lookup f [(g, v), (h, w), (k, z)] = none := by simp [List.lookup, h1, h2, h3]
theorem lkLa {x y z : V} : List.lookup ("a" : Str) [(("a" : Str), x), (("b" : Str), y), (("d" : Str), z)] = some x := lkh
theorem lkLb {x y z : V} : List.lookup ("b" : Str) [(("a" : Str), x), (("b" : Str), y), (("d" : Str), z)] = some y := lk2 (by decide +kernel)
theorem lkLd {x y z : V} : List.lookup ("d" : Str) [(("a" : Str), x), (("b" : Str), y), (("d" : Str), z)] = some z := lk3 (by decide +kernel) (by decide +kernel)
theorem lkLn_area {x y z : V} : List.lookup ("area" : Str) [(("a" : Str), x), (("b" : Str), y), (("d" : Str), z)] = none := lkn3 (by decide +kernel) (by decide +kernel) (by decide +kernel)
theorem lkLn_place {x y z : V} : List.lookup ("place" : Str) [(("a" : Str), x), (("b" : Str), y), (("d" : Str), z)] = none := lkn3 (by decide +kernel) (by decide +kernel) (by decide +kernel)
theorem lkLn_order {x y z : V} : List.lookup ("order" : Str) [(("a" : Str), x), (("b" : Str), y), (("d" : Str), z)] = none := lkn3 (by decide +kernel) (by decide +kernel) (by decide +kernel)
theorem lkLn_places {x y z : V} : List.lookup ("places" : Str) [(("a" : Str), x), (("b" : Str), y), (("d" : Str), z)] = none := lkn3 (by decide +kernel) (by decide +kernel) (by decide +kernel)
def okB : V → V → Bool
  | .int i, .int j => decide (0 ≤ j ∧ j < i)
  | _, _ => false
def RL (K : PySem.W.Frag) (H : Hp) (E : XK) (a b d : V) (G : Prop) : Prop := Wh K H a ∧ (isP a = false → Rse K E H "BadPart" "part" (.str "a")) ∧ (isP a = true → Wh K H b ∧ (okB a b = false → Rse K E H "BadPart" "part" (.str "b")) ∧
  (okB a b = true → Wh K H d ∧ (isP d = false → Rse K E H "BadPart" "part" (.str "d")) ∧ (isP d = true → G)))
theorem RL.ints {K : PySem.W.Frag} {H : Hp} {E : XK} {a b d : Int} {G : Prop} (a1 : 1 ≤ a) (b0 : 0 ≤ b) (b1 : b < a) (d1 : 1 ≤ d) (g : G) : RL K H E (.int a) (.int b) (.int d) G :=
  ⟨wh_int, fun h => (by simp [isP] at h; omega), fun _ => ⟨wh_int, fun h => (by simp [okB] at h; omega), fun _ => ⟨wh_int, fun h => (by simp [isP] at h; omega), fun _ => g⟩⟩⟩
theorem RL.imp {K : PySem.W.Frag} {H H' : Hp} {E : XK} {a b d : V} {G G' : Prop} (h : RL K H E a b d G) (s : Same H H') (g : isP a = true → okB a b = true → isP d = true → G → G') : RL K H' E a b d G' :=
  ⟨wh_mono h.1 s, fun e => (h.2.1 e).mono s, fun e => ⟨wh_mono (h.2.2 e).1 s, fun f => ((h.2.2 e).2.1 f).mono s, fun f => ⟨wh_mono ((h.2.2 e).2.2 f).1 s, fun k => (((h.2.2 e).2.2 f).2.1 k).mono s, fun k => g e f k (((h.2.2 e).2.2 f).2.2 k)⟩⟩⟩
def spRL (K : PySem.W.Frag) : Sp := fun vs H Q E => ∃ a b d, vs = [a, b, d] ∧ RL K H E a b d (Q .non H)
theorem from1b {K : PySem.W.Frag} {H : Hp} {x : V} {Q : VK} {E : XK} (W : Wh K H x) (q : Q (.bl (isP x)) H) : spFrom K [x, .int 1] H Q E :=
  ⟨x, 1, rfl, W, fun h => (by cases x <;> first | exact q | cases h), fun i e => by subst e; exact q⟩
theorem o_require_lattice_numbers (T : Txt K mg) : OkF P w K mg base (L2.CX P w) 3 "require_lattice_numbers" ["a", "b", "d"] (spRL K) := by
  have o_is_whole := o_is_whole (P := P) (w := w) (base := base) T
  have o_is_from := o_is_from (P := P) (w := w) (base := base) T
  obtain ⟨f, fd, g, F⟩ := T.d_require_lattice_numbers
  refine ⟨f, fd, g, F.kp, F.binds (fun _ _ _ _ _ _ us hl => match us, hl with | [_, _, _], _ => rfl), F.okX sc_require_lattice_numbers (fun vs H Q E h => ?_) (fun cdv A outer s H vs Q E hr h => ?_)⟩
  · first | (obtain ⟨_, rfl, _⟩ := h; rfl) | (obtain ⟨_, _, rfl, _⟩ := h; rfl) | (obtain ⟨_, _, _, rfl, _⟩ := h; rfl) | (obtain ⟨_, _, _, _, rfl, _⟩ := h; rfl) | (obtain ⟨_, _, _, _, _, rfl, _⟩ := h; rfl) | (obtain ⟨_, _, _, _, _, _, rfl, _⟩ := h; rfl) | (obtain ⟨_, _, _, _, _, _, _, rfl, _⟩ := h; rfl)
  have hu64 := hr.units
  refine ⟨_, pss_cons (ps_if (pt_not (pt_val (pcl o_is_from (hr.mono (by decide)) pass0 (pa_cons (pv 0) (pa_cons (pe_int) pa_nil))))) (pss_one (ps_raiseX (T.x_BadPart) (hr.mono (by decide)) takesE (pe_str))) (pss_nil))
      (pss_cons (ps_if (PW.pt (pw_or (pt_not (pt_val (pcl o_is_whole (hr.mono (by decide)) pass0 (pa_cons (pv 1) pa_nil)))) (pw_or1 (pt_not (pt_chain op_le op_lt (pe_int) (pv 1) (pv 0)))))) (pss_one (ps_raiseX (T.x_BadPart) (hr.mono (by decide)) takesE (pe_str))) (pss_nil))
      (pss_one (ps_if (pt_not (pt_val (pcl o_is_from (hr.mono (by decide)) pass0 (pa_cons (pv 2) (pa_cons (pe_int) pa_nil))))) (pss_one (ps_raiseX (T.x_BadPart) (hr.mono (by decide)) takesE (pe_str))) (pss_nil)))), ?_⟩
  obtain ⟨a, b, d, rfl, Wa, ka, hb⟩ := h
  simp only [spWhole, exists_and_left, tSl, tPart, tNoPart, rSlLN, rMax2, rMin2, gUnlN, tYes, rLenS, cx_K, Value.ref.injEq, HO.xd.injEq, lk0, tSeq, tPar3, tPar, tCons, tNil, tVar, tC, tAsg, gName, gCons, gNil, gTupN, gSub, tOp, rI, rI0, rU, tTest, rNe, rEq, rIxTN, rIxLN, rLenL, rLenT, rIntI, rIntB, rAbs, rSetLN, tTruL, tRaiseX, rIsTy, rIsOw, ixN0, ixN1, tRet, tIf, tIfS, tNext, tBreak, tCont, tDrop, tTupN, tLstN, tUn, tCB, tCall, tNot, tAnd, tOr, tB, tAndV, tOrV, tNotV, tChain, tApp, LamX.tLam, tRevLN, rCatN, rInTN, rInLN, flatV, inV, List.all_cons, List.all_nil, List.any_cons, List.any_nil, Bool.and_self, Bool.and_true, if_true, Bool.false_eq_true, if_false, tMt, tFldN, tSto, HO.ins.injEq, lkh, List.drop_zero, List.drop_succ_cons, List.drop_nil, rListS, wipe, L2.start, List.map_cons, List.map_nil, List.length_cons, List.length_nil, List.replicate, List.cons_append, List.nil_append, List.append_nil, Nat.reduceAdd, Nat.reduceSub, Nat.zero_add, List.replicate_succ, List.replicate_zero, List.getElem?_cons_zero, List.getElem?_cons_succ, List.set_cons_zero, List.set_cons_succ, Option.some.injEq, V.int.injEq, V.bl.injEq, V.ref.injEq, V.str.injEq, V.ty.injEq, List.cons.injEq, HO.tup.injEq, HO.lst.injEq, and_true, true_and, and_assoc, exists_eq_left, exists_eq_left', exists_and_left, exists_eq', atI0, atI1, atI2, atI3, Int.cast_ofNat_Int, Int.reduceToNat, scal_ii, scal_in, scal_ni, scal_nn, scal_bb, scal_ss, scal_sn, scal_ns, scal_bn, scal_nb, ite_iff, decide_eq_true_eq, decide_eq_false_iff_not, Bool.not_eq_true', Classical.not_not, ne_eq, not_false_eq_true, not_true_eq_false, forall_const, true_implies, false_implies, imp_self, sizeLine_eq, Nat.reduceLeDiff, reduceCtorEq, decide_true, decide_false]
  refine from1b Wa ⟨_, rfl, fun h => ka (by simpa using h), fun h => ?_⟩
  have h : isP a = true := by cases e : isP a <;> simp_all
  obtain ⟨Wb, kb, hd⟩ := hb h
  obtain ⟨i, rfl, i1⟩ := isP_int h
  refine ⟨Wb, fun e => kb (by cases b <;> first | rfl | cases e), fun e => ?_⟩
  obtain ⟨j, rfl⟩ := isI_int (by cases e2 : isI b <;> simp_all)
  refine ⟨j, rfl, fun j0 => ⟨j, rfl, i, rfl, fun e => kb (by simp [okB]; omega), fun ji => ?_⟩, fun e => kb (by simp [okB]; omega)⟩
  obtain ⟨Wd, kd, g⟩ := hd (by simp [okB]; omega)
  exact from1b Wd ⟨_, rfl, fun h => kd (by simpa using h), fun h => g (by cases e : isP d <;> simp_all)⟩
/-- a call of Lattice -/
def spLat (K : PySem.W.Frag) : Sp := fun vs H Q E => ∃ a b d, vs = [a, b, d] ∧ RL K H E a b d (NewsI H (ga K "Lattice") [("a", a), ("b", b), ("d", d)] Q)
def spLatI (K : PySem.W.Frag) : Sp := fun vs H Q E => ∃ p a b d, vs = [.ref p, a, b, d] ∧ ∃ dx, H p = some (.ins (ga K "Lattice") dx []) ∧
  RL K H E a b d (∀ H', (∀ b, b ≠ p → H' b = H b) → H' p = some (.ins (ga K "Lattice") dx [("a", a), ("b", b), ("d", d)]) → Q .non H')
theorem i_Lattice___init__ (T : Txt K mg) {f : Addr} {fd : FuncData} (F : FunD K "__init__" "Lattice.__init__" (defArgs s_Lattice___init__) (defBody s_Lattice___init__) (defScope s_Lattice___init__) [] [] f fd) : FnOk P w K mg base (L2.CX P w) 4 f fd ["self", "a", "b", "d"] (spLatI K) := by
  have o_require_lattice_numbers := o_require_lattice_numbers (P := P) (w := w) (base := base) T
  refine F.ok (CX := (L2.CX P w)) sc_Lattice___init__ (fun vs H Q E h => ?_) (fun cdv A outer s H vs Q E hr h => ?_)
  · first | (obtain ⟨_, rfl, _⟩ := h; rfl) | (obtain ⟨_, _, rfl, _⟩ := h; rfl) | (obtain ⟨_, _, _, rfl, _⟩ := h; rfl) | (obtain ⟨_, _, _, _, rfl, _⟩ := h; rfl) | (obtain ⟨_, _, _, _, _, rfl, _⟩ := h; rfl) | (obtain ⟨_, _, _, _, _, _, rfl, _⟩ := h; rfl) | (obtain ⟨_, _, _, _, _, _, _, rfl, _⟩ := h; rfl)
  have hu64 := hr.units
  refine ⟨_, (pss_cons (ps_expr (pcl o_require_lattice_numbers (hr.mono (by decide)) passE (pa_cons (pv 1) (pa_cons (pv 2) (pa_cons (pv 3) pa_nil)))))
      (pss_cons (ps_fldN T.c_Lattice T.na_Lattice_a (pv 0) (pv 1))
      (pss_cons (ps_fldN T.c_Lattice T.na_Lattice_b (pv 0) (pv 2))
      (pss_one (ps_fldN T.c_Lattice T.na_Lattice_d (pv 0) (pv 3)))))), ?_⟩
  obtain ⟨p, a, b, d, rfl, dx, hp, hR⟩ := h
  simp only [spRL, exists_and_left, tSl, tPart, tNoPart, rSlLN, rMax2, rMin2, gUnlN, tYes, rLenS, cx_K, Value.ref.injEq, HO.xd.injEq, lk0, tSeq, tPar3, tPar, tCons, tNil, tVar, tC, tAsg, gName, gCons, gNil, gTupN, gSub, tOp, rI, rI0, rU, tTest, rNe, rEq, rIxTN, rIxLN, rLenL, rLenT, rIntI, rIntB, rAbs, rSetLN, tTruL, tRaiseX, rIsTy, rIsOw, ixN0, ixN1, tRet, tIf, tIfS, tNext, tBreak, tCont, tDrop, tTupN, tLstN, tUn, tCB, tCall, tNot, tAnd, tOr, tB, tAndV, tOrV, tNotV, tChain, tApp, LamX.tLam, tRevLN, rCatN, rInTN, rInLN, flatV, inV, List.all_cons, List.all_nil, List.any_cons, List.any_nil, Bool.and_self, Bool.and_true, if_true, Bool.false_eq_true, if_false, tMt, tFldN, tSto, HO.ins.injEq, lkh, List.drop_zero, List.drop_succ_cons, List.drop_nil, rListS, wipe, L2.start, List.map_cons, List.map_nil, List.length_cons, List.length_nil, List.replicate, List.cons_append, List.nil_append, List.append_nil, Nat.reduceAdd, Nat.reduceSub, Nat.zero_add, List.replicate_succ, List.replicate_zero, List.getElem?_cons_zero, List.getElem?_cons_succ, List.set_cons_zero, List.set_cons_succ, Option.some.injEq, V.int.injEq, V.bl.injEq, V.ref.injEq, V.str.injEq, V.ty.injEq, List.cons.injEq, HO.tup.injEq, HO.lst.injEq, and_true, true_and, and_assoc, exists_eq_left, exists_eq_left', exists_and_left, exists_eq', atI0, atI1, atI2, atI3, Int.cast_ofNat_Int, Int.reduceToNat, scal_ii, scal_in, scal_ni, scal_nn, scal_bb, scal_ss, scal_sn, scal_ns, scal_bn, scal_nb, ite_iff, decide_eq_true_eq, decide_eq_false_iff_not, Bool.not_eq_true', Classical.not_not, ne_eq, not_false_eq_true, not_true_eq_false, forall_const, true_implies, false_implies, imp_self, sizeLine_eq, Nat.reduceLeDiff, reduceCtorEq, decide_true, decide_false]
  refine hR.imp (fun _ _ h => h) fun _ _ _ k1 => ⟨dx, [], hp, by decide, fun H1 p1 => ⟨dx, _, p1.1, by rw [putF_nil]; exact (by decide : 1 < 1000), fun H2 p2 => ⟨dx, _, p2.1, ?_, fun H3 p3 => ?_⟩⟩⟩
  · rw [putF_nil, putF_cons (by decide +kernel), putF_nil]; exact (by decide : 2 < 1000)
  · refine k1 H3 (fun b hb => by rw [p3.2 b hb, p2.2 b hb, p1.2 b hb]) ?_
    rw [p3.1, putF_nil, putF_cons (by decide +kernel), putF_nil, putF_cons (by decide +kernel), putF_cons (by decide +kernel), putF_nil]
theorem o_Lattice (T : Txt K mg) : OkK P w K mg base (L2.CX P w) 4 "Lattice" ["a", "b", "d"] [] (spLat K) := by
  obtain ⟨f, fd, M, F⟩ := T.d_Lattice___init__
  refine ⟨f, fd, spLatI K, M, T.g_Lattice, b_Lattice___init__ F, i_Lattice___init__ T F, fun vs H Q E h p dx hp hdx hne => ?_⟩
  obtain ⟨a, b, d, rfl, hR⟩ := h
  have s := same_made (H' := upd (upd H dx (.own p)) p (.ins (ga K "Lattice") dx [])) hp hdx fun b _ => rfl
  exact ⟨p, a, b, d, rfl, dx, upd_same, hR.imp s fun _ _ _ k H' hk hp' => ⟨rfl, k p dx H' hp (same_made hp hdx hk) hp'⟩⟩
/-- the lattice at p -/
abbrev LAt (K : PySem.W.Frag) (H : Hp) (p dx : Addr) (a b d : Int) : Prop := H p = some (.ins (ga K "Lattice") dx [("a", .int a), ("b", .int b), ("d", .int d)])
structure LB (a b d : Int) : Prop where
  a1 : 1 ≤ a
  b0 : 0 ≤ b
  ba : b < a
  d1 : 1 ≤ d
  aS : a.natAbs < 2 ^ 500
  dS : d.natAbs < 2 ^ 500
theorem LB.bS {a b d : Int} (h : LB a b d) : b.natAbs < 2 ^ 500 := by have := h.aS; have := h.ba; have := h.b0; omega
def spArea (K : PySem.W.Frag) : Sp := fun vs H Q _ => ∃ p, vs = [.ref p] ∧ ∃ dx a b d, LAt K H p dx a b d ∧ LB a b d ∧ Q (.int (a * d)) H
theorem o_Lattice_area (T : Txt K mg) : OkM P w K mg base CX0 1 "Lattice" "area" ["self"] [] (spArea K) := by
  obtain ⟨f, fd, M, F⟩ := T.d_Lattice_area
  refine ⟨f, fd, M, b_Lattice_area F, F.ok (CX := CX0) sc_Lattice_area (fun vs H Q E h => ?_) (fun cdv A outer s H vs Q E hr h => ?_)⟩
  · first | (obtain ⟨_, rfl, _⟩ := h; rfl) | (obtain ⟨_, _, rfl, _⟩ := h; rfl) | (obtain ⟨_, _, _, rfl, _⟩ := h; rfl) | (obtain ⟨_, _, _, _, rfl, _⟩ := h; rfl) | (obtain ⟨_, _, _, _, _, rfl, _⟩ := h; rfl) | (obtain ⟨_, _, _, _, _, _, rfl, _⟩ := h; rfl) | (obtain ⟨_, _, _, _, _, _, _, rfl, _⟩ := h; rfl)
  have hu64 := hr.units
  refine ⟨_, PSs.nox (pss_one (ps_ret (pe_op op_mulW (pe_fldN T.c_Lattice T.na_Lattice_a (pv 0)) (pe_fldN T.c_Lattice T.na_Lattice_d (pv 0))))), ?_⟩
  obtain ⟨p, rfl, dx, a, b, d, hp, B, k⟩ := h
  simp only [exists_and_left, hp, lkLa, lkLb, lkLd, lkLn_area, lkLn_place, lkLn_order, lkLn_places, tSl, tPart, tNoPart, rSlLN, rMax2, rMin2, gUnlN, tYes, rLenS, cx_K, Value.ref.injEq, HO.xd.injEq, lk0, tSeq, tPar3, tPar, tCons, tNil, tVar, tC, tAsg, gName, gCons, gNil, gTupN, gSub, tOp, rI, rI0, rU, tTest, rNe, rEq, rIxTN, rIxLN, rLenL, rLenT, rIntI, rIntB, rAbs, rSetLN, tTruL, tRaiseX, rIsTy, rIsOw, ixN0, ixN1, tRet, tIf, tIfS, tNext, tBreak, tCont, tDrop, tTupN, tLstN, tUn, tCB, tCall, tNot, tAnd, tOr, tB, tAndV, tOrV, tNotV, tChain, tApp, LamX.tLam, tRevLN, rCatN, rInTN, rInLN, flatV, inV, List.all_cons, List.all_nil, List.any_cons, List.any_nil, Bool.and_self, Bool.and_true, if_true, Bool.false_eq_true, if_false, tMt, tFldN, tSto, HO.ins.injEq, lkh, List.drop_zero, List.drop_succ_cons, List.drop_nil, rListS, wipe, L2.start, List.map_cons, List.map_nil, List.length_cons, List.length_nil, List.replicate, List.cons_append, List.nil_append, List.append_nil, Nat.reduceAdd, Nat.reduceSub, Nat.zero_add, List.replicate_succ, List.replicate_zero, List.getElem?_cons_zero, List.getElem?_cons_succ, List.set_cons_zero, List.set_cons_succ, Option.some.injEq, V.int.injEq, V.bl.injEq, V.ref.injEq, V.str.injEq, V.ty.injEq, List.cons.injEq, HO.tup.injEq, HO.lst.injEq, and_true, true_and, and_assoc, exists_eq_left, exists_eq_left', exists_and_left, exists_eq', atI0, atI1, atI2, atI3, Int.cast_ofNat_Int, Int.reduceToNat, scal_ii, scal_in, scal_ni, scal_nn, scal_bb, scal_ss, scal_sn, scal_ns, scal_bn, scal_nb, ite_iff, decide_eq_true_eq, decide_eq_false_iff_not, Bool.not_eq_true', Classical.not_not, ne_eq, not_false_eq_true, not_true_eq_false, forall_const, true_implies, false_implies, imp_self, sizeLine_eq, Nat.reduceLeDiff, reduceCtorEq, decide_true, decide_false]
  exact ⟨wide_mul B.aS B.dS (by decide) (by decide) (by decide), k⟩
/-- the place of a cell -/
def plX (a b d x y : Int) : Int := (x - b * (y / d)) % a
def plY (d y : Int) : Int := y - d * (y / d)
def Small (n : Nat) (q : Option (Int × Int)) : Prop := ∀ x y, q = some (x, y) → x.natAbs < 2 ^ n ∧ y.natAbs < 2 ^ n
def spPlace (K : PySem.W.Frag) : Sp := fun vs H Q E => ∃ p v, vs = [.ref p, v] ∧ ∃ dx a b d, LAt K H p dx a b d ∧ LB a b d ∧ PairK K H v ∧ (pairV H v = none → Rse K E H "BadPart" "part" (.str "cell")) ∧ Small 2000 (pairV H v) ∧
  ∀ x y, pairV H v = some (x, y) → ∀ t H', Same H H' → P2 H' t (plX a b d x y) (plY d y) → Q (.ref t) H'
theorem o_Lattice_place (T : Txt K mg) : OkM P w K mg base (L2.CX P w) 4 "Lattice" "place" ["self", "cell"] [] (spPlace K) := by
  have o_require_pair := o_require_pair (P := P) (w := w) (base := base) T
  obtain ⟨f, fd, M, F⟩ := T.d_Lattice_place
  refine ⟨f, fd, M, b_Lattice_place F, F.ok (CX := (L2.CX P w)) sc_Lattice_place (fun vs H Q E h => ?_) (fun cdv A outer s H vs Q E hr h => ?_)⟩
  · first | (obtain ⟨_, rfl, _⟩ := h; rfl) | (obtain ⟨_, _, rfl, _⟩ := h; rfl) | (obtain ⟨_, _, _, rfl, _⟩ := h; rfl) | (obtain ⟨_, _, _, _, rfl, _⟩ := h; rfl) | (obtain ⟨_, _, _, _, _, rfl, _⟩ := h; rfl) | (obtain ⟨_, _, _, _, _, _, rfl, _⟩ := h; rfl) | (obtain ⟨_, _, _, _, _, _, _, rfl, _⟩ := h; rfl)
  have hu64 := hr.units
  refine ⟨_, (pss_cons (ps_expr (pcl o_require_pair (hr.mono (by decide)) passE (pa_cons (pv 1) (pa_cons (pe_str) pa_nil))))
      (pss_cons (ps_asg (pv 1) (pg_tupN (n := 2) (by rfl) (pgs_cons (pg_name (i := 2) sc_Lattice_place.nd rfl (Or.inl rfl)) (pgs_cons (pg_name (i := 3) sc_Lattice_place.nd rfl (Or.inl rfl)) pgs_nil))))
      (pss_cons (ps_set (i := 4) sc_Lattice_place.nd rfl (Or.inl rfl) (pe_op op_fdivW (pv 3) (pe_fldN T.c_Lattice T.na_Lattice_d (pv 0))))
      (pss_one (ps_ret (pe_tupN (pa_cons (pe_op op_mod (pe_op op_sub (pv 2) (pe_op op_mulW (pe_fldN T.c_Lattice T.na_Lattice_b (pv 0)) (pv 4))) (pe_fldN T.c_Lattice T.na_Lattice_a (pv 0))) (pa_cons (pe_op op_sub (pv 3) (pe_op op_mulW (pe_fldN T.c_Lattice T.na_Lattice_d (pv 0)) (pv 4))) pa_nil)))))))), ?_⟩
  obtain ⟨p, v, rfl, dx, a, b, d, hp, B, hk, kn, ks, k⟩ := h
  simp only [spReqP, exists_and_left, tSl, tPart, tNoPart, rSlLN, rMax2, rMin2, gUnlN, tYes, rLenS, cx_K, Value.ref.injEq, HO.xd.injEq, lk0, tSeq, tPar3, tPar, tCons, tNil, tVar, tC, tAsg, gName, gCons, gNil, gTupN, gSub, tOp, rI, rI0, rU, tTest, rNe, rEq, rIxTN, rIxLN, rLenL, rLenT, rIntI, rIntB, rAbs, rSetLN, tTruL, tRaiseX, rIsTy, rIsOw, ixN0, ixN1, tRet, tIf, tIfS, tNext, tBreak, tCont, tDrop, tTupN, tLstN, tUn, tCB, tCall, tNot, tAnd, tOr, tB, tAndV, tOrV, tNotV, tChain, tApp, LamX.tLam, tRevLN, rCatN, rInTN, rInLN, flatV, inV, List.all_cons, List.all_nil, List.any_cons, List.any_nil, Bool.and_self, Bool.and_true, if_true, Bool.false_eq_true, if_false, tMt, tFldN, tSto, HO.ins.injEq, lkh, List.drop_zero, List.drop_succ_cons, List.drop_nil, rListS, wipe, L2.start, List.map_cons, List.map_nil, List.length_cons, List.length_nil, List.replicate, List.cons_append, List.nil_append, List.append_nil, Nat.reduceAdd, Nat.reduceSub, Nat.zero_add, List.replicate_succ, List.replicate_zero, List.getElem?_cons_zero, List.getElem?_cons_succ, List.set_cons_zero, List.set_cons_succ, Option.some.injEq, V.int.injEq, V.bl.injEq, V.ref.injEq, V.str.injEq, V.ty.injEq, List.cons.injEq, HO.tup.injEq, HO.lst.injEq, and_true, true_and, and_assoc, exists_eq_left, exists_eq_left', exists_and_left, exists_eq', atI0, atI1, atI2, atI3, Int.cast_ofNat_Int, Int.reduceToNat, scal_ii, scal_in, scal_ni, scal_nn, scal_bb, scal_ss, scal_sn, scal_ns, scal_bn, scal_nb, ite_iff, decide_eq_true_eq, decide_eq_false_iff_not, Bool.not_eq_true', Classical.not_not, ne_eq, not_false_eq_true, not_true_eq_false, forall_const, true_implies, false_implies, imp_self, sizeLine_eq, Nat.reduceLeDiff, reduceCtorEq, decide_true, decide_false]
  refine ⟨hk, fun h => ?_, kn⟩
  obtain ⟨⟨x, y⟩, e⟩ := Option.isSome_iff_exists.mp h
  obtain ⟨t, rfl, ht⟩ := pairV_some e
  obtain ⟨xs, ys⟩ := ks x y e
  have hd : d.natAbs < 2 ^ 500 := B.dS
  have hq : (y / d).natAbs < 2 ^ 2000 := Nat.lt_of_le_of_lt (Int.natAbs_ediv_le_natAbs _ _) ys
  have d0 : 0 < d := by have := B.d1; omega
  have a0 : 0 < a := by have := B.a1; omega
  have ht' : H t = some (.tup [.int x, .int y]) := ht
  simp only [ht', hp, lkLa, lkLb, lkLd, lkLn_area, lkLn_place, lkLn_order, lkLn_places, exists_and_left, tSl, tPart, tNoPart, rSlLN, rMax2, rMin2, gUnlN, tYes, rLenS, cx_K, Value.ref.injEq, HO.xd.injEq, lk0, tSeq, tPar3, tPar, tCons, tNil, tVar, tC, tAsg, gName, gCons, gNil, gTupN, gSub, tOp, rI, rI0, rU, tTest, rNe, rEq, rIxTN, rIxLN, rLenL, rLenT, rIntI, rIntB, rAbs, rSetLN, tTruL, tRaiseX, rIsTy, rIsOw, ixN0, ixN1, tRet, tIf, tIfS, tNext, tBreak, tCont, tDrop, tTupN, tLstN, tUn, tCB, tCall, tNot, tAnd, tOr, tB, tAndV, tOrV, tNotV, tChain, tApp, LamX.tLam, tRevLN, rCatN, rInTN, rInLN, flatV, inV, List.all_cons, List.all_nil, List.any_cons, List.any_nil, Bool.and_self, Bool.and_true, if_true, Bool.false_eq_true, if_false, tMt, tFldN, tSto, HO.ins.injEq, lkh, List.drop_zero, List.drop_succ_cons, List.drop_nil, rListS, wipe, L2.start, List.map_cons, List.map_nil, List.length_cons, List.length_nil, List.replicate, List.cons_append, List.nil_append, List.append_nil, Nat.reduceAdd, Nat.reduceSub, Nat.zero_add, List.replicate_succ, List.replicate_zero, List.getElem?_cons_zero, List.getElem?_cons_succ, List.set_cons_zero, List.set_cons_succ, Option.some.injEq, V.int.injEq, V.bl.injEq, V.ref.injEq, V.str.injEq, V.ty.injEq, List.cons.injEq, HO.tup.injEq, HO.lst.injEq, and_true, true_and, and_assoc, exists_eq_left, exists_eq_left', exists_and_left, exists_eq', atI0, atI1, atI2, atI3, Int.cast_ofNat_Int, Int.reduceToNat, scal_ii, scal_in, scal_ni, scal_nn, scal_bb, scal_ss, scal_sn, scal_ns, scal_bn, scal_nb, ite_iff, decide_eq_true_eq, decide_eq_false_iff_not, Bool.not_eq_true', Classical.not_not, ne_eq, not_false_eq_true, not_true_eq_false, forall_const, true_implies, false_implies, imp_self, sizeLine_eq, Nat.reduceLeDiff, reduceCtorEq, decide_true, decide_false]
  refine ⟨wide_div d0 hd (by decide) (by decide), wide_mul B.bS hq (by decide) (by decide) (by decide), a0, wide_mul hd hq (by decide) (by decide) (by decide), ?_⟩
  exact fun q H' _ s hq => k x y e q H' s hq
def inL (a b d : Int) : Option (Int × Int) → Bool
  | none => false
  | some (x, y) => decide (plX a b d x y = 0 ∧ plY d y = 0)
def spCont (K : PySem.W.Frag) : Sp := fun vs H Q _ => ∃ p v, vs = [.ref p, v] ∧ ∃ dx a b d, LAt K H p dx a b d ∧ LB a b d ∧ PairK K H v ∧ Small 2000 (pairV H v) ∧ ∀ H', Same H H' → Q (.bl (inL a b d (pairV H v))) H'
theorem o_Lattice___contains__ (T : Txt K mg) : OkM P w K mg base (L2.CX P w) 5 "Lattice" "__contains__" ["self", "shift"] [] (spCont K) := by
  have o_is_shift := o_is_shift (P := P) (w := w) (base := base) T
  have o_Lattice_place := o_Lattice_place (P := P) (w := w) (base := base) T
  obtain ⟨f, fd, M, F⟩ := T.d_Lattice___contains__
  refine ⟨f, fd, M, b_Lattice___contains__ F, F.ok (CX := (L2.CX P w)) sc_Lattice___contains__ (fun vs H Q E h => ?_) (fun cdv A outer s H vs Q E hr h => ?_)⟩
  · first | (obtain ⟨_, rfl, _⟩ := h; rfl) | (obtain ⟨_, _, rfl, _⟩ := h; rfl) | (obtain ⟨_, _, _, rfl, _⟩ := h; rfl) | (obtain ⟨_, _, _, _, rfl, _⟩ := h; rfl) | (obtain ⟨_, _, _, _, _, rfl, _⟩ := h; rfl) | (obtain ⟨_, _, _, _, _, _, rfl, _⟩ := h; rfl) | (obtain ⟨_, _, _, _, _, _, _, rfl, _⟩ := h; rfl)
  have hu64 := hr.units
  refine ⟨_, (pss_one (ps_ret (pe_and (pcl o_is_shift (hr.mono (by decide)) pass0 (pa_cons (pv 1) pa_nil)) (pe_one (pe_cmpR (op_eqDk (K := K) rfl hu64) (pmt (j := 0) o_Lattice_place T.c_Lattice (pv 0) (by decide) (hr.mono (by decide)) passE (pa_cons (pv 1) pa_nil)) (pe_tupN (pa_cons (pe_int) (pa_cons (pe_int) pa_nil))) (nomark _)))))), ?_⟩
  obtain ⟨p, v, rfl, dx, a, b, d, hp, B, hk, ks, k⟩ := h
  simp only [spPair, hp, lkLa, lkLb, lkLd, lkLn_area, lkLn_place, lkLn_order, lkLn_places, exists_and_left, tSl, tPart, tNoPart, rSlLN, rMax2, rMin2, gUnlN, tYes, rLenS, cx_K, Value.ref.injEq, HO.xd.injEq, lk0, tSeq, tPar3, tPar, tCons, tNil, tVar, tC, tAsg, gName, gCons, gNil, gTupN, gSub, tOp, rI, rI0, rU, tTest, rNe, rEq, rIxTN, rIxLN, rLenL, rLenT, rIntI, rIntB, rAbs, rSetLN, tTruL, tRaiseX, rIsTy, rIsOw, ixN0, ixN1, tRet, tIf, tIfS, tNext, tBreak, tCont, tDrop, tTupN, tLstN, tUn, tCB, tCall, tNot, tAnd, tOr, tB, tAndV, tOrV, tNotV, tChain, tApp, LamX.tLam, tRevLN, rCatN, rInTN, rInLN, flatV, inV, List.all_cons, List.all_nil, List.any_cons, List.any_nil, Bool.and_self, Bool.and_true, if_true, Bool.false_eq_true, if_false, tMt, tFldN, tSto, HO.ins.injEq, lkh, List.drop_zero, List.drop_succ_cons, List.drop_nil, rListS, wipe, L2.start, List.map_cons, List.map_nil, List.length_cons, List.length_nil, List.replicate, List.cons_append, List.nil_append, List.append_nil, Nat.reduceAdd, Nat.reduceSub, Nat.zero_add, List.replicate_succ, List.replicate_zero, List.getElem?_cons_zero, List.getElem?_cons_succ, List.set_cons_zero, List.set_cons_succ, Option.some.injEq, V.int.injEq, V.bl.injEq, V.ref.injEq, V.str.injEq, V.ty.injEq, List.cons.injEq, HO.tup.injEq, HO.lst.injEq, and_true, true_and, and_assoc, exists_eq_left, exists_eq_left', exists_and_left, exists_eq', atI0, atI1, atI2, atI3, Int.cast_ofNat_Int, Int.reduceToNat, scal_ii, scal_in, scal_ni, scal_nn, scal_bb, scal_ss, scal_sn, scal_ns, scal_bn, scal_nb, ite_iff, decide_eq_true_eq, decide_eq_false_iff_not, Bool.not_eq_true', Classical.not_not, ne_eq, not_false_eq_true, not_true_eq_false, forall_const, true_implies, false_implies, imp_self, sizeLine_eq, Nat.reduceLeDiff, reduceCtorEq, decide_true, decide_false]
  cases e : pairV H v with
  | none => 
    rw [e] at k
    exact ⟨hk, fun h => (by simp at h), fun _ => k H fun _ _ h => h⟩
  | some q =>
    obtain ⟨x, y⟩ := q
    rw [e] at k
    refine ⟨hk, fun _ => ⟨p, v, rfl, dx, a, b, d, hp, B, hk, fun h => (by rw [e] at h; cases h), ks, fun x' y' e' t H1 s1 h1 => ?_⟩, fun h => absurd rfl h⟩
    rw [e] at e'; cases e'
    intro t2 H2 _ s2 h2
    exact eq_P2 (s2 _ _ h1) h2 (k H2 (s1.trans s2))
/-- v is no Lattice -/
def NoL (K : PySem.W.Frag) (H : Hp) (v : V) : Prop := ∃ t, TyX K H v t ∧ PySem.W.kitOne K t (.ref (ga K "Lattice")) = some false
def spLEq (K : PySem.W.Frag) : Sp := fun vs H Q _ => ∃ p v, vs = [.ref p, v] ∧ ∃ dx a b d, LAt K H p dx a b d ∧ ((NoL K H v ∧ Q (.bl false) H) ∨ ∃ p2 dx2 a2 b2 d2, v = .ref p2 ∧ LAt K H p2 dx2 a2 b2 d2 ∧ Q (.bl (decide (a = a2 ∧ b = b2 ∧ d = d2))) H)
theorem o_Lattice___eq__ (T : Txt K mg) : OkM P w K mg base CX0 1 "Lattice" "__eq__" ["self", "other"] [] (spLEq K) := by
  obtain ⟨f, fd, M, F⟩ := T.d_Lattice___eq__
  refine ⟨f, fd, M, b_Lattice___eq__ F, F.ok (CX := CX0) sc_Lattice___eq__ (fun vs H Q E h => ?_) (fun cdv A outer s H vs Q E hr h => ?_)⟩
  · first | (obtain ⟨_, rfl, _⟩ := h; rfl) | (obtain ⟨_, _, rfl, _⟩ := h; rfl) | (obtain ⟨_, _, _, rfl, _⟩ := h; rfl) | (obtain ⟨_, _, _, _, rfl, _⟩ := h; rfl) | (obtain ⟨_, _, _, _, _, rfl, _⟩ := h; rfl) | (obtain ⟨_, _, _, _, _, _, rfl, _⟩ := h; rfl) | (obtain ⟨_, _, _, _, _, _, _, rfl, _⟩ := h; rfl)
  have hu64 := hr.units
  refine ⟨_, PSs.nox (pss_one (ps_ret (pe_and (pe_callB call_isOw (by rfl) T.m_isinstance (by decide +kernel) (pa_cons (pv 1) (pa_cons ((pe_glob (v := .ref (ga K "Lattice")) (by rfl) T.g_Lattice rfl)) pa_nil))) (pe_and (pe_cmpR op_eq (pe_fldN T.c_Lattice T.na_Lattice_a (pv 0)) (pe_fldN T.c_Lattice T.na_Lattice_a (pv 1)) (nomark _)) (pe_and (pe_cmpR op_eq (pe_fldN T.c_Lattice T.na_Lattice_b (pv 0)) (pe_fldN T.c_Lattice T.na_Lattice_b (pv 1)) (nomark _)) (pe_one (pe_cmpR op_eq (pe_fldN T.c_Lattice T.na_Lattice_d (pv 0)) (pe_fldN T.c_Lattice T.na_Lattice_d (pv 1)) (nomark _)))))))), ?_⟩
  obtain ⟨p, v, rfl, dx, a, b, d, hp, hk⟩ := h
  simp only [hp, lkLa, lkLb, lkLd, lkLn_area, lkLn_place, lkLn_order, lkLn_places, exists_and_left, tSl, tPart, tNoPart, rSlLN, rMax2, rMin2, gUnlN, tYes, rLenS, cx_K, Value.ref.injEq, HO.xd.injEq, lk0, tSeq, tPar3, tPar, tCons, tNil, tVar, tC, tAsg, gName, gCons, gNil, gTupN, gSub, tOp, rI, rI0, rU, tTest, rNe, rEq, rIxTN, rIxLN, rLenL, rLenT, rIntI, rIntB, rAbs, rSetLN, tTruL, tRaiseX, rIsTy, rIsOw, ixN0, ixN1, tRet, tIf, tIfS, tNext, tBreak, tCont, tDrop, tTupN, tLstN, tUn, tCB, tCall, tNot, tAnd, tOr, tB, tAndV, tOrV, tNotV, tChain, tApp, LamX.tLam, tRevLN, rCatN, rInTN, rInLN, flatV, inV, List.all_cons, List.all_nil, List.any_cons, List.any_nil, Bool.and_self, Bool.and_true, if_true, Bool.false_eq_true, if_false, tMt, tFldN, tSto, HO.ins.injEq, lkh, List.drop_zero, List.drop_succ_cons, List.drop_nil, rListS, wipe, L2.start, List.map_cons, List.map_nil, List.length_cons, List.length_nil, List.replicate, List.cons_append, List.nil_append, List.append_nil, Nat.reduceAdd, Nat.reduceSub, Nat.zero_add, List.replicate_succ, List.replicate_zero, List.getElem?_cons_zero, List.getElem?_cons_succ, List.set_cons_zero, List.set_cons_succ, Option.some.injEq, V.int.injEq, V.bl.injEq, V.ref.injEq, V.str.injEq, V.ty.injEq, List.cons.injEq, HO.tup.injEq, HO.lst.injEq, and_true, true_and, and_assoc, exists_eq_left, exists_eq_left', exists_and_left, exists_eq', atI0, atI1, atI2, atI3, Int.cast_ofNat_Int, Int.reduceToNat, scal_ii, scal_in, scal_ni, scal_nn, scal_bb, scal_ss, scal_sn, scal_ns, scal_bn, scal_nb, ite_iff, decide_eq_true_eq, decide_eq_false_iff_not, Bool.not_eq_true', Classical.not_not, ne_eq, not_false_eq_true, not_true_eq_false, forall_const, true_implies, false_implies, imp_self, sizeLine_eq, Nat.reduceLeDiff, reduceCtorEq, decide_true, decide_false]
  rcases hk with ⟨⟨t, ty, e⟩, k⟩ | ⟨p2, dx2, a2, b2, d2, rfl, h2, k⟩
  · exact ⟨t, ty, false, e, fun h => (by cases h), fun _ => k⟩
  · refine ⟨_, T.ci_Lattice.ty h2, true, kit_self, fun _ => ?_, fun h => absurd rfl h⟩
    simp only [h2, lkLa, lkLb, lkLd, lkLn_area, lkLn_place, lkLn_order, lkLn_places, exists_and_left, tSl, tPart, tNoPart, rSlLN, rMax2, rMin2, gUnlN, tYes, rLenS, cx_K, Value.ref.injEq, HO.xd.injEq, lk0, tSeq, tPar3, tPar, tCons, tNil, tVar, tC, tAsg, gName, gCons, gNil, gTupN, gSub, tOp, rI, rI0, rU, tTest, rNe, rEq, rIxTN, rIxLN, rLenL, rLenT, rIntI, rIntB, rAbs, rSetLN, tTruL, tRaiseX, rIsTy, rIsOw, ixN0, ixN1, tRet, tIf, tIfS, tNext, tBreak, tCont, tDrop, tTupN, tLstN, tUn, tCB, tCall, tNot, tAnd, tOr, tB, tAndV, tOrV, tNotV, tChain, tApp, LamX.tLam, tRevLN, rCatN, rInTN, rInLN, flatV, inV, List.all_cons, List.all_nil, List.any_cons, List.any_nil, Bool.and_self, Bool.and_true, if_true, Bool.false_eq_true, if_false, tMt, tFldN, tSto, HO.ins.injEq, lkh, List.drop_zero, List.drop_succ_cons, List.drop_nil, rListS, wipe, L2.start, List.map_cons, List.map_nil, List.length_cons, List.length_nil, List.replicate, List.cons_append, List.nil_append, List.append_nil, Nat.reduceAdd, Nat.reduceSub, Nat.zero_add, List.replicate_succ, List.replicate_zero, List.getElem?_cons_zero, List.getElem?_cons_succ, List.set_cons_zero, List.set_cons_succ, Option.some.injEq, V.int.injEq, V.bl.injEq, V.ref.injEq, V.str.injEq, V.ty.injEq, List.cons.injEq, HO.tup.injEq, HO.lst.injEq, and_true, true_and, and_assoc, exists_eq_left, exists_eq_left', exists_and_left, exists_eq', atI0, atI1, atI2, atI3, Int.cast_ofNat_Int, Int.reduceToNat, scal_ii, scal_in, scal_ni, scal_nn, scal_bb, scal_ss, scal_sn, scal_ns, scal_bn, scal_nb, ite_iff, decide_eq_true_eq, decide_eq_false_iff_not, Bool.not_eq_true', Classical.not_not, ne_eq, not_false_eq_true, not_true_eq_false, forall_const, true_implies, false_implies, imp_self, sizeLine_eq, Nat.reduceLeDiff, reduceCtorEq, decide_true, decide_false]
    by_cases h1 : a = a2 <;> by_cases h3 : b = b2 <;> by_cases h4 : d = d2 <;> simp_all
def spLLe (K : PySem.W.Frag) : Sp := fun vs H Q _ => ∃ p v, vs = [.ref p, v] ∧ ∃ dx a b d, LAt K H p dx a b d ∧ LB a b d ∧ ((NoL K H v ∧ Q (.bl false) H) ∨ ∃ p2 dx2 a2 b2 d2, v = .ref p2 ∧ LAt K H p2 dx2 a2 b2 d2 ∧ LB a2 b2 d2 ∧
  ∀ H', Same H H' → Q (.bl (inL a2 b2 d2 (some (a, 0)) && inL a2 b2 d2 (some (b, d)))) H')
theorem o_Lattice___le__ (T : Txt K mg) : OkM P w K mg base (L2.CX P w) 6 "Lattice" "__le__" ["self", "other"] [] (spLLe K) := by
  have o_Lattice___contains__ := o_Lattice___contains__ (P := P) (w := w) (base := base) T
  obtain ⟨f, fd, M, F⟩ := T.d_Lattice___le__
  refine ⟨f, fd, M, b_Lattice___le__ F, F.ok (CX := (L2.CX P w)) sc_Lattice___le__ (fun vs H Q E h => ?_) (fun cdv A outer s H vs Q E hr h => ?_)⟩
  · first | (obtain ⟨_, rfl, _⟩ := h; rfl) | (obtain ⟨_, _, rfl, _⟩ := h; rfl) | (obtain ⟨_, _, _, rfl, _⟩ := h; rfl) | (obtain ⟨_, _, _, _, rfl, _⟩ := h; rfl) | (obtain ⟨_, _, _, _, _, rfl, _⟩ := h; rfl) | (obtain ⟨_, _, _, _, _, _, rfl, _⟩ := h; rfl) | (obtain ⟨_, _, _, _, _, _, _, rfl, _⟩ := h; rfl)
  have hu64 := hr.units
  refine ⟨_, (pss_one (ps_ret (pe_and (pe_callB call_isOw (by rfl) T.m_isinstance (by decide +kernel) (pa_cons (pv 1) (pa_cons ((pe_glob (v := .ref (ga K "Lattice")) (by rfl) T.g_Lattice rfl)) pa_nil))) (pe_and (pe_cmpR (op_ownIn o_Lattice___contains__ (hr.mono (by decide)) passE) (pe_tupN (pa_cons (pe_fldN T.c_Lattice T.na_Lattice_a (pv 0)) (pa_cons (pe_int) pa_nil))) (pv 1) (by rfl)) (pe_one (pe_cmpR (op_ownIn o_Lattice___contains__ (hr.mono (by decide)) passE) (pe_tupN (pa_cons (pe_fldN T.c_Lattice T.na_Lattice_b (pv 0)) (pa_cons (pe_fldN T.c_Lattice T.na_Lattice_d (pv 0)) pa_nil))) (pv 1) (by rfl))))))), ?_⟩
  obtain ⟨p, v, rfl, dx, a, b, d, hp, B, hk⟩ := h
  simp only [hp, lkLa, lkLb, lkLd, lkLn_area, lkLn_place, lkLn_order, lkLn_places, exists_and_left, tSl, tPart, tNoPart, rSlLN, rMax2, rMin2, gUnlN, tYes, rLenS, cx_K, Value.ref.injEq, HO.xd.injEq, lk0, tSeq, tPar3, tPar, tCons, tNil, tVar, tC, tAsg, gName, gCons, gNil, gTupN, gSub, tOp, rI, rI0, rU, tTest, rNe, rEq, rIxTN, rIxLN, rLenL, rLenT, rIntI, rIntB, rAbs, rSetLN, tTruL, tRaiseX, rIsTy, rIsOw, ixN0, ixN1, tRet, tIf, tIfS, tNext, tBreak, tCont, tDrop, tTupN, tLstN, tUn, tCB, tCall, tNot, tAnd, tOr, tB, tAndV, tOrV, tNotV, tChain, tApp, LamX.tLam, tRevLN, rCatN, rInTN, rInLN, flatV, inV, List.all_cons, List.all_nil, List.any_cons, List.any_nil, Bool.and_self, Bool.and_true, if_true, Bool.false_eq_true, if_false, tMt, tFldN, tSto, HO.ins.injEq, lkh, List.drop_zero, List.drop_succ_cons, List.drop_nil, rListS, wipe, L2.start, List.map_cons, List.map_nil, List.length_cons, List.length_nil, List.replicate, List.cons_append, List.nil_append, List.append_nil, Nat.reduceAdd, Nat.reduceSub, Nat.zero_add, List.replicate_succ, List.replicate_zero, List.getElem?_cons_zero, List.getElem?_cons_succ, List.set_cons_zero, List.set_cons_succ, Option.some.injEq, V.int.injEq, V.bl.injEq, V.ref.injEq, V.str.injEq, V.ty.injEq, List.cons.injEq, HO.tup.injEq, HO.lst.injEq, and_true, true_and, and_assoc, exists_eq_left, exists_eq_left', exists_and_left, exists_eq', atI0, atI1, atI2, atI3, Int.cast_ofNat_Int, Int.reduceToNat, scal_ii, scal_in, scal_ni, scal_nn, scal_bb, scal_ss, scal_sn, scal_ns, scal_bn, scal_nb, ite_iff, decide_eq_true_eq, decide_eq_false_iff_not, Bool.not_eq_true', Classical.not_not, ne_eq, not_false_eq_true, not_true_eq_false, forall_const, true_implies, false_implies, imp_self, sizeLine_eq, Nat.reduceLeDiff, reduceCtorEq, decide_true, decide_false]
  rcases hk with ⟨⟨t, ty, e⟩, k⟩ | ⟨p2, dx2, a2, b2, d2, rfl, h2, B2, k⟩
  · exact ⟨t, ty, false, e, fun h => (by cases h), fun _ => k⟩
  · refine ⟨_, T.ci_Lattice.ty h2, true, kit_self, fun _ => ?_, fun h => absurd rfl h⟩
    intro t1 H1 _ s1 h1
    have sm : ∀ {z : Int}, z.natAbs < 2 ^ 500 → z.natAbs < 2 ^ 2000 := fun h => pow_small h (by decide)
    have p2' := s1 _ _ h2
    refine own_in p2' ⟨p2, _, rfl, dx2, a2, b2, d2, p2', B2, P2.k h1, ?_, fun H2 s2 => ?_⟩
    · intro x y e; rw [pairV_of h1] at e; cases e; exact ⟨sm B.aS, by decide +kernel⟩
    rw [pairV_of h1]
    have hp2 := s2 _ _ (s1 _ _ hp)
    simp only [hp2, lkLa, lkLb, lkLd, lkLn_area, lkLn_place, lkLn_order, lkLn_places, exists_and_left, tSl, tPart, tNoPart, rSlLN, rMax2, rMin2, gUnlN, tYes, rLenS, cx_K, Value.ref.injEq, HO.xd.injEq, lk0, tSeq, tPar3, tPar, tCons, tNil, tVar, tC, tAsg, gName, gCons, gNil, gTupN, gSub, tOp, rI, rI0, rU, tTest, rNe, rEq, rIxTN, rIxLN, rLenL, rLenT, rIntI, rIntB, rAbs, rSetLN, tTruL, tRaiseX, rIsTy, rIsOw, ixN0, ixN1, tRet, tIf, tIfS, tNext, tBreak, tCont, tDrop, tTupN, tLstN, tUn, tCB, tCall, tNot, tAnd, tOr, tB, tAndV, tOrV, tNotV, tChain, tApp, LamX.tLam, tRevLN, rCatN, rInTN, rInLN, flatV, inV, List.all_cons, List.all_nil, List.any_cons, List.any_nil, Bool.and_self, Bool.and_true, if_true, Bool.false_eq_true, if_false, tMt, tFldN, tSto, HO.ins.injEq, lkh, List.drop_zero, List.drop_succ_cons, List.drop_nil, rListS, wipe, L2.start, List.map_cons, List.map_nil, List.length_cons, List.length_nil, List.replicate, List.cons_append, List.nil_append, List.append_nil, Nat.reduceAdd, Nat.reduceSub, Nat.zero_add, List.replicate_succ, List.replicate_zero, List.getElem?_cons_zero, List.getElem?_cons_succ, List.set_cons_zero, List.set_cons_succ, Option.some.injEq, V.int.injEq, V.bl.injEq, V.ref.injEq, V.str.injEq, V.ty.injEq, List.cons.injEq, HO.tup.injEq, HO.lst.injEq, and_true, true_and, and_assoc, exists_eq_left, exists_eq_left', exists_and_left, exists_eq', atI0, atI1, atI2, atI3, Int.cast_ofNat_Int, Int.reduceToNat, scal_ii, scal_in, scal_ni, scal_nn, scal_bb, scal_ss, scal_sn, scal_ns, scal_bn, scal_nb, ite_iff, decide_eq_true_eq, decide_eq_false_iff_not, Bool.not_eq_true', Classical.not_not, ne_eq, not_false_eq_true, not_true_eq_false, forall_const, true_implies, false_implies, imp_self, sizeLine_eq, Nat.reduceLeDiff, reduceCtorEq, decide_true, decide_false]
    refine ⟨fun h => ?_, fun h => ?_⟩
    · intro t3 H3 _ s3 h3
      have p3' := s3 _ _ (s2 _ _ p2')
      refine own_in p3' ⟨p2, _, rfl, dx2, a2, b2, d2, p3', B2, P2.k h3, ?_, fun H4 s4 => ?_⟩
      · intro x y e; rw [pairV_of h3] at e; cases e; exact ⟨sm B.bS, sm B.dS⟩
      rw [pairV_of h3]
      have := k H4 (((s1.trans s2).trans s3).trans s4)
      rw [h, Bool.true_and] at this
      exact ⟨_, rfl, this⟩
    · have := k H2 (s1.trans s2)
      have e : inL a2 b2 d2 (some (a, 0)) = false := by cases e : inL a2 b2 d2 (some (a, 0)) <;> simp_all
      rw [e] at this
      exact this
/-- how many times a shift leads back -/
def ordL (a b d x y : Int) : Int := d / (Int.gcd d y : Int) * (a / (Int.gcd a (x * (d / (Int.gcd d y : Int)) - b * (y * (d / (Int.gcd d y : Int)) / d)) : Int))
def spOrd (K : PySem.W.Frag) : Sp := fun vs H Q E => ∃ p v, vs = [.ref p, v] ∧ ∃ dx a b d, LAt K H p dx a b d ∧ LB a b d ∧ PairK K H v ∧ (pairV H v = none → Rse K E H "BadPart" "part" (.str "shift")) ∧
  ∀ x y, pairV H v = some (x, y) → a.natAbs < 2 ^ 40 ∧ d.natAbs < 2 ^ 40 ∧ x.natAbs < 2 ^ 120 ∧ y.natAbs < 2 ^ 120 ∧ ∀ H', Same H H' → Q (.int (ordL a b d x y)) H'
theorem o_Lattice_order (T : Txt K mg) : OkM P w K mg base (L2.CX P w) 5 "Lattice" "order" ["self", "shift"] [] (spOrd K) := by
  have o_require_pair := o_require_pair (P := P) (w := w) (base := base) T
  have o_greatest_divisor := o_greatest_divisor (P := P) (w := w) (base := base) T
  obtain ⟨f, fd, M, F⟩ := T.d_Lattice_order
  refine ⟨f, fd, M, b_Lattice_order F, F.ok (CX := (L2.CX P w)) sc_Lattice_order (fun vs H Q E h => ?_) (fun cdv A outer s H vs Q E hr h => ?_)⟩
  · first | (obtain ⟨_, rfl, _⟩ := h; rfl) | (obtain ⟨_, _, rfl, _⟩ := h; rfl) | (obtain ⟨_, _, _, rfl, _⟩ := h; rfl) | (obtain ⟨_, _, _, _, rfl, _⟩ := h; rfl) | (obtain ⟨_, _, _, _, _, rfl, _⟩ := h; rfl) | (obtain ⟨_, _, _, _, _, _, rfl, _⟩ := h; rfl) | (obtain ⟨_, _, _, _, _, _, _, rfl, _⟩ := h; rfl)
  have hu64 := hr.units
  refine ⟨_, (pss_cons (ps_expr (pcl o_require_pair (hr.mono (by decide)) passE (pa_cons (pv 1) (pa_cons (pe_str) pa_nil))))
      (pss_cons (ps_asg (pv 1) (pg_tupN (n := 2) (by rfl) (pgs_cons (pg_name (i := 2) sc_Lattice_order.nd rfl (Or.inl rfl)) (pgs_cons (pg_name (i := 3) sc_Lattice_order.nd rfl (Or.inl rfl)) pgs_nil))))
      (pss_cons (ps_set (i := 4) sc_Lattice_order.nd rfl (Or.inl rfl) (pe_op op_fdivW (pe_fldN T.c_Lattice T.na_Lattice_d (pv 0)) (pcl o_greatest_divisor (hr.mono (by decide)) passE (pa_cons (pe_fldN T.c_Lattice T.na_Lattice_d (pv 0)) (pa_cons (pv 3) pa_nil)))))
      (pss_cons (ps_set (i := 5) sc_Lattice_order.nd rfl (Or.inl rfl) (pe_op op_sub (pe_op op_mulW (pv 2) (pv 4)) (pe_op op_mulW (pe_fldN T.c_Lattice T.na_Lattice_b (pv 0)) (pe_op op_fdivW (pe_op op_mulW (pv 3) (pv 4)) (pe_fldN T.c_Lattice T.na_Lattice_d (pv 0))))))
      (pss_one (ps_ret (pe_op op_mulW (pv 4) (pe_op op_fdivW (pe_fldN T.c_Lattice T.na_Lattice_a (pv 0)) (pcl o_greatest_divisor (hr.mono (by decide)) passE (pa_cons (pe_fldN T.c_Lattice T.na_Lattice_a (pv 0)) (pa_cons (pv 5) pa_nil))))))))))), ?_⟩
  obtain ⟨p, v, rfl, dx, a, b, d, hp, B, hk, kn, k⟩ := h
  simp only [spReqP, exists_and_left, tSl, tPart, tNoPart, rSlLN, rMax2, rMin2, gUnlN, tYes, rLenS, cx_K, Value.ref.injEq, HO.xd.injEq, lk0, tSeq, tPar3, tPar, tCons, tNil, tVar, tC, tAsg, gName, gCons, gNil, gTupN, gSub, tOp, rI, rI0, rU, tTest, rNe, rEq, rIxTN, rIxLN, rLenL, rLenT, rIntI, rIntB, rAbs, rSetLN, tTruL, tRaiseX, rIsTy, rIsOw, ixN0, ixN1, tRet, tIf, tIfS, tNext, tBreak, tCont, tDrop, tTupN, tLstN, tUn, tCB, tCall, tNot, tAnd, tOr, tB, tAndV, tOrV, tNotV, tChain, tApp, LamX.tLam, tRevLN, rCatN, rInTN, rInLN, flatV, inV, List.all_cons, List.all_nil, List.any_cons, List.any_nil, Bool.and_self, Bool.and_true, if_true, Bool.false_eq_true, if_false, tMt, tFldN, tSto, HO.ins.injEq, lkh, List.drop_zero, List.drop_succ_cons, List.drop_nil, rListS, wipe, L2.start, List.map_cons, List.map_nil, List.length_cons, List.length_nil, List.replicate, List.cons_append, List.nil_append, List.append_nil, Nat.reduceAdd, Nat.reduceSub, Nat.zero_add, List.replicate_succ, List.replicate_zero, List.getElem?_cons_zero, List.getElem?_cons_succ, List.set_cons_zero, List.set_cons_succ, Option.some.injEq, V.int.injEq, V.bl.injEq, V.ref.injEq, V.str.injEq, V.ty.injEq, List.cons.injEq, HO.tup.injEq, HO.lst.injEq, and_true, true_and, and_assoc, exists_eq_left, exists_eq_left', exists_and_left, exists_eq', atI0, atI1, atI2, atI3, Int.cast_ofNat_Int, Int.reduceToNat, scal_ii, scal_in, scal_ni, scal_nn, scal_bb, scal_ss, scal_sn, scal_ns, scal_bn, scal_nb, ite_iff, decide_eq_true_eq, decide_eq_false_iff_not, Bool.not_eq_true', Classical.not_not, ne_eq, not_false_eq_true, not_true_eq_false, forall_const, true_implies, false_implies, imp_self, sizeLine_eq, Nat.reduceLeDiff, reduceCtorEq, decide_true, decide_false]
  refine ⟨hk, fun h => ?_, kn⟩
  obtain ⟨⟨x, y⟩, e⟩ := Option.isSome_iff_exists.mp h
  obtain ⟨t, rfl, ht⟩ := pairV_some e
  obtain ⟨aS, dS, xs, ys, k⟩ := k x y e
  have ht' : H t = some (.tup [.int x, .int y]) := ht
  have d1 := B.d1
  have a1 := B.a1
  have sm : ∀ {n : Nat} {z : Int}, z.natAbs < 2 ^ n → n ≤ 250 → z.natAbs < 2 ^ 250 := fun h h2 => pow_small h h2
  simp only [spGD, ht', hp, lkLa, lkLb, lkLd, lkLn_area, lkLn_place, lkLn_order, lkLn_places, exists_and_left, tSl, tPart, tNoPart, rSlLN, rMax2, rMin2, gUnlN, tYes, rLenS, cx_K, Value.ref.injEq, HO.xd.injEq, lk0, tSeq, tPar3, tPar, tCons, tNil, tVar, tC, tAsg, gName, gCons, gNil, gTupN, gSub, tOp, rI, rI0, rU, tTest, rNe, rEq, rIxTN, rIxLN, rLenL, rLenT, rIntI, rIntB, rAbs, rSetLN, tTruL, tRaiseX, rIsTy, rIsOw, ixN0, ixN1, tRet, tIf, tIfS, tNext, tBreak, tCont, tDrop, tTupN, tLstN, tUn, tCB, tCall, tNot, tAnd, tOr, tB, tAndV, tOrV, tNotV, tChain, tApp, LamX.tLam, tRevLN, rCatN, rInTN, rInLN, flatV, inV, List.all_cons, List.all_nil, List.any_cons, List.any_nil, Bool.and_self, Bool.and_true, if_true, Bool.false_eq_true, if_false, tMt, tFldN, tSto, HO.ins.injEq, lkh, List.drop_zero, List.drop_succ_cons, List.drop_nil, rListS, wipe, L2.start, List.map_cons, List.map_nil, List.length_cons, List.length_nil, List.replicate, List.cons_append, List.nil_append, List.append_nil, Nat.reduceAdd, Nat.reduceSub, Nat.zero_add, List.replicate_succ, List.replicate_zero, List.getElem?_cons_zero, List.getElem?_cons_succ, List.set_cons_zero, List.set_cons_succ, Option.some.injEq, V.int.injEq, V.bl.injEq, V.ref.injEq, V.str.injEq, V.ty.injEq, List.cons.injEq, HO.tup.injEq, HO.lst.injEq, and_true, true_and, and_assoc, exists_eq_left, exists_eq_left', exists_and_left, exists_eq', atI0, atI1, atI2, atI3, Int.cast_ofNat_Int, Int.reduceToNat, scal_ii, scal_in, scal_ni, scal_nn, scal_bb, scal_ss, scal_sn, scal_ns, scal_bn, scal_nb, ite_iff, decide_eq_true_eq, decide_eq_false_iff_not, Bool.not_eq_true', Classical.not_not, ne_eq, not_false_eq_true, not_true_eq_false, forall_const, true_implies, false_implies, imp_self, sizeLine_eq, Nat.reduceLeDiff, reduceCtorEq, decide_true, decide_false]
  refine ⟨wh_int, fun h => (by cases h), fun _ => ⟨wh_int, fun h => (by cases h)⟩, ?_⟩
  rintro _ _ rfl rfl
  refine ⟨sm dS (by decide), sm ys (by decide), fun H1 s1 => ?_⟩
  have hp1 := s1 _ _ hp
  have hg : 0 < (Int.gcd d y : Int) := by have := Int.gcd_pos_of_ne_zero_left y (show d ≠ 0 by omega); omega
  have hgd : (Int.gcd d y : Int) ≤ d := Int.le_of_dvd (by omega) (Int.gcd_dvd_left d y)
  have ht2 : (d / (Int.gcd d y : Int)).natAbs < 2 ^ 40 := Nat.lt_of_le_of_lt (Int.natAbs_ediv_le_natAbs _ _) dS
  have kk := k
  unfold ordL at kk
  generalize ht0 : d / (Int.gcd d y : Int) = tm at *
  have m1 : (x * tm).natAbs < 2 ^ 160 := by
    rw [Int.natAbs_mul, show (160 : Nat) = 120 + 40 from rfl, Nat.pow_add]
    exact Nat.mul_lt_mul'' xs ht2
  have m2 : (y * tm).natAbs < 2 ^ 160 := by
    rw [Int.natAbs_mul, show (160 : Nat) = 120 + 40 from rfl, Nat.pow_add]
    exact Nat.mul_lt_mul'' ys ht2
  have m3 : (y * tm / d).natAbs < 2 ^ 160 := Nat.lt_of_le_of_lt (Int.natAbs_ediv_le_natAbs _ _) m2
  have bS : b.natAbs < 2 ^ 40 := by have := B.ba; have := B.b0; omega
  have m4 : (b * (y * tm / d)).natAbs < 2 ^ 200 := by
    rw [Int.natAbs_mul, show (200 : Nat) = 40 + 160 from rfl, Nat.pow_add]
    exact Nat.mul_lt_mul'' bS m3
  simp only [hp1, lkLa, lkLb, lkLd, lkLn_area, lkLn_place, lkLn_order, lkLn_places, exists_and_left, tSl, tPart, tNoPart, rSlLN, rMax2, rMin2, gUnlN, tYes, rLenS, cx_K, Value.ref.injEq, HO.xd.injEq, lk0, tSeq, tPar3, tPar, tCons, tNil, tVar, tC, tAsg, gName, gCons, gNil, gTupN, gSub, tOp, rI, rI0, rU, tTest, rNe, rEq, rIxTN, rIxLN, rLenL, rLenT, rIntI, rIntB, rAbs, rSetLN, tTruL, tRaiseX, rIsTy, rIsOw, ixN0, ixN1, tRet, tIf, tIfS, tNext, tBreak, tCont, tDrop, tTupN, tLstN, tUn, tCB, tCall, tNot, tAnd, tOr, tB, tAndV, tOrV, tNotV, tChain, tApp, LamX.tLam, tRevLN, rCatN, rInTN, rInLN, flatV, inV, List.all_cons, List.all_nil, List.any_cons, List.any_nil, Bool.and_self, Bool.and_true, if_true, Bool.false_eq_true, if_false, tMt, tFldN, tSto, HO.ins.injEq, lkh, List.drop_zero, List.drop_succ_cons, List.drop_nil, rListS, wipe, L2.start, List.map_cons, List.map_nil, List.length_cons, List.length_nil, List.replicate, List.cons_append, List.nil_append, List.append_nil, Nat.reduceAdd, Nat.reduceSub, Nat.zero_add, List.replicate_succ, List.replicate_zero, List.getElem?_cons_zero, List.getElem?_cons_succ, List.set_cons_zero, List.set_cons_succ, Option.some.injEq, V.int.injEq, V.bl.injEq, V.ref.injEq, V.str.injEq, V.ty.injEq, List.cons.injEq, HO.tup.injEq, HO.lst.injEq, and_true, true_and, and_assoc, exists_eq_left, exists_eq_left', exists_and_left, exists_eq', atI0, atI1, atI2, atI3, Int.cast_ofNat_Int, Int.reduceToNat, scal_ii, scal_in, scal_ni, scal_nn, scal_bb, scal_ss, scal_sn, scal_ns, scal_bn, scal_nb, ite_iff, decide_eq_true_eq, decide_eq_false_iff_not, Bool.not_eq_true', Classical.not_not, ne_eq, not_false_eq_true, not_true_eq_false, forall_const, true_implies, false_implies, imp_self, sizeLine_eq, Nat.reduceLeDiff, reduceCtorEq, decide_true, decide_false]
  refine ⟨wide_div hg (wide_le (by omega) hgd dS) (by decide) (by decide), wide_mul xs ht2 (by decide) (by decide) (by decide), wide_mul ys ht2 (by decide) (by decide) (by decide), wide_div (by omega) dS (by decide) (by decide), wide_mul bS m3 (by decide) (by decide) (by decide), ?_⟩
  generalize hr : x * tm - b * (y * tm / d) = rs at *
  have rS : rs.natAbs < 2 ^ 250 := by rw [← hr]; omega
  refine ⟨wh_int, fun h => (by cases h), fun _ => ⟨wh_int, fun h => (by cases h)⟩, ?_⟩
  rintro _ _ rfl rfl
  refine ⟨sm aS (by decide), rS, fun H2 s2 => ?_⟩
  have hga : 0 < (Int.gcd a rs : Int) := by have := Int.gcd_pos_of_ne_zero_left rs (show a ≠ 0 by omega); omega
  have hga2 : (Int.gcd a rs : Int) ≤ a := Int.le_of_dvd (by omega) (Int.gcd_dvd_left a rs)
  refine ⟨wide_div hga (wide_le (by omega) hga2 aS) (by decide) (by decide), wide_mul ht2 (ediv_small aS) (by decide) (by decide) (by decide), kk H2 (s1.trans s2)⟩
/-- all places, row by row -/
def placesL (a d : Int) : List (Option Int × Option Int) := (List.range d.toNat).flatMap fun (y : Nat) => (List.range a.toNat).map fun (x : Nat) => (some (x : Int), some (y : Int))
def spPlaces (K : PySem.W.Frag) : Sp := fun vs H Q _ => ∃ p, vs = [.ref p] ∧ ∃ dx a b d, LAt K H p dx a b d ∧ LB a b d ∧ a * d < 1000 ∧ ∀ t H', Same H H' → PairsAt H' t (placesL a d) → Q (.ref t) H'
theorem o_Lattice_places (T : Txt K mg) : OkM P w K mg base CX0 1 "Lattice" "places" ["self"] [] (spPlaces K) := by
  obtain ⟨f, fd, M, F⟩ := T.d_Lattice_places
  refine ⟨f, fd, M, b_Lattice_places F, F.ok (CX := CX0) sc_Lattice_places (fun vs H Q E h => ?_) (fun cdv A outer s H vs Q E hr h => ?_)⟩
  · first | (obtain ⟨_, rfl, _⟩ := h; rfl) | (obtain ⟨_, _, rfl, _⟩ := h; rfl) | (obtain ⟨_, _, _, rfl, _⟩ := h; rfl) | (obtain ⟨_, _, _, _, rfl, _⟩ := h; rfl) | (obtain ⟨_, _, _, _, _, rfl, _⟩ := h; rfl) | (obtain ⟨_, _, _, _, _, _, rfl, _⟩ := h; rfl) | (obtain ⟨_, _, _, _, _, _, _, rfl, _⟩ := h; rfl)
  have hu64 := hr.units
  refine ⟨_, PSs.nox (pss_one (ps_ret (pe_lc2 (own := [("y", 1), ("x", 2)]) (vs1 := [2]) (g := gName 1) (g1 := gName 2) (by rfl) sc_Lattice_places.nd (pi_range1 (by rfl) T.m_range (pa_cons (pe_fldN T.c_Lattice T.na_Lattice_d (pv 0)) pa_nil)) (blkOk_by (N := ["self", "y", "x"]) (sc := defScope s_Lattice_places) (own := [("y", 1), ("x", 2)]) (by decide +kernel)) (by decide) (fun _ _ _ _ _ => pg_name (i := 1) sc_Lattice_places.nd rfl (Or.inl rfl)) (fun _ _ _ _ _ => pts_nil) (fun _ _ _ _ _ => pi_range1 (by rfl) T.m_range (pa_cons (pe_fldNK (K := K) rfl T.c_Lattice T.na_Lattice_a (pv 0)) pa_nil)) (fun _ _ _ _ _ => pg_name (i := 2) sc_Lattice_places.nd rfl (Or.inl rfl)) (fun _ _ _ _ _ => pts_nil) (fun _ _ _ _ _ => pe_tupN (pa_cons (pv 2) (pa_cons (pv 1) pa_nil)))))), ?_⟩
  obtain ⟨p, rfl, dx, a, b, d, hp, B, sm, k⟩ := h
  have a1 := B.a1
  have d1 := B.d1
  have ad : d ≤ a * d := by have := Int.mul_le_mul_of_nonneg_right a1 (show 0 ≤ d by omega); omega
  have da : a ≤ a * d := by have := Int.mul_le_mul_of_nonneg_left d1 (show 0 ≤ a by omega); omega
  have len : ∀ i : Nat, ((List.range i).flatMap fun (y : Nat) => (List.range a.toNat).map fun (x : Nat) => ((some (x : Int), some (y : Int)) : Option Int × Option Int)).length = i * a.toNat := fun i => by
    induction i with
    | zero => simp
    | succ i ih => rw [List.range_succ, List.flatMap_append, List.length_append, ih]; simp [Nat.succ_mul]
  simp only [exists_and_left, tSl, tPart, tNoPart, rSlLN, rMax2, rMin2, gUnlN, tYes, rLenS, cx_K, Value.ref.injEq, HO.xd.injEq, lk0, tSeq, tPar3, tPar, tCons, tNil, tVar, tC, tAsg, gName, gCons, gNil, gTupN, gSub, tOp, rI, rI0, rU, tTest, rNe, rEq, rIxTN, rIxLN, rLenL, rLenT, rIntI, rIntB, rAbs, rSetLN, tTruL, tRaiseX, rIsTy, rIsOw, ixN0, ixN1, tRet, tIf, tIfS, tNext, tBreak, tCont, tDrop, tTupN, tLstN, tUn, tCB, tCall, tNot, tAnd, tOr, tB, tAndV, tOrV, tNotV, tChain, tApp, LamX.tLam, tRevLN, rCatN, rInTN, rInLN, flatV, inV, List.all_cons, List.all_nil, List.any_cons, List.any_nil, Bool.and_self, Bool.and_true, if_true, Bool.false_eq_true, if_false, tMt, tFldN, tSto, HO.ins.injEq, lkh, List.drop_zero, List.drop_succ_cons, List.drop_nil, rListS, wipe, L2.start, List.map_cons, List.map_nil, List.length_cons, List.length_nil, List.replicate, List.cons_append, List.nil_append, List.append_nil, Nat.reduceAdd, Nat.reduceSub, Nat.zero_add, List.replicate_succ, List.replicate_zero, List.getElem?_cons_zero, List.getElem?_cons_succ, List.set_cons_zero, List.set_cons_succ, Option.some.injEq, V.int.injEq, V.bl.injEq, V.ref.injEq, V.str.injEq, V.ty.injEq, List.cons.injEq, HO.tup.injEq, HO.lst.injEq, and_true, true_and, and_assoc, exists_eq_left, exists_eq_left', exists_and_left, exists_eq', atI0, atI1, atI2, atI3, Int.cast_ofNat_Int, Int.reduceToNat, scal_ii, scal_in, scal_ni, scal_nn, scal_bb, scal_ss, scal_sn, scal_ns, scal_bn, scal_nb, ite_iff, decide_eq_true_eq, decide_eq_false_iff_not, Bool.not_eq_true', Classical.not_not, ne_eq, not_false_eq_true, not_true_eq_false, forall_const, true_implies, false_implies, imp_self, sizeLine_eq, Nat.reduceLeDiff, reduceCtorEq, decide_true, decide_false]
  refine st_lc2R d (by omega) (fun R r => ?_) (fun D i H' => H D = none ∧ Same H H' ∧ PairsAt H' D ((List.range i).flatMap fun (y : Nat) => (List.range a.toNat).map fun (x : Nat) => (some (x : Int), some (y : Int))))
    (fun D i j H' => H D = none ∧ Same H H' ∧ PairsAt H' D (((List.range i).flatMap fun (y : Nat) => (List.range a.toNat).map fun (x : Nat) => (some (x : Int), some (y : Int))) ++ (List.range j).map fun (x : Nat) => (some (x : Int), some (i : Int))))
    (fun D H1 hD s h1 => ⟨hD, s, _, h1, .nil⟩) (fun D i H1 hi h => ?_) gName_mono gName_mono (fun D H1 h => k D H1 h.2.1 h.2.2)
  · simp only [exists_and_left, hp, lkLa, lkLb, lkLd, lkLn_area, lkLn_place, lkLn_order, lkLn_places, tSl, tPart, tNoPart, rSlLN, rMax2, rMin2, gUnlN, tYes, rLenS, cx_K, Value.ref.injEq, HO.xd.injEq, lk0, tSeq, tPar3, tPar, tCons, tNil, tVar, tC, tAsg, gName, gCons, gNil, gTupN, gSub, tOp, rI, rI0, rU, tTest, rNe, rEq, rIxTN, rIxLN, rLenL, rLenT, rIntI, rIntB, rAbs, rSetLN, tTruL, tRaiseX, rIsTy, rIsOw, ixN0, ixN1, tRet, tIf, tIfS, tNext, tBreak, tCont, tDrop, tTupN, tLstN, tUn, tCB, tCall, tNot, tAnd, tOr, tB, tAndV, tOrV, tNotV, tChain, tApp, LamX.tLam, tRevLN, rCatN, rInTN, rInLN, flatV, inV, List.all_cons, List.all_nil, List.any_cons, List.any_nil, Bool.and_self, Bool.and_true, if_true, Bool.false_eq_true, if_false, tMt, tFldN, tSto, HO.ins.injEq, lkh, List.drop_zero, List.drop_succ_cons, List.drop_nil, rListS, wipe, L2.start, List.map_cons, List.map_nil, List.length_cons, List.length_nil, List.replicate, List.cons_append, List.nil_append, List.append_nil, Nat.reduceAdd, Nat.reduceSub, Nat.zero_add, List.replicate_succ, List.replicate_zero, List.getElem?_cons_zero, List.getElem?_cons_succ, List.set_cons_zero, List.set_cons_succ, Option.some.injEq, V.int.injEq, V.bl.injEq, V.ref.injEq, V.str.injEq, V.ty.injEq, List.cons.injEq, HO.tup.injEq, HO.lst.injEq, and_true, true_and, and_assoc, exists_eq_left, exists_eq_left', exists_and_left, exists_eq', atI0, atI1, atI2, atI3, Int.cast_ofNat_Int, Int.reduceToNat, scal_ii, scal_in, scal_ni, scal_nn, scal_bb, scal_ss, scal_sn, scal_ns, scal_bn, scal_nb, ite_iff, decide_eq_true_eq, decide_eq_false_iff_not, Bool.not_eq_true', Classical.not_not, ne_eq, not_false_eq_true, not_true_eq_false, forall_const, true_implies, false_implies, imp_self, sizeLine_eq, Nat.reduceLeDiff, reduceCtorEq, decide_true, decide_false]
    exact r
  · obtain ⟨hD, s1, h1⟩ := h
    have hp1 := s1 _ _ hp
    simp only [exists_and_left, tSl, tPart, tNoPart, rSlLN, rMax2, rMin2, gUnlN, tYes, rLenS, cx_K, Value.ref.injEq, HO.xd.injEq, lk0, tSeq, tPar3, tPar, tCons, tNil, tVar, tC, tAsg, gName, gCons, gNil, gTupN, gSub, tOp, rI, rI0, rU, tTest, rNe, rEq, rIxTN, rIxLN, rLenL, rLenT, rIntI, rIntB, rAbs, rSetLN, tTruL, tRaiseX, rIsTy, rIsOw, ixN0, ixN1, tRet, tIf, tIfS, tNext, tBreak, tCont, tDrop, tTupN, tLstN, tUn, tCB, tCall, tNot, tAnd, tOr, tB, tAndV, tOrV, tNotV, tChain, tApp, LamX.tLam, tRevLN, rCatN, rInTN, rInLN, flatV, inV, List.all_cons, List.all_nil, List.any_cons, List.any_nil, Bool.and_self, Bool.and_true, if_true, Bool.false_eq_true, if_false, tMt, tFldN, tSto, HO.ins.injEq, lkh, List.drop_zero, List.drop_succ_cons, List.drop_nil, rListS, wipe, L2.start, List.map_cons, List.map_nil, List.length_cons, List.length_nil, List.replicate, List.cons_append, List.nil_append, List.append_nil, Nat.reduceAdd, Nat.reduceSub, Nat.zero_add, List.replicate_succ, List.replicate_zero, List.getElem?_cons_zero, List.getElem?_cons_succ, List.set_cons_zero, List.set_cons_succ, Option.some.injEq, V.int.injEq, V.bl.injEq, V.ref.injEq, V.str.injEq, V.ty.injEq, List.cons.injEq, HO.tup.injEq, HO.lst.injEq, and_true, true_and, and_assoc, exists_eq_left, exists_eq_left', exists_and_left, exists_eq', atI0, atI1, atI2, atI3, Int.cast_ofNat_Int, Int.reduceToNat, scal_ii, scal_in, scal_ni, scal_nn, scal_bb, scal_ss, scal_sn, scal_ns, scal_bn, scal_nb, ite_iff, decide_eq_true_eq, decide_eq_false_iff_not, Bool.not_eq_true', Classical.not_not, ne_eq, not_false_eq_true, not_true_eq_false, forall_const, true_implies, false_implies, imp_self, sizeLine_eq, Nat.reduceLeDiff, reduceCtorEq, decide_true, decide_false]
    refine ⟨a, by omega, by omega, fun R r => ?_, hD, s1, by simpa using h1, fun H2 ⟨_, s2, h2⟩ => ⟨hD, s2, ?_⟩, fun j H2 hj ⟨_, s2, h2⟩ => ?_⟩
    · simp only [exists_and_left, hp1, lkLa, lkLb, lkLd, lkLn_area, lkLn_place, lkLn_order, lkLn_places, tSl, tPart, tNoPart, rSlLN, rMax2, rMin2, gUnlN, tYes, rLenS, cx_K, Value.ref.injEq, HO.xd.injEq, lk0, tSeq, tPar3, tPar, tCons, tNil, tVar, tC, tAsg, gName, gCons, gNil, gTupN, gSub, tOp, rI, rI0, rU, tTest, rNe, rEq, rIxTN, rIxLN, rLenL, rLenT, rIntI, rIntB, rAbs, rSetLN, tTruL, tRaiseX, rIsTy, rIsOw, ixN0, ixN1, tRet, tIf, tIfS, tNext, tBreak, tCont, tDrop, tTupN, tLstN, tUn, tCB, tCall, tNot, tAnd, tOr, tB, tAndV, tOrV, tNotV, tChain, tApp, LamX.tLam, tRevLN, rCatN, rInTN, rInLN, flatV, inV, List.all_cons, List.all_nil, List.any_cons, List.any_nil, Bool.and_self, Bool.and_true, if_true, Bool.false_eq_true, if_false, tMt, tFldN, tSto, HO.ins.injEq, lkh, List.drop_zero, List.drop_succ_cons, List.drop_nil, rListS, wipe, L2.start, List.map_cons, List.map_nil, List.length_cons, List.length_nil, List.replicate, List.cons_append, List.nil_append, List.append_nil, Nat.reduceAdd, Nat.reduceSub, Nat.zero_add, List.replicate_succ, List.replicate_zero, List.getElem?_cons_zero, List.getElem?_cons_succ, List.set_cons_zero, List.set_cons_succ, Option.some.injEq, V.int.injEq, V.bl.injEq, V.ref.injEq, V.str.injEq, V.ty.injEq, List.cons.injEq, HO.tup.injEq, HO.lst.injEq, and_true, true_and, and_assoc, exists_eq_left, exists_eq_left', exists_and_left, exists_eq', atI0, atI1, atI2, atI3, Int.cast_ofNat_Int, Int.reduceToNat, scal_ii, scal_in, scal_ni, scal_nn, scal_bb, scal_ss, scal_sn, scal_ns, scal_bn, scal_nb, ite_iff, decide_eq_true_eq, decide_eq_false_iff_not, Bool.not_eq_true', Classical.not_not, ne_eq, not_false_eq_true, not_true_eq_false, forall_const, true_implies, false_implies, imp_self, sizeLine_eq, Nat.reduceLeDiff, reduceCtorEq, decide_true, decide_false]
      exact r
    · rw [List.range_succ, List.flatMap_append]; simpa using h2
    · intro t H3 ht s3 h3
      have bl : i * a.toNat ≤ d.toNat * a.toNat := Nat.mul_le_mul_right _ (Nat.le_of_lt hi)
      have bm : d.toNat * a.toNat = (a * d).toNat := by
        have : ((d.toNat * a.toNat : Nat) : Int) = a * d := by rw [Int.natCast_mul, Int.mul_comm]; congr 1 <;> omega
        omega
      obtain ⟨acc, e1, e2, e3⟩ := (h2.mono s3).push (q := (some (j : Int), some (i : Int))) h3 (by rw [List.length_append, len, List.length_map, List.length_range]; omega)
      refine ⟨acc, e1, e2, hD, fun b u e => ?_, ?_⟩
      · rw [upd_ne (ne_of_none e hD)]; exact s3 _ _ (s2 _ _ e)
      · rw [List.range_succ, List.map_append, ← List.append_assoc]; exact e3

end
end Iz
/-! k08_d -/
set_option Elab.async false
set_option linter.all false
set_option maxRecDepth 100000
set_option maxHeartbeats 4000000
namespace Iz
open PySem PySem.Spec PyProof.Rows L2
open He (ga)
local macro_rules | `(tactic| walk_at "wp") => `(tactic| simp only [tSl, tPart, tNoPart, rSlLN, rMax2, rMin2, gUnlN, tYes, rLenS, cx_K, Value.ref.injEq, HO.xd.injEq, lk0, tSeq, tPar3, tPar, tCons, tNil, tVar, tC, tAsg, gName, gCons, gNil, gTupN, gSub, tOp, rI, rI0, rU, tTest, rNe, rEq, rIxTN, rIxLN, rLenL, rLenT, rIntI, rIntB, rAbs, rSetLN, tTruL, tRaiseX, rIsTy, rIsOw, ixN0, ixN1, tRet, tIf, tIfS, tNext, tBreak, tCont, tDrop, tTupN, tLstN, tUn, tCB, tCall, tNot, tAnd, tOr, tB, tAndV, tOrV, tNotV, tChain, tApp, LamX.tLam, tRevLN, rCatN, rInTN, rInLN, flatV, inV, List.all_cons, List.all_nil, List.any_cons, List.any_nil, Bool.and_self, Bool.and_true, if_true, Bool.false_eq_true, if_false, tMt, tFldN, tSto, HO.ins.injEq, lkh, List.drop_zero, List.drop_succ_cons, List.drop_nil, rListS, wipe, L2.start, List.map_cons, List.map_nil, List.length_cons, List.length_nil, List.replicate, List.cons_append, List.nil_append, List.append_nil, Nat.reduceAdd, Nat.reduceSub, Nat.zero_add, List.replicate_succ, List.replicate_zero, List.getElem?_cons_zero, List.getElem?_cons_succ, List.set_cons_zero, List.set_cons_succ, Option.some.injEq, V.int.injEq, V.bl.injEq, V.ref.injEq, V.str.injEq, V.ty.injEq, List.cons.injEq, HO.tup.injEq, HO.lst.injEq, and_true, true_and, and_assoc, exists_eq_left, exists_eq_left', exists_and_left, exists_eq', atI0, atI1, atI2, atI3, Int.cast_ofNat_Int, Int.reduceToNat, scal_ii, scal_in, scal_ni, scal_nn, scal_bb, scal_ss, scal_sn, scal_ns, scal_bn, scal_nb, ite_iff, decide_eq_true_eq, decide_eq_false_iff_not, Bool.not_eq_true', Classical.not_not, ne_eq, not_false_eq_true, not_true_eq_false, forall_const, true_implies, false_implies, imp_self, sizeLine_eq, Nat.reduceLeDiff, reduceCtorEq, decide_true, decide_false])
section
variable {P : Program} {w : World} {K : PySem.W.Frag} {mg : Str → Option Value} {base : Heap}
/-! ### the law's pool of draws -/
def Po (H : Hp) (a : Addr) : Prop := ∃ g s : Int, H a = some (.lst [.int g, .int s])
/-- all but the pool stays -/
def StpP (a : Addr) (H H' : Hp) : Prop := ∀ b o, H b = some o → b ≠ a → H' b = some o
theorem StpP.trans {a : Addr} {H H1 H2 : Hp} (x : StpP a H H1) (y : StpP a H1 H2) : StpP a H H2 := fun b o h n => y b o (x b o h n) n
theorem StpP.refl {a : Addr} {H : Hp} : StpP a H H := fun _ _ h _ => h
theorem StpP.of {a : Addr} {H H1 : Hp} (x : Same H H1) : StpP a H H1 := fun b o h _ => x b o h
theorem Po.same {H H1 : Hp} {a : Addr} (x : Po H a) (s : Same H H1) : Po H1 a := let ⟨g, n, h⟩ := x; ⟨g, n, s _ _ h⟩
/-- what is no list of two ints stays -/
theorem StpP.at {a b : Addr} {H H' : Hp} {o : HO} (t : StpP a H H') (p : Po H a) (h : H b = some o) (n : ∀ g s : Int, o ≠ .lst [.int g, .int s]) : H' b = some o := t b o h fun e => by
  obtain ⟨g, s, e2⟩ := p
  subst e
  exact n g s (Option.some.inj (h.symm.trans e2))
def spDraw : Sp := fun vs H Q _ => ∃ a lim, vs = [.ref a, .int lim] ∧ Po H a ∧ 1 ≤ lim ∧ lim.natAbs < 2 ^ 250 ∧ ∀ d H', 0 ≤ d → d < lim → Po H' a → StpP a H H' → Q (.int d) H'
theorem o__law_draw (T : Txt K mg) : OkF P w K mg base CX0 1 "_law_draw" ["_law_pool", "_law_many"] spDraw := by
  obtain ⟨f, fd, g, F⟩ := T.d__law_draw
  refine ⟨f, fd, g, F.kp, F.binds (fun _ _ _ _ _ _ us hl => match us, hl with | [_, _], _ => rfl), F.ok sc__law_draw (fun vs H Q E h => ?_) (fun cdv A outer s H vs Q E hr h => ?_)⟩
  · first | (obtain ⟨_, rfl, _⟩ := h; rfl) | (obtain ⟨_, _, rfl, _⟩ := h; rfl) | (obtain ⟨_, _, _, rfl, _⟩ := h; rfl) | (obtain ⟨_, _, _, _, rfl, _⟩ := h; rfl) | (obtain ⟨_, _, _, _, _, rfl, _⟩ := h; rfl) | (obtain ⟨_, _, _, _, _, _, rfl, _⟩ := h; rfl) | (obtain ⟨_, _, _, _, _, _, _, rfl, _⟩ := h; rfl)
  have hu64 := hr.units
  refine ⟨_, pss_cons (ps_if (pt_cmpR op_gt (pe_ix ix_listN (pv 0) (pe_int) (fun _ _ => rfl)) (pe_int) (nomark _)) (pss_cons (ps_set (i := 2) sc__law_draw.nd rfl (Or.inl rfl) (pe_op op_mod (pe_callTy call_intI (by rfl) T.m_int (by decide +kernel) (pa_cons (pe_ix ix_listN (pv 0) (pe_int) (fun _ _ => rfl)) pa_nil)) (pv 1)))
      (pss_cons (ps_asg (pe_op op_fdivW (pe_ix ix_listN (pv 0) (pe_int) (fun _ _ => rfl)) (pv 1)) (pg_sub (pv 0) (pe_int) set_listN))
      (pss_one (ps_ret (pv 2))))) (pss_nil))
      (pss_cons (ps_asg (pe_op op_mod (pe_callTy call_intI (by rfl) T.m_int (by decide +kernel) (pa_cons (pe_op op_add (pe_op op_mul (pe_ix ix_listN (pv 0) (pe_int) (fun _ _ => rfl)) (pe_int)) (pe_int)) pa_nil)) (pe_int)) (pg_sub (pv 0) (pe_int) set_listN))
      (pss_one (ps_ret (pe_op op_mod (pe_op op_fdivW (pe_op op_mod (pe_callTy call_intI (by rfl) T.m_int (by decide +kernel) (pa_cons (pe_op op_mulW (pe_ix ix_listN (pv 0) (pe_int) (fun _ _ => rfl)) (pe_ix ix_listN (pv 0) (pe_int) (fun _ _ => rfl))) pa_nil)) (pe_int)) (pe_int)) (pv 1))))), ?_⟩
  obtain ⟨a, lim, rfl, ⟨g, n, ha⟩, l1, lb, k⟩ := h
  simp only [ha, exists_and_left, tSl, tPart, tNoPart, rSlLN, rMax2, rMin2, gUnlN, tYes, rLenS, cx_K, Value.ref.injEq, HO.xd.injEq, lk0, tSeq, tPar3, tPar, tCons, tNil, tVar, tC, tAsg, gName, gCons, gNil, gTupN, gSub, tOp, rI, rI0, rU, tTest, rNe, rEq, rIxTN, rIxLN, rLenL, rLenT, rIntI, rIntB, rAbs, rSetLN, tTruL, tRaiseX, rIsTy, rIsOw, ixN0, ixN1, tRet, tIf, tIfS, tNext, tBreak, tCont, tDrop, tTupN, tLstN, tUn, tCB, tCall, tNot, tAnd, tOr, tB, tAndV, tOrV, tNotV, tChain, tApp, LamX.tLam, tRevLN, rCatN, rInTN, rInLN, flatV, inV, List.all_cons, List.all_nil, List.any_cons, List.any_nil, Bool.and_self, Bool.and_true, if_true, Bool.false_eq_true, if_false, tMt, tFldN, tSto, HO.ins.injEq, lkh, List.drop_zero, List.drop_succ_cons, List.drop_nil, rListS, wipe, L2.start, List.map_cons, List.map_nil, List.length_cons, List.length_nil, List.replicate, List.cons_append, List.nil_append, List.append_nil, Nat.reduceAdd, Nat.reduceSub, Nat.zero_add, List.replicate_succ, List.replicate_zero, List.getElem?_cons_zero, List.getElem?_cons_succ, List.set_cons_zero, List.set_cons_succ, Option.some.injEq, V.int.injEq, V.bl.injEq, V.ref.injEq, V.str.injEq, V.ty.injEq, List.cons.injEq, HO.tup.injEq, HO.lst.injEq, and_true, true_and, and_assoc, exists_eq_left, exists_eq_left', exists_and_left, exists_eq', atI0, atI1, atI2, atI3, Int.cast_ofNat_Int, Int.reduceToNat, scal_ii, scal_in, scal_ni, scal_nn, scal_bb, scal_ss, scal_sn, scal_ns, scal_bn, scal_nb, ite_iff, decide_eq_true_eq, decide_eq_false_iff_not, Bool.not_eq_true', Classical.not_not, ne_eq, not_false_eq_true, not_true_eq_false, forall_const, true_implies, false_implies, imp_self, sizeLine_eq, Nat.reduceLeDiff, reduceCtorEq, decide_true, decide_false]
  refine ⟨fun h0 => ?_, fun h0 => ?_⟩
  · exact ⟨by omega, wide_div (by omega) lb (by decide) (by decide), fun H2 p => k _ H2 (Int.emod_nonneg _ (by omega)) (Int.emod_lt_of_pos _ (by omega)) ⟨_, _, p.1⟩ fun b o e nb => by rw [p.2 b nb]; exact e⟩
  · refine ⟨.inr ⟨by decide, by decide⟩, by decide, fun H2 p => ?_⟩
    have h2 := p.1
    simp only [h2, exists_and_left, tSl, tPart, tNoPart, rSlLN, rMax2, rMin2, gUnlN, tYes, rLenS, cx_K, Value.ref.injEq, HO.xd.injEq, lk0, tSeq, tPar3, tPar, tCons, tNil, tVar, tC, tAsg, gName, gCons, gNil, gTupN, gSub, tOp, rI, rI0, rU, tTest, rNe, rEq, rIxTN, rIxLN, rLenL, rLenT, rIntI, rIntB, rAbs, rSetLN, tTruL, tRaiseX, rIsTy, rIsOw, ixN0, ixN1, tRet, tIf, tIfS, tNext, tBreak, tCont, tDrop, tTupN, tLstN, tUn, tCB, tCall, tNot, tAnd, tOr, tB, tAndV, tOrV, tNotV, tChain, tApp, LamX.tLam, tRevLN, rCatN, rInTN, rInLN, flatV, inV, List.all_cons, List.all_nil, List.any_cons, List.any_nil, Bool.and_self, Bool.and_true, if_true, Bool.false_eq_true, if_false, tMt, tFldN, tSto, HO.ins.injEq, lkh, List.drop_zero, List.drop_succ_cons, List.drop_nil, rListS, wipe, L2.start, List.map_cons, List.map_nil, List.length_cons, List.length_nil, List.replicate, List.cons_append, List.nil_append, List.append_nil, Nat.reduceAdd, Nat.reduceSub, Nat.zero_add, List.replicate_succ, List.replicate_zero, List.getElem?_cons_zero, List.getElem?_cons_succ, List.set_cons_zero, List.set_cons_succ, Option.some.injEq, V.int.injEq, V.bl.injEq, V.ref.injEq, V.str.injEq, V.ty.injEq, List.cons.injEq, HO.tup.injEq, HO.lst.injEq, and_true, true_and, and_assoc, exists_eq_left, exists_eq_left', exists_and_left, exists_eq', atI0, atI1, atI2, atI3, Int.cast_ofNat_Int, Int.reduceToNat, scal_ii, scal_in, scal_ni, scal_nn, scal_bb, scal_ss, scal_sn, scal_ns, scal_bn, scal_nb, ite_iff, decide_eq_true_eq, decide_eq_false_iff_not, Bool.not_eq_true', Classical.not_not, ne_eq, not_false_eq_true, not_true_eq_false, forall_const, true_implies, false_implies, imp_self, sizeLine_eq, Nat.reduceLeDiff, reduceCtorEq, decide_true, decide_false]
    have b0 := Int.emod_nonneg (n * 48271 + 11) (b := 2147483647) (by decide)
    have b1 := Int.emod_lt_of_pos (n * 48271 + 11) (b := 2147483647) (by decide)
    refine ⟨wide_mul (a := 31) (b := 31) (by omega) (by omega) (by decide) (by decide) (by decide), by decide, wide_div (show (0 : Int) < 32 by decide) (b := 6) (by decide) (by decide) (by decide), by omega, k _ H2 (Int.emod_nonneg _ (by omega)) (Int.emod_lt_of_pos _ (by omega)) ⟨_, _, h2⟩ fun b o e nb => by rw [p.2 b nb]; exact e⟩
def spPick : Sp := fun vs H Q _ => ∃ a l, vs = [.ref a, .ref l] ∧ Po H a ∧ l ≠ a ∧ ∃ xs, H l = some (.lst xs) ∧ 1 ≤ xs.length ∧ xs.length ≤ 1000 ∧ ∀ x H', x ∈ xs → Po H' a → StpP a H H' → Q x H'
theorem o__law_pick (T : Txt K mg) : OkF P w K mg base CX0 2 "_law_pick" ["_law_pool", "_law_some"] spPick := by
  have o__law_draw := o__law_draw (P := P) (w := w) (base := base) T
  obtain ⟨f, fd, g, F⟩ := T.d__law_pick
  refine ⟨f, fd, g, F.kp, F.binds (fun _ _ _ _ _ _ us hl => match us, hl with | [_, _], _ => rfl), F.ok sc__law_pick (fun vs H Q E h => ?_) (fun cdv A outer s H vs Q E hr h => ?_)⟩
  · first | (obtain ⟨_, rfl, _⟩ := h; rfl) | (obtain ⟨_, _, rfl, _⟩ := h; rfl) | (obtain ⟨_, _, _, rfl, _⟩ := h; rfl) | (obtain ⟨_, _, _, _, rfl, _⟩ := h; rfl) | (obtain ⟨_, _, _, _, _, rfl, _⟩ := h; rfl) | (obtain ⟨_, _, _, _, _, _, rfl, _⟩ := h; rfl) | (obtain ⟨_, _, _, _, _, _, _, rfl, _⟩ := h; rfl)
  have hu64 := hr.units
  refine ⟨_, pss_one (ps_ret (pe_ix ix_listN (pv 1) (pcl o__law_draw (hr.mono (by decide)) pass0 (pa_cons (pv 0) (pa_cons (pe_callB call_lenL (by rfl) T.m_len (by decide +kernel) (pa_cons (pv 1) pa_nil)) pa_nil))) (fun _ _ => rfl))), ?_⟩
  obtain ⟨a, l, rfl, hP, la, xs, hl, l1, l2, k⟩ := h
  simp only [spDraw, hl, exists_and_left, tSl, tPart, tNoPart, rSlLN, rMax2, rMin2, gUnlN, tYes, rLenS, cx_K, Value.ref.injEq, HO.xd.injEq, lk0, tSeq, tPar3, tPar, tCons, tNil, tVar, tC, tAsg, gName, gCons, gNil, gTupN, gSub, tOp, rI, rI0, rU, tTest, rNe, rEq, rIxTN, rIxLN, rLenL, rLenT, rIntI, rIntB, rAbs, rSetLN, tTruL, tRaiseX, rIsTy, rIsOw, ixN0, ixN1, tRet, tIf, tIfS, tNext, tBreak, tCont, tDrop, tTupN, tLstN, tUn, tCB, tCall, tNot, tAnd, tOr, tB, tAndV, tOrV, tNotV, tChain, tApp, LamX.tLam, tRevLN, rCatN, rInTN, rInLN, flatV, inV, List.all_cons, List.all_nil, List.any_cons, List.any_nil, Bool.and_self, Bool.and_true, if_true, Bool.false_eq_true, if_false, tMt, tFldN, tSto, HO.ins.injEq, lkh, List.drop_zero, List.drop_succ_cons, List.drop_nil, rListS, wipe, L2.start, List.map_cons, List.map_nil, List.length_cons, List.length_nil, List.replicate, List.cons_append, List.nil_append, List.append_nil, Nat.reduceAdd, Nat.reduceSub, Nat.zero_add, List.replicate_succ, List.replicate_zero, List.getElem?_cons_zero, List.getElem?_cons_succ, List.set_cons_zero, List.set_cons_succ, Option.some.injEq, V.int.injEq, V.bl.injEq, V.ref.injEq, V.str.injEq, V.ty.injEq, List.cons.injEq, HO.tup.injEq, HO.lst.injEq, and_true, true_and, and_assoc, exists_eq_left, exists_eq_left', exists_and_left, exists_eq', atI0, atI1, atI2, atI3, Int.cast_ofNat_Int, Int.reduceToNat, scal_ii, scal_in, scal_ni, scal_nn, scal_bb, scal_ss, scal_sn, scal_ns, scal_bn, scal_nb, ite_iff, decide_eq_true_eq, decide_eq_false_iff_not, Bool.not_eq_true', Classical.not_not, ne_eq, not_false_eq_true, not_true_eq_false, forall_const, true_implies, false_implies, imp_self, sizeLine_eq, Nat.reduceLeDiff, reduceCtorEq, decide_true, decide_false]
  refine ⟨hP, by omega, by omega, fun d H1 d0 d1 hP1 t1 => ?_⟩
  have h1 := t1 _ _ hl la
  simp only [h1, exists_and_left, tSl, tPart, tNoPart, rSlLN, rMax2, rMin2, gUnlN, tYes, rLenS, cx_K, Value.ref.injEq, HO.xd.injEq, lk0, tSeq, tPar3, tPar, tCons, tNil, tVar, tC, tAsg, gName, gCons, gNil, gTupN, gSub, tOp, rI, rI0, rU, tTest, rNe, rEq, rIxTN, rIxLN, rLenL, rLenT, rIntI, rIntB, rAbs, rSetLN, tTruL, tRaiseX, rIsTy, rIsOw, ixN0, ixN1, tRet, tIf, tIfS, tNext, tBreak, tCont, tDrop, tTupN, tLstN, tUn, tCB, tCall, tNot, tAnd, tOr, tB, tAndV, tOrV, tNotV, tChain, tApp, LamX.tLam, tRevLN, rCatN, rInTN, rInLN, flatV, inV, List.all_cons, List.all_nil, List.any_cons, List.any_nil, Bool.and_self, Bool.and_true, if_true, Bool.false_eq_true, if_false, tMt, tFldN, tSto, HO.ins.injEq, lkh, List.drop_zero, List.drop_succ_cons, List.drop_nil, rListS, wipe, L2.start, List.map_cons, List.map_nil, List.length_cons, List.length_nil, List.replicate, List.cons_append, List.nil_append, List.append_nil, Nat.reduceAdd, Nat.reduceSub, Nat.zero_add, List.replicate_succ, List.replicate_zero, List.getElem?_cons_zero, List.getElem?_cons_succ, List.set_cons_zero, List.set_cons_succ, Option.some.injEq, V.int.injEq, V.bl.injEq, V.ref.injEq, V.str.injEq, V.ty.injEq, List.cons.injEq, HO.tup.injEq, HO.lst.injEq, and_true, true_and, and_assoc, exists_eq_left, exists_eq_left', exists_and_left, exists_eq', atI0, atI1, atI2, atI3, Int.cast_ofNat_Int, Int.reduceToNat, scal_ii, scal_in, scal_ni, scal_nn, scal_bb, scal_ss, scal_sn, scal_ns, scal_bn, scal_nb, ite_iff, decide_eq_true_eq, decide_eq_false_iff_not, Bool.not_eq_true', Classical.not_not, ne_eq, not_false_eq_true, not_true_eq_false, forall_const, true_implies, false_implies, imp_self, sizeLine_eq, Nat.reduceLeDiff, reduceCtorEq, decide_true, decide_false]
  have hd : d.toNat < xs.length := by omega
  exact ⟨xs[d.toNat], atI_ok d0 (List.getElem?_eq_getElem hd), k _ H1 (List.getElem_mem hd) hP1 t1⟩
def spIntL : Sp := fun vs H Q _ => ∃ a, vs = [.ref a] ∧ Po H a ∧ ∀ (z : Int) H', z.natAbs < 2 ^ 102 → Po H' a → StpP a H H' → Q (.int z) H'
theorem o__law_int (T : Txt K mg) : OkF P w K mg base CX0 3 "_law_int" ["_law_pool"] spIntL := by
  have o__law_draw := o__law_draw (P := P) (w := w) (base := base) T
  have o__law_pick := o__law_pick (P := P) (w := w) (base := base) T
  obtain ⟨f, fd, g, F⟩ := T.d__law_int
  refine ⟨f, fd, g, F.kp, F.binds (fun _ _ _ _ _ _ us hl => match us, hl with | [_], _ => rfl), F.ok sc__law_int (fun vs H Q E h => ?_) (fun cdv A outer s H vs Q E hr h => ?_)⟩
  · first | (obtain ⟨_, rfl, _⟩ := h; rfl) | (obtain ⟨_, _, rfl, _⟩ := h; rfl) | (obtain ⟨_, _, _, rfl, _⟩ := h; rfl) | (obtain ⟨_, _, _, _, rfl, _⟩ := h; rfl) | (obtain ⟨_, _, _, _, _, rfl, _⟩ := h; rfl) | (obtain ⟨_, _, _, _, _, _, rfl, _⟩ := h; rfl) | (obtain ⟨_, _, _, _, _, _, _, rfl, _⟩ := h; rfl)
  have hu64 := hr.units
  refine ⟨_, pss_cons (ps_set (i := 1) sc__law_int.nd rfl (Or.inl rfl) (pcl o__law_pick (hr.mono (by decide)) pass0 (pa_cons (pv 0) (pa_cons (pe_lstN (pa_cons (pe_int) (pa_cons (pe_int) (pa_cons (pe_int) (pa_cons (pe_op op_pow (pe_int) (pe_int)) (pa_cons (pe_op op_pow (pe_int) (pe_int)) pa_nil)))))) pa_nil))))
      (pss_one (ps_ret (pe_op op_sub (pcl o__law_draw (hr.mono (by decide)) pass0 (pa_cons (pv 0) (pa_cons (pv 1) pa_nil))) (pe_op op_mul (pe_op op_mulW (pcl o__law_draw (hr.mono (by decide)) pass0 (pa_cons (pv 0) (pa_cons (pe_int) pa_nil))) (pcl o__law_draw (hr.mono (by decide)) pass0 (pa_cons (pv 0) (pa_cons (pv 1) pa_nil)))) (pe_int))))), ?_⟩
  obtain ⟨a, rfl, hP, k⟩ := h
  have e3 : (10 : Int) ^ (3 : Int).toNat = 1000 := rfl
  have e30 : (10 : Int) ^ (30 : Int).toNat = 1000000000000000000000000000000 := rfl
  simp only [spPick, e3, e30, exists_and_left, tSl, tPart, tNoPart, rSlLN, rMax2, rMin2, gUnlN, tYes, rLenS, cx_K, Value.ref.injEq, HO.xd.injEq, lk0, tSeq, tPar3, tPar, tCons, tNil, tVar, tC, tAsg, gName, gCons, gNil, gTupN, gSub, tOp, rI, rI0, rU, tTest, rNe, rEq, rIxTN, rIxLN, rLenL, rLenT, rIntI, rIntB, rAbs, rSetLN, tTruL, tRaiseX, rIsTy, rIsOw, ixN0, ixN1, tRet, tIf, tIfS, tNext, tBreak, tCont, tDrop, tTupN, tLstN, tUn, tCB, tCall, tNot, tAnd, tOr, tB, tAndV, tOrV, tNotV, tChain, tApp, LamX.tLam, tRevLN, rCatN, rInTN, rInLN, flatV, inV, List.all_cons, List.all_nil, List.any_cons, List.any_nil, Bool.and_self, Bool.and_true, if_true, Bool.false_eq_true, if_false, tMt, tFldN, tSto, HO.ins.injEq, lkh, List.drop_zero, List.drop_succ_cons, List.drop_nil, rListS, wipe, L2.start, List.map_cons, List.map_nil, List.length_cons, List.length_nil, List.replicate, List.cons_append, List.nil_append, List.append_nil, Nat.reduceAdd, Nat.reduceSub, Nat.zero_add, List.replicate_succ, List.replicate_zero, List.getElem?_cons_zero, List.getElem?_cons_succ, List.set_cons_zero, List.set_cons_succ, Option.some.injEq, V.int.injEq, V.bl.injEq, V.ref.injEq, V.str.injEq, V.ty.injEq, List.cons.injEq, HO.tup.injEq, HO.lst.injEq, and_true, true_and, and_assoc, exists_eq_left, exists_eq_left', exists_and_left, exists_eq', atI0, atI1, atI2, atI3, Int.cast_ofNat_Int, Int.reduceToNat, scal_ii, scal_in, scal_ni, scal_nn, scal_bb, scal_ss, scal_sn, scal_ns, scal_bn, scal_nb, ite_iff, decide_eq_true_eq, decide_eq_false_iff_not, Bool.not_eq_true', Classical.not_not, ne_eq, not_false_eq_true, not_true_eq_false, forall_const, true_implies, false_implies, imp_self, sizeLine_eq, Nat.reduceLeDiff, reduceCtorEq, decide_true, decide_false]
  refine ⟨⟨by decide, by decide, by decide⟩, ⟨by decide, by decide, by decide⟩, fun l H1 hl s1 h1 => ?_⟩
  have la : l ≠ a := by obtain ⟨g, n, ha⟩ := hP; exact (ne_of_none ha hl).symm
  refine ⟨l, rfl, hP.same s1, la, _, h1, by simp, by simp, fun x H2 hx hP2 t2 => ?_⟩
  obtain ⟨z, rfl, z1, z2⟩ : ∃ z : Int, x = .int z ∧ 1 ≤ z ∧ z ≤ 1000000000000000000000000000000 := by
    simp only [List.mem_cons, List.not_mem_nil, or_false] at hx
    rcases hx with rfl | rfl | rfl | rfl | rfl <;> exact ⟨_, rfl, by decide, by decide⟩
  simp only [spDraw, exists_and_left, tSl, tPart, tNoPart, rSlLN, rMax2, rMin2, gUnlN, tYes, rLenS, cx_K, Value.ref.injEq, HO.xd.injEq, lk0, tSeq, tPar3, tPar, tCons, tNil, tVar, tC, tAsg, gName, gCons, gNil, gTupN, gSub, tOp, rI, rI0, rU, tTest, rNe, rEq, rIxTN, rIxLN, rLenL, rLenT, rIntI, rIntB, rAbs, rSetLN, tTruL, tRaiseX, rIsTy, rIsOw, ixN0, ixN1, tRet, tIf, tIfS, tNext, tBreak, tCont, tDrop, tTupN, tLstN, tUn, tCB, tCall, tNot, tAnd, tOr, tB, tAndV, tOrV, tNotV, tChain, tApp, LamX.tLam, tRevLN, rCatN, rInTN, rInLN, flatV, inV, List.all_cons, List.all_nil, List.any_cons, List.any_nil, Bool.and_self, Bool.and_true, if_true, Bool.false_eq_true, if_false, tMt, tFldN, tSto, HO.ins.injEq, lkh, List.drop_zero, List.drop_succ_cons, List.drop_nil, rListS, wipe, L2.start, List.map_cons, List.map_nil, List.length_cons, List.length_nil, List.replicate, List.cons_append, List.nil_append, List.append_nil, Nat.reduceAdd, Nat.reduceSub, Nat.zero_add, List.replicate_succ, List.replicate_zero, List.getElem?_cons_zero, List.getElem?_cons_succ, List.set_cons_zero, List.set_cons_succ, Option.some.injEq, V.int.injEq, V.bl.injEq, V.ref.injEq, V.str.injEq, V.ty.injEq, List.cons.injEq, HO.tup.injEq, HO.lst.injEq, and_true, true_and, and_assoc, exists_eq_left, exists_eq_left', exists_and_left, exists_eq', atI0, atI1, atI2, atI3, Int.cast_ofNat_Int, Int.reduceToNat, scal_ii, scal_in, scal_ni, scal_nn, scal_bb, scal_ss, scal_sn, scal_ns, scal_bn, scal_nb, ite_iff, decide_eq_true_eq, decide_eq_false_iff_not, Bool.not_eq_true', Classical.not_not, ne_eq, not_false_eq_true, not_true_eq_false, forall_const, true_implies, false_implies, imp_self, sizeLine_eq, Nat.reduceLeDiff, reduceCtorEq, decide_true, decide_false]
  refine ⟨hP2, by omega, by omega, fun d H3 d0 d1 hP3 t3 => ⟨hP3, by decide, by decide, fun e H4 e0 e1 hP4 t4 => ⟨hP4, by omega, by omega, fun f H5 f0 f1 hP5 t5 => ?_⟩⟩⟩
  have tt : StpP a H H5 := (((StpP.of s1).trans t2).trans t3).trans (t4.trans t5)
  have ee : e = 0 ∨ e = 1 := by omega
  rcases ee with rfl | rfl
  · exact ⟨wide_mul (a := 1) (b := 101) (by decide) (by omega) (by decide) (by decide) (by decide), .inr ⟨by decide, by decide⟩, k _ H5 (by omega) hP5 tt⟩
  · exact ⟨wide_mul (a := 1) (b := 101) (by decide) (by omega) (by decide) (by decide) (by decide), .inr ⟨by decide, by decide⟩, k _ H5 (by omega) hP5 tt⟩
/-- three ints in a list -/
abbrev T3 (H : Hp) (t : Addr) (w s h : Int) : Prop := H t = some (.lst [.int w, .int s, .int h])
theorem T3.stp {H H' : Hp} {t a : Addr} {w s h : Int} (e : T3 H t w s h) (p : Po H a) (x : StpP a H H') : T3 H' t w s h := x.at p e (fun g s z => by cases z)
def spThree : Sp := fun vs H Q _ => ∃ a most, vs = [.ref a, .int most] ∧ Po H a ∧ 1 ≤ most ∧ most ≤ 100000000000000000000 ∧ ∀ t w s h H', 1 ≤ w → w ≤ most → 0 ≤ s → s < w → 1 ≤ h → h ≤ most → Po H' a → StpP a H H' → T3 H' t w s h → Q (.ref t) H'
theorem o__law_three (T : Txt K mg) : OkF P w K mg base CX0 2 "_law_three" ["_law_pool", "_law_most"] spThree := by
  have o__law_draw := o__law_draw (P := P) (w := w) (base := base) T
  obtain ⟨f, fd, g, F⟩ := T.d__law_three
  refine ⟨f, fd, g, F.kp, F.binds (fun _ _ _ _ _ _ us hl => match us, hl with | [_, _], _ => rfl), F.ok sc__law_three (fun vs H Q E h => ?_) (fun cdv A outer s H vs Q E hr h => ?_)⟩
  · first | (obtain ⟨_, rfl, _⟩ := h; rfl) | (obtain ⟨_, _, rfl, _⟩ := h; rfl) | (obtain ⟨_, _, _, rfl, _⟩ := h; rfl) | (obtain ⟨_, _, _, _, rfl, _⟩ := h; rfl) | (obtain ⟨_, _, _, _, _, rfl, _⟩ := h; rfl) | (obtain ⟨_, _, _, _, _, _, rfl, _⟩ := h; rfl) | (obtain ⟨_, _, _, _, _, _, _, rfl, _⟩ := h; rfl)
  have hu64 := hr.units
  refine ⟨_, pss_cons (ps_set (i := 2) sc__law_three.nd rfl (Or.inl rfl) (pe_op op_add (pe_int) (pcl o__law_draw (hr.mono (by decide)) pass0 (pa_cons (pv 0) (pa_cons (pv 1) pa_nil)))))
      (pss_one (ps_ret (pe_lstN (pa_cons (pv 2) (pa_cons (pcl o__law_draw (hr.mono (by decide)) pass0 (pa_cons (pv 0) (pa_cons (pv 2) pa_nil))) (pa_cons (pe_op op_add (pe_int) (pcl o__law_draw (hr.mono (by decide)) pass0 (pa_cons (pv 0) (pa_cons (pv 1) pa_nil)))) pa_nil)))))), ?_⟩
  obtain ⟨a, most, rfl, hP, m1, m2, k⟩ := h
  simp only [spDraw, exists_and_left, tSl, tPart, tNoPart, rSlLN, rMax2, rMin2, gUnlN, tYes, rLenS, cx_K, Value.ref.injEq, HO.xd.injEq, lk0, tSeq, tPar3, tPar, tCons, tNil, tVar, tC, tAsg, gName, gCons, gNil, gTupN, gSub, tOp, rI, rI0, rU, tTest, rNe, rEq, rIxTN, rIxLN, rLenL, rLenT, rIntI, rIntB, rAbs, rSetLN, tTruL, tRaiseX, rIsTy, rIsOw, ixN0, ixN1, tRet, tIf, tIfS, tNext, tBreak, tCont, tDrop, tTupN, tLstN, tUn, tCB, tCall, tNot, tAnd, tOr, tB, tAndV, tOrV, tNotV, tChain, tApp, LamX.tLam, tRevLN, rCatN, rInTN, rInLN, flatV, inV, List.all_cons, List.all_nil, List.any_cons, List.any_nil, Bool.and_self, Bool.and_true, if_true, Bool.false_eq_true, if_false, tMt, tFldN, tSto, HO.ins.injEq, lkh, List.drop_zero, List.drop_succ_cons, List.drop_nil, rListS, wipe, L2.start, List.map_cons, List.map_nil, List.length_cons, List.length_nil, List.replicate, List.cons_append, List.nil_append, List.append_nil, Nat.reduceAdd, Nat.reduceSub, Nat.zero_add, List.replicate_succ, List.replicate_zero, List.getElem?_cons_zero, List.getElem?_cons_succ, List.set_cons_zero, List.set_cons_succ, Option.some.injEq, V.int.injEq, V.bl.injEq, V.ref.injEq, V.str.injEq, V.ty.injEq, List.cons.injEq, HO.tup.injEq, HO.lst.injEq, and_true, true_and, and_assoc, exists_eq_left, exists_eq_left', exists_and_left, exists_eq', atI0, atI1, atI2, atI3, Int.cast_ofNat_Int, Int.reduceToNat, scal_ii, scal_in, scal_ni, scal_nn, scal_bb, scal_ss, scal_sn, scal_ns, scal_bn, scal_nb, ite_iff, decide_eq_true_eq, decide_eq_false_iff_not, Bool.not_eq_true', Classical.not_not, ne_eq, not_false_eq_true, not_true_eq_false, forall_const, true_implies, false_implies, imp_self, sizeLine_eq, Nat.reduceLeDiff, reduceCtorEq, decide_true, decide_false]
  refine ⟨hP, m1, by omega, fun d H1 d0 d1 hP1 t1 => ⟨hP1, by omega, by omega, fun e H2 e0 e1 hP2 t2 => ⟨hP2, by omega, by omega, fun f H3 f0 f1 hP3 t3 => ?_⟩⟩⟩
  intro t H4 ht s4 h4
  exact k t _ _ _ H4 (by omega) (by omega) e0 (by omega) (by omega) (by omega) (hP3.same s4) ((t1.trans t2).trans (t3.trans (StpP.of s4))) h4
def spOpened (K : PySem.W.Frag) : Sp := fun vs H Q _ => ∃ sc i, vs = [.ref sc, .int i] ∧ ∃ ns : List Int, SqL K H sc (ns.map V.int) ∧ 0 ≤ i ∧ i < 100 ∧ ∀ p H', H p = none → Same H H' → Po H' p → Q (.ref p) H'
theorem o__law_opened (T : Txt K mg) : OkF P w K mg base CX0 1 "_law_opened" ["_law_script", "_law_k"] (spOpened K) := by
  obtain ⟨f, fd, g, F⟩ := T.d__law_opened
  refine ⟨f, fd, g, F.kp, F.binds (fun _ _ _ _ _ _ us hl => match us, hl with | [_, _], _ => rfl), F.ok sc__law_opened (fun vs H Q E h => ?_) (fun cdv A outer s H vs Q E hr h => ?_)⟩
  · first | (obtain ⟨_, rfl, _⟩ := h; rfl) | (obtain ⟨_, _, rfl, _⟩ := h; rfl) | (obtain ⟨_, _, _, rfl, _⟩ := h; rfl) | (obtain ⟨_, _, _, _, rfl, _⟩ := h; rfl) | (obtain ⟨_, _, _, _, _, rfl, _⟩ := h; rfl) | (obtain ⟨_, _, _, _, _, _, rfl, _⟩ := h; rfl) | (obtain ⟨_, _, _, _, _, _, _, rfl, _⟩ := h; rfl)
  have hu64 := hr.units
  refine ⟨_, pss_cons (ps_set (i := 2) sc__law_opened.nd rfl (Or.inl rfl) (pe_ix ix_listN (pe_op op_catN (pe_slice sl_listN (pv 0) (po_some (pv 1)) (po_some (pe_op op_add (pv 1) (pe_int)))) (pe_lstN (pa_cons (pe_int) pa_nil))) (pe_int) (fun _ _ => rfl)))
      (pss_cons (ps_set (i := 3) sc__law_opened.nd rfl (Or.inl rfl) (pe_callB (call_max2N rfl) (by rfl) T.m_max (by decide +kernel) (pa_cons (pe_callTy call_intI (by rfl) T.m_int (by decide +kernel) (pa_cons (pv 2) pa_nil)) (pa_cons (pe_callTy call_intI (by rfl) T.m_int (by decide +kernel) (pa_cons (pe_op op_sub (pe_un un_neg (pe_int)) (pv 2)) pa_nil)) pa_nil))))
      (pss_cons (ps_set (i := 4) sc__law_opened.nd rfl (Or.inl rfl) (pe_op op_mod (pe_op op_mul (pe_op op_add (pe_op op_add (pe_op op_mod (pe_callTy call_intI (by rfl) T.m_int (by decide +kernel) (pa_cons (pv 3) pa_nil)) (pe_int)) (pe_op op_mul (pe_int) (pv 1))) (pe_int)) (pe_int)) (pe_int)))
      (pss_one (ps_ret (pe_lstN (pa_cons (pe_op op_mul (pe_callTy call_intB (by rfl) T.m_int (by decide +kernel) (pa_cons (pe_cmpR op_ge (pv 3) (pe_op op_pow (pe_int) (pe_int)) (nomark _)) pa_nil)) (pv 3)) (pa_cons (pv 4) pa_nil))))))), ?_⟩
  obtain ⟨sc, i, rfl, ns, hs, i0, i1, k⟩ := h
  simp only [exists_and_left, tSl, tPart, tNoPart, rSlLN, rMax2, rMin2, gUnlN, tYes, rLenS, cx_K, Value.ref.injEq, HO.xd.injEq, lk0, tSeq, tPar3, tPar, tCons, tNil, tVar, tC, tAsg, gName, gCons, gNil, gTupN, gSub, tOp, rI, rI0, rU, tTest, rNe, rEq, rIxTN, rIxLN, rLenL, rLenT, rIntI, rIntB, rAbs, rSetLN, tTruL, tRaiseX, rIsTy, rIsOw, ixN0, ixN1, tRet, tIf, tIfS, tNext, tBreak, tCont, tDrop, tTupN, tLstN, tUn, tCB, tCall, tNot, tAnd, tOr, tB, tAndV, tOrV, tNotV, tChain, tApp, LamX.tLam, tRevLN, rCatN, rInTN, rInLN, flatV, inV, List.all_cons, List.all_nil, List.any_cons, List.any_nil, Bool.and_self, Bool.and_true, if_true, Bool.false_eq_true, if_false, tMt, tFldN, tSto, HO.ins.injEq, lkh, List.drop_zero, List.drop_succ_cons, List.drop_nil, rListS, wipe, L2.start, List.map_cons, List.map_nil, List.length_cons, List.length_nil, List.replicate, List.cons_append, List.nil_append, List.append_nil, Nat.reduceAdd, Nat.reduceSub, Nat.zero_add, List.replicate_succ, List.replicate_zero, List.getElem?_cons_zero, List.getElem?_cons_succ, List.set_cons_zero, List.set_cons_succ, Option.some.injEq, V.int.injEq, V.bl.injEq, V.ref.injEq, V.str.injEq, V.ty.injEq, List.cons.injEq, HO.tup.injEq, HO.lst.injEq, and_true, true_and, and_assoc, exists_eq_left, exists_eq_left', exists_and_left, exists_eq', atI0, atI1, atI2, atI3, Int.cast_ofNat_Int, Int.reduceToNat, scal_ii, scal_in, scal_ni, scal_nn, scal_bb, scal_ss, scal_sn, scal_ns, scal_bn, scal_nb, ite_iff, decide_eq_true_eq, decide_eq_false_iff_not, Bool.not_eq_true', Classical.not_not, ne_eq, not_false_eq_true, not_true_eq_false, forall_const, true_implies, false_implies, imp_self, sizeLine_eq, Nat.reduceLeDiff, reduceCtorEq, decide_true, decide_false]
  refine ⟨_, hs, fun p H1 hp s1 h1 => ?_⟩
  intro q H2 hq s2 h2
  have h12 := s2 _ _ h1
  have hsm : (cutV (ns.map V.int) (some i) (some (i + 1))).length ≤ 1000 := by
    unfold cutV
    rw [List.length_take]
    have c0 : ∀ n : Nat, HT.sIx n n (some (i + 1)) ≤ 1000 := fun n => by
      show (if i + 1 < 0 then (i + 1 + (n : Int)).toNat else min (i + 1).toNat n) ≤ 1000
      rw [if_neg (by omega)]
      omega
    exact Nat.le_trans (Nat.min_le_left _ _) (by have := c0 (ns.map V.int).length; omega)
  obtain ⟨z, zs, e⟩ : ∃ (z : Int) (zs : List V), cutV (ns.map V.int) (some i) (some (i + 1)) ++ [.int 0] = .int z :: zs := by
    cases e : cutV (ns.map V.int) (some i) (some (i + 1)) with
    | nil => exact ⟨0, [], rfl⟩
    | cons v vs =>
      have hm : v ∈ ns.map V.int := by
        have : v ∈ cutV (ns.map V.int) (some i) (some (i + 1)) := by rw [e]; simp
        exact List.mem_of_mem_drop (List.mem_of_mem_take this)
      obtain ⟨z, _, rfl⟩ := List.mem_map.mp hm
      exact ⟨z, _, rfl⟩
  refine ⟨p, rfl, q, rfl, _, h12, _, h2, by simp; omega, ?_⟩
  intro r H3 hr s3 h3
  rw [e] at h3
  refine ⟨r, rfl, _, h3, _, atI0, z, rfl, z, rfl, by decide, .inl ⟨by decide, by decide⟩, .inr ⟨by decide, by decide⟩, by decide, ⟨by decide, by decide, by decide⟩, .inl (by split <;> decide), ?_⟩
  intro u H4 hu s4 h4
  exact k u H4 ((s1.trans (s2.trans s3)).free hu) (s1.trans ((s2.trans s3).trans s4)) ⟨_, _, h4⟩
def spPl : Sp := fun vs H Q _ => ∃ t x y, vs = [.ref t, .int x, .int y] ∧ ∃ w s h, T3 H t w s h ∧ LB w s h ∧ x.natAbs < 2 ^ 2000 ∧ y.natAbs < 2 ^ 2000 ∧ ∀ p H', Same H H' → P2 H' p (plX w s h x y) (plY h y) → Q (.ref p) H'
theorem o__law_place (T : Txt K mg) : OkF P w K mg base CX0 1 "_law_place" ["_law_three_here", "_law_x", "_law_y"] spPl := by
  obtain ⟨f, fd, g, F⟩ := T.d__law_place
  refine ⟨f, fd, g, F.kp, F.binds (fun _ _ _ _ _ _ us hl => match us, hl with | [_, _, _], _ => rfl), F.ok sc__law_place (fun vs H Q E h => ?_) (fun cdv A outer s H vs Q E hr h => ?_)⟩
  · first | (obtain ⟨_, rfl, _⟩ := h; rfl) | (obtain ⟨_, _, rfl, _⟩ := h; rfl) | (obtain ⟨_, _, _, rfl, _⟩ := h; rfl) | (obtain ⟨_, _, _, _, rfl, _⟩ := h; rfl) | (obtain ⟨_, _, _, _, _, rfl, _⟩ := h; rfl) | (obtain ⟨_, _, _, _, _, _, rfl, _⟩ := h; rfl) | (obtain ⟨_, _, _, _, _, _, _, rfl, _⟩ := h; rfl)
  have hu64 := hr.units
  refine ⟨_, pss_cons (ps_asg (pv 0) (pg_unlN (n := 3) (by rfl) (pgs_cons (pg_name (i := 3) sc__law_place.nd rfl (Or.inl rfl)) (pgs_cons (pg_name (i := 4) sc__law_place.nd rfl (Or.inl rfl)) (pgs_cons (pg_name (i := 5) sc__law_place.nd rfl (Or.inl rfl)) pgs_nil)))))
      (pss_one (ps_ret (pe_tupN (pa_cons (pe_op op_mod (pe_op op_sub (pv 1) (pe_op op_mulW (pv 4) (pe_op op_fdivW (pv 2) (pv 5)))) (pv 3)) (pa_cons (pe_op op_mod (pv 2) (pv 5)) pa_nil))))), ?_⟩
  obtain ⟨t, x, y, rfl, w, s, h, ht, B, xs, ys, k⟩ := h
  have d0 : 0 < h := by have := B.d1; omega
  have a0 : 0 < w := by have := B.a1; omega
  have hq : (y / h).natAbs < 2 ^ 2000 := Nat.lt_of_le_of_lt (Int.natAbs_ediv_le_natAbs _ _) ys
  have e : y % h = plY h y := Int.emod_def y h
  simp only [ht, exists_and_left, tSl, tPart, tNoPart, rSlLN, rMax2, rMin2, gUnlN, tYes, rLenS, cx_K, Value.ref.injEq, HO.xd.injEq, lk0, tSeq, tPar3, tPar, tCons, tNil, tVar, tC, tAsg, gName, gCons, gNil, gTupN, gSub, tOp, rI, rI0, rU, tTest, rNe, rEq, rIxTN, rIxLN, rLenL, rLenT, rIntI, rIntB, rAbs, rSetLN, tTruL, tRaiseX, rIsTy, rIsOw, ixN0, ixN1, tRet, tIf, tIfS, tNext, tBreak, tCont, tDrop, tTupN, tLstN, tUn, tCB, tCall, tNot, tAnd, tOr, tB, tAndV, tOrV, tNotV, tChain, tApp, LamX.tLam, tRevLN, rCatN, rInTN, rInLN, flatV, inV, List.all_cons, List.all_nil, List.any_cons, List.any_nil, Bool.and_self, Bool.and_true, if_true, Bool.false_eq_true, if_false, tMt, tFldN, tSto, HO.ins.injEq, lkh, List.drop_zero, List.drop_succ_cons, List.drop_nil, rListS, wipe, L2.start, List.map_cons, List.map_nil, List.length_cons, List.length_nil, List.replicate, List.cons_append, List.nil_append, List.append_nil, Nat.reduceAdd, Nat.reduceSub, Nat.zero_add, List.replicate_succ, List.replicate_zero, List.getElem?_cons_zero, List.getElem?_cons_succ, List.set_cons_zero, List.set_cons_succ, Option.some.injEq, V.int.injEq, V.bl.injEq, V.ref.injEq, V.str.injEq, V.ty.injEq, List.cons.injEq, HO.tup.injEq, HO.lst.injEq, and_true, true_and, and_assoc, exists_eq_left, exists_eq_left', exists_and_left, exists_eq', atI0, atI1, atI2, atI3, Int.cast_ofNat_Int, Int.reduceToNat, scal_ii, scal_in, scal_ni, scal_nn, scal_bb, scal_ss, scal_sn, scal_ns, scal_bn, scal_nb, ite_iff, decide_eq_true_eq, decide_eq_false_iff_not, Bool.not_eq_true', Classical.not_not, ne_eq, not_false_eq_true, not_true_eq_false, forall_const, true_implies, false_implies, imp_self, sizeLine_eq, Nat.reduceLeDiff, reduceCtorEq, decide_true, decide_false]
  refine ⟨wide_div d0 B.dS (by decide) (by decide), wide_mul B.bS hq (by decide) (by decide) (by decide), a0, d0, ?_⟩
  rw [e]
  exact fun q H' _ s hq => k q H' s hq
def spHo : Sp := fun vs H Q _ => ∃ t x y, vs = [.ref t, .int x, .int y] ∧ ∃ w s h, T3 H t w s h ∧ LB w s h ∧ x.natAbs < 2 ^ 2000 ∧ y.natAbs < 2 ^ 2000 ∧ ∀ H', Same H H' → Q (.bl (inL w s h (some (x, y)))) H'
theorem o__law_holds (T : Txt K mg) : OkF P w K mg base CX0 2 "_law_holds" ["_law_three_here", "_law_x", "_law_y"] spHo := by
  have o__law_place := o__law_place (P := P) (w := w) (base := base) T
  obtain ⟨f, fd, g, F⟩ := T.d__law_holds
  refine ⟨f, fd, g, F.kp, F.binds (fun _ _ _ _ _ _ us hl => match us, hl with | [_, _, _], _ => rfl), F.ok sc__law_holds (fun vs H Q E h => ?_) (fun cdv A outer s H vs Q E hr h => ?_)⟩
  · first | (obtain ⟨_, rfl, _⟩ := h; rfl) | (obtain ⟨_, _, rfl, _⟩ := h; rfl) | (obtain ⟨_, _, _, rfl, _⟩ := h; rfl) | (obtain ⟨_, _, _, _, rfl, _⟩ := h; rfl) | (obtain ⟨_, _, _, _, _, rfl, _⟩ := h; rfl) | (obtain ⟨_, _, _, _, _, _, rfl, _⟩ := h; rfl) | (obtain ⟨_, _, _, _, _, _, _, rfl, _⟩ := h; rfl)
  have hu64 := hr.units
  refine ⟨_, pss_one (ps_ret (pe_cmpR (op_eqDk (K := K) rfl hu64) (pcl o__law_place (hr.mono (by decide)) pass0 (pa_cons (pv 0) (pa_cons (pv 1) (pa_cons (pv 2) pa_nil)))) (pe_tupN (pa_cons (pe_int) (pa_cons (pe_int) pa_nil))) (nomark _))), ?_⟩
  obtain ⟨t, x, y, rfl, w, s, h, ht, B, xs, ys, k⟩ := h
  simp only [spPl, exists_and_left, tSl, tPart, tNoPart, rSlLN, rMax2, rMin2, gUnlN, tYes, rLenS, cx_K, Value.ref.injEq, HO.xd.injEq, lk0, tSeq, tPar3, tPar, tCons, tNil, tVar, tC, tAsg, gName, gCons, gNil, gTupN, gSub, tOp, rI, rI0, rU, tTest, rNe, rEq, rIxTN, rIxLN, rLenL, rLenT, rIntI, rIntB, rAbs, rSetLN, tTruL, tRaiseX, rIsTy, rIsOw, ixN0, ixN1, tRet, tIf, tIfS, tNext, tBreak, tCont, tDrop, tTupN, tLstN, tUn, tCB, tCall, tNot, tAnd, tOr, tB, tAndV, tOrV, tNotV, tChain, tApp, LamX.tLam, tRevLN, rCatN, rInTN, rInLN, flatV, inV, List.all_cons, List.all_nil, List.any_cons, List.any_nil, Bool.and_self, Bool.and_true, if_true, Bool.false_eq_true, if_false, tMt, tFldN, tSto, HO.ins.injEq, lkh, List.drop_zero, List.drop_succ_cons, List.drop_nil, rListS, wipe, L2.start, List.map_cons, List.map_nil, List.length_cons, List.length_nil, List.replicate, List.cons_append, List.nil_append, List.append_nil, Nat.reduceAdd, Nat.reduceSub, Nat.zero_add, List.replicate_succ, List.replicate_zero, List.getElem?_cons_zero, List.getElem?_cons_succ, List.set_cons_zero, List.set_cons_succ, Option.some.injEq, V.int.injEq, V.bl.injEq, V.ref.injEq, V.str.injEq, V.ty.injEq, List.cons.injEq, HO.tup.injEq, HO.lst.injEq, and_true, true_and, and_assoc, exists_eq_left, exists_eq_left', exists_and_left, exists_eq', atI0, atI1, atI2, atI3, Int.cast_ofNat_Int, Int.reduceToNat, scal_ii, scal_in, scal_ni, scal_nn, scal_bb, scal_ss, scal_sn, scal_ns, scal_bn, scal_nb, ite_iff, decide_eq_true_eq, decide_eq_false_iff_not, Bool.not_eq_true', Classical.not_not, ne_eq, not_false_eq_true, not_true_eq_false, forall_const, true_implies, false_implies, imp_self, sizeLine_eq, Nat.reduceLeDiff, reduceCtorEq, decide_true, decide_false]
  refine ⟨w, s, h, ht, B, xs, ys, fun p H1 s1 h1 => ?_⟩
  intro q H2 _ s2 h2
  exact eq_P2 (s2 _ _ h1) h2 (k H2 (s1.trans s2))

end
end Iz
/-! k08_e -/
set_option Elab.async false
set_option linter.all false
set_option maxRecDepth 100000
set_option maxHeartbeats 4000000
namespace Iz
open PySem PySem.Spec PyProof.Rows L2
open He (ga)
local macro_rules | `(tactic| walk_at "wp") => `(tactic| simp only [tSl, tPart, tNoPart, rSlLN, rMax2, rMin2, gUnlN, tYes, rLenS, cx_K, Value.ref.injEq, HO.xd.injEq, lk0, tSeq, tPar3, tPar, tCons, tNil, tVar, tC, tAsg, gName, gCons, gNil, gTupN, gSub, tOp, rI, rI0, rU, tTest, rNe, rEq, rIxTN, rIxLN, rLenL, rLenT, rIntI, rIntB, rAbs, rSetLN, tTruL, tRaiseX, rIsTy, rIsOw, ixN0, ixN1, tRet, tIf, tIfS, tNext, tBreak, tCont, tDrop, tTupN, tLstN, tUn, tCB, tCall, tNot, tAnd, tOr, tB, tAndV, tOrV, tNotV, tChain, tApp, LamX.tLam, tRevLN, rCatN, rInTN, rInLN, flatV, inV, List.all_cons, List.all_nil, List.any_cons, List.any_nil, Bool.and_self, Bool.and_true, if_true, Bool.false_eq_true, if_false, tMt, tFldN, tSto, HO.ins.injEq, lkh, List.drop_zero, List.drop_succ_cons, List.drop_nil, rListS, wipe, L2.start, List.map_cons, List.map_nil, List.length_cons, List.length_nil, List.replicate, List.cons_append, List.nil_append, List.append_nil, Nat.reduceAdd, Nat.reduceSub, Nat.zero_add, List.replicate_succ, List.replicate_zero, List.getElem?_cons_zero, List.getElem?_cons_succ, List.set_cons_zero, List.set_cons_succ, Option.some.injEq, V.int.injEq, V.bl.injEq, V.ref.injEq, V.str.injEq, V.ty.injEq, List.cons.injEq, HO.tup.injEq, HO.lst.injEq, and_true, true_and, and_assoc, exists_eq_left, exists_eq_left', exists_and_left, exists_eq', atI0, atI1, atI2, atI3, Int.cast_ofNat_Int, Int.reduceToNat, scal_ii, scal_in, scal_ni, scal_nn, scal_bb, scal_ss, scal_sn, scal_ns, scal_bn, scal_nb, ite_iff, decide_eq_true_eq, decide_eq_false_iff_not, Bool.not_eq_true', Classical.not_not, ne_eq, not_false_eq_true, not_true_eq_false, forall_const, true_implies, false_implies, imp_self, sizeLine_eq, Nat.reduceLeDiff, reduceCtorEq, decide_true, decide_false])
section
variable {P : Program} {w : World} {K : PySem.W.Frag} {mg : Str → Option Value} {base : Heap}
/-! ### the order of a shift, found by going on -/
theorem ord_pos {a b d x y : Int} (B : LB a b d) : 1 ≤ ordL a b d x y ∧ ordL a b d x y ≤ a * d := by
  have a1 := B.a1
  have d1 := B.d1
  have q : ∀ {u v : Int}, 1 ≤ u → 1 ≤ u / (Int.gcd u v : Int) ∧ u / (Int.gcd u v : Int) ≤ u := fun {u v} h => by
    have hg : 0 < (Int.gcd u v : Int) := by have := Int.gcd_pos_of_ne_zero_left v (show u ≠ 0 by omega); omega
    exact ⟨Int.ediv_pos_of_pos_of_dvd (by omega) (by omega) (Int.gcd_dvd_left u v), Int.ediv_le_self _ (by omega)⟩
  unfold ordL
  obtain ⟨t1, t2⟩ := q (v := y) d1
  generalize d / (Int.gcd d y : Int) = t at *
  generalize x * t - b * (y * t / d) = r
  obtain ⟨w1, w2⟩ := q (v := r) a1
  generalize a / (Int.gcd a r : Int) = w at *
  refine ⟨?_, ?_⟩
  · have := Int.mul_le_mul t1 w1 (by decide) (by omega); omega
  · rw [Int.mul_comm a d]; exact Int.mul_le_mul t2 w2 (by omega) (by omega)
theorem ord_dvd {a b d x y n : Int} (B : LB a b d) : inL a b d (some (n * x, n * y)) = true ↔ ordL a b d x y ∣ n := by
  have a1 := B.a1
  have d1 := B.d1
  have hg : 0 < (Int.gcd d y : Int) := by have := Int.gcd_pos_of_ne_zero_left y (show d ≠ 0 by omega); omega
  have eY : plY d (n * y) = 0 ↔ d / (Int.gcd d y : Int) ∣ n := by
    have e1 : plY d (n * y) = n * y % d := (Int.emod_def _ _).symm
    rw [e1, ← Int.dvd_iff_emod_eq_zero, Int.mul_comm n y, dvd_line d1, Int.gcd_comm y d]
  unfold inL
  rw [decide_eq_true_eq]
  have g1 : (Int.gcd d y : Int) * (d / (Int.gcd d y : Int)) = d := Int.mul_ediv_cancel' (Int.gcd_dvd_left d y)
  have g2 : (Int.gcd d y : Int) * (y / (Int.gcd d y : Int)) = y := Int.mul_ediv_cancel' (Int.gcd_dvd_right d y)
  have eO : ordL a b d x y = d / (Int.gcd d y : Int) * (a / (Int.gcd (x * (d / (Int.gcd d y : Int)) - b * (y / (Int.gcd d y : Int))) a : Int)) := by
    have e2 : y * (d / (Int.gcd d y : Int)) / d = y / (Int.gcd d y : Int) := by
      generalize (Int.gcd d y : Int) = g at *
      generalize d / g = t at *
      generalize y / g = y' at *
      have : y * t = d * y' := by rw [← g1, ← g2, Int.mul_assoc, Int.mul_assoc, Int.mul_comm t y']
      rw [this, Int.mul_ediv_cancel_left _ (by omega)]
    unfold ordL
    rw [e2, Int.gcd_comm a]
  rw [eO]
  have tp : 0 < d / (Int.gcd d y : Int) := Int.ediv_pos_of_pos_of_dvd (by omega) (by omega) (Int.gcd_dvd_left d y)
  constructor
  · rintro ⟨hx, hy⟩
    obtain ⟨m, rfl⟩ := eY.mp hy
    rw [Int.mul_dvd_mul_iff_left (by omega)]
    rw [← dvd_line a1]
    have e3 : d / (Int.gcd d y : Int) * m * y / d = m * (y / (Int.gcd d y : Int)) := by
      generalize (Int.gcd d y : Int) = g at *
      generalize d / g = t at *
      generalize y / g = y' at *
      have : t * m * y = d * (m * y') := by rw [← g1, ← g2]; simp only [Int.mul_assoc, Int.mul_left_comm, Int.mul_comm]
      rw [this, Int.mul_ediv_cancel_left _ (by omega)]
    unfold plX at hx
    rw [e3] at hx
    have := Int.dvd_of_emod_eq_zero hx
    generalize d / (Int.gcd d y : Int) = t at *
    generalize y / (Int.gcd d y : Int) = y' at *
    rw [show (x * t - b * y') * m = t * m * x - b * (m * y') by rw [Int.sub_mul]; simp only [Int.mul_assoc, Int.mul_left_comm, Int.mul_comm]]
    exact this
  · intro h
    obtain ⟨m, rfl⟩ : d / (Int.gcd d y : Int) ∣ n := Int.dvd_trans (Int.dvd_mul_right _ _) h
    refine ⟨?_, eY.mpr (Int.dvd_mul_right _ _)⟩
    rw [Int.mul_dvd_mul_iff_left (by omega), ← dvd_line a1] at h
    have e3 : d / (Int.gcd d y : Int) * m * y / d = m * (y / (Int.gcd d y : Int)) := by
      generalize (Int.gcd d y : Int) = g at *
      generalize d / g = t at *
      generalize y / g = y' at *
      have : t * m * y = d * (m * y') := by rw [← g1, ← g2]; simp only [Int.mul_assoc, Int.mul_left_comm, Int.mul_comm]
      rw [this, Int.mul_ediv_cancel_left _ (by omega)]
    unfold plX
    rw [e3]
    generalize d / (Int.gcd d y : Int) = t at *
    generalize y / (Int.gcd d y : Int) = y' at *
    refine Int.emod_eq_zero_of_dvd ?_
    rw [show t * m * x - b * (m * y') = (x * t - b * y') * m by rw [Int.sub_mul]; simp only [Int.mul_assoc, Int.mul_left_comm, Int.mul_comm]]
    exact h
def spOrdL : Sp := fun vs H Q _ => ∃ t x y, vs = [.ref t, .int x, .int y] ∧ ∃ w s h, T3 H t w s h ∧ LB w s h ∧ w * h < 1000 ∧ x.natAbs < 2 ^ 1000 ∧ y.natAbs < 2 ^ 1000 ∧ ∀ H', Same H H' → Q (.int (ordL w s h x y)) H'
theorem o__law_order (T : Txt K mg) : OkF P w K mg base CX0 3 "_law_order" ["_law_three_here", "_law_x", "_law_y"] spOrdL := by
  have o__law_holds := o__law_holds (P := P) (w := w) (base := base) T
  obtain ⟨f, fd, g, F⟩ := T.d__law_order
  refine ⟨f, fd, g, F.kp, F.binds (fun _ _ _ _ _ _ us hl => match us, hl with | [_, _, _], _ => rfl), F.ok sc__law_order (fun vs H Q E h => ?_) (fun cdv A outer s H vs Q E hr h => ?_)⟩
  · first | (obtain ⟨_, rfl, _⟩ := h; rfl) | (obtain ⟨_, _, rfl, _⟩ := h; rfl) | (obtain ⟨_, _, _, rfl, _⟩ := h; rfl) | (obtain ⟨_, _, _, _, rfl, _⟩ := h; rfl) | (obtain ⟨_, _, _, _, _, rfl, _⟩ := h; rfl) | (obtain ⟨_, _, _, _, _, _, rfl, _⟩ := h; rfl) | (obtain ⟨_, _, _, _, _, _, _, rfl, _⟩ := h; rfl)
  have hu64 := hr.units
  refine ⟨_, pss_cons (ps_for PassesOwn.never rfl (pi_range2 rfl T.m_range (pa_cons (pe_int) (pa_cons (pe_op op_add (pe_op op_mulW (pe_ix ix_listN (pv 0) (pe_int) (fun _ _ => rfl)) (pe_ix ix_listN (pv 0) (pe_int) (fun _ _ => rfl))) (pe_int)) pa_nil))) (pg_name (i := 3) sc__law_order.nd rfl (Or.inl rfl)) (pss_one (ps_if (pt_val (pcl o__law_holds (hr.mono (by decide)) pass0 (pa_cons (pv 0) (pa_cons (pe_op op_mulW (pv 3) (pv 1)) (pa_cons (pe_op op_mulW (pv 3) (pv 2)) pa_nil))))) (pss_one (ps_ret (pv 3))) (pss_nil))))
      (pss_one (ps_ret (pe_non))), ?_⟩
  obtain ⟨t, x, y, rfl, w, s, h, ht, B, sm, xs, ys, k⟩ := h
  obtain ⟨o1, o2⟩ := ord_pos (x := x) (y := y) B
  have hw : w.natAbs < 2 ^ 500 := B.aS
  simp only [exists_and_left, tSl, tPart, tNoPart, rSlLN, rMax2, rMin2, gUnlN, tYes, rLenS, cx_K, Value.ref.injEq, HO.xd.injEq, lk0, tSeq, tPar3, tPar, tCons, tNil, tVar, tC, tAsg, gName, gCons, gNil, gTupN, gSub, tOp, rI, rI0, rU, tTest, rNe, rEq, rIxTN, rIxLN, rLenL, rLenT, rIntI, rIntB, rAbs, rSetLN, tTruL, tRaiseX, rIsTy, rIsOw, ixN0, ixN1, tRet, tIf, tIfS, tNext, tBreak, tCont, tDrop, tTupN, tLstN, tUn, tCB, tCall, tNot, tAnd, tOr, tB, tAndV, tOrV, tNotV, tChain, tApp, LamX.tLam, tRevLN, rCatN, rInTN, rInLN, flatV, inV, List.all_cons, List.all_nil, List.any_cons, List.any_nil, Bool.and_self, Bool.and_true, if_true, Bool.false_eq_true, if_false, tMt, tFldN, tSto, HO.ins.injEq, lkh, List.drop_zero, List.drop_succ_cons, List.drop_nil, rListS, wipe, L2.start, List.map_cons, List.map_nil, List.length_cons, List.length_nil, List.replicate, List.cons_append, List.nil_append, List.append_nil, Nat.reduceAdd, Nat.reduceSub, Nat.zero_add, List.replicate_succ, List.replicate_zero, List.getElem?_cons_zero, List.getElem?_cons_succ, List.set_cons_zero, List.set_cons_succ, Option.some.injEq, V.int.injEq, V.bl.injEq, V.ref.injEq, V.str.injEq, V.ty.injEq, List.cons.injEq, HO.tup.injEq, HO.lst.injEq, and_true, true_and, and_assoc, exists_eq_left, exists_eq_left', exists_and_left, exists_eq', atI0, atI1, atI2, atI3, Int.cast_ofNat_Int, Int.reduceToNat, scal_ii, scal_in, scal_ni, scal_nn, scal_bb, scal_ss, scal_sn, scal_ns, scal_bn, scal_nb, ite_iff, decide_eq_true_eq, decide_eq_false_iff_not, Bool.not_eq_true', Classical.not_not, ne_eq, not_false_eq_true, not_true_eq_false, forall_const, true_implies, false_implies, imp_self, sizeLine_eq, Nat.reduceLeDiff, reduceCtorEq, decide_true, decide_false]
  refine st_forR2 1 (w * h + 1) (by decide) (by omega) (fun R r => ?_) (fun i σ' H' => ∃ u, σ' = [some (V.ref t), some (V.int x), some (V.int y), u] ∧ Same H H' ∧ 1 + (i : Int) ≤ ordL w s h x y) ⟨none, rfl, fun _ _ h => h, by omega⟩ ?_ ?_
  · simp only [ht, exists_and_left, tSl, tPart, tNoPart, rSlLN, rMax2, rMin2, gUnlN, tYes, rLenS, cx_K, Value.ref.injEq, HO.xd.injEq, lk0, tSeq, tPar3, tPar, tCons, tNil, tVar, tC, tAsg, gName, gCons, gNil, gTupN, gSub, tOp, rI, rI0, rU, tTest, rNe, rEq, rIxTN, rIxLN, rLenL, rLenT, rIntI, rIntB, rAbs, rSetLN, tTruL, tRaiseX, rIsTy, rIsOw, ixN0, ixN1, tRet, tIf, tIfS, tNext, tBreak, tCont, tDrop, tTupN, tLstN, tUn, tCB, tCall, tNot, tAnd, tOr, tB, tAndV, tOrV, tNotV, tChain, tApp, LamX.tLam, tRevLN, rCatN, rInTN, rInLN, flatV, inV, List.all_cons, List.all_nil, List.any_cons, List.any_nil, Bool.and_self, Bool.and_true, if_true, Bool.false_eq_true, if_false, tMt, tFldN, tSto, HO.ins.injEq, lkh, List.drop_zero, List.drop_succ_cons, List.drop_nil, rListS, wipe, L2.start, List.map_cons, List.map_nil, List.length_cons, List.length_nil, List.replicate, List.cons_append, List.nil_append, List.append_nil, Nat.reduceAdd, Nat.reduceSub, Nat.zero_add, List.replicate_succ, List.replicate_zero, List.getElem?_cons_zero, List.getElem?_cons_succ, List.set_cons_zero, List.set_cons_succ, Option.some.injEq, V.int.injEq, V.bl.injEq, V.ref.injEq, V.str.injEq, V.ty.injEq, List.cons.injEq, HO.tup.injEq, HO.lst.injEq, and_true, true_and, and_assoc, exists_eq_left, exists_eq_left', exists_and_left, exists_eq', atI0, atI1, atI2, atI3, Int.cast_ofNat_Int, Int.reduceToNat, scal_ii, scal_in, scal_ni, scal_nn, scal_bb, scal_ss, scal_sn, scal_ns, scal_bn, scal_nb, ite_iff, decide_eq_true_eq, decide_eq_false_iff_not, Bool.not_eq_true', Classical.not_not, ne_eq, not_false_eq_true, not_true_eq_false, forall_const, true_implies, false_implies, imp_self, sizeLine_eq, Nat.reduceLeDiff, reduceCtorEq, decide_true, decide_false]
    exact ⟨wide_mul B.aS B.dS (by decide) (by decide) (by decide), r⟩
  · rintro i _ H2 hi ⟨u, rfl, s2, hi2⟩
    have ht2 := s2 _ _ ht
    have hi' : (i : Int) < w * h := by omega
    have bi : (1 + (i : Int)).natAbs < 2 ^ 10 := by omega
    have big : ∀ {z : Int}, z.natAbs < 2 ^ 1000 → ((1 + (i : Int)) * z).natAbs < 2 ^ 2000 := fun hz => by
      rw [Int.natAbs_mul]
      exact Nat.lt_of_lt_of_le (Nat.mul_lt_mul'' bi hz) (by rw [← Nat.pow_add]; exact Nat.pow_le_pow_right (by decide) (by decide))
    simp only [spHo, exists_and_left, tSl, tPart, tNoPart, rSlLN, rMax2, rMin2, gUnlN, tYes, rLenS, cx_K, Value.ref.injEq, HO.xd.injEq, lk0, tSeq, tPar3, tPar, tCons, tNil, tVar, tC, tAsg, gName, gCons, gNil, gTupN, gSub, tOp, rI, rI0, rU, tTest, rNe, rEq, rIxTN, rIxLN, rLenL, rLenT, rIntI, rIntB, rAbs, rSetLN, tTruL, tRaiseX, rIsTy, rIsOw, ixN0, ixN1, tRet, tIf, tIfS, tNext, tBreak, tCont, tDrop, tTupN, tLstN, tUn, tCB, tCall, tNot, tAnd, tOr, tB, tAndV, tOrV, tNotV, tChain, tApp, LamX.tLam, tRevLN, rCatN, rInTN, rInLN, flatV, inV, List.all_cons, List.all_nil, List.any_cons, List.any_nil, Bool.and_self, Bool.and_true, if_true, Bool.false_eq_true, if_false, tMt, tFldN, tSto, HO.ins.injEq, lkh, List.drop_zero, List.drop_succ_cons, List.drop_nil, rListS, wipe, L2.start, List.map_cons, List.map_nil, List.length_cons, List.length_nil, List.replicate, List.cons_append, List.nil_append, List.append_nil, Nat.reduceAdd, Nat.reduceSub, Nat.zero_add, List.replicate_succ, List.replicate_zero, List.getElem?_cons_zero, List.getElem?_cons_succ, List.set_cons_zero, List.set_cons_succ, Option.some.injEq, V.int.injEq, V.bl.injEq, V.ref.injEq, V.str.injEq, V.ty.injEq, List.cons.injEq, HO.tup.injEq, HO.lst.injEq, and_true, true_and, and_assoc, exists_eq_left, exists_eq_left', exists_and_left, exists_eq', atI0, atI1, atI2, atI3, Int.cast_ofNat_Int, Int.reduceToNat, scal_ii, scal_in, scal_ni, scal_nn, scal_bb, scal_ss, scal_sn, scal_ns, scal_bn, scal_nb, ite_iff, decide_eq_true_eq, decide_eq_false_iff_not, Bool.not_eq_true', Classical.not_not, ne_eq, not_false_eq_true, not_true_eq_false, forall_const, true_implies, false_implies, imp_self, sizeLine_eq, Nat.reduceLeDiff, reduceCtorEq, decide_true, decide_false]
    refine ⟨wide_mul bi xs (by decide) (by decide) (by decide), wide_mul bi ys (by decide) (by decide) (by decide), w, s, h, ht2, B, big xs, big ys, fun H3 s3 => ?_⟩
    refine ⟨fun e => ?_, fun e => ⟨s2.trans s3, ?_⟩⟩
    · have := Int.le_of_dvd (by omega) ((ord_dvd B).mp e)
      have e2 : 1 + (i : Int) = ordL w s h x y := by omega
      rw [e2]
      exact k H3 (s2.trans s3)
    · have : 1 + (i : Int) ≠ ordL w s h x y := fun e2 => e ((ord_dvd B).mpr (by rw [e2]; exact Int.dvd_refl _))
      omega
  · rintro _ H2 ⟨u, rfl, s2, hi2⟩
    omega

end
end Iz
/-! k08_f -/
set_option Elab.async false
set_option linter.all false
set_option maxRecDepth 100000
set_option maxHeartbeats 4000000
namespace Iz
open PySem PySem.Spec PyProof.Rows L2
open He (ga)
local macro_rules | `(tactic| walk_at "wp") => `(tactic| simp only [tSl, tPart, tNoPart, rSlLN, rMax2, rMin2, gUnlN, tYes, rLenS, cx_K, Value.ref.injEq, HO.xd.injEq, lk0, tSeq, tPar3, tPar, tCons, tNil, tVar, tC, tAsg, gName, gCons, gNil, gTupN, gSub, tOp, rI, rI0, rU, tTest, rNe, rEq, rIxTN, rIxLN, rLenL, rLenT, rIntI, rIntB, rAbs, rSetLN, tTruL, tRaiseX, rIsTy, rIsOw, ixN0, ixN1, tRet, tIf, tIfS, tNext, tBreak, tCont, tDrop, tTupN, tLstN, tUn, tCB, tCall, tNot, tAnd, tOr, tB, tAndV, tOrV, tNotV, tChain, tApp, LamX.tLam, tRevLN, rCatN, rInTN, rInLN, flatV, inV, List.all_cons, List.all_nil, List.any_cons, List.any_nil, Bool.and_self, Bool.and_true, if_true, Bool.false_eq_true, if_false, tMt, tFldN, tSto, HO.ins.injEq, lkh, List.drop_zero, List.drop_succ_cons, List.drop_nil, rListS, wipe, L2.start, List.map_cons, List.map_nil, List.length_cons, List.length_nil, List.replicate, List.cons_append, List.nil_append, List.append_nil, Nat.reduceAdd, Nat.reduceSub, Nat.zero_add, List.replicate_succ, List.replicate_zero, List.getElem?_cons_zero, List.getElem?_cons_succ, List.set_cons_zero, List.set_cons_succ, Option.some.injEq, V.int.injEq, V.bl.injEq, V.ref.injEq, V.str.injEq, V.ty.injEq, List.cons.injEq, HO.tup.injEq, HO.lst.injEq, and_true, true_and, and_assoc, exists_eq_left, exists_eq_left', exists_and_left, exists_eq', atI0, atI1, atI2, atI3, Int.cast_ofNat_Int, Int.reduceToNat, scal_ii, scal_in, scal_ni, scal_nn, scal_bb, scal_ss, scal_sn, scal_ns, scal_bn, scal_nb, ite_iff, decide_eq_true_eq, decide_eq_false_iff_not, Bool.not_eq_true', Classical.not_not, ne_eq, not_false_eq_true, not_true_eq_false, forall_const, true_implies, false_implies, imp_self, sizeLine_eq, Nat.reduceLeDiff, reduceCtorEq, decide_true, decide_false])
section
variable {P : Program} {w : World} {K : PySem.W.Frag} {mg : Str → Option Value} {base : Heap}
/-! ### lattices told -/
structure TR (K : PySem.W.Frag) (H : Hp) (a t p dx : Addr) (w s h : Int) : Prop where
  P : Po H a
  T : T3 H t w s h
  L : LAt K H p dx w s h
section
variable {H H' : Hp} {a t p dx : Addr} {w s h : Int}
theorem TR.same (x : TR K H a t p dx w s h) (e : Same H H') : TR K H' a t p dx w s h := ⟨x.P.same e, e _ _ x.T, e _ _ x.L⟩
theorem TR.stp (x : TR K H a t p dx w s h) (P : Po H' a) (e : StpP a H H') : TR K H' a t p dx w s h := ⟨P, x.T.stp x.P e, e.at x.P x.L (fun g n z => by cases z)⟩
end
theorem near_in {w s h x y : Int} (B : LB w s h) : inL w s h (some (x * w + y * s, y * h)) = true := by
  have d1 := B.d1
  unfold inL plX plY
  rw [decide_eq_true_eq, Int.mul_ediv_cancel _ (by omega)]
  refine ⟨Int.emod_eq_zero_of_dvd ⟨x, ?_⟩, ?_⟩
  · rw [Int.mul_comm w x, Int.mul_comm s y]; omega
  · rw [Int.mul_comm]; omega
def spTold (K : PySem.W.Frag) : Sp := fun vs H Q _ => ∃ a t, vs = [.ref a, .ref t] ∧ Po H a ∧ ∃ w s h, T3 H t w s h ∧ LB w s h ∧ w.natAbs < 2 ^ 100 ∧ h.natAbs < 2 ^ 100 ∧ ∀ H', Po H' a → StpP a H H' → Q (.bl true) H'
theorem o__law_told_right (T : Txt K mg) : OkF P w K mg base CX0 6 "_law_told_right" ["_law_pool", "_law_three_here"] (spTold K) := by
  have o_Lattice := o_Lattice (P := P) (w := w) (base := base) T
  have o_Lattice_area := o_Lattice_area (P := P) (w := w) (base := base) T
  have o_Lattice_places := o_Lattice_places (P := P) (w := w) (base := base) T
  have o_Lattice_place := o_Lattice_place (P := P) (w := w) (base := base) T
  have o_Lattice_order := o_Lattice_order (P := P) (w := w) (base := base) T
  have o_Lattice___contains__ := o_Lattice___contains__ (P := P) (w := w) (base := base) T
  have o__law_int := o__law_int (P := P) (w := w) (base := base) T
  have o__law_place := o__law_place (P := P) (w := w) (base := base) T
  have o__law_holds := o__law_holds (P := P) (w := w) (base := base) T
  have o__law_order := o__law_order (P := P) (w := w) (base := base) T
  obtain ⟨f, fd, g, F⟩ := T.d__law_told_right
  refine ⟨f, fd, g, F.kp, F.binds (fun _ _ _ _ _ _ us hl => match us, hl with | [_, _], _ => rfl), F.ok sc__law_told_right (fun vs H Q E h => ?_) (fun cdv A outer s H vs Q E hr h => ?_)⟩
  · first | (obtain ⟨_, rfl, _⟩ := h; rfl) | (obtain ⟨_, _, rfl, _⟩ := h; rfl) | (obtain ⟨_, _, _, rfl, _⟩ := h; rfl) | (obtain ⟨_, _, _, _, rfl, _⟩ := h; rfl) | (obtain ⟨_, _, _, _, _, rfl, _⟩ := h; rfl) | (obtain ⟨_, _, _, _, _, _, rfl, _⟩ := h; rfl) | (obtain ⟨_, _, _, _, _, _, _, rfl, _⟩ := h; rfl)
  have hu64 := hr.units
  refine ⟨_, pss_cons (ps_par (i := 2) (j := 3) (by rfl) sc__law_told_right.nd rfl rfl (by decide) rfl rfl (pa_cons (pmk (j := 0) o_Lattice (by decide) (hr.mono (by decide)) passL (pa_cons (pe_ix ix_listN (pv 1) (pe_int) (fun _ _ => rfl)) (pa_cons (pe_ix ix_listN (pv 1) (pe_int) (fun _ _ => rfl)) (pa_cons (pe_ix ix_listN (pv 1) (pe_int) (fun _ _ => rfl)) pa_nil)))) (pa_cons (pe_lstN (pa_nil)) pa_nil)) (by rfl))
      (pss_cons (ps_cut (ps_if (pt_cmpR (op_neDk (K := K) rfl hu64) (pe_lstN (pa_cons (pe_fldN T.c_Lattice T.na_Lattice_a (pv 2)) (pa_cons (pe_fldN T.c_Lattice T.na_Lattice_b (pv 2)) (pa_cons (pe_fldN T.c_Lattice T.na_Lattice_d (pv 2)) (pa_cons (pmt0 (j := 0) o_Lattice_area T.c_Lattice (pv 2) (by decide) (hr.mono (by decide)) pass0) pa_nil))))) (pe_op op_catN (pv 1) (pe_lstN (pa_cons (pe_op op_mulW (pe_ix ix_listN (pv 1) (pe_int) (fun _ _ => rfl)) (pe_ix ix_listN (pv 1) (pe_int) (fun _ _ => rfl))) pa_nil))) (nomark _)) (pss_one (ps_ret (pe_bl))) (pss_nil)))
      (pss_cons (ps_set (i := 4) sc__law_told_right.nd rfl (Or.inl rfl) (pe_cmpR op_lt (pe_op op_mulW (pe_ix ix_listN (pv 1) (pe_int) (fun _ _ => rfl)) (pe_ix ix_listN (pv 1) (pe_int) (fun _ _ => rfl))) (pe_int) (nomark _)))
      (pss_cons (ps_for PassesOwn.never rfl (pi_range1 rfl T.m_range (pa_cons (pe_ifExp (pt_val (pv 4)) (pe_ix ix_listN (pv 1) (pe_int) (fun _ _ => rfl)) (pe_int)) pa_nil)) (pg_name (i := 5) sc__law_told_right.nd rfl (Or.inr rfl)) (pss_one (ps_set (i := 3) sc__law_told_right.nd rfl (Or.inl rfl) (pe_op op_catN (pv 3) (pe_lc (own := [("_law_x", 6)]) (g := gName 6) (by rfl) sc__law_told_right.nd (pi_range1 (by rfl) T.m_range (pa_cons (pe_ix ix_listN (pv 1) (pe_int) (fun _ _ => rfl)) pa_nil)) (blkOk_by (N := ["_law_pool", "_law_three_here", "_law_lattice", "_law_places", "_law_is_small", "_law_y", "_law_x", "_law_step", "_law_near"]) (sc := defScope s__law_told_right) (own := [("_law_x", 6)]) (by decide +kernel)) (fun _ _ _ _ _ => pg_name (i := 6) sc__law_told_right.nd rfl (Or.inl rfl)) (fun _ _ _ _ _ => pts_nil) (fun _ _ _ _ _ => pe_tupN (pa_cons (pv 6) (pa_cons (pv 5) pa_nil))))))))
      (pss_cons (ps_cut (ps_if (PW.pt (pw_and (pt_val (pv 4)) (pw_and1 (pt_cmpR (op_neDk (K := K) rfl hu64) (pmt0 (j := 0) o_Lattice_places T.c_Lattice (pv 2) (by decide) (hr.mono (by decide)) pass0) (pv 3) (nomark _))))) (pss_one (ps_ret (pe_bl))) (pss_nil)))
      (pss_cons (ps_for PassesOwn.never rfl (pi_range1 rfl T.m_range (pa_cons (pe_int) pa_nil)) (pg_name (i := 7) sc__law_told_right.nd rfl (Or.inl rfl)) (pss_cons (ps_asg (pe_tupN (pa_cons (pcl o__law_int (hr.mono (by decide)) pass0 (pa_cons (pv 0) pa_nil)) (pa_cons (pcl o__law_int (hr.mono (by decide)) pass0 (pa_cons (pv 0) pa_nil)) pa_nil))) (pg_tupN (n := 2) (by rfl) (pgs_cons (pg_name (i := 6) sc__law_told_right.nd rfl (Or.inl rfl)) (pgs_cons (pg_name (i := 5) sc__law_told_right.nd rfl (Or.inr rfl)) pgs_nil))))
      (pss_cons (ps_set (i := 8) sc__law_told_right.nd rfl (Or.inl rfl) (pe_tupN (pa_cons (pe_op op_add (pe_op op_mulW (pv 6) (pe_ix ix_listN (pv 1) (pe_int) (fun _ _ => rfl))) (pe_op op_mulW (pv 5) (pe_ix ix_listN (pv 1) (pe_int) (fun _ _ => rfl)))) (pa_cons (pe_op op_mulW (pv 5) (pe_ix ix_listN (pv 1) (pe_int) (fun _ _ => rfl))) pa_nil))))
      (pss_cons (ps_cut (ps_if (PW.pt (pw_or (pt_cmpR (op_neDk (K := K) rfl hu64) (pmt (j := 0) o_Lattice_place T.c_Lattice (pv 2) (by decide) (hr.mono (by decide)) passL (pa_cons (pe_tupN (pa_cons (pv 6) (pa_cons (pv 5) pa_nil))) pa_nil)) (pcl o__law_place (hr.mono (by decide)) pass0 (pa_cons (pv 1) (pa_cons (pv 6) (pa_cons (pv 5) pa_nil)))) (nomark _)) (pw_or1 (pt_cmpR (op_ownNotIn o_Lattice___contains__ (hr.mono (by decide)) passL) (pv 8) (pv 2) (by rfl))))) (pss_one (ps_ret (pe_bl))) (pss_nil)))
      (pss_cons (ps_cut (ps_if (pt_cmpR op_ne (pe_cmpR (op_ownIn o_Lattice___contains__ (hr.mono (by decide)) passL) (pe_tupN (pa_cons (pv 6) (pa_cons (pv 5) pa_nil))) (pv 2) (by rfl)) (pcl o__law_holds (hr.mono (by decide)) pass0 (pa_cons (pv 1) (pa_cons (pv 6) (pa_cons (pv 5) pa_nil)))) (nomark _)) (pss_one (ps_ret (pe_bl))) (pss_nil)))
      (pss_one (ps_if (PW.pt (pw_and (pt_val (pv 4)) (pw_and1 (pt_cmpR op_ne (pmt (j := 0) o_Lattice_order T.c_Lattice (pv 2) (by decide) (hr.mono (by decide)) passL (pa_cons (pe_tupN (pa_cons (pv 6) (pa_cons (pv 5) pa_nil))) pa_nil)) (pcl o__law_order (hr.mono (by decide)) pass0 (pa_cons (pv 1) (pa_cons (pv 6) (pa_cons (pv 5) pa_nil)))) (nomark _))))) (pss_one (ps_ret (pe_bl))) (pss_nil))))))))
      (pss_one (ps_ret (pe_bl)))))))), ?_⟩
  obtain ⟨a, t, rfl, hP, w, s, h, hT, B, wS, hS, k⟩ := h
  simp only [spLat, hT, exists_and_left, tSl, tPart, tNoPart, rSlLN, rMax2, rMin2, gUnlN, tYes, rLenS, cx_K, Value.ref.injEq, HO.xd.injEq, lk0, tSeq, tPar3, tPar, tCons, tNil, tVar, tC, tAsg, gName, gCons, gNil, gTupN, gSub, tOp, rI, rI0, rU, tTest, rNe, rEq, rIxTN, rIxLN, rLenL, rLenT, rIntI, rIntB, rAbs, rSetLN, tTruL, tRaiseX, rIsTy, rIsOw, ixN0, ixN1, tRet, tIf, tIfS, tNext, tBreak, tCont, tDrop, tTupN, tLstN, tUn, tCB, tCall, tNot, tAnd, tOr, tB, tAndV, tOrV, tNotV, tChain, tApp, LamX.tLam, tRevLN, rCatN, rInTN, rInLN, flatV, inV, List.all_cons, List.all_nil, List.any_cons, List.any_nil, Bool.and_self, Bool.and_true, if_true, Bool.false_eq_true, if_false, tMt, tFldN, tSto, HO.ins.injEq, lkh, List.drop_zero, List.drop_succ_cons, List.drop_nil, rListS, wipe, L2.start, List.map_cons, List.map_nil, List.length_cons, List.length_nil, List.replicate, List.cons_append, List.nil_append, List.append_nil, Nat.reduceAdd, Nat.reduceSub, Nat.zero_add, List.replicate_succ, List.replicate_zero, List.getElem?_cons_zero, List.getElem?_cons_succ, List.set_cons_zero, List.set_cons_succ, Option.some.injEq, V.int.injEq, V.bl.injEq, V.ref.injEq, V.str.injEq, V.ty.injEq, List.cons.injEq, HO.tup.injEq, HO.lst.injEq, and_true, true_and, and_assoc, exists_eq_left, exists_eq_left', exists_and_left, exists_eq', atI0, atI1, atI2, atI3, Int.cast_ofNat_Int, Int.reduceToNat, scal_ii, scal_in, scal_ni, scal_nn, scal_bb, scal_ss, scal_sn, scal_ns, scal_bn, scal_nb, ite_iff, decide_eq_true_eq, decide_eq_false_iff_not, Bool.not_eq_true', Classical.not_not, ne_eq, not_false_eq_true, not_true_eq_false, forall_const, true_implies, false_implies, imp_self, sizeLine_eq, Nat.reduceLeDiff, reduceCtorEq, decide_true, decide_false]
  refine RL.ints B.a1 B.b0 B.ba B.d1 ?_
  intro p dx H1 _ s1 h1
  intro L0 H2 _ s2 h2
  have hPa := hP
  obtain ⟨g0, n0, hPa⟩ := hPa
  have R2 : TR K H2 a t p dx w s h := ⟨(hP.same s1).same s2, s2 _ _ (s1 _ _ hT), s2 _ _ h1⟩
  have t2 : StpP a H H2 := StpP.of (s1.trans s2)
  clear s1 s2 h1 hPa hT hP
  refine ⟨fun σ' H' => σ' = [some (V.ref a), some (V.ref t), some (V.ref p), some (V.ref L0), none, none, none, none, none] ∧ TR K H' a t p dx w s h ∧ H' L0 = some (.lst []) ∧ StpP a H H', ?_, ?_⟩
  · have hL := R2.L
    have hT := R2.T
    simp only [spArea, hL, hT, lkLa, lkLb, lkLd, lkLn_area, lkLn_place, lkLn_order, lkLn_places, exists_and_left, tSl, tPart, tNoPart, rSlLN, rMax2, rMin2, gUnlN, tYes, rLenS, cx_K, Value.ref.injEq, HO.xd.injEq, lk0, tSeq, tPar3, tPar, tCons, tNil, tVar, tC, tAsg, gName, gCons, gNil, gTupN, gSub, tOp, rI, rI0, rU, tTest, rNe, rEq, rIxTN, rIxLN, rLenL, rLenT, rIntI, rIntB, rAbs, rSetLN, tTruL, tRaiseX, rIsTy, rIsOw, ixN0, ixN1, tRet, tIf, tIfS, tNext, tBreak, tCont, tDrop, tTupN, tLstN, tUn, tCB, tCall, tNot, tAnd, tOr, tB, tAndV, tOrV, tNotV, tChain, tApp, LamX.tLam, tRevLN, rCatN, rInTN, rInLN, flatV, inV, List.all_cons, List.all_nil, List.any_cons, List.any_nil, Bool.and_self, Bool.and_true, if_true, Bool.false_eq_true, if_false, tMt, tFldN, tSto, HO.ins.injEq, lkh, List.drop_zero, List.drop_succ_cons, List.drop_nil, rListS, wipe, L2.start, List.map_cons, List.map_nil, List.length_cons, List.length_nil, List.replicate, List.cons_append, List.nil_append, List.append_nil, Nat.reduceAdd, Nat.reduceSub, Nat.zero_add, List.replicate_succ, List.replicate_zero, List.getElem?_cons_zero, List.getElem?_cons_succ, List.set_cons_zero, List.set_cons_succ, Option.some.injEq, V.int.injEq, V.bl.injEq, V.ref.injEq, V.str.injEq, V.ty.injEq, List.cons.injEq, HO.tup.injEq, HO.lst.injEq, and_true, true_and, and_assoc, exists_eq_left, exists_eq_left', exists_and_left, exists_eq', atI0, atI1, atI2, atI3, Int.cast_ofNat_Int, Int.reduceToNat, scal_ii, scal_in, scal_ni, scal_nn, scal_bb, scal_ss, scal_sn, scal_ns, scal_bn, scal_nb, ite_iff, decide_eq_true_eq, decide_eq_false_iff_not, Bool.not_eq_true', Classical.not_not, ne_eq, not_false_eq_true, not_true_eq_false, forall_const, true_implies, false_implies, imp_self, sizeLine_eq, Nat.reduceLeDiff, reduceCtorEq, decide_true, decide_false]
    refine ⟨dx, w, s, h, hL, B, ?_⟩
    intro p1 H3 n3 s3 h3
    have hT3 := s3 _ _ hT
    simp only [hT3, exists_and_left, tSl, tPart, tNoPart, rSlLN, rMax2, rMin2, gUnlN, tYes, rLenS, cx_K, Value.ref.injEq, HO.xd.injEq, lk0, tSeq, tPar3, tPar, tCons, tNil, tVar, tC, tAsg, gName, gCons, gNil, gTupN, gSub, tOp, rI, rI0, rU, tTest, rNe, rEq, rIxTN, rIxLN, rLenL, rLenT, rIntI, rIntB, rAbs, rSetLN, tTruL, tRaiseX, rIsTy, rIsOw, ixN0, ixN1, tRet, tIf, tIfS, tNext, tBreak, tCont, tDrop, tTupN, tLstN, tUn, tCB, tCall, tNot, tAnd, tOr, tB, tAndV, tOrV, tNotV, tChain, tApp, LamX.tLam, tRevLN, rCatN, rInTN, rInLN, flatV, inV, List.all_cons, List.all_nil, List.any_cons, List.any_nil, Bool.and_self, Bool.and_true, if_true, Bool.false_eq_true, if_false, tMt, tFldN, tSto, HO.ins.injEq, lkh, List.drop_zero, List.drop_succ_cons, List.drop_nil, rListS, wipe, L2.start, List.map_cons, List.map_nil, List.length_cons, List.length_nil, List.replicate, List.cons_append, List.nil_append, List.append_nil, Nat.reduceAdd, Nat.reduceSub, Nat.zero_add, List.replicate_succ, List.replicate_zero, List.getElem?_cons_zero, List.getElem?_cons_succ, List.set_cons_zero, List.set_cons_succ, Option.some.injEq, V.int.injEq, V.bl.injEq, V.ref.injEq, V.str.injEq, V.ty.injEq, List.cons.injEq, HO.tup.injEq, HO.lst.injEq, and_true, true_and, and_assoc, exists_eq_left, exists_eq_left', exists_and_left, exists_eq', atI0, atI1, atI2, atI3, Int.cast_ofNat_Int, Int.reduceToNat, scal_ii, scal_in, scal_ni, scal_nn, scal_bb, scal_ss, scal_sn, scal_ns, scal_bn, scal_nb, ite_iff, decide_eq_true_eq, decide_eq_false_iff_not, Bool.not_eq_true', Classical.not_not, ne_eq, not_false_eq_true, not_true_eq_false, forall_const, true_implies, false_implies, imp_self, sizeLine_eq, Nat.reduceLeDiff, reduceCtorEq, decide_true, decide_false]
    refine ⟨wide_mul B.aS B.dS (by decide) (by decide) (by decide), ?_⟩
    intro p2 H4 n4 s4 h4
    have hT4 := s4 _ _ hT3
    simp only [hT4, h4, exists_and_left, tSl, tPart, tNoPart, rSlLN, rMax2, rMin2, gUnlN, tYes, rLenS, cx_K, Value.ref.injEq, HO.xd.injEq, lk0, tSeq, tPar3, tPar, tCons, tNil, tVar, tC, tAsg, gName, gCons, gNil, gTupN, gSub, tOp, rI, rI0, rU, tTest, rNe, rEq, rIxTN, rIxLN, rLenL, rLenT, rIntI, rIntB, rAbs, rSetLN, tTruL, tRaiseX, rIsTy, rIsOw, ixN0, ixN1, tRet, tIf, tIfS, tNext, tBreak, tCont, tDrop, tTupN, tLstN, tUn, tCB, tCall, tNot, tAnd, tOr, tB, tAndV, tOrV, tNotV, tChain, tApp, LamX.tLam, tRevLN, rCatN, rInTN, rInLN, flatV, inV, List.all_cons, List.all_nil, List.any_cons, List.any_nil, Bool.and_self, Bool.and_true, if_true, Bool.false_eq_true, if_false, tMt, tFldN, tSto, HO.ins.injEq, lkh, List.drop_zero, List.drop_succ_cons, List.drop_nil, rListS, wipe, L2.start, List.map_cons, List.map_nil, List.length_cons, List.length_nil, List.replicate, List.cons_append, List.nil_append, List.append_nil, Nat.reduceAdd, Nat.reduceSub, Nat.zero_add, List.replicate_succ, List.replicate_zero, List.getElem?_cons_zero, List.getElem?_cons_succ, List.set_cons_zero, List.set_cons_succ, Option.some.injEq, V.int.injEq, V.bl.injEq, V.ref.injEq, V.str.injEq, V.ty.injEq, List.cons.injEq, HO.tup.injEq, HO.lst.injEq, and_true, true_and, and_assoc, exists_eq_left, exists_eq_left', exists_and_left, exists_eq', atI0, atI1, atI2, atI3, Int.cast_ofNat_Int, Int.reduceToNat, scal_ii, scal_in, scal_ni, scal_nn, scal_bb, scal_ss, scal_sn, scal_ns, scal_bn, scal_nb, ite_iff, decide_eq_true_eq, decide_eq_false_iff_not, Bool.not_eq_true', Classical.not_not, ne_eq, not_false_eq_true, not_true_eq_false, forall_const, true_implies, false_implies, imp_self, sizeLine_eq, Nat.reduceLeDiff, reduceCtorEq, decide_true, decide_false]
    intro p3 H5 n5 s5 h5
    refine ne_ints (ns := [w, s, h, w * h]) (ms := [w, s, h, w * h]) (s5 _ _ (s4 _ _ h3)) h5 ?_
    have S := (s3.trans s4).trans s5
    exact ⟨false, by simp, fun e => (by cases e), fun _ => ⟨R2.same S, S _ _ h2, t2.trans (StpP.of S)⟩⟩
  · rintro _ H3 ⟨rfl, R3, h3, t3⟩
    clear R2 t2 h2
    have hT3 := R3.T
    simp only [hT3, exists_and_left, tSl, tPart, tNoPart, rSlLN, rMax2, rMin2, gUnlN, tYes, rLenS, cx_K, Value.ref.injEq, HO.xd.injEq, lk0, tSeq, tPar3, tPar, tCons, tNil, tVar, tC, tAsg, gName, gCons, gNil, gTupN, gSub, tOp, rI, rI0, rU, tTest, rNe, rEq, rIxTN, rIxLN, rLenL, rLenT, rIntI, rIntB, rAbs, rSetLN, tTruL, tRaiseX, rIsTy, rIsOw, ixN0, ixN1, tRet, tIf, tIfS, tNext, tBreak, tCont, tDrop, tTupN, tLstN, tUn, tCB, tCall, tNot, tAnd, tOr, tB, tAndV, tOrV, tNotV, tChain, tApp, LamX.tLam, tRevLN, rCatN, rInTN, rInLN, flatV, inV, List.all_cons, List.all_nil, List.any_cons, List.any_nil, Bool.and_self, Bool.and_true, if_true, Bool.false_eq_true, if_false, tMt, tFldN, tSto, HO.ins.injEq, lkh, List.drop_zero, List.drop_succ_cons, List.drop_nil, rListS, wipe, L2.start, List.map_cons, List.map_nil, List.length_cons, List.length_nil, List.replicate, List.cons_append, List.nil_append, List.append_nil, Nat.reduceAdd, Nat.reduceSub, Nat.zero_add, List.replicate_succ, List.replicate_zero, List.getElem?_cons_zero, List.getElem?_cons_succ, List.set_cons_zero, List.set_cons_succ, Option.some.injEq, V.int.injEq, V.bl.injEq, V.ref.injEq, V.str.injEq, V.ty.injEq, List.cons.injEq, HO.tup.injEq, HO.lst.injEq, and_true, true_and, and_assoc, exists_eq_left, exists_eq_left', exists_and_left, exists_eq', atI0, atI1, atI2, atI3, Int.cast_ofNat_Int, Int.reduceToNat, scal_ii, scal_in, scal_ni, scal_nn, scal_bb, scal_ss, scal_sn, scal_ns, scal_bn, scal_nb, ite_iff, decide_eq_true_eq, decide_eq_false_iff_not, Bool.not_eq_true', Classical.not_not, ne_eq, not_false_eq_true, not_true_eq_false, forall_const, true_implies, false_implies, imp_self, sizeLine_eq, Nat.reduceLeDiff, reduceCtorEq, decide_true, decide_false]
    refine ⟨wide_mul B.aS B.dS (by decide) (by decide) (by decide), ?_⟩
    have a1 := B.a1
    have d1 := B.d1
    have ad : h ≤ w * h := by have := Int.mul_le_mul_of_nonneg_right a1 (show 0 ≤ h by omega); omega
    have da : w ≤ w * h := by have := Int.mul_le_mul_of_nonneg_left d1 (show 0 ≤ w by omega); omega
    have len : ∀ i : Nat, ((List.range i).flatMap fun (y : Nat) => (List.range w.toNat).map fun (x : Nat) => ((some (x : Int), some (y : Int)) : Option Int × Option Int)).length = i * w.toNat := fun i => by
      induction i with
      | zero => simp
      | succ i ih => rw [List.range_succ, List.flatMap_append, List.length_append, ih]; simp [Nat.succ_mul]
    refine st_forR1 (if w * h < 100 then h else 0) (by split <;> omega) (fun R r => ?_) (fun i σ' H' => ∃ L' y x, σ' = [some (V.ref a), some (V.ref t), some (V.ref p), some (V.ref L'), some (V.bl (decide (w * h < 100))), y, x, none, none] ∧ TR K H' a t p dx w s h ∧
      PairsAt H' L' ((List.range i).flatMap fun (y : Nat) => (List.range w.toNat).map fun (x : Nat) => (some (x : Int), some (y : Int))) ∧ StpP a H H') ⟨L0, none, none, rfl, R3, ⟨_, h3, .nil⟩, t3⟩ ?_ ?_
    · simp only [hT3, exists_and_left, tSl, tPart, tNoPart, rSlLN, rMax2, rMin2, gUnlN, tYes, rLenS, cx_K, Value.ref.injEq, HO.xd.injEq, lk0, tSeq, tPar3, tPar, tCons, tNil, tVar, tC, tAsg, gName, gCons, gNil, gTupN, gSub, tOp, rI, rI0, rU, tTest, rNe, rEq, rIxTN, rIxLN, rLenL, rLenT, rIntI, rIntB, rAbs, rSetLN, tTruL, tRaiseX, rIsTy, rIsOw, ixN0, ixN1, tRet, tIf, tIfS, tNext, tBreak, tCont, tDrop, tTupN, tLstN, tUn, tCB, tCall, tNot, tAnd, tOr, tB, tAndV, tOrV, tNotV, tChain, tApp, LamX.tLam, tRevLN, rCatN, rInTN, rInLN, flatV, inV, List.all_cons, List.all_nil, List.any_cons, List.any_nil, Bool.and_self, Bool.and_true, if_true, Bool.false_eq_true, if_false, tMt, tFldN, tSto, HO.ins.injEq, lkh, List.drop_zero, List.drop_succ_cons, List.drop_nil, rListS, wipe, L2.start, List.map_cons, List.map_nil, List.length_cons, List.length_nil, List.replicate, List.cons_append, List.nil_append, List.append_nil, Nat.reduceAdd, Nat.reduceSub, Nat.zero_add, List.replicate_succ, List.replicate_zero, List.getElem?_cons_zero, List.getElem?_cons_succ, List.set_cons_zero, List.set_cons_succ, Option.some.injEq, V.int.injEq, V.bl.injEq, V.ref.injEq, V.str.injEq, V.ty.injEq, List.cons.injEq, HO.tup.injEq, HO.lst.injEq, and_true, true_and, and_assoc, exists_eq_left, exists_eq_left', exists_and_left, exists_eq', atI0, atI1, atI2, atI3, Int.cast_ofNat_Int, Int.reduceToNat, scal_ii, scal_in, scal_ni, scal_nn, scal_bb, scal_ss, scal_sn, scal_ns, scal_bn, scal_nb, ite_iff, decide_eq_true_eq, decide_eq_false_iff_not, Bool.not_eq_true', Classical.not_not, ne_eq, not_false_eq_true, not_true_eq_false, forall_const, true_implies, false_implies, imp_self, sizeLine_eq, Nat.reduceLeDiff, reduceCtorEq, decide_true, decide_false]
      by_cases hsm : w * h < 100
      · rw [if_pos hsm] at r; exact ⟨fun _ => r, fun e => absurd hsm e⟩
      · rw [if_neg hsm] at r; exact ⟨fun e => absurd e hsm, fun _ => r⟩
    · clear R3 h3 t3 hT3
      rintro i _ H3 hi ⟨L1, y, x, rfl, R3, h3, t3⟩
      have hsm : w * h < 100 := by
        by_cases e : w * h < 100
        · exact e
        · rw [if_neg e] at hi; exact absurd hi (by simp)
      rw [if_pos hsm] at hi
      have hT3 := R3.T
      simp only [exists_and_left, tSl, tPart, tNoPart, rSlLN, rMax2, rMin2, gUnlN, tYes, rLenS, cx_K, Value.ref.injEq, HO.xd.injEq, lk0, tSeq, tPar3, tPar, tCons, tNil, tVar, tC, tAsg, gName, gCons, gNil, gTupN, gSub, tOp, rI, rI0, rU, tTest, rNe, rEq, rIxTN, rIxLN, rLenL, rLenT, rIntI, rIntB, rAbs, rSetLN, tTruL, tRaiseX, rIsTy, rIsOw, ixN0, ixN1, tRet, tIf, tIfS, tNext, tBreak, tCont, tDrop, tTupN, tLstN, tUn, tCB, tCall, tNot, tAnd, tOr, tB, tAndV, tOrV, tNotV, tChain, tApp, LamX.tLam, tRevLN, rCatN, rInTN, rInLN, flatV, inV, List.all_cons, List.all_nil, List.any_cons, List.any_nil, Bool.and_self, Bool.and_true, if_true, Bool.false_eq_true, if_false, tMt, tFldN, tSto, HO.ins.injEq, lkh, List.drop_zero, List.drop_succ_cons, List.drop_nil, rListS, wipe, L2.start, List.map_cons, List.map_nil, List.length_cons, List.length_nil, List.replicate, List.cons_append, List.nil_append, List.append_nil, Nat.reduceAdd, Nat.reduceSub, Nat.zero_add, List.replicate_succ, List.replicate_zero, List.getElem?_cons_zero, List.getElem?_cons_succ, List.set_cons_zero, List.set_cons_succ, Option.some.injEq, V.int.injEq, V.bl.injEq, V.ref.injEq, V.str.injEq, V.ty.injEq, List.cons.injEq, HO.tup.injEq, HO.lst.injEq, and_true, true_and, and_assoc, exists_eq_left, exists_eq_left', exists_and_left, exists_eq', atI0, atI1, atI2, atI3, Int.cast_ofNat_Int, Int.reduceToNat, scal_ii, scal_in, scal_ni, scal_nn, scal_bb, scal_ss, scal_sn, scal_ns, scal_bn, scal_nb, ite_iff, decide_eq_true_eq, decide_eq_false_iff_not, Bool.not_eq_true', Classical.not_not, ne_eq, not_false_eq_true, not_true_eq_false, forall_const, true_implies, false_implies, imp_self, sizeLine_eq, Nat.reduceLeDiff, reduceCtorEq, decide_true, decide_false]
      refine st_lcR1 w (by omega) (fun R r => ?_) (fun D j H' => H3 D = none ∧ Same H3 H' ∧ PairsAt H' D ((List.range j).map fun (x : Nat) => (some (x : Int), some (i : Int)))) (fun D H1 hD s h1 => ⟨hD, s, _, h1, .nil⟩) (fun D j H4 hj q => ?_) (fun D H4 q => ?_)
      · simp only [hT3, exists_and_left, tSl, tPart, tNoPart, rSlLN, rMax2, rMin2, gUnlN, tYes, rLenS, cx_K, Value.ref.injEq, HO.xd.injEq, lk0, tSeq, tPar3, tPar, tCons, tNil, tVar, tC, tAsg, gName, gCons, gNil, gTupN, gSub, tOp, rI, rI0, rU, tTest, rNe, rEq, rIxTN, rIxLN, rLenL, rLenT, rIntI, rIntB, rAbs, rSetLN, tTruL, tRaiseX, rIsTy, rIsOw, ixN0, ixN1, tRet, tIf, tIfS, tNext, tBreak, tCont, tDrop, tTupN, tLstN, tUn, tCB, tCall, tNot, tAnd, tOr, tB, tAndV, tOrV, tNotV, tChain, tApp, LamX.tLam, tRevLN, rCatN, rInTN, rInLN, flatV, inV, List.all_cons, List.all_nil, List.any_cons, List.any_nil, Bool.and_self, Bool.and_true, if_true, Bool.false_eq_true, if_false, tMt, tFldN, tSto, HO.ins.injEq, lkh, List.drop_zero, List.drop_succ_cons, List.drop_nil, rListS, wipe, L2.start, List.map_cons, List.map_nil, List.length_cons, List.length_nil, List.replicate, List.cons_append, List.nil_append, List.append_nil, Nat.reduceAdd, Nat.reduceSub, Nat.zero_add, List.replicate_succ, List.replicate_zero, List.getElem?_cons_zero, List.getElem?_cons_succ, List.set_cons_zero, List.set_cons_succ, Option.some.injEq, V.int.injEq, V.bl.injEq, V.ref.injEq, V.str.injEq, V.ty.injEq, List.cons.injEq, HO.tup.injEq, HO.lst.injEq, and_true, true_and, and_assoc, exists_eq_left, exists_eq_left', exists_and_left, exists_eq', atI0, atI1, atI2, atI3, Int.cast_ofNat_Int, Int.reduceToNat, scal_ii, scal_in, scal_ni, scal_nn, scal_bb, scal_ss, scal_sn, scal_ns, scal_bn, scal_nb, ite_iff, decide_eq_true_eq, decide_eq_false_iff_not, Bool.not_eq_true', Classical.not_not, ne_eq, not_false_eq_true, not_true_eq_false, forall_const, true_implies, false_implies, imp_self, sizeLine_eq, Nat.reduceLeDiff, reduceCtorEq, decide_true, decide_false]
        exact r
      · obtain ⟨hD, s4, h4⟩ := q
        simp only [exists_and_left, tSl, tPart, tNoPart, rSlLN, rMax2, rMin2, gUnlN, tYes, rLenS, cx_K, Value.ref.injEq, HO.xd.injEq, lk0, tSeq, tPar3, tPar, tCons, tNil, tVar, tC, tAsg, gName, gCons, gNil, gTupN, gSub, tOp, rI, rI0, rU, tTest, rNe, rEq, rIxTN, rIxLN, rLenL, rLenT, rIntI, rIntB, rAbs, rSetLN, tTruL, tRaiseX, rIsTy, rIsOw, ixN0, ixN1, tRet, tIf, tIfS, tNext, tBreak, tCont, tDrop, tTupN, tLstN, tUn, tCB, tCall, tNot, tAnd, tOr, tB, tAndV, tOrV, tNotV, tChain, tApp, LamX.tLam, tRevLN, rCatN, rInTN, rInLN, flatV, inV, List.all_cons, List.all_nil, List.any_cons, List.any_nil, Bool.and_self, Bool.and_true, if_true, Bool.false_eq_true, if_false, tMt, tFldN, tSto, HO.ins.injEq, lkh, List.drop_zero, List.drop_succ_cons, List.drop_nil, rListS, wipe, L2.start, List.map_cons, List.map_nil, List.length_cons, List.length_nil, List.replicate, List.cons_append, List.nil_append, List.append_nil, Nat.reduceAdd, Nat.reduceSub, Nat.zero_add, List.replicate_succ, List.replicate_zero, List.getElem?_cons_zero, List.getElem?_cons_succ, List.set_cons_zero, List.set_cons_succ, Option.some.injEq, V.int.injEq, V.bl.injEq, V.ref.injEq, V.str.injEq, V.ty.injEq, List.cons.injEq, HO.tup.injEq, HO.lst.injEq, and_true, true_and, and_assoc, exists_eq_left, exists_eq_left', exists_and_left, exists_eq', atI0, atI1, atI2, atI3, Int.cast_ofNat_Int, Int.reduceToNat, scal_ii, scal_in, scal_ni, scal_nn, scal_bb, scal_ss, scal_sn, scal_ns, scal_bn, scal_nb, ite_iff, decide_eq_true_eq, decide_eq_false_iff_not, Bool.not_eq_true', Classical.not_not, ne_eq, not_false_eq_true, not_true_eq_false, forall_const, true_implies, false_implies, imp_self, sizeLine_eq, Nat.reduceLeDiff, reduceCtorEq, decide_true, decide_false]
        intro u H5 hu s5 h5
        obtain ⟨acc, e1, e2, e3⟩ := (h4.mono s5).push (q := (some (j : Int), some (i : Int))) h5 (by rw [List.length_map, List.length_range]; omega)
        refine ⟨acc, e1, e2, hD, fun b u e => ?_, ?_⟩
        · rw [upd_ne (ne_of_none e hD)]; exact s5 _ _ (s4 _ _ e)
        · rw [List.range_succ, List.map_append]; exact e3
      · obtain ⟨hD, s4, zs, hz, hzs⟩ := q
        obtain ⟨xs, hx, hxs⟩ := h3.mono s4
        have bl : i * w.toNat ≤ h.toNat * w.toNat := Nat.mul_le_mul_right _ (Nat.le_of_lt hi)
        have bm : h.toNat * w.toNat = (w * h).toNat := by
          have : ((h.toNat * w.toNat : Nat) : Int) = w * h := by rw [Int.natCast_mul, Int.mul_comm]; congr 1 <;> omega
          omega
        have lx := hxs.length
        have lz := hzs.length
        rw [len] at lx
        rw [List.length_map, List.length_range] at lz
        simp only [exists_and_left, tSl, tPart, tNoPart, rSlLN, rMax2, rMin2, gUnlN, tYes, rLenS, cx_K, Value.ref.injEq, HO.xd.injEq, lk0, tSeq, tPar3, tPar, tCons, tNil, tVar, tC, tAsg, gName, gCons, gNil, gTupN, gSub, tOp, rI, rI0, rU, tTest, rNe, rEq, rIxTN, rIxLN, rLenL, rLenT, rIntI, rIntB, rAbs, rSetLN, tTruL, tRaiseX, rIsTy, rIsOw, ixN0, ixN1, tRet, tIf, tIfS, tNext, tBreak, tCont, tDrop, tTupN, tLstN, tUn, tCB, tCall, tNot, tAnd, tOr, tB, tAndV, tOrV, tNotV, tChain, tApp, LamX.tLam, tRevLN, rCatN, rInTN, rInLN, flatV, inV, List.all_cons, List.all_nil, List.any_cons, List.any_nil, Bool.and_self, Bool.and_true, if_true, Bool.false_eq_true, if_false, tMt, tFldN, tSto, HO.ins.injEq, lkh, List.drop_zero, List.drop_succ_cons, List.drop_nil, rListS, wipe, L2.start, List.map_cons, List.map_nil, List.length_cons, List.length_nil, List.replicate, List.cons_append, List.nil_append, List.append_nil, Nat.reduceAdd, Nat.reduceSub, Nat.zero_add, List.replicate_succ, List.replicate_zero, List.getElem?_cons_zero, List.getElem?_cons_succ, List.set_cons_zero, List.set_cons_succ, Option.some.injEq, V.int.injEq, V.bl.injEq, V.ref.injEq, V.str.injEq, V.ty.injEq, List.cons.injEq, HO.tup.injEq, HO.lst.injEq, and_true, true_and, and_assoc, exists_eq_left, exists_eq_left', exists_and_left, exists_eq', atI0, atI1, atI2, atI3, Int.cast_ofNat_Int, Int.reduceToNat, scal_ii, scal_in, scal_ni, scal_nn, scal_bb, scal_ss, scal_sn, scal_ns, scal_bn, scal_nb, ite_iff, decide_eq_true_eq, decide_eq_false_iff_not, Bool.not_eq_true', Classical.not_not, ne_eq, not_false_eq_true, not_true_eq_false, forall_const, true_implies, false_implies, imp_self, sizeLine_eq, Nat.reduceLeDiff, reduceCtorEq, decide_true, decide_false]
        refine ⟨xs, hx, zs, hz, by omega, ?_⟩
        intro L2 H5 _ s5 h5
        have S := s4.trans s5
        refine ⟨L2, rfl, R3.same S, ⟨_, h5, ?_⟩, t3.trans (StpP.of S)⟩
        rw [List.range_succ, List.flatMap_append]
        simpa using PAll.app (hxs.mono s5) (hzs.mono s5)
    · clear R3 h3 t3 hT3
      rintro _ H3 ⟨L1, y, x, rfl, R3, h3, t3⟩
      simp only [exists_and_left, tSl, tPart, tNoPart, rSlLN, rMax2, rMin2, gUnlN, tYes, rLenS, cx_K, Value.ref.injEq, HO.xd.injEq, lk0, tSeq, tPar3, tPar, tCons, tNil, tVar, tC, tAsg, gName, gCons, gNil, gTupN, gSub, tOp, rI, rI0, rU, tTest, rNe, rEq, rIxTN, rIxLN, rLenL, rLenT, rIntI, rIntB, rAbs, rSetLN, tTruL, tRaiseX, rIsTy, rIsOw, ixN0, ixN1, tRet, tIf, tIfS, tNext, tBreak, tCont, tDrop, tTupN, tLstN, tUn, tCB, tCall, tNot, tAnd, tOr, tB, tAndV, tOrV, tNotV, tChain, tApp, LamX.tLam, tRevLN, rCatN, rInTN, rInLN, flatV, inV, List.all_cons, List.all_nil, List.any_cons, List.any_nil, Bool.and_self, Bool.and_true, if_true, Bool.false_eq_true, if_false, tMt, tFldN, tSto, HO.ins.injEq, lkh, List.drop_zero, List.drop_succ_cons, List.drop_nil, rListS, wipe, L2.start, List.map_cons, List.map_nil, List.length_cons, List.length_nil, List.replicate, List.cons_append, List.nil_append, List.append_nil, Nat.reduceAdd, Nat.reduceSub, Nat.zero_add, List.replicate_succ, List.replicate_zero, List.getElem?_cons_zero, List.getElem?_cons_succ, List.set_cons_zero, List.set_cons_succ, Option.some.injEq, V.int.injEq, V.bl.injEq, V.ref.injEq, V.str.injEq, V.ty.injEq, List.cons.injEq, HO.tup.injEq, HO.lst.injEq, and_true, true_and, and_assoc, exists_eq_left, exists_eq_left', exists_and_left, exists_eq', atI0, atI1, atI2, atI3, Int.cast_ofNat_Int, Int.reduceToNat, scal_ii, scal_in, scal_ni, scal_nn, scal_bb, scal_ss, scal_sn, scal_ns, scal_bn, scal_nb, ite_iff, decide_eq_true_eq, decide_eq_false_iff_not, Bool.not_eq_true', Classical.not_not, ne_eq, not_false_eq_true, not_true_eq_false, forall_const, true_implies, false_implies, imp_self, sizeLine_eq, Nat.reduceLeDiff, reduceCtorEq, decide_true, decide_false]
      refine ⟨fun σ' H' => σ' = [some (V.ref a), some (V.ref t), some (V.ref p), some (V.ref L1), some (V.bl (decide (w * h < 100))), y, x, none, none] ∧ TR K H' a t p dx w s h ∧ StpP a H H', ?_, ?_⟩
      · have hL3 := R3.L
        simp only [spPlaces, hL3, lkLa, lkLb, lkLd, lkLn_area, lkLn_place, lkLn_order, lkLn_places, exists_and_left, tSl, tPart, tNoPart, rSlLN, rMax2, rMin2, gUnlN, tYes, rLenS, cx_K, Value.ref.injEq, HO.xd.injEq, lk0, tSeq, tPar3, tPar, tCons, tNil, tVar, tC, tAsg, gName, gCons, gNil, gTupN, gSub, tOp, rI, rI0, rU, tTest, rNe, rEq, rIxTN, rIxLN, rLenL, rLenT, rIntI, rIntB, rAbs, rSetLN, tTruL, tRaiseX, rIsTy, rIsOw, ixN0, ixN1, tRet, tIf, tIfS, tNext, tBreak, tCont, tDrop, tTupN, tLstN, tUn, tCB, tCall, tNot, tAnd, tOr, tB, tAndV, tOrV, tNotV, tChain, tApp, LamX.tLam, tRevLN, rCatN, rInTN, rInLN, flatV, inV, List.all_cons, List.all_nil, List.any_cons, List.any_nil, Bool.and_self, Bool.and_true, if_true, Bool.false_eq_true, if_false, tMt, tFldN, tSto, HO.ins.injEq, lkh, List.drop_zero, List.drop_succ_cons, List.drop_nil, rListS, wipe, L2.start, List.map_cons, List.map_nil, List.length_cons, List.length_nil, List.replicate, List.cons_append, List.nil_append, List.append_nil, Nat.reduceAdd, Nat.reduceSub, Nat.zero_add, List.replicate_succ, List.replicate_zero, List.getElem?_cons_zero, List.getElem?_cons_succ, List.set_cons_zero, List.set_cons_succ, Option.some.injEq, V.int.injEq, V.bl.injEq, V.ref.injEq, V.str.injEq, V.ty.injEq, List.cons.injEq, HO.tup.injEq, HO.lst.injEq, and_true, true_and, and_assoc, exists_eq_left, exists_eq_left', exists_and_left, exists_eq', atI0, atI1, atI2, atI3, Int.cast_ofNat_Int, Int.reduceToNat, scal_ii, scal_in, scal_ni, scal_nn, scal_bb, scal_ss, scal_sn, scal_ns, scal_bn, scal_nb, ite_iff, decide_eq_true_eq, decide_eq_false_iff_not, Bool.not_eq_true', Classical.not_not, ne_eq, not_false_eq_true, not_true_eq_false, forall_const, true_implies, false_implies, imp_self, sizeLine_eq, Nat.reduceLeDiff, reduceCtorEq, decide_true, decide_false]
        refine ⟨fun hsm => ⟨dx, w, s, h, hL3, B, by omega, fun q H4 s4 h4 => ?_⟩, fun _ => ⟨R3, t3⟩⟩
        rw [if_pos hsm] at h3
        exact ne_sameN h4.dp (h3.mono s4).dp sh_dPs ⟨false, rfl, fun e => (by cases e), fun _ => ⟨R3.same s4, t3.trans (StpP.of s4)⟩⟩
      · clear R3 h3 t3
        rintro _ H3 ⟨rfl, R3, t3⟩
        simp only [exists_and_left, tSl, tPart, tNoPart, rSlLN, rMax2, rMin2, gUnlN, tYes, rLenS, cx_K, Value.ref.injEq, HO.xd.injEq, lk0, tSeq, tPar3, tPar, tCons, tNil, tVar, tC, tAsg, gName, gCons, gNil, gTupN, gSub, tOp, rI, rI0, rU, tTest, rNe, rEq, rIxTN, rIxLN, rLenL, rLenT, rIntI, rIntB, rAbs, rSetLN, tTruL, tRaiseX, rIsTy, rIsOw, ixN0, ixN1, tRet, tIf, tIfS, tNext, tBreak, tCont, tDrop, tTupN, tLstN, tUn, tCB, tCall, tNot, tAnd, tOr, tB, tAndV, tOrV, tNotV, tChain, tApp, LamX.tLam, tRevLN, rCatN, rInTN, rInLN, flatV, inV, List.all_cons, List.all_nil, List.any_cons, List.any_nil, Bool.and_self, Bool.and_true, if_true, Bool.false_eq_true, if_false, tMt, tFldN, tSto, HO.ins.injEq, lkh, List.drop_zero, List.drop_succ_cons, List.drop_nil, rListS, wipe, L2.start, List.map_cons, List.map_nil, List.length_cons, List.length_nil, List.replicate, List.cons_append, List.nil_append, List.append_nil, Nat.reduceAdd, Nat.reduceSub, Nat.zero_add, List.replicate_succ, List.replicate_zero, List.getElem?_cons_zero, List.getElem?_cons_succ, List.set_cons_zero, List.set_cons_succ, Option.some.injEq, V.int.injEq, V.bl.injEq, V.ref.injEq, V.str.injEq, V.ty.injEq, List.cons.injEq, HO.tup.injEq, HO.lst.injEq, and_true, true_and, and_assoc, exists_eq_left, exists_eq_left', exists_and_left, exists_eq', atI0, atI1, atI2, atI3, Int.cast_ofNat_Int, Int.reduceToNat, scal_ii, scal_in, scal_ni, scal_nn, scal_bb, scal_ss, scal_sn, scal_ns, scal_bn, scal_nb, ite_iff, decide_eq_true_eq, decide_eq_false_iff_not, Bool.not_eq_true', Classical.not_not, ne_eq, not_false_eq_true, not_true_eq_false, forall_const, true_implies, false_implies, imp_self, sizeLine_eq, Nat.reduceLeDiff, reduceCtorEq, decide_true, decide_false]
        refine st_forR1 8 (by decide) (fun Q q => q) (fun i σ' H' => ∃ y x u v, σ' = [some (V.ref a), some (V.ref t), some (V.ref p), some (V.ref L1), some (V.bl (decide (w * h < 100))), y, x, u, v] ∧ TR K H' a t p dx w s h ∧ StpP a H H') ⟨_, _, _, _, rfl, R3, t3⟩ ?_ ?_
        · clear R3 t3
          rintro i _ H3 hi ⟨_, _, _, _, rfl, R3, t3⟩
          simp only [spIntL, exists_and_left, tSl, tPart, tNoPart, rSlLN, rMax2, rMin2, gUnlN, tYes, rLenS, cx_K, Value.ref.injEq, HO.xd.injEq, lk0, tSeq, tPar3, tPar, tCons, tNil, tVar, tC, tAsg, gName, gCons, gNil, gTupN, gSub, tOp, rI, rI0, rU, tTest, rNe, rEq, rIxTN, rIxLN, rLenL, rLenT, rIntI, rIntB, rAbs, rSetLN, tTruL, tRaiseX, rIsTy, rIsOw, ixN0, ixN1, tRet, tIf, tIfS, tNext, tBreak, tCont, tDrop, tTupN, tLstN, tUn, tCB, tCall, tNot, tAnd, tOr, tB, tAndV, tOrV, tNotV, tChain, tApp, LamX.tLam, tRevLN, rCatN, rInTN, rInLN, flatV, inV, List.all_cons, List.all_nil, List.any_cons, List.any_nil, Bool.and_self, Bool.and_true, if_true, Bool.false_eq_true, if_false, tMt, tFldN, tSto, HO.ins.injEq, lkh, List.drop_zero, List.drop_succ_cons, List.drop_nil, rListS, wipe, L2.start, List.map_cons, List.map_nil, List.length_cons, List.length_nil, List.replicate, List.cons_append, List.nil_append, List.append_nil, Nat.reduceAdd, Nat.reduceSub, Nat.zero_add, List.replicate_succ, List.replicate_zero, List.getElem?_cons_zero, List.getElem?_cons_succ, List.set_cons_zero, List.set_cons_succ, Option.some.injEq, V.int.injEq, V.bl.injEq, V.ref.injEq, V.str.injEq, V.ty.injEq, List.cons.injEq, HO.tup.injEq, HO.lst.injEq, and_true, true_and, and_assoc, exists_eq_left, exists_eq_left', exists_and_left, exists_eq', atI0, atI1, atI2, atI3, Int.cast_ofNat_Int, Int.reduceToNat, scal_ii, scal_in, scal_ni, scal_nn, scal_bb, scal_ss, scal_sn, scal_ns, scal_bn, scal_nb, ite_iff, decide_eq_true_eq, decide_eq_false_iff_not, Bool.not_eq_true', Classical.not_not, ne_eq, not_false_eq_true, not_true_eq_false, forall_const, true_implies, false_implies, imp_self, sizeLine_eq, Nat.reduceLeDiff, reduceCtorEq, decide_true, decide_false]
          refine ⟨R3.P, fun x H4 bx P4 t4 => ⟨P4, fun y H5 yb P5 t5 => ?_⟩⟩
          intro q0 H6 _ s6 h6
          have R6 := ((R3.stp P4 t4).stp P5 t5).same s6
          have t6 := (t3.trans t4).trans (t5.trans (StpP.of s6))
          have hT6 := R6.T
          clear R3 t3 P4 t4 P5 t5 s6
          simp only [h6, hT6, exists_and_left, tSl, tPart, tNoPart, rSlLN, rMax2, rMin2, gUnlN, tYes, rLenS, cx_K, Value.ref.injEq, HO.xd.injEq, lk0, tSeq, tPar3, tPar, tCons, tNil, tVar, tC, tAsg, gName, gCons, gNil, gTupN, gSub, tOp, rI, rI0, rU, tTest, rNe, rEq, rIxTN, rIxLN, rLenL, rLenT, rIntI, rIntB, rAbs, rSetLN, tTruL, tRaiseX, rIsTy, rIsOw, ixN0, ixN1, tRet, tIf, tIfS, tNext, tBreak, tCont, tDrop, tTupN, tLstN, tUn, tCB, tCall, tNot, tAnd, tOr, tB, tAndV, tOrV, tNotV, tChain, tApp, LamX.tLam, tRevLN, rCatN, rInTN, rInLN, flatV, inV, List.all_cons, List.all_nil, List.any_cons, List.any_nil, Bool.and_self, Bool.and_true, if_true, Bool.false_eq_true, if_false, tMt, tFldN, tSto, HO.ins.injEq, lkh, List.drop_zero, List.drop_succ_cons, List.drop_nil, rListS, wipe, L2.start, List.map_cons, List.map_nil, List.length_cons, List.length_nil, List.replicate, List.cons_append, List.nil_append, List.append_nil, Nat.reduceAdd, Nat.reduceSub, Nat.zero_add, List.replicate_succ, List.replicate_zero, List.getElem?_cons_zero, List.getElem?_cons_succ, List.set_cons_zero, List.set_cons_succ, Option.some.injEq, V.int.injEq, V.bl.injEq, V.ref.injEq, V.str.injEq, V.ty.injEq, List.cons.injEq, HO.tup.injEq, HO.lst.injEq, and_true, true_and, and_assoc, exists_eq_left, exists_eq_left', exists_and_left, exists_eq', atI0, atI1, atI2, atI3, Int.cast_ofNat_Int, Int.reduceToNat, scal_ii, scal_in, scal_ni, scal_nn, scal_bb, scal_ss, scal_sn, scal_ns, scal_bn, scal_nb, ite_iff, decide_eq_true_eq, decide_eq_false_iff_not, Bool.not_eq_true', Classical.not_not, ne_eq, not_false_eq_true, not_true_eq_false, forall_const, true_implies, false_implies, imp_self, sizeLine_eq, Nat.reduceLeDiff, reduceCtorEq, decide_true, decide_false]
          have bS : s.natAbs < 2 ^ 100 := by have := B.ba; have := B.b0; omega
          refine ⟨wide_mul bx wS (by decide) (by decide) (by decide), wide_mul yb bS (by decide) (by decide) (by decide), wide_mul yb hS (by decide) (by decide) (by decide), ?_⟩
          intro q1 H7 _ s7 h7
          have R7 := R6.same s7
          have t7 := t6.trans (StpP.of s7)
          clear R6 t6 hT6 h6 s7
          have m1 : (x * w).natAbs < 2 ^ 202 := by rw [Int.natAbs_mul, show (202 : Nat) = 102 + 100 from rfl, Nat.pow_add]; exact Nat.mul_lt_mul'' bx wS
          have m2 : (y * s).natAbs < 2 ^ 202 := by rw [Int.natAbs_mul, show (202 : Nat) = 102 + 100 from rfl, Nat.pow_add]; exact Nat.mul_lt_mul'' yb bS
          have m3 : (y * h).natAbs < 2 ^ 202 := by rw [Int.natAbs_mul, show (202 : Nat) = 102 + 100 from rfl, Nat.pow_add]; exact Nat.mul_lt_mul'' yb hS
          have m4 : (x * w + y * s).natAbs < 2 ^ 203 := by omega
          have up : ∀ {n : Nat} {z : Int}, z.natAbs < 2 ^ n → n ≤ 2000 → z.natAbs < 2 ^ 2000 := fun h h2 => pow_small h h2
          refine ⟨fun σ' H' => σ' = [some (V.ref a), some (V.ref t), some (V.ref p), some (V.ref L1), some (V.bl (decide (w * h < 100))), some (V.int y), some (V.int x), some (V.int i), some (V.ref q1)] ∧ TR K H' a t p dx w s h ∧ StpP a H H', ?_, ?_⟩
          · have hL7 := R7.L
            simp only [spPlace, spPl, hL7, lkLa, lkLb, lkLd, lkLn_area, lkLn_place, lkLn_order, lkLn_places, exists_and_left, tSl, tPart, tNoPart, rSlLN, rMax2, rMin2, gUnlN, tYes, rLenS, cx_K, Value.ref.injEq, HO.xd.injEq, lk0, tSeq, tPar3, tPar, tCons, tNil, tVar, tC, tAsg, gName, gCons, gNil, gTupN, gSub, tOp, rI, rI0, rU, tTest, rNe, rEq, rIxTN, rIxLN, rLenL, rLenT, rIntI, rIntB, rAbs, rSetLN, tTruL, tRaiseX, rIsTy, rIsOw, ixN0, ixN1, tRet, tIf, tIfS, tNext, tBreak, tCont, tDrop, tTupN, tLstN, tUn, tCB, tCall, tNot, tAnd, tOr, tB, tAndV, tOrV, tNotV, tChain, tApp, LamX.tLam, tRevLN, rCatN, rInTN, rInLN, flatV, inV, List.all_cons, List.all_nil, List.any_cons, List.any_nil, Bool.and_self, Bool.and_true, if_true, Bool.false_eq_true, if_false, tMt, tFldN, tSto, HO.ins.injEq, lkh, List.drop_zero, List.drop_succ_cons, List.drop_nil, rListS, wipe, L2.start, List.map_cons, List.map_nil, List.length_cons, List.length_nil, List.replicate, List.cons_append, List.nil_append, List.append_nil, Nat.reduceAdd, Nat.reduceSub, Nat.zero_add, List.replicate_succ, List.replicate_zero, List.getElem?_cons_zero, List.getElem?_cons_succ, List.set_cons_zero, List.set_cons_succ, Option.some.injEq, V.int.injEq, V.bl.injEq, V.ref.injEq, V.str.injEq, V.ty.injEq, List.cons.injEq, HO.tup.injEq, HO.lst.injEq, and_true, true_and, and_assoc, exists_eq_left, exists_eq_left', exists_and_left, exists_eq', atI0, atI1, atI2, atI3, Int.cast_ofNat_Int, Int.reduceToNat, scal_ii, scal_in, scal_ni, scal_nn, scal_bb, scal_ss, scal_sn, scal_ns, scal_bn, scal_nb, ite_iff, decide_eq_true_eq, decide_eq_false_iff_not, Bool.not_eq_true', Classical.not_not, ne_eq, not_false_eq_true, not_true_eq_false, forall_const, true_implies, false_implies, imp_self, sizeLine_eq, Nat.reduceLeDiff, reduceCtorEq, decide_true, decide_false]
            intro q2 H8 _ s8 h8
            refine ⟨dx, w, s, h, s8 _ _ hL7, B, P2.k h8, fun e => (by rw [pairV_of h8] at e; cases e), fun u v e => (by rw [pairV_of h8] at e; cases e; exact ⟨up bx (by decide), up yb (by decide)⟩), fun u v e q3 H9 s9 h9 => ?_⟩
            rw [pairV_of h8] at e; cases e
            have R9 := (R7.same s8).same s9
            refine ⟨w, s, h, R9.T, B, up bx (by decide), up yb (by decide), fun q4 H10 s10 h10 => ?_⟩
            refine ne_P2 (s10 _ _ h9) h10 ⟨false, by simp, fun e => (by cases e), fun _ => ?_⟩
            have n10 := s10 _ _ (s9 _ _ (s8 _ _ h7))
            have R10 := R9.same s10
            refine own_in R10.L ⟨p, _, rfl, dx, w, s, h, R10.L, B, P2.k n10, fun u v e => (by rw [pairV_of n10] at e; cases e; exact ⟨up m4 (by decide), up m3 (by decide)⟩), fun H11 s11 => ?_⟩
            rw [pairV_of n10, near_in B]
            exact ⟨true, rfl, false, rfl, fun e => (by cases e), fun _ => ⟨R10.same s11, (t7.trans ((StpP.of s8).trans (StpP.of s9))).trans ((StpP.of s10).trans (StpP.of s11))⟩⟩
          · clear R7 t7 h7
            rintro _ H7 ⟨rfl, R7, t7⟩
            simp only [exists_and_left, tSl, tPart, tNoPart, rSlLN, rMax2, rMin2, gUnlN, tYes, rLenS, cx_K, Value.ref.injEq, HO.xd.injEq, lk0, tSeq, tPar3, tPar, tCons, tNil, tVar, tC, tAsg, gName, gCons, gNil, gTupN, gSub, tOp, rI, rI0, rU, tTest, rNe, rEq, rIxTN, rIxLN, rLenL, rLenT, rIntI, rIntB, rAbs, rSetLN, tTruL, tRaiseX, rIsTy, rIsOw, ixN0, ixN1, tRet, tIf, tIfS, tNext, tBreak, tCont, tDrop, tTupN, tLstN, tUn, tCB, tCall, tNot, tAnd, tOr, tB, tAndV, tOrV, tNotV, tChain, tApp, LamX.tLam, tRevLN, rCatN, rInTN, rInLN, flatV, inV, List.all_cons, List.all_nil, List.any_cons, List.any_nil, Bool.and_self, Bool.and_true, if_true, Bool.false_eq_true, if_false, tMt, tFldN, tSto, HO.ins.injEq, lkh, List.drop_zero, List.drop_succ_cons, List.drop_nil, rListS, wipe, L2.start, List.map_cons, List.map_nil, List.length_cons, List.length_nil, List.replicate, List.cons_append, List.nil_append, List.append_nil, Nat.reduceAdd, Nat.reduceSub, Nat.zero_add, List.replicate_succ, List.replicate_zero, List.getElem?_cons_zero, List.getElem?_cons_succ, List.set_cons_zero, List.set_cons_succ, Option.some.injEq, V.int.injEq, V.bl.injEq, V.ref.injEq, V.str.injEq, V.ty.injEq, List.cons.injEq, HO.tup.injEq, HO.lst.injEq, and_true, true_and, and_assoc, exists_eq_left, exists_eq_left', exists_and_left, exists_eq', atI0, atI1, atI2, atI3, Int.cast_ofNat_Int, Int.reduceToNat, scal_ii, scal_in, scal_ni, scal_nn, scal_bb, scal_ss, scal_sn, scal_ns, scal_bn, scal_nb, ite_iff, decide_eq_true_eq, decide_eq_false_iff_not, Bool.not_eq_true', Classical.not_not, ne_eq, not_false_eq_true, not_true_eq_false, forall_const, true_implies, false_implies, imp_self, sizeLine_eq, Nat.reduceLeDiff, reduceCtorEq, decide_true, decide_false]
            refine ⟨fun σ' H' => σ' = [some (V.ref a), some (V.ref t), some (V.ref p), some (V.ref L1), some (V.bl (decide (w * h < 100))), some (V.int y), some (V.int x), some (V.int i), some (V.ref q1)] ∧ TR K H' a t p dx w s h ∧ StpP a H H', ?_, ?_⟩
            · simp only [spHo, lkLa, lkLb, lkLd, lkLn_area, lkLn_place, lkLn_order, lkLn_places, exists_and_left, tSl, tPart, tNoPart, rSlLN, rMax2, rMin2, gUnlN, tYes, rLenS, cx_K, Value.ref.injEq, HO.xd.injEq, lk0, tSeq, tPar3, tPar, tCons, tNil, tVar, tC, tAsg, gName, gCons, gNil, gTupN, gSub, tOp, rI, rI0, rU, tTest, rNe, rEq, rIxTN, rIxLN, rLenL, rLenT, rIntI, rIntB, rAbs, rSetLN, tTruL, tRaiseX, rIsTy, rIsOw, ixN0, ixN1, tRet, tIf, tIfS, tNext, tBreak, tCont, tDrop, tTupN, tLstN, tUn, tCB, tCall, tNot, tAnd, tOr, tB, tAndV, tOrV, tNotV, tChain, tApp, LamX.tLam, tRevLN, rCatN, rInTN, rInLN, flatV, inV, List.all_cons, List.all_nil, List.any_cons, List.any_nil, Bool.and_self, Bool.and_true, if_true, Bool.false_eq_true, if_false, tMt, tFldN, tSto, HO.ins.injEq, lkh, List.drop_zero, List.drop_succ_cons, List.drop_nil, rListS, wipe, L2.start, List.map_cons, List.map_nil, List.length_cons, List.length_nil, List.replicate, List.cons_append, List.nil_append, List.append_nil, Nat.reduceAdd, Nat.reduceSub, Nat.zero_add, List.replicate_succ, List.replicate_zero, List.getElem?_cons_zero, List.getElem?_cons_succ, List.set_cons_zero, List.set_cons_succ, Option.some.injEq, V.int.injEq, V.bl.injEq, V.ref.injEq, V.str.injEq, V.ty.injEq, List.cons.injEq, HO.tup.injEq, HO.lst.injEq, and_true, true_and, and_assoc, exists_eq_left, exists_eq_left', exists_and_left, exists_eq', atI0, atI1, atI2, atI3, Int.cast_ofNat_Int, Int.reduceToNat, scal_ii, scal_in, scal_ni, scal_nn, scal_bb, scal_ss, scal_sn, scal_ns, scal_bn, scal_nb, ite_iff, decide_eq_true_eq, decide_eq_false_iff_not, Bool.not_eq_true', Classical.not_not, ne_eq, not_false_eq_true, not_true_eq_false, forall_const, true_implies, false_implies, imp_self, sizeLine_eq, Nat.reduceLeDiff, reduceCtorEq, decide_true, decide_false]
              intro q2 H8 _ s8 h8
              have R8 := R7.same s8
              refine own_in R8.L ⟨p, _, rfl, dx, w, s, h, R8.L, B, P2.k h8, fun u v e => (by rw [pairV_of h8] at e; cases e; exact ⟨up bx (by decide), up yb (by decide)⟩), fun H9 s9 => ?_⟩
              rw [pairV_of h8]
              have R9 := R8.same s9
              exact ⟨_, rfl, w, s, h, R9.T, B, up bx (by decide), up yb (by decide), fun H10 s10 => ⟨rfl, fun e => absurd rfl e, fun _ => ⟨R9.same s10, (t7.trans (StpP.of s8)).trans ((StpP.of s9).trans (StpP.of s10))⟩⟩⟩
            · clear R7 t7
              rintro _ H7 ⟨rfl, R7, t7⟩
              have hL7 := R7.L
              simp only [spOrd, spOrdL, hL7, lkLa, lkLb, lkLd, lkLn_area, lkLn_place, lkLn_order, lkLn_places, exists_and_left, tSl, tPart, tNoPart, rSlLN, rMax2, rMin2, gUnlN, tYes, rLenS, cx_K, Value.ref.injEq, HO.xd.injEq, lk0, tSeq, tPar3, tPar, tCons, tNil, tVar, tC, tAsg, gName, gCons, gNil, gTupN, gSub, tOp, rI, rI0, rU, tTest, rNe, rEq, rIxTN, rIxLN, rLenL, rLenT, rIntI, rIntB, rAbs, rSetLN, tTruL, tRaiseX, rIsTy, rIsOw, ixN0, ixN1, tRet, tIf, tIfS, tNext, tBreak, tCont, tDrop, tTupN, tLstN, tUn, tCB, tCall, tNot, tAnd, tOr, tB, tAndV, tOrV, tNotV, tChain, tApp, LamX.tLam, tRevLN, rCatN, rInTN, rInLN, flatV, inV, List.all_cons, List.all_nil, List.any_cons, List.any_nil, Bool.and_self, Bool.and_true, if_true, Bool.false_eq_true, if_false, tMt, tFldN, tSto, HO.ins.injEq, lkh, List.drop_zero, List.drop_succ_cons, List.drop_nil, rListS, wipe, L2.start, List.map_cons, List.map_nil, List.length_cons, List.length_nil, List.replicate, List.cons_append, List.nil_append, List.append_nil, Nat.reduceAdd, Nat.reduceSub, Nat.zero_add, List.replicate_succ, List.replicate_zero, List.getElem?_cons_zero, List.getElem?_cons_succ, List.set_cons_zero, List.set_cons_succ, Option.some.injEq, V.int.injEq, V.bl.injEq, V.ref.injEq, V.str.injEq, V.ty.injEq, List.cons.injEq, HO.tup.injEq, HO.lst.injEq, and_true, true_and, and_assoc, exists_eq_left, exists_eq_left', exists_and_left, exists_eq', atI0, atI1, atI2, atI3, Int.cast_ofNat_Int, Int.reduceToNat, scal_ii, scal_in, scal_ni, scal_nn, scal_bb, scal_ss, scal_sn, scal_ns, scal_bn, scal_nb, ite_iff, decide_eq_true_eq, decide_eq_false_iff_not, Bool.not_eq_true', Classical.not_not, ne_eq, not_false_eq_true, not_true_eq_false, forall_const, true_implies, false_implies, imp_self, sizeLine_eq, Nat.reduceLeDiff, reduceCtorEq, decide_true, decide_false]
              refine ⟨fun hsm => ?_, fun _ => ⟨R7, t7⟩⟩
              intro q2 H8 _ s8 h8
              have R8 := R7.same s8
              refine ⟨dx, w, s, h, R8.L, B, P2.k h8, fun e => (by rw [pairV_of h8] at e; cases e), fun u v e => ?_⟩
              rw [pairV_of h8] at e; cases e
              exact ⟨by omega, by omega, pow_small bx (by decide), pow_small yb (by decide), fun H9 s9 => ⟨w, s, h, (R8.same s9).T, B, by omega, pow_small bx (by decide), pow_small yb (by decide), fun H10 s10 => ⟨fun e => absurd rfl e, fun _ => ⟨(R8.same s9).same s10, (t7.trans (StpP.of s8)).trans ((StpP.of s9).trans (StpP.of s10))⟩⟩⟩⟩
        · rintro _ H4 ⟨_, _, _, _, rfl, R4, t4⟩
          simp only [exists_and_left, tSl, tPart, tNoPart, rSlLN, rMax2, rMin2, gUnlN, tYes, rLenS, cx_K, Value.ref.injEq, HO.xd.injEq, lk0, tSeq, tPar3, tPar, tCons, tNil, tVar, tC, tAsg, gName, gCons, gNil, gTupN, gSub, tOp, rI, rI0, rU, tTest, rNe, rEq, rIxTN, rIxLN, rLenL, rLenT, rIntI, rIntB, rAbs, rSetLN, tTruL, tRaiseX, rIsTy, rIsOw, ixN0, ixN1, tRet, tIf, tIfS, tNext, tBreak, tCont, tDrop, tTupN, tLstN, tUn, tCB, tCall, tNot, tAnd, tOr, tB, tAndV, tOrV, tNotV, tChain, tApp, LamX.tLam, tRevLN, rCatN, rInTN, rInLN, flatV, inV, List.all_cons, List.all_nil, List.any_cons, List.any_nil, Bool.and_self, Bool.and_true, if_true, Bool.false_eq_true, if_false, tMt, tFldN, tSto, HO.ins.injEq, lkh, List.drop_zero, List.drop_succ_cons, List.drop_nil, rListS, wipe, L2.start, List.map_cons, List.map_nil, List.length_cons, List.length_nil, List.replicate, List.cons_append, List.nil_append, List.append_nil, Nat.reduceAdd, Nat.reduceSub, Nat.zero_add, List.replicate_succ, List.replicate_zero, List.getElem?_cons_zero, List.getElem?_cons_succ, List.set_cons_zero, List.set_cons_succ, Option.some.injEq, V.int.injEq, V.bl.injEq, V.ref.injEq, V.str.injEq, V.ty.injEq, List.cons.injEq, HO.tup.injEq, HO.lst.injEq, and_true, true_and, and_assoc, exists_eq_left, exists_eq_left', exists_and_left, exists_eq', atI0, atI1, atI2, atI3, Int.cast_ofNat_Int, Int.reduceToNat, scal_ii, scal_in, scal_ni, scal_nn, scal_bb, scal_ss, scal_sn, scal_ns, scal_bn, scal_nb, ite_iff, decide_eq_true_eq, decide_eq_false_iff_not, Bool.not_eq_true', Classical.not_not, ne_eq, not_false_eq_true, not_true_eq_false, forall_const, true_implies, false_implies, imp_self, sizeLine_eq, Nat.reduceLeDiff, reduceCtorEq, decide_true, decide_false]
          exact k H4 R4.P t4

end
end Iz
/-! k08_g -/
set_option Elab.async false
set_option linter.all false
set_option maxRecDepth 100000
set_option maxHeartbeats 4000000
namespace Iz
open PySem PySem.Spec PyProof.Rows L2
open He (ga)
local macro_rules | `(tactic| walk_at "wp") => `(tactic| simp only [tSl, tPart, tNoPart, rSlLN, rMax2, rMin2, gUnlN, tYes, rLenS, cx_K, Value.ref.injEq, HO.xd.injEq, lk0, tSeq, tPar3, tPar, tCons, tNil, tVar, tC, tAsg, gName, gCons, gNil, gTupN, gSub, tOp, rI, rI0, rU, tTest, rNe, rEq, rIxTN, rIxLN, rLenL, rLenT, rIntI, rIntB, rAbs, rSetLN, tTruL, tRaiseX, rIsTy, rIsOw, ixN0, ixN1, tRet, tIf, tIfS, tNext, tBreak, tCont, tDrop, tTupN, tLstN, tUn, tCB, tCall, tNot, tAnd, tOr, tB, tAndV, tOrV, tNotV, tChain, tApp, LamX.tLam, tRevLN, rCatN, rInTN, rInLN, flatV, inV, List.all_cons, List.all_nil, List.any_cons, List.any_nil, Bool.and_self, Bool.and_true, if_true, Bool.false_eq_true, if_false, tMt, tFldN, tSto, HO.ins.injEq, lkh, List.drop_zero, List.drop_succ_cons, List.drop_nil, rListS, wipe, L2.start, List.map_cons, List.map_nil, List.length_cons, List.length_nil, List.replicate, List.cons_append, List.nil_append, List.append_nil, Nat.reduceAdd, Nat.reduceSub, Nat.zero_add, List.replicate_succ, List.replicate_zero, List.getElem?_cons_zero, List.getElem?_cons_succ, List.set_cons_zero, List.set_cons_succ, Option.some.injEq, V.int.injEq, V.bl.injEq, V.ref.injEq, V.str.injEq, V.ty.injEq, List.cons.injEq, HO.tup.injEq, HO.lst.injEq, and_true, true_and, and_assoc, exists_eq_left, exists_eq_left', exists_and_left, exists_eq', atI0, atI1, atI2, atI3, Int.cast_ofNat_Int, Int.reduceToNat, scal_ii, scal_in, scal_ni, scal_nn, scal_bb, scal_ss, scal_sn, scal_ns, scal_bn, scal_nb, ite_iff, decide_eq_true_eq, decide_eq_false_iff_not, Bool.not_eq_true', Classical.not_not, ne_eq, not_false_eq_true, not_true_eq_false, forall_const, true_implies, false_implies, imp_self, sizeLine_eq, Nat.reduceLeDiff, reduceCtorEq, decide_true, decide_false])
section
variable {P : Program} {w : World} {K : PySem.W.Frag} {mg : Str → Option Value} {base : Heap}
/-! ### lattices within one another -/
theorem le_self {a b d : Int} (B : LB a b d) : inL a b d (some (a, 0)) = true ∧ inL a b d (some (b, d)) = true := by
  have d1 := B.d1
  unfold inL plX plY
  rw [decide_eq_true_eq, decide_eq_true_eq, Int.zero_ediv, Int.ediv_self (by omega)]
  exact ⟨⟨by simp, by simp⟩, by simp, by simp⟩
def spWithin (K : PySem.W.Frag) : Sp := fun vs H Q _ => ∃ t u, vs = [.ref t, .ref u] ∧ ∃ w s h w2 s2 h2, T3 H t w s h ∧ LB w s h ∧ T3 H u w2 s2 h2 ∧ LB w2 s2 h2 ∧ ∀ H', Same H H' → Q (.bl true) H'
theorem o__law_within_right (T : Txt K mg) : OkF P w K mg base CX0 7 "_law_within_right" ["_law_one", "_law_other"] (spWithin K) := by
  have o_Lattice := o_Lattice (P := P) (w := w) (base := base) T
  have o_Lattice___le__ := o_Lattice___le__ (P := P) (w := w) (base := base) T
  have o_Lattice___eq__ := o_Lattice___eq__ (P := P) (w := w) (base := base) T
  have o__law_holds := o__law_holds (P := P) (w := w) (base := base) T
  obtain ⟨f, fd, g, F⟩ := T.d__law_within_right
  refine ⟨f, fd, g, F.kp, F.binds (fun _ _ _ _ _ _ us hl => match us, hl with | [_, _], _ => rfl), F.ok sc__law_within_right (fun vs H Q E h => ?_) (fun cdv A outer s H vs Q E hr h => ?_)⟩
  · first | (obtain ⟨_, rfl, _⟩ := h; rfl) | (obtain ⟨_, _, rfl, _⟩ := h; rfl) | (obtain ⟨_, _, _, rfl, _⟩ := h; rfl) | (obtain ⟨_, _, _, _, rfl, _⟩ := h; rfl) | (obtain ⟨_, _, _, _, _, rfl, _⟩ := h; rfl) | (obtain ⟨_, _, _, _, _, _, rfl, _⟩ := h; rfl) | (obtain ⟨_, _, _, _, _, _, _, rfl, _⟩ := h; rfl)
  have hu64 := hr.units
  refine ⟨_, pss_cons (ps_cut (ps_set (i := 2) sc__law_within_right.nd rfl (Or.inl rfl) (pe_and (pcl o__law_holds (hr.mono (by decide)) pass0 (pa_cons (pv 1) (pa_cons (pe_ix ix_listN (pv 0) (pe_int) (fun _ _ => rfl)) (pa_cons (pe_int) pa_nil)))) (pe_one (pcl o__law_holds (hr.mono (by decide)) pass0 (pa_cons (pv 1) (pa_cons (pe_ix ix_listN (pv 0) (pe_int) (fun _ _ => rfl)) (pa_cons (pe_ix ix_listN (pv 0) (pe_int) (fun _ _ => rfl)) pa_nil))))))))
      (pss_cons (ps_par (i := 3) (j := 4) (by rfl) sc__law_within_right.nd rfl rfl (by decide) rfl rfl (pa_cons (pmk (j := 0) o_Lattice (by decide) (hr.mono (by decide)) passL (pa_cons (pe_ix ix_listN (pv 0) (pe_int) (fun _ _ => rfl)) (pa_cons (pe_ix ix_listN (pv 0) (pe_int) (fun _ _ => rfl)) (pa_cons (pe_ix ix_listN (pv 0) (pe_int) (fun _ _ => rfl)) pa_nil)))) (pa_cons (pmk (j := 0) o_Lattice (by decide) (hr.mono (by decide)) passL (pa_cons (pe_ix ix_listN (pv 1) (pe_int) (fun _ _ => rfl)) (pa_cons (pe_ix ix_listN (pv 1) (pe_int) (fun _ _ => rfl)) (pa_cons (pe_ix ix_listN (pv 1) (pe_int) (fun _ _ => rfl)) pa_nil)))) pa_nil)) (by rfl))
      (pss_cons (ps_cut (ps_if (PW.pt (pw_or (pt_cmpR op_ne (pe_cmpR (op_own (fun _ _ => rfl) o_Lattice___le__ rfl (hr.mono (by decide)) passL) (pv 3) (pv 4) (nomark _)) (pv 2) (nomark _)) (pw_or1 (pt_cmpR op_ne (pe_cmpR (op_own (fun _ _ => rfl) o_Lattice___eq__ rfl (hr.mono (by decide)) pass0) (pv 3) (pv 4) (nomark _)) (pe_cmpR (op_eqDk (K := K) rfl hu64) (pv 0) (pv 1) (nomark _)) (nomark _))))) (pss_one (ps_ret (pe_bl))) (pss_nil)))
      (pss_one (ps_ret (pe_and (pe_cmpR (op_own (fun _ _ => rfl) o_Lattice___le__ rfl (hr.mono (by decide)) passL) (pv 3) (pv 3) (nomark _)) (pe_and (pe_cmpR op_isBl (pe_cmpR (op_own (fun _ _ => rfl) o_Lattice___le__ rfl (hr.mono (by decide)) passL) (pv 3) (pe_str) (nomark _)) (pe_bl) (nomark _)) (pe_one (pe_cmpR op_isBl (pe_cmpR (op_own (fun _ _ => rfl) o_Lattice___eq__ rfl (hr.mono (by decide)) pass0) (pv 3) (pe_str) (nomark _)) (pe_bl) (nomark _))))))))), ?_⟩
  obtain ⟨t, u, rfl, w, s, h, w2, s2, h2, hT, B, hU, B2, k⟩ := h
  have sm : ∀ {z : Int}, z.natAbs < 2 ^ 500 → z.natAbs < 2 ^ 2000 := fun h => pow_small h (by decide)
  simp only [exists_and_left, tSl, tPart, tNoPart, rSlLN, rMax2, rMin2, gUnlN, tYes, rLenS, cx_K, Value.ref.injEq, HO.xd.injEq, lk0, tSeq, tPar3, tPar, tCons, tNil, tVar, tC, tAsg, gName, gCons, gNil, gTupN, gSub, tOp, rI, rI0, rU, tTest, rNe, rEq, rIxTN, rIxLN, rLenL, rLenT, rIntI, rIntB, rAbs, rSetLN, tTruL, tRaiseX, rIsTy, rIsOw, ixN0, ixN1, tRet, tIf, tIfS, tNext, tBreak, tCont, tDrop, tTupN, tLstN, tUn, tCB, tCall, tNot, tAnd, tOr, tB, tAndV, tOrV, tNotV, tChain, tApp, LamX.tLam, tRevLN, rCatN, rInTN, rInLN, flatV, inV, List.all_cons, List.all_nil, List.any_cons, List.any_nil, Bool.and_self, Bool.and_true, if_true, Bool.false_eq_true, if_false, tMt, tFldN, tSto, HO.ins.injEq, lkh, List.drop_zero, List.drop_succ_cons, List.drop_nil, rListS, wipe, L2.start, List.map_cons, List.map_nil, List.length_cons, List.length_nil, List.replicate, List.cons_append, List.nil_append, List.append_nil, Nat.reduceAdd, Nat.reduceSub, Nat.zero_add, List.replicate_succ, List.replicate_zero, List.getElem?_cons_zero, List.getElem?_cons_succ, List.set_cons_zero, List.set_cons_succ, Option.some.injEq, V.int.injEq, V.bl.injEq, V.ref.injEq, V.str.injEq, V.ty.injEq, List.cons.injEq, HO.tup.injEq, HO.lst.injEq, and_true, true_and, and_assoc, exists_eq_left, exists_eq_left', exists_and_left, exists_eq', atI0, atI1, atI2, atI3, Int.cast_ofNat_Int, Int.reduceToNat, scal_ii, scal_in, scal_ni, scal_nn, scal_bb, scal_ss, scal_sn, scal_ns, scal_bn, scal_nb, ite_iff, decide_eq_true_eq, decide_eq_false_iff_not, Bool.not_eq_true', Classical.not_not, ne_eq, not_false_eq_true, not_true_eq_false, forall_const, true_implies, false_implies, imp_self, sizeLine_eq, Nat.reduceLeDiff, reduceCtorEq, decide_true, decide_false]
  refine ⟨fun σ' H' => σ' = [some (V.ref t), some (V.ref u), some (V.bl (inL w2 s2 h2 (some (w, 0)) && inL w2 s2 h2 (some (s, h)))), none, none] ∧ Same H H', ?_, ?_⟩
  · simp only [spHo, hT, exists_and_left, tSl, tPart, tNoPart, rSlLN, rMax2, rMin2, gUnlN, tYes, rLenS, cx_K, Value.ref.injEq, HO.xd.injEq, lk0, tSeq, tPar3, tPar, tCons, tNil, tVar, tC, tAsg, gName, gCons, gNil, gTupN, gSub, tOp, rI, rI0, rU, tTest, rNe, rEq, rIxTN, rIxLN, rLenL, rLenT, rIntI, rIntB, rAbs, rSetLN, tTruL, tRaiseX, rIsTy, rIsOw, ixN0, ixN1, tRet, tIf, tIfS, tNext, tBreak, tCont, tDrop, tTupN, tLstN, tUn, tCB, tCall, tNot, tAnd, tOr, tB, tAndV, tOrV, tNotV, tChain, tApp, LamX.tLam, tRevLN, rCatN, rInTN, rInLN, flatV, inV, List.all_cons, List.all_nil, List.any_cons, List.any_nil, Bool.and_self, Bool.and_true, if_true, Bool.false_eq_true, if_false, tMt, tFldN, tSto, HO.ins.injEq, lkh, List.drop_zero, List.drop_succ_cons, List.drop_nil, rListS, wipe, L2.start, List.map_cons, List.map_nil, List.length_cons, List.length_nil, List.replicate, List.cons_append, List.nil_append, List.append_nil, Nat.reduceAdd, Nat.reduceSub, Nat.zero_add, List.replicate_succ, List.replicate_zero, List.getElem?_cons_zero, List.getElem?_cons_succ, List.set_cons_zero, List.set_cons_succ, Option.some.injEq, V.int.injEq, V.bl.injEq, V.ref.injEq, V.str.injEq, V.ty.injEq, List.cons.injEq, HO.tup.injEq, HO.lst.injEq, and_true, true_and, and_assoc, exists_eq_left, exists_eq_left', exists_and_left, exists_eq', atI0, atI1, atI2, atI3, Int.cast_ofNat_Int, Int.reduceToNat, scal_ii, scal_in, scal_ni, scal_nn, scal_bb, scal_ss, scal_sn, scal_ns, scal_bn, scal_nb, ite_iff, decide_eq_true_eq, decide_eq_false_iff_not, Bool.not_eq_true', Classical.not_not, ne_eq, not_false_eq_true, not_true_eq_false, forall_const, true_implies, false_implies, imp_self, sizeLine_eq, Nat.reduceLeDiff, reduceCtorEq, decide_true, decide_false]
    refine ⟨w2, s2, h2, hU, B2, sm B.aS, by decide +kernel, fun H1 s1 => ?_⟩
    have hT1 := s1 _ _ hT
    simp only [hT1, exists_and_left, tSl, tPart, tNoPart, rSlLN, rMax2, rMin2, gUnlN, tYes, rLenS, cx_K, Value.ref.injEq, HO.xd.injEq, lk0, tSeq, tPar3, tPar, tCons, tNil, tVar, tC, tAsg, gName, gCons, gNil, gTupN, gSub, tOp, rI, rI0, rU, tTest, rNe, rEq, rIxTN, rIxLN, rLenL, rLenT, rIntI, rIntB, rAbs, rSetLN, tTruL, tRaiseX, rIsTy, rIsOw, ixN0, ixN1, tRet, tIf, tIfS, tNext, tBreak, tCont, tDrop, tTupN, tLstN, tUn, tCB, tCall, tNot, tAnd, tOr, tB, tAndV, tOrV, tNotV, tChain, tApp, LamX.tLam, tRevLN, rCatN, rInTN, rInLN, flatV, inV, List.all_cons, List.all_nil, List.any_cons, List.any_nil, Bool.and_self, Bool.and_true, if_true, Bool.false_eq_true, if_false, tMt, tFldN, tSto, HO.ins.injEq, lkh, List.drop_zero, List.drop_succ_cons, List.drop_nil, rListS, wipe, L2.start, List.map_cons, List.map_nil, List.length_cons, List.length_nil, List.replicate, List.cons_append, List.nil_append, List.append_nil, Nat.reduceAdd, Nat.reduceSub, Nat.zero_add, List.replicate_succ, List.replicate_zero, List.getElem?_cons_zero, List.getElem?_cons_succ, List.set_cons_zero, List.set_cons_succ, Option.some.injEq, V.int.injEq, V.bl.injEq, V.ref.injEq, V.str.injEq, V.ty.injEq, List.cons.injEq, HO.tup.injEq, HO.lst.injEq, and_true, true_and, and_assoc, exists_eq_left, exists_eq_left', exists_and_left, exists_eq', atI0, atI1, atI2, atI3, Int.cast_ofNat_Int, Int.reduceToNat, scal_ii, scal_in, scal_ni, scal_nn, scal_bb, scal_ss, scal_sn, scal_ns, scal_bn, scal_nb, ite_iff, decide_eq_true_eq, decide_eq_false_iff_not, Bool.not_eq_true', Classical.not_not, ne_eq, not_false_eq_true, not_true_eq_false, forall_const, true_implies, false_implies, imp_self, sizeLine_eq, Nat.reduceLeDiff, reduceCtorEq, decide_true, decide_false]
    refine ⟨fun e => ⟨w2, s2, h2, s1 _ _ hU, B2, sm B.bS, sm B.dS, fun H2 s3 => ⟨by rw [e, Bool.true_and], s1.trans s3⟩⟩, fun e => ⟨?_, s1⟩⟩
    have : inL w2 s2 h2 (some (w, 0)) = false := by cases e2 : inL w2 s2 h2 (some (w, 0)) <;> simp_all
    rw [this]; rfl
  · rintro _ H1 ⟨rfl, s1⟩
    have hT1 := s1 _ _ hT
    have hU1 := s1 _ _ hU
    simp only [spLat, hT1, hU1, exists_and_left, tSl, tPart, tNoPart, rSlLN, rMax2, rMin2, gUnlN, tYes, rLenS, cx_K, Value.ref.injEq, HO.xd.injEq, lk0, tSeq, tPar3, tPar, tCons, tNil, tVar, tC, tAsg, gName, gCons, gNil, gTupN, gSub, tOp, rI, rI0, rU, tTest, rNe, rEq, rIxTN, rIxLN, rLenL, rLenT, rIntI, rIntB, rAbs, rSetLN, tTruL, tRaiseX, rIsTy, rIsOw, ixN0, ixN1, tRet, tIf, tIfS, tNext, tBreak, tCont, tDrop, tTupN, tLstN, tUn, tCB, tCall, tNot, tAnd, tOr, tB, tAndV, tOrV, tNotV, tChain, tApp, LamX.tLam, tRevLN, rCatN, rInTN, rInLN, flatV, inV, List.all_cons, List.all_nil, List.any_cons, List.any_nil, Bool.and_self, Bool.and_true, if_true, Bool.false_eq_true, if_false, tMt, tFldN, tSto, HO.ins.injEq, lkh, List.drop_zero, List.drop_succ_cons, List.drop_nil, rListS, wipe, L2.start, List.map_cons, List.map_nil, List.length_cons, List.length_nil, List.replicate, List.cons_append, List.nil_append, List.append_nil, Nat.reduceAdd, Nat.reduceSub, Nat.zero_add, List.replicate_succ, List.replicate_zero, List.getElem?_cons_zero, List.getElem?_cons_succ, List.set_cons_zero, List.set_cons_succ, Option.some.injEq, V.int.injEq, V.bl.injEq, V.ref.injEq, V.str.injEq, V.ty.injEq, List.cons.injEq, HO.tup.injEq, HO.lst.injEq, and_true, true_and, and_assoc, exists_eq_left, exists_eq_left', exists_and_left, exists_eq', atI0, atI1, atI2, atI3, Int.cast_ofNat_Int, Int.reduceToNat, scal_ii, scal_in, scal_ni, scal_nn, scal_bb, scal_ss, scal_sn, scal_ns, scal_bn, scal_nb, ite_iff, decide_eq_true_eq, decide_eq_false_iff_not, Bool.not_eq_true', Classical.not_not, ne_eq, not_false_eq_true, not_true_eq_false, forall_const, true_implies, false_implies, imp_self, sizeLine_eq, Nat.reduceLeDiff, reduceCtorEq, decide_true, decide_false]
    refine RL.ints B.a1 B.b0 B.ba B.d1 ?_
    intro p dx H2 _ s2' hp2
    have hU2 := s2' _ _ hU1
    simp only [hU2, exists_and_left, tSl, tPart, tNoPart, rSlLN, rMax2, rMin2, gUnlN, tYes, rLenS, cx_K, Value.ref.injEq, HO.xd.injEq, lk0, tSeq, tPar3, tPar, tCons, tNil, tVar, tC, tAsg, gName, gCons, gNil, gTupN, gSub, tOp, rI, rI0, rU, tTest, rNe, rEq, rIxTN, rIxLN, rLenL, rLenT, rIntI, rIntB, rAbs, rSetLN, tTruL, tRaiseX, rIsTy, rIsOw, ixN0, ixN1, tRet, tIf, tIfS, tNext, tBreak, tCont, tDrop, tTupN, tLstN, tUn, tCB, tCall, tNot, tAnd, tOr, tB, tAndV, tOrV, tNotV, tChain, tApp, LamX.tLam, tRevLN, rCatN, rInTN, rInLN, flatV, inV, List.all_cons, List.all_nil, List.any_cons, List.any_nil, Bool.and_self, Bool.and_true, if_true, Bool.false_eq_true, if_false, tMt, tFldN, tSto, HO.ins.injEq, lkh, List.drop_zero, List.drop_succ_cons, List.drop_nil, rListS, wipe, L2.start, List.map_cons, List.map_nil, List.length_cons, List.length_nil, List.replicate, List.cons_append, List.nil_append, List.append_nil, Nat.reduceAdd, Nat.reduceSub, Nat.zero_add, List.replicate_succ, List.replicate_zero, List.getElem?_cons_zero, List.getElem?_cons_succ, List.set_cons_zero, List.set_cons_succ, Option.some.injEq, V.int.injEq, V.bl.injEq, V.ref.injEq, V.str.injEq, V.ty.injEq, List.cons.injEq, HO.tup.injEq, HO.lst.injEq, and_true, true_and, and_assoc, exists_eq_left, exists_eq_left', exists_and_left, exists_eq', atI0, atI1, atI2, atI3, Int.cast_ofNat_Int, Int.reduceToNat, scal_ii, scal_in, scal_ni, scal_nn, scal_bb, scal_ss, scal_sn, scal_ns, scal_bn, scal_nb, ite_iff, decide_eq_true_eq, decide_eq_false_iff_not, Bool.not_eq_true', Classical.not_not, ne_eq, not_false_eq_true, not_true_eq_false, forall_const, true_implies, false_implies, imp_self, sizeLine_eq, Nat.reduceLeDiff, reduceCtorEq, decide_true, decide_false]
    refine RL.ints B2.a1 B2.b0 B2.ba B2.d1 ?_
    intro q dy H3 _ s3 hq3
    have hp3 := s3 _ _ hp2
    have S3 := (s1.trans s2').trans s3
    refine ⟨fun σ' H' => σ' = [some (V.ref t), some (V.ref u), some (V.bl (inL w2 s2 h2 (some (w, 0)) && inL w2 s2 h2 (some (s, h)))), some (V.ref p), some (V.ref q)] ∧ Same H3 H', ?_, ?_⟩
    · simp only [exists_and_left, tSl, tPart, tNoPart, rSlLN, rMax2, rMin2, gUnlN, tYes, rLenS, cx_K, Value.ref.injEq, HO.xd.injEq, lk0, tSeq, tPar3, tPar, tCons, tNil, tVar, tC, tAsg, gName, gCons, gNil, gTupN, gSub, tOp, rI, rI0, rU, tTest, rNe, rEq, rIxTN, rIxLN, rLenL, rLenT, rIntI, rIntB, rAbs, rSetLN, tTruL, tRaiseX, rIsTy, rIsOw, ixN0, ixN1, tRet, tIf, tIfS, tNext, tBreak, tCont, tDrop, tTupN, tLstN, tUn, tCB, tCall, tNot, tAnd, tOr, tB, tAndV, tOrV, tNotV, tChain, tApp, LamX.tLam, tRevLN, rCatN, rInTN, rInLN, flatV, inV, List.all_cons, List.all_nil, List.any_cons, List.any_nil, Bool.and_self, Bool.and_true, if_true, Bool.false_eq_true, if_false, tMt, tFldN, tSto, HO.ins.injEq, lkh, List.drop_zero, List.drop_succ_cons, List.drop_nil, rListS, wipe, L2.start, List.map_cons, List.map_nil, List.length_cons, List.length_nil, List.replicate, List.cons_append, List.nil_append, List.append_nil, Nat.reduceAdd, Nat.reduceSub, Nat.zero_add, List.replicate_succ, List.replicate_zero, List.getElem?_cons_zero, List.getElem?_cons_succ, List.set_cons_zero, List.set_cons_succ, Option.some.injEq, V.int.injEq, V.bl.injEq, V.ref.injEq, V.str.injEq, V.ty.injEq, List.cons.injEq, HO.tup.injEq, HO.lst.injEq, and_true, true_and, and_assoc, exists_eq_left, exists_eq_left', exists_and_left, exists_eq', atI0, atI1, atI2, atI3, Int.cast_ofNat_Int, Int.reduceToNat, scal_ii, scal_in, scal_ni, scal_nn, scal_bb, scal_ss, scal_sn, scal_ns, scal_bn, scal_nb, ite_iff, decide_eq_true_eq, decide_eq_false_iff_not, Bool.not_eq_true', Classical.not_not, ne_eq, not_false_eq_true, not_true_eq_false, forall_const, true_implies, false_implies, imp_self, sizeLine_eq, Nat.reduceLeDiff, reduceCtorEq, decide_true, decide_false]
      refine own_op hp3 (T.ci_Lattice.ty hq3) notFirst_self ⟨p, _, rfl, dx, w, s, h, hp3, B, .inr ⟨q, dy, w2, s2, h2, rfl, hq3, B2, fun H4 s4 => ⟨_, rfl, ?_⟩⟩⟩
      have hp4 := s4 _ _ hp3
      have hq4 := s4 _ _ hq3
      have hT4 := s4 _ _ (S3 _ _ hT)
      have hU4 := s4 _ _ (S3 _ _ hU)
      refine ⟨rfl, fun e => absurd rfl e, fun _ => ?_⟩
      refine own_op hp4 (T.ci_Lattice.ty hq4) notFirst_self ⟨p, _, rfl, dx, w, s, h, hp4, .inr ⟨q, dy, w2, s2, h2, rfl, hq4, ⟨_, rfl, ?_⟩⟩⟩
      refine eq_ints (ns := [w, s, h]) (ms := [w2, s2, h2]) hT4 hU4 ⟨rfl, fun e => absurd ?_ e, fun _ => s4⟩
      simp
    · rintro _ H4 ⟨rfl, s4⟩
      have hp4 := s4 _ _ hp3
      simp only [exists_and_left, tSl, tPart, tNoPart, rSlLN, rMax2, rMin2, gUnlN, tYes, rLenS, cx_K, Value.ref.injEq, HO.xd.injEq, lk0, tSeq, tPar3, tPar, tCons, tNil, tVar, tC, tAsg, gName, gCons, gNil, gTupN, gSub, tOp, rI, rI0, rU, tTest, rNe, rEq, rIxTN, rIxLN, rLenL, rLenT, rIntI, rIntB, rAbs, rSetLN, tTruL, tRaiseX, rIsTy, rIsOw, ixN0, ixN1, tRet, tIf, tIfS, tNext, tBreak, tCont, tDrop, tTupN, tLstN, tUn, tCB, tCall, tNot, tAnd, tOr, tB, tAndV, tOrV, tNotV, tChain, tApp, LamX.tLam, tRevLN, rCatN, rInTN, rInLN, flatV, inV, List.all_cons, List.all_nil, List.any_cons, List.any_nil, Bool.and_self, Bool.and_true, if_true, Bool.false_eq_true, if_false, tMt, tFldN, tSto, HO.ins.injEq, lkh, List.drop_zero, List.drop_succ_cons, List.drop_nil, rListS, wipe, L2.start, List.map_cons, List.map_nil, List.length_cons, List.length_nil, List.replicate, List.cons_append, List.nil_append, List.append_nil, Nat.reduceAdd, Nat.reduceSub, Nat.zero_add, List.replicate_succ, List.replicate_zero, List.getElem?_cons_zero, List.getElem?_cons_succ, List.set_cons_zero, List.set_cons_succ, Option.some.injEq, V.int.injEq, V.bl.injEq, V.ref.injEq, V.str.injEq, V.ty.injEq, List.cons.injEq, HO.tup.injEq, HO.lst.injEq, and_true, true_and, and_assoc, exists_eq_left, exists_eq_left', exists_and_left, exists_eq', atI0, atI1, atI2, atI3, Int.cast_ofNat_Int, Int.reduceToNat, scal_ii, scal_in, scal_ni, scal_nn, scal_bb, scal_ss, scal_sn, scal_ns, scal_bn, scal_nb, ite_iff, decide_eq_true_eq, decide_eq_false_iff_not, Bool.not_eq_true', Classical.not_not, ne_eq, not_false_eq_true, not_true_eq_false, forall_const, true_implies, false_implies, imp_self, sizeLine_eq, Nat.reduceLeDiff, reduceCtorEq, decide_true, decide_false]
      refine own_op hp4 (T.ci_Lattice.ty hp4) notFirst_self ⟨p, _, rfl, dx, w, s, h, hp4, B, .inr ⟨p, dx, w, s, h, rfl, hp4, B, fun H5 s5 => ⟨_, rfl, ?_⟩⟩⟩
      obtain ⟨l1, l2⟩ := le_self B
      rw [l1, l2]
      have hp5 := s5 _ _ hp4
      have no : ∀ {z : Str} {H : Hp}, NoL K H (.str z) := ⟨_, .base (.str _), T.kSL⟩
      refine ⟨true, rfl, fun _ => ?_, fun e => absurd rfl e⟩
      refine own_op hp5 (.base (.str _)) T.nfS ⟨p, _, rfl, dx, w, s, h, hp5, B, .inl ⟨no, _, rfl, ?_⟩⟩
      refine ⟨false, false, rfl, rfl, true, rfl, fun _ => ?_, fun e => absurd rfl e⟩
      exact own_op hp5 (.base (.str _)) T.nfS ⟨p, _, rfl, dx, w, s, h, hp5, .inl ⟨no, _, rfl, false, false, rfl, rfl, k _ ((S3.trans s4).trans s5)⟩⟩

end
end Iz
/-! k08_h -/
set_option Elab.async false
set_option linter.all false
set_option maxRecDepth 100000
set_option maxHeartbeats 4000000
namespace Iz
open PySem PySem.Spec PyProof.Rows L2
open He (ga)
local macro_rules | `(tactic| walk_at "wp") => `(tactic| simp only [tSl, tPart, tNoPart, rSlLN, rMax2, rMin2, gUnlN, tYes, rLenS, cx_K, Value.ref.injEq, HO.xd.injEq, lk0, tSeq, tPar3, tPar, tCons, tNil, tVar, tC, tAsg, gName, gCons, gNil, gTupN, gSub, tOp, rI, rI0, rU, tTest, rNe, rEq, rIxTN, rIxLN, rLenL, rLenT, rIntI, rIntB, rAbs, rSetLN, tTruL, tRaiseX, rIsTy, rIsOw, ixN0, ixN1, tRet, tIf, tIfS, tNext, tBreak, tCont, tDrop, tTupN, tLstN, tUn, tCB, tCall, tNot, tAnd, tOr, tB, tAndV, tOrV, tNotV, tChain, tApp, LamX.tLam, tRevLN, rCatN, rInTN, rInLN, flatV, inV, List.all_cons, List.all_nil, List.any_cons, List.any_nil, Bool.and_self, Bool.and_true, if_true, Bool.false_eq_true, if_false, tMt, tFldN, tSto, HO.ins.injEq, lkh, List.drop_zero, List.drop_succ_cons, List.drop_nil, rListS, wipe, L2.start, List.map_cons, List.map_nil, List.length_cons, List.length_nil, List.replicate, List.cons_append, List.nil_append, List.append_nil, Nat.reduceAdd, Nat.reduceSub, Nat.zero_add, List.replicate_succ, List.replicate_zero, List.getElem?_cons_zero, List.getElem?_cons_succ, List.set_cons_zero, List.set_cons_succ, Option.some.injEq, V.int.injEq, V.bl.injEq, V.ref.injEq, V.str.injEq, V.ty.injEq, List.cons.injEq, HO.tup.injEq, HO.lst.injEq, and_true, true_and, and_assoc, exists_eq_left, exists_eq_left', exists_and_left, exists_eq', atI0, atI1, atI2, atI3, Int.cast_ofNat_Int, Int.reduceToNat, scal_ii, scal_in, scal_ni, scal_nn, scal_bb, scal_ss, scal_sn, scal_ns, scal_bn, scal_nb, ite_iff, decide_eq_true_eq, decide_eq_false_iff_not, Bool.not_eq_true', Classical.not_not, ne_eq, not_false_eq_true, not_true_eq_false, forall_const, true_implies, false_implies, imp_self, sizeLine_eq, Nat.reduceLeDiff, reduceCtorEq, decide_true, decide_false])
section
variable {P : Program} {w : World} {K : PySem.W.Frag} {mg : Str → Option Value} {base : Heap}
/-! ### what is refused -/
open LamX
/-- what _law_refused makes of an error -/
def RefP (K : PySem.W.Frag) (Q : VK) : XK := fun cls d H' => ∃ dd, d = some dd ∧ cls = .ref (ga K "BadPart") ∧ ∃ v, H' dd = some (.xd [("part", v)]) ∧ News H' (.lst [.str "part", v]) Q
def TTr (K : PySem.W.Frag) : (XK → Hp → VK → Prop) → Hp → VK → Prop := fun tl H Q => tl (RefP K Q) H fun _ H' => News H' (.lst [.str "none"]) Q
theorem refused_gives {X : Cx} {g : Addr} {cdg : Value} {q : Str} (T : Txt X.K X.mg) : GivesTo X ["_law_call", "e"] "_law_refused" (defScope s__law_refused) g cdg (defBody s__law_refused) "_law_call" q (TTr X.K) := by
  intro f c' s H Q tl act hc h
  refine ⟨_, pss_cons (ps_try_named (X := (cxOf C8.CX0 X.prog X.w X.K X.mg X.base ["_law_call", "e"] "_law_refused" (defScope s__law_refused) g cdg X.A X.stack s H C8.E0).nox)
    (tb := fun W D σ H => ∃ Ech : XK, (∀ cls d σ' H', Ech cls d H' → W cls d σ' H') ∧ σ[0]? = some (some (.ref f)) ∧ H c' = some (CodeO c' q) ∧ tl Ech H fun _ H1 => D.nx σ H1)
    sc__law_refused.nd (fun W pn xe tk _ => ?_)
    (.cons (q := (.ref (ga X.K "BadPart"), 1, fun a cls d => _)) ⟨rfl, rfl, ⟨rfl, by decide, .inl T.x_BadPart.g⟩, fun a oe cls d pn hz hf => pss_len (n := 2) (pss_one (ps_ret (pe_lstN (pa_cons pe_str (pa_cons (pe_xf T.x_BadPart.xf T.x_BadPart.no hz hf (pv 1)) pa_nil))))) rfl⟩
      (.cons (q := (.ref (ga X.K "BadNumber"), 1, fun _ _ _ _ _ _ => False)) ⟨rfl, rfl, ⟨rfl, by decide, .inl T.x_BadNumber.g⟩, fun _ _ _ _ _ _ _ => pss_one ps_never⟩
        (.cons (q := (.ref (ga X.K "BadIndex"), 1, fun _ _ _ _ _ _ => False)) ⟨rfl, rfl, ⟨rfl, by decide, .inl T.gI⟩, fun _ _ _ _ _ _ _ => pss_one ps_never⟩
          (.cons (q := (.ref (ga X.K "NotSo"), 1, fun _ _ _ _ _ _ => False)) ⟨rfl, rfl, ⟨rfl, by decide, .inl T.gS⟩, fun _ _ _ _ _ _ _ => pss_one ps_never⟩
            (.cons (q := (.ref (ga X.K "TooMany"), 1, fun _ _ _ _ _ _ => False)) ⟨rfl, rfl, ⟨rfl, by decide, .inl T.gM⟩, fun _ _ _ _ _ _ _ => pss_one ps_never⟩ .nil))))))
    (pss_one (ps_ret (pe_lstN (pa_cons pe_str pa_nil)))), ?_⟩
  · refine ⟨fun pins s' σ H' D I h' => ?_⟩
    obtain ⟨Ech, hW, h1, h2, h3⟩ := h'
    exact (pss_one (ps_expr (act W pn xe Ech _ _ tk hW))).run pins s' σ H' D I ⟨h1, h2, h3⟩
  · refine ⟨RefP X.K Q, fun cls d σ' H' hh => ?_, rfl, hc, ?_⟩
    · obtain ⟨dd, rfl, rfl, v, hd, n⟩ := hh
      refine ⟨true, T.mPP, fun _ a ha hlen => ?_, fun z => nomatch z⟩
      rw [List.length_set] at hlen
      have hs1 : (σ'.set 1 (some (V.ref a)))[1]? = some (some (V.ref a)) := by simp [hlen]
      simp only [rIsX, tXf, hs1, hd, exists_and_left, unset, tSl, tPart, tNoPart, rSlLN, rMax2, rMin2, gUnlN, tYes, rLenS, cx_K, Value.ref.injEq, HO.xd.injEq, lk0, tSeq, tPar3, tPar, tCons, tNil, tVar, tC, tAsg, gName, gCons, gNil, gTupN, gSub, tOp, rI, rI0, rU, tTest, rNe, rEq, rIxTN, rIxLN, rLenL, rLenT, rIntI, rIntB, rAbs, rSetLN, tTruL, tRaiseX, rIsTy, rIsOw, ixN0, ixN1, tRet, tIf, tIfS, tNext, tBreak, tCont, tDrop, tTupN, tLstN, tUn, tCB, tCall, tNot, tAnd, tOr, tB, tAndV, tOrV, tNotV, tChain, tApp, LamX.tLam, tRevLN, rCatN, rInTN, rInLN, flatV, inV, List.all_cons, List.all_nil, List.any_cons, List.any_nil, Bool.and_self, Bool.and_true, if_true, Bool.false_eq_true, if_false, tMt, tFldN, tSto, HO.ins.injEq, lkh, List.drop_zero, List.drop_succ_cons, List.drop_nil, rListS, wipe, L2.start, List.map_cons, List.map_nil, List.length_cons, List.length_nil, List.replicate, List.cons_append, List.nil_append, List.append_nil, Nat.reduceAdd, Nat.reduceSub, Nat.zero_add, List.replicate_succ, List.replicate_zero, List.getElem?_cons_zero, List.getElem?_cons_succ, List.set_cons_zero, List.set_cons_succ, Option.some.injEq, V.int.injEq, V.bl.injEq, V.ref.injEq, V.str.injEq, V.ty.injEq, List.cons.injEq, HO.tup.injEq, HO.lst.injEq, and_true, true_and, and_assoc, exists_eq_left, exists_eq_left', exists_and_left, exists_eq', atI0, atI1, atI2, atI3, Int.cast_ofNat_Int, Int.reduceToNat, scal_ii, scal_in, scal_ni, scal_nn, scal_bb, scal_ss, scal_sn, scal_ns, scal_bn, scal_nb, ite_iff, decide_eq_true_eq, decide_eq_false_iff_not, Bool.not_eq_true', Classical.not_not, ne_eq, not_false_eq_true, not_true_eq_false, forall_const, true_implies, false_implies, imp_self, sizeLine_eq, Nat.reduceLeDiff, reduceCtorEq, decide_true, decide_false]
      exact n
    · simp only [exists_and_left, tSl, tPart, tNoPart, rSlLN, rMax2, rMin2, gUnlN, tYes, rLenS, cx_K, Value.ref.injEq, HO.xd.injEq, lk0, tSeq, tPar3, tPar, tCons, tNil, tVar, tC, tAsg, gName, gCons, gNil, gTupN, gSub, tOp, rI, rI0, rU, tTest, rNe, rEq, rIxTN, rIxLN, rLenL, rLenT, rIntI, rIntB, rAbs, rSetLN, tTruL, tRaiseX, rIsTy, rIsOw, ixN0, ixN1, tRet, tIf, tIfS, tNext, tBreak, tCont, tDrop, tTupN, tLstN, tUn, tCB, tCall, tNot, tAnd, tOr, tB, tAndV, tOrV, tNotV, tChain, tApp, LamX.tLam, tRevLN, rCatN, rInTN, rInLN, flatV, inV, List.all_cons, List.all_nil, List.any_cons, List.any_nil, Bool.and_self, Bool.and_true, if_true, Bool.false_eq_true, if_false, tMt, tFldN, tSto, HO.ins.injEq, lkh, List.drop_zero, List.drop_succ_cons, List.drop_nil, rListS, wipe, L2.start, List.map_cons, List.map_nil, List.length_cons, List.length_nil, List.replicate, List.cons_append, List.nil_append, List.append_nil, Nat.reduceAdd, Nat.reduceSub, Nat.zero_add, List.replicate_succ, List.replicate_zero, List.getElem?_cons_zero, List.getElem?_cons_succ, List.set_cons_zero, List.set_cons_succ, Option.some.injEq, V.int.injEq, V.bl.injEq, V.ref.injEq, V.str.injEq, V.ty.injEq, List.cons.injEq, HO.tup.injEq, HO.lst.injEq, and_true, true_and, and_assoc, exists_eq_left, exists_eq_left', exists_and_left, exists_eq', atI0, atI1, atI2, atI3, Int.cast_ofNat_Int, Int.reduceToNat, scal_ii, scal_in, scal_ni, scal_nn, scal_bb, scal_ss, scal_sn, scal_ns, scal_bn, scal_nb, ite_iff, decide_eq_true_eq, decide_eq_false_iff_not, Bool.not_eq_true', Classical.not_not, ne_eq, not_false_eq_true, not_true_eq_false, forall_const, true_implies, false_implies, imp_self, sizeLine_eq, Nat.reduceLeDiff, reduceCtorEq, decide_true, decide_false]
      exact h

end
end Iz
/-! k08_i -/
set_option Elab.async false
set_option linter.all false
set_option maxRecDepth 100000
set_option maxHeartbeats 4000000
namespace Iz
open PySem PySem.Spec PyProof.Rows L2
open He (ga)
local macro_rules | `(tactic| walk_at "wp") => `(tactic| simp only [tSl, tPart, tNoPart, rSlLN, rMax2, rMin2, gUnlN, tYes, rLenS, cx_K, Value.ref.injEq, HO.xd.injEq, lk0, tSeq, tPar3, tPar, tCons, tNil, tVar, tC, tAsg, gName, gCons, gNil, gTupN, gSub, tOp, rI, rI0, rU, tTest, rNe, rEq, rIxTN, rIxLN, rLenL, rLenT, rIntI, rIntB, rAbs, rSetLN, tTruL, tRaiseX, rIsTy, rIsOw, ixN0, ixN1, tRet, tIf, tIfS, tNext, tBreak, tCont, tDrop, tTupN, tLstN, tUn, tCB, tCall, tNot, tAnd, tOr, tB, tAndV, tOrV, tNotV, tChain, tApp, LamX.tLam, tRevLN, rCatN, rInTN, rInLN, flatV, inV, List.all_cons, List.all_nil, List.any_cons, List.any_nil, Bool.and_self, Bool.and_true, if_true, Bool.false_eq_true, if_false, tMt, tFldN, tSto, HO.ins.injEq, lkh, List.drop_zero, List.drop_succ_cons, List.drop_nil, rListS, wipe, L2.start, List.map_cons, List.map_nil, List.length_cons, List.length_nil, List.replicate, List.cons_append, List.nil_append, List.append_nil, Nat.reduceAdd, Nat.reduceSub, Nat.zero_add, List.replicate_succ, List.replicate_zero, List.getElem?_cons_zero, List.getElem?_cons_succ, List.set_cons_zero, List.set_cons_succ, Option.some.injEq, V.int.injEq, V.bl.injEq, V.ref.injEq, V.str.injEq, V.ty.injEq, List.cons.injEq, HO.tup.injEq, HO.lst.injEq, and_true, true_and, and_assoc, exists_eq_left, exists_eq_left', exists_and_left, exists_eq', atI0, atI1, atI2, atI3, Int.cast_ofNat_Int, Int.reduceToNat, scal_ii, scal_in, scal_ni, scal_nn, scal_bb, scal_ss, scal_sn, scal_ns, scal_bn, scal_nb, ite_iff, decide_eq_true_eq, decide_eq_false_iff_not, Bool.not_eq_true', Classical.not_not, ne_eq, not_false_eq_true, not_true_eq_false, forall_const, true_implies, false_implies, imp_self, sizeLine_eq, Nat.reduceLeDiff, reduceCtorEq, decide_true, decide_false])
section
variable {P : Program} {w : World} {K : PySem.W.Frag} {mg : Str → Option Value} {base : Heap}
open LamX
def qn__law_none_right : Str := (("_law_none_right" : Str) ++ ".<locals>.") ++ "<lambda>"
abbrev TbN (K : PySem.W.Frag) : List (Addr × Str) := [(pOf K "_law_none_right", qn__law_none_right)]
/-- what stands by while things are refused -/
structure NR (K : PySem.W.Frag) (H : Hp) (t p dx : Addr) (w s h : Int) : Prop where
  hT : Tabs (TbN K) H
  T : T3 H t w s h
  L : LAt K H p dx w s h
section
variable {H H' : Hp} {t p dx : Addr} {w s h : Int}
theorem NR.same (x : NR K H t p dx w s h) (e : Same H H') : NR K H' t p dx w s h := ⟨Tabs.ext x.hT e, e _ _ x.T, e _ _ x.L⟩
theorem NR.ext (x : NR K H t p dx w s h) (hT : Tabs (TbN K) H') (e : ExtN H H') : NR K H' t p dx w s h := ⟨hT, extL e x.T, extI e x.L⟩
theorem NR.put {L : Addr} {xs ys : List V} (x : NR K H t p dx w s h) (hL : H L = some (.lst xs)) (n : t ≠ L) (q : Put H H' L (.lst ys)) : NR K H' t p dx w s h := ⟨Tabs.put x.hT hL q, q.other x.T n, q.other x.L (ne_of x.L hL (by intro z; cases z))⟩
end
theorem told_part {H : Hp} {v : V} {T : List (Addr × Str)} {tl : XK → Hp → VK → Prop} {R : VK} (hT : Tabs T H) (hsp : ∀ H1 (Q : VK) (E : XK), ExtN H H1 → Rse K E H1 "BadPart" "part" v → tl E H1 Q)
    (k : ∀ H2 q, ExtN H H2 → Tabs T H2 → H2 q = some (.lst [.str "part", v]) → R (.ref q) H2) : Tabs T H ∧ ∀ H1, ExtN H H1 → Tabs T H1 → TTr K tl H1 R :=
  ⟨hT, fun H1 e1 hT1 => hsp H1 _ _ e1 (fun d H' hd hs h2 => ⟨d, rfl, rfl, v, h2, fun q H3 hq s3 h3 => k H3 q (e1.trans (extS (hs.trans s3))) (hT1.ext (hs.trans s3)) h3⟩)⟩
def spNone (K : PySem.W.Frag) : Sp := fun vs H Q _ => ∃ t, vs = [.ref t] ∧ ∃ w s h, T3 H t w s h ∧ LB w s h ∧ Tabs (TbN K) H ∧ ∀ H', ExtN H H' → Tabs (TbN K) H' → Q (.bl true) H'
theorem o__law_none_right (T : Txt K mg) (TB : TabB base mg (cOf K "_law_none_right") (pOf K "_law_none_right")) : OkF P w K mg base (L2.CX P w) 10 "_law_none_right" ["_law_three_here"] (spNone K) := by
  have o_Lattice := o_Lattice (P := P) (w := w) (base := base) T
  have o_Lattice_place := o_Lattice_place (P := P) (w := w) (base := base) T
  have o_Lattice_order := o_Lattice_order (P := P) (w := w) (base := base) T
  have o_Lattice___contains__ := o_Lattice___contains__ (P := P) (w := w) (base := base) T
  have o_is_shift := o_is_shift (P := P) (w := w) (base := base) T
  refine T.lam__law_none_right.okF sc__law_none_right (fun _ _ _ _ _ _ us hl => match us, hl with | [_], _ => rfl) (fun vs H Q E h => ?_) (fun f A outer s H vs Q E hr h => ?_)
  · first | (obtain ⟨_, rfl, _⟩ := h; rfl) | (obtain ⟨_, _, rfl, _⟩ := h; rfl) | (obtain ⟨_, _, _, rfl, _⟩ := h; rfl) | (obtain ⟨_, _, _, _, rfl, _⟩ := h; rfl) | (obtain ⟨_, _, _, _, _, rfl, _⟩ := h; rfl) | (obtain ⟨_, _, _, _, _, _, rfl, _⟩ := h; rfl) | (obtain ⟨_, _, _, _, _, _, _, rfl, _⟩ := h; rfl)
  have hu64 := hr.units
  refine ⟨_, pss_cons (ps_set (i := 2) sc__law_none_right.nd rfl (Or.inr rfl) (pmk (j := 0) o_Lattice (by decide) (hr.mono (by decide)) passE (pa_cons (pe_ix ix_listN (pv 0) (pe_int) (fun _ _ => rfl)) (pa_cons (pe_ix ix_listN (pv 0) (pe_int) (fun _ _ => rfl)) (pa_cons (pe_ix ix_listN (pv 0) (pe_int) (fun _ _ => rfl)) pa_nil)))))
      (pss_cons (ps_for (passes_of rfl) rfl (pi_list (pe_lstN (pa_cons (pe_int) (pa_cons (pe_un un_neg (pe_int)) (pa_cons (pe_non) (pa_cons (pe_bl) (pa_cons (pe_str) (pa_cons (pe_tupN (pa_cons (pe_int) pa_nil)) pa_nil)))))))) (pg_name (i := 3) sc__law_none_right.nd rfl (Or.inr rfl)) (pss_cons (ps_set (i := 1) sc__law_none_right.nd rfl (Or.inl rfl) (pe_lstN (pa_cons (plam (k := 6) (qn := qn__law_none_right) T.d__law_refused sc__law_refused (fun _ _ _ _ _ _ us hl => match us, hl with | [_], _ => rfl) (fun g cdg => refused_gives T) TB rfl rfl (hr.mono (by decide)) (by show lamSB (defScope s__law_none_right) _ = true; decide +kernel) (fun A outer s H E f c hr2 => by exact (pmk (j := 0) o_Lattice (by decide) (hr2.mono (by decide)) passLam (pa_cons (pv 3) (pa_cons (pe_non) (pa_cons (pe_non) pa_nil)))))) pa_nil)))
      (pss_cons (ps_expr (pe_appN (pv 1) (pa_cons (plam (k := 6) (qn := qn__law_none_right) T.d__law_refused sc__law_refused (fun _ _ _ _ _ _ us hl => match us, hl with | [_], _ => rfl) (fun g cdg => refused_gives T) TB rfl rfl (hr.mono (by decide)) (by show lamSB (defScope s__law_none_right) _ = true; decide +kernel) (fun A outer s H E f c hr2 => by exact (pmk (j := 0) o_Lattice (by decide) (hr2.mono (by decide)) passLam (pa_cons (pe_ix ix_listN (pv 0) (pe_int) (fun _ _ => rfl)) (pa_cons (pe_ix ix_listN (pv 0) (pe_int) (fun _ _ => rfl)) (pa_cons (pv 3) pa_nil)))))) pa_nil)))
      (pss_one (ps_if (pt_cmpR (op_neDk (K := K) rfl hu64) (pv 1) (pe_lstN (pa_cons (pe_lstN (pa_cons (pe_str) (pa_cons (pe_str) pa_nil))) (pa_cons (pe_lstN (pa_cons (pe_str) (pa_cons (pe_str) pa_nil))) pa_nil))) (nomark _)) (pss_one (ps_ret (pe_bl))) (pss_nil))))))
      (pss_cons (ps_for (passes_of rfl) rfl (pi_list (pe_lstN (pa_cons (pe_un un_neg (pe_int)) (pa_cons (pe_ix ix_listN (pv 0) (pe_int) (fun _ _ => rfl)) (pa_cons (pe_non) (pa_cons (pe_bl) (pa_cons (pe_str) pa_nil))))))) (pg_name (i := 3) sc__law_none_right.nd rfl (Or.inr rfl)) (pss_one (ps_if (pt_cmpR (op_neDk (K := K) rfl hu64) (plam (k := 6) (qn := qn__law_none_right) T.d__law_refused sc__law_refused (fun _ _ _ _ _ _ us hl => match us, hl with | [_], _ => rfl) (fun g cdg => refused_gives T) TB rfl rfl (hr.mono (by decide)) (by show lamSB (defScope s__law_none_right) _ = true; decide +kernel) (fun A outer s H E f c hr2 => by exact (pmk (j := 0) o_Lattice (by decide) (hr2.mono (by decide)) passLam (pa_cons (pe_ix ix_listN (pv 0) (pe_int) (fun _ _ => rfl)) (pa_cons (pv 3) (pa_cons (pe_non) pa_nil)))))) (pe_lstN (pa_cons (pe_str) (pa_cons (pe_str) pa_nil))) (nomark _)) (pss_one (ps_ret (pe_bl))) (pss_nil))))
      (pss_cons (ps_for (passes_of rfl) rfl (pi_list (pe_lstN (pa_cons (pe_non) (pa_cons (pe_tupN (pa_cons (pe_int) pa_nil)) (pa_cons (pe_lstN (pa_cons (pe_int) (pa_cons (pe_int) pa_nil))) (pa_cons (pe_tupN (pa_cons (pe_int) (pa_cons (pe_bl) pa_nil))) (pa_cons (pe_tupN (pa_cons (pe_int) (pa_cons (pe_int) (pa_cons (pe_int) pa_nil)))) (pa_cons (pe_str) (pa_cons (pe_int) (pa_cons (pe_tupN (pa_cons (pe_non) (pa_cons (pe_int) pa_nil))) pa_nil)))))))))) (pg_name (i := 3) sc__law_none_right.nd rfl (Or.inr rfl)) (pss_cons (ps_set (i := 1) sc__law_none_right.nd rfl (Or.inl rfl) (pe_lstN (pa_cons (plam (k := 6) (qn := qn__law_none_right) T.d__law_refused sc__law_refused (fun _ _ _ _ _ _ us hl => match us, hl with | [_], _ => rfl) (fun g cdg => refused_gives T) TB rfl rfl (hr.mono (by decide)) (by show lamSB (defScope s__law_none_right) _ = true; decide +kernel) (fun A outer s H E f c hr2 => by exact (pmtK (K := K) rfl (j := 0) o_Lattice_place T.c_Lattice (pv 2) (by decide) (hr2.mono (by decide)) passLam (pa_cons (pv 3) pa_nil)))) (pa_cons (pe_lstN (pa_cons (pe_str) (pa_cons (pe_str) pa_nil))) pa_nil))))
      (pss_cons (ps_if (PW.pt (pw_or (pt_cmpR (op_neDk (K := K) rfl hu64) (pe_ix ix_listN (pv 1) (pe_int) (fun _ _ => rfl)) (pe_lstN (pa_cons (pe_str) (pa_cons (pe_str) pa_nil))) (nomark _)) (pw_or1 (pt_cmpR (op_neDk (K := K) rfl hu64) (plam (k := 6) (qn := qn__law_none_right) T.d__law_refused sc__law_refused (fun _ _ _ _ _ _ us hl => match us, hl with | [_], _ => rfl) (fun g cdg => refused_gives T) TB rfl rfl (hr.mono (by decide)) (by show lamSB (defScope s__law_none_right) _ = true; decide +kernel) (fun A outer s H E f c hr2 => by exact (pmtK (K := K) rfl (j := 0) o_Lattice_order T.c_Lattice (pv 2) (by decide) (hr2.mono (by decide)) passLam (pa_cons (pv 3) pa_nil)))) (pe_ix ix_listN (pv 1) (pe_int) (fun _ _ => rfl)) (nomark _))))) (pss_one (ps_ret (pe_bl))) (pss_nil))
      (pss_one (ps_if (PW.pt (pw_or (pt_cmpR (op_ownIn o_Lattice___contains__ (hr.mono (by decide)) passE) (pv 3) (pv 2) (by rfl)) (pw_or1 (pt_val (pcl o_is_shift (hr.mono (by decide)) pass0 (pa_cons (pv 3) pa_nil)))))) (pss_one (ps_ret (pe_bl))) (pss_nil))))))
      (pss_one (ps_ret (pcl o_is_shift (hr.mono (by decide)) pass0 (pa_cons (pe_tupN (pa_cons (pe_ix ix_listN (pv 0) (pe_int) (fun _ _ => rfl)) (pa_cons (pe_un un_neg (pe_ix ix_listN (pv 0) (pe_int) (fun _ _ => rfl))) pa_nil))) pa_nil))))))), ?_⟩
  obtain ⟨t, rfl, w, s, h, hT3, B, hT, k⟩ := h
  simp only [spLat, hT3, exists_and_left, tSl, tPart, tNoPart, rSlLN, rMax2, rMin2, gUnlN, tYes, rLenS, cx_K, Value.ref.injEq, HO.xd.injEq, lk0, tSeq, tPar3, tPar, tCons, tNil, tVar, tC, tAsg, gName, gCons, gNil, gTupN, gSub, tOp, rI, rI0, rU, tTest, rNe, rEq, rIxTN, rIxLN, rLenL, rLenT, rIntI, rIntB, rAbs, rSetLN, tTruL, tRaiseX, rIsTy, rIsOw, ixN0, ixN1, tRet, tIf, tIfS, tNext, tBreak, tCont, tDrop, tTupN, tLstN, tUn, tCB, tCall, tNot, tAnd, tOr, tB, tAndV, tOrV, tNotV, tChain, tApp, LamX.tLam, tRevLN, rCatN, rInTN, rInLN, flatV, inV, List.all_cons, List.all_nil, List.any_cons, List.any_nil, Bool.and_self, Bool.and_true, if_true, Bool.false_eq_true, if_false, tMt, tFldN, tSto, HO.ins.injEq, lkh, List.drop_zero, List.drop_succ_cons, List.drop_nil, rListS, wipe, L2.start, List.map_cons, List.map_nil, List.length_cons, List.length_nil, List.replicate, List.cons_append, List.nil_append, List.append_nil, Nat.reduceAdd, Nat.reduceSub, Nat.zero_add, List.replicate_succ, List.replicate_zero, List.getElem?_cons_zero, List.getElem?_cons_succ, List.set_cons_zero, List.set_cons_succ, Option.some.injEq, V.int.injEq, V.bl.injEq, V.ref.injEq, V.str.injEq, V.ty.injEq, List.cons.injEq, HO.tup.injEq, HO.lst.injEq, and_true, true_and, and_assoc, exists_eq_left, exists_eq_left', exists_and_left, exists_eq', atI0, atI1, atI2, atI3, Int.cast_ofNat_Int, Int.reduceToNat, scal_ii, scal_in, scal_ni, scal_nn, scal_bb, scal_ss, scal_sn, scal_ns, scal_bn, scal_nb, ite_iff, decide_eq_true_eq, decide_eq_false_iff_not, Bool.not_eq_true', Classical.not_not, ne_eq, not_false_eq_true, not_true_eq_false, forall_const, true_implies, false_implies, imp_self, sizeLine_eq, Nat.reduceLeDiff, reduceCtorEq, decide_true, decide_false]
  refine RL.ints B.a1 B.b0 B.ba B.d1 ?_
  intro p dx H1 _ s1 h1
  have N1 : NR K H1 t p dx w s h := ⟨Tabs.ext hT s1, s1 _ _ hT3, h1⟩
  have E1 : ExtN H H1 := extS s1
  clear s1 h1 hT hT3
  refine for_inL ?_
  simp only [exists_and_left, tSl, tPart, tNoPart, rSlLN, rMax2, rMin2, gUnlN, tYes, rLenS, cx_K, Value.ref.injEq, HO.xd.injEq, lk0, tSeq, tPar3, tPar, tCons, tNil, tVar, tC, tAsg, gName, gCons, gNil, gTupN, gSub, tOp, rI, rI0, rU, tTest, rNe, rEq, rIxTN, rIxLN, rLenL, rLenT, rIntI, rIntB, rAbs, rSetLN, tTruL, tRaiseX, rIsTy, rIsOw, ixN0, ixN1, tRet, tIf, tIfS, tNext, tBreak, tCont, tDrop, tTupN, tLstN, tUn, tCB, tCall, tNot, tAnd, tOr, tB, tAndV, tOrV, tNotV, tChain, tApp, LamX.tLam, tRevLN, rCatN, rInTN, rInLN, flatV, inV, List.all_cons, List.all_nil, List.any_cons, List.any_nil, Bool.and_self, Bool.and_true, if_true, Bool.false_eq_true, if_false, tMt, tFldN, tSto, HO.ins.injEq, lkh, List.drop_zero, List.drop_succ_cons, List.drop_nil, rListS, wipe, L2.start, List.map_cons, List.map_nil, List.length_cons, List.length_nil, List.replicate, List.cons_append, List.nil_append, List.append_nil, Nat.reduceAdd, Nat.reduceSub, Nat.zero_add, List.replicate_succ, List.replicate_zero, List.getElem?_cons_zero, List.getElem?_cons_succ, List.set_cons_zero, List.set_cons_succ, Option.some.injEq, V.int.injEq, V.bl.injEq, V.ref.injEq, V.str.injEq, V.ty.injEq, List.cons.injEq, HO.tup.injEq, HO.lst.injEq, and_true, true_and, and_assoc, exists_eq_left, exists_eq_left', exists_and_left, exists_eq', atI0, atI1, atI2, atI3, Int.cast_ofNat_Int, Int.reduceToNat, scal_ii, scal_in, scal_ni, scal_nn, scal_bb, scal_ss, scal_sn, scal_ns, scal_bn, scal_nb, ite_iff, decide_eq_true_eq, decide_eq_false_iff_not, Bool.not_eq_true', Classical.not_not, ne_eq, not_false_eq_true, not_true_eq_false, forall_const, true_implies, false_implies, imp_self, sizeLine_eq, Nat.reduceLeDiff, reduceCtorEq, decide_true, decide_false]
  intro p0 H2 _ s2 h2
  intro L H3 _ s3 h3
  have N3 := (N1.same s2).same s3
  have E3 := E1.trans (extS (s2.trans s3))
  have h23 := s3 _ _ h2
  clear N1 E1 s2 h2 s3
  refine st_forL (fun R r => r) h3 (fun j σ' H' => ∃ ro od, σ' = [some (V.ref t), ro, some (V.ref p), od] ∧ NR K H' t p dx w s h ∧ ExtN H H' ∧ H' L = some (.lst [.int 0, .int (-1), .non, .bl true, .str "1", .ref p0]) ∧ H' p0 = some (.tup [.int 1])) ⟨_, _, rfl, N3, E3, h3, h23⟩ (fun _ _ _ h => by obtain ⟨_, _, _, _, _, h, _⟩ := h; exact h) ?_ ?_
  · clear N3 E3 h3 h23
    rintro j v _ H4 hv ⟨ro, od, rfl, N4, E4, h4, hp4⟩
    have O : Wh K H4 v ∧ isP v = false := by
      have := List.mem_of_getElem? hv
      simp only [List.mem_cons, List.not_mem_nil, or_false] at this
      rcases this with rfl | rfl | rfl | rfl | rfl | rfl
      · exact ⟨wh_int, rfl⟩
      · exact ⟨wh_int, rfl⟩
      · exact ⟨wh_non, rfl⟩
      · exact ⟨wh_bl, rfl⟩
      · exact ⟨wh_str, rfl⟩
      · exact ⟨wh_tup hp4, rfl⟩
    simp only [exists_and_left, tSl, tPart, tNoPart, rSlLN, rMax2, rMin2, gUnlN, tYes, rLenS, cx_K, Value.ref.injEq, HO.xd.injEq, lk0, tSeq, tPar3, tPar, tCons, tNil, tVar, tC, tAsg, gName, gCons, gNil, gTupN, gSub, tOp, rI, rI0, rU, tTest, rNe, rEq, rIxTN, rIxLN, rLenL, rLenT, rIntI, rIntB, rAbs, rSetLN, tTruL, tRaiseX, rIsTy, rIsOw, ixN0, ixN1, tRet, tIf, tIfS, tNext, tBreak, tCont, tDrop, tTupN, tLstN, tUn, tCB, tCall, tNot, tAnd, tOr, tB, tAndV, tOrV, tNotV, tChain, tApp, LamX.tLam, tRevLN, rCatN, rInTN, rInLN, flatV, inV, List.all_cons, List.all_nil, List.any_cons, List.any_nil, Bool.and_self, Bool.and_true, if_true, Bool.false_eq_true, if_false, tMt, tFldN, tSto, HO.ins.injEq, lkh, List.drop_zero, List.drop_succ_cons, List.drop_nil, rListS, wipe, L2.start, List.map_cons, List.map_nil, List.length_cons, List.length_nil, List.replicate, List.cons_append, List.nil_append, List.append_nil, Nat.reduceAdd, Nat.reduceSub, Nat.zero_add, List.replicate_succ, List.replicate_zero, List.getElem?_cons_zero, List.getElem?_cons_succ, List.set_cons_zero, List.set_cons_succ, Option.some.injEq, V.int.injEq, V.bl.injEq, V.ref.injEq, V.str.injEq, V.ty.injEq, List.cons.injEq, HO.tup.injEq, HO.lst.injEq, and_true, true_and, and_assoc, exists_eq_left, exists_eq_left', exists_and_left, exists_eq', atI0, atI1, atI2, atI3, Int.cast_ofNat_Int, Int.reduceToNat, scal_ii, scal_in, scal_ni, scal_nn, scal_bb, scal_ss, scal_sn, scal_ns, scal_bn, scal_nb, ite_iff, decide_eq_true_eq, decide_eq_false_iff_not, Bool.not_eq_true', Classical.not_not, ne_eq, not_false_eq_true, not_true_eq_false, forall_const, true_implies, false_implies, imp_self, sizeLine_eq, Nat.reduceLeDiff, reduceCtorEq, decide_true, decide_false]
    refine told_part N4.hT (fun H5 Q E e r => ⟨_, _, _, rfl, wh_ext O.1 e, fun _ => r, fun e2 => by rw [O.2] at e2; cases e2⟩) (fun H5 q5 e5 hT5 h5 => ?_)
    have N5 := N4.ext hT5 e5
    have O5 : Wh K H5 v ∧ isP v = false := ⟨wh_ext O.1 e5, O.2⟩
    have E5 := E4.trans e5
    have h45 := extL e5 h4
    have hp5 := extT e5 hp4
    clear O N4 E4 h4 hp4 e5 hT5
    intro R H6 hR s6 h6
    have N6 := N5.same s6
    have O6 : Wh K H6 v ∧ isP v = false := ⟨wh_mono O5.1 s6, O5.2⟩
    have E6 := E5.trans (extS s6)
    have nt : t ≠ R := ne_of_none N5.T hR
    have nL : L ≠ R := ne_of_none h45 hR
    have nq : q5 ≠ R := ne_of_none h5 hR
    have nR : ∀ b o, H b = some o → (∀ ps, o ≠ .tbl ps) → b ≠ R := fun b o hb hn => ne_of_none (E5 b o hb hn) hR
    have h46 := s6 _ _ h45
    have hp6 := s6 _ _ hp5
    have h56 := s6 _ _ h5
    clear N5 O5 E5 h45 hp5 h5 hR s6
    have a1 := B.a1
    refine ⟨R, rfl, ⟨_, h6⟩, told_part N6.hT (fun H7 Q E e r => ⟨_, extL e N6.T, _, atI0, _, extL e N6.T, _, atI1, _, _, _, rfl, wh_int, fun h => (by simp [isP] at h; omega), fun _ => ⟨wh_int, fun h => (by have := B.b0; have := B.ba; simp [okB] at h; omega), fun _ => ⟨wh_ext O6.1 e, fun _ => r, fun e2 => by rw [O6.2] at e2; cases e2⟩⟩⟩) (fun H7 q7 e7 hT7 h7 => ?_)⟩
    refine ⟨_, extL e7 h6, by simp, fun H8 pt => ?_⟩
    have nq7 : q7 ≠ R := fun z => by subst z; rw [extL e7 h6] at h7; cases h7
    have N8 := (N6.ext hT7 e7).put (extL e7 h6) nt pt
    have h58 := pt.other (extL e7 h56) nq
    have h78 := pt.other h7 nq7
    have h48 := pt.other (extL e7 h46) nL
    have hp8 := pt.other (extT e7 hp6) (ne_of (extT e7 hp6) (extL e7 h6) (by intro z; cases z))
    have hR8 := pt.1
    have E8 : ExtN H H8 := fun b o hb hn => pt.other (e7 b o (E6 b o hb hn) hn) (nR b o hb hn)
    clear N6 E6 h46 hp6 h56 nR nq nq7 nL nt e7 hT7 h7 pt h6
    intro u1 H9 _ s9 h9
    intro u2 H10 _ s10 h10
    intro u3 H11 _ s11 h11
    have S := (s9.trans s10).trans s11
    have okp : PyData.strOk "part" = true := by decide +kernel
    have oka : PyData.strOk "a" = true := by decide +kernel
    have okd : PyData.strOk "d" = true := by decide +kernel
    exact ne_sameN (.lst (SqL.of (S _ _ hR8)) (.cons (dp_l2 (S _ _ h58)) (.cons (dp_l2 (S _ _ h78)) .nil))) (.lst (SqL.of h11) (.cons (dp_l2 (s11 _ _ (s10 _ _ h9))) (.cons (dp_l2 (s11 _ _ h10)) .nil))) (sh_ll (n := 0) okp oka okp okd)
      ⟨false, rfl, fun e => (by cases e), fun _ => ⟨N8.same S, E8.trans (extS S), S _ _ h48, S _ _ hp8⟩⟩
  · clear N3 E3 h3 h23
    rintro _ H4 ⟨ro, od, rfl, N4, E4, _, _⟩
    simp only [exists_and_left, tSl, tPart, tNoPart, rSlLN, rMax2, rMin2, gUnlN, tYes, rLenS, cx_K, Value.ref.injEq, HO.xd.injEq, lk0, tSeq, tPar3, tPar, tCons, tNil, tVar, tC, tAsg, gName, gCons, gNil, gTupN, gSub, tOp, rI, rI0, rU, tTest, rNe, rEq, rIxTN, rIxLN, rLenL, rLenT, rIntI, rIntB, rAbs, rSetLN, tTruL, tRaiseX, rIsTy, rIsOw, ixN0, ixN1, tRet, tIf, tIfS, tNext, tBreak, tCont, tDrop, tTupN, tLstN, tUn, tCB, tCall, tNot, tAnd, tOr, tB, tAndV, tOrV, tNotV, tChain, tApp, LamX.tLam, tRevLN, rCatN, rInTN, rInLN, flatV, inV, List.all_cons, List.all_nil, List.any_cons, List.any_nil, Bool.and_self, Bool.and_true, if_true, Bool.false_eq_true, if_false, tMt, tFldN, tSto, HO.ins.injEq, lkh, List.drop_zero, List.drop_succ_cons, List.drop_nil, rListS, wipe, L2.start, List.map_cons, List.map_nil, List.length_cons, List.length_nil, List.replicate, List.cons_append, List.nil_append, List.append_nil, Nat.reduceAdd, Nat.reduceSub, Nat.zero_add, List.replicate_succ, List.replicate_zero, List.getElem?_cons_zero, List.getElem?_cons_succ, List.set_cons_zero, List.set_cons_succ, Option.some.injEq, V.int.injEq, V.bl.injEq, V.ref.injEq, V.str.injEq, V.ty.injEq, List.cons.injEq, HO.tup.injEq, HO.lst.injEq, and_true, true_and, and_assoc, exists_eq_left, exists_eq_left', exists_and_left, exists_eq', atI0, atI1, atI2, atI3, Int.cast_ofNat_Int, Int.reduceToNat, scal_ii, scal_in, scal_ni, scal_nn, scal_bb, scal_ss, scal_sn, scal_ns, scal_bn, scal_nb, ite_iff, decide_eq_true_eq, decide_eq_false_iff_not, Bool.not_eq_true', Classical.not_not, ne_eq, not_false_eq_true, not_true_eq_false, forall_const, true_implies, false_implies, imp_self, sizeLine_eq, Nat.reduceLeDiff, reduceCtorEq, decide_true, decide_false]
    refine for_inL ?_
    have hT4 := N4.T
    simp only [hT4, exists_and_left, tSl, tPart, tNoPart, rSlLN, rMax2, rMin2, gUnlN, tYes, rLenS, cx_K, Value.ref.injEq, HO.xd.injEq, lk0, tSeq, tPar3, tPar, tCons, tNil, tVar, tC, tAsg, gName, gCons, gNil, gTupN, gSub, tOp, rI, rI0, rU, tTest, rNe, rEq, rIxTN, rIxLN, rLenL, rLenT, rIntI, rIntB, rAbs, rSetLN, tTruL, tRaiseX, rIsTy, rIsOw, ixN0, ixN1, tRet, tIf, tIfS, tNext, tBreak, tCont, tDrop, tTupN, tLstN, tUn, tCB, tCall, tNot, tAnd, tOr, tB, tAndV, tOrV, tNotV, tChain, tApp, LamX.tLam, tRevLN, rCatN, rInTN, rInLN, flatV, inV, List.all_cons, List.all_nil, List.any_cons, List.any_nil, Bool.and_self, Bool.and_true, if_true, Bool.false_eq_true, if_false, tMt, tFldN, tSto, HO.ins.injEq, lkh, List.drop_zero, List.drop_succ_cons, List.drop_nil, rListS, wipe, L2.start, List.map_cons, List.map_nil, List.length_cons, List.length_nil, List.replicate, List.cons_append, List.nil_append, List.append_nil, Nat.reduceAdd, Nat.reduceSub, Nat.zero_add, List.replicate_succ, List.replicate_zero, List.getElem?_cons_zero, List.getElem?_cons_succ, List.set_cons_zero, List.set_cons_succ, Option.some.injEq, V.int.injEq, V.bl.injEq, V.ref.injEq, V.str.injEq, V.ty.injEq, List.cons.injEq, HO.tup.injEq, HO.lst.injEq, and_true, true_and, and_assoc, exists_eq_left, exists_eq_left', exists_and_left, exists_eq', atI0, atI1, atI2, atI3, Int.cast_ofNat_Int, Int.reduceToNat, scal_ii, scal_in, scal_ni, scal_nn, scal_bb, scal_ss, scal_sn, scal_ns, scal_bn, scal_nb, ite_iff, decide_eq_true_eq, decide_eq_false_iff_not, Bool.not_eq_true', Classical.not_not, ne_eq, not_false_eq_true, not_true_eq_false, forall_const, true_implies, false_implies, imp_self, sizeLine_eq, Nat.reduceLeDiff, reduceCtorEq, decide_true, decide_false]
    intro M H5 _ s5 h5
    have N5 := N4.same s5
    have E5 := E4.trans (extS s5)
    clear N4 E4 hT4 s5
    refine st_forL (fun R r => r) h5 (fun j σ' H' => ∃ ro od, σ' = [some (V.ref t), ro, some (V.ref p), od] ∧ NR K H' t p dx w s h ∧ ExtN H H' ∧ H' M = some (.lst [.int (-1), .int w, .non, .bl false, .str "0"])) ⟨_, _, rfl, N5, E5, h5⟩ (fun _ _ _ h => by obtain ⟨_, _, _, _, _, h⟩ := h; exact h) ?_ ?_
    · clear N5 E5 h5
      rintro j v _ H4 hv ⟨ro, od, rfl, N4, E4, h4⟩
      have O : Wh K H4 v ∧ okB (.int w) v = false := by
        have := List.mem_of_getElem? hv
        simp only [List.mem_cons, List.not_mem_nil, or_false] at this
        rcases this with rfl | rfl | rfl | rfl | rfl
        · exact ⟨wh_int, by simp [okB]⟩
        · exact ⟨wh_int, by simp [okB]⟩
        · exact ⟨wh_non, rfl⟩
        · exact ⟨wh_bl, rfl⟩
        · exact ⟨wh_str, rfl⟩
      have a1 := B.a1
      simp only [exists_and_left, tSl, tPart, tNoPart, rSlLN, rMax2, rMin2, gUnlN, tYes, rLenS, cx_K, Value.ref.injEq, HO.xd.injEq, lk0, tSeq, tPar3, tPar, tCons, tNil, tVar, tC, tAsg, gName, gCons, gNil, gTupN, gSub, tOp, rI, rI0, rU, tTest, rNe, rEq, rIxTN, rIxLN, rLenL, rLenT, rIntI, rIntB, rAbs, rSetLN, tTruL, tRaiseX, rIsTy, rIsOw, ixN0, ixN1, tRet, tIf, tIfS, tNext, tBreak, tCont, tDrop, tTupN, tLstN, tUn, tCB, tCall, tNot, tAnd, tOr, tB, tAndV, tOrV, tNotV, tChain, tApp, LamX.tLam, tRevLN, rCatN, rInTN, rInLN, flatV, inV, List.all_cons, List.all_nil, List.any_cons, List.any_nil, Bool.and_self, Bool.and_true, if_true, Bool.false_eq_true, if_false, tMt, tFldN, tSto, HO.ins.injEq, lkh, List.drop_zero, List.drop_succ_cons, List.drop_nil, rListS, wipe, L2.start, List.map_cons, List.map_nil, List.length_cons, List.length_nil, List.replicate, List.cons_append, List.nil_append, List.append_nil, Nat.reduceAdd, Nat.reduceSub, Nat.zero_add, List.replicate_succ, List.replicate_zero, List.getElem?_cons_zero, List.getElem?_cons_succ, List.set_cons_zero, List.set_cons_succ, Option.some.injEq, V.int.injEq, V.bl.injEq, V.ref.injEq, V.str.injEq, V.ty.injEq, List.cons.injEq, HO.tup.injEq, HO.lst.injEq, and_true, true_and, and_assoc, exists_eq_left, exists_eq_left', exists_and_left, exists_eq', atI0, atI1, atI2, atI3, Int.cast_ofNat_Int, Int.reduceToNat, scal_ii, scal_in, scal_ni, scal_nn, scal_bb, scal_ss, scal_sn, scal_ns, scal_bn, scal_nb, ite_iff, decide_eq_true_eq, decide_eq_false_iff_not, Bool.not_eq_true', Classical.not_not, ne_eq, not_false_eq_true, not_true_eq_false, forall_const, true_implies, false_implies, imp_self, sizeLine_eq, Nat.reduceLeDiff, reduceCtorEq, decide_true, decide_false]
      refine told_part N4.hT (fun H7 Q E e r => ⟨_, extL e N4.T, _, atI0, _, _, _, rfl, wh_int, fun h => (by simp [isP] at h; omega), fun _ => ⟨wh_ext O.1 e, fun _ => r, fun e2 => by rw [O.2] at e2; cases e2⟩⟩) (fun H7 q7 e7 hT7 h7 => ?_)
      intro u1 H9 _ s9 h9
      exact ne_sameN (dp_l2 (s9 _ _ h7)) (dp_l2 h9) (sh_l2 (n := 0) (by decide +kernel) (by decide +kernel)) ⟨false, rfl, fun e => (by cases e), fun _ => ⟨(N4.ext hT7 e7).same s9, (E4.trans e7).trans (extS s9), s9 _ _ (extL e7 h4)⟩⟩
    · clear N5 E5 h5
      rintro _ H4 ⟨ro, od, rfl, N4, E4, _⟩
      simp only [exists_and_left, tSl, tPart, tNoPart, rSlLN, rMax2, rMin2, gUnlN, tYes, rLenS, cx_K, Value.ref.injEq, HO.xd.injEq, lk0, tSeq, tPar3, tPar, tCons, tNil, tVar, tC, tAsg, gName, gCons, gNil, gTupN, gSub, tOp, rI, rI0, rU, tTest, rNe, rEq, rIxTN, rIxLN, rLenL, rLenT, rIntI, rIntB, rAbs, rSetLN, tTruL, tRaiseX, rIsTy, rIsOw, ixN0, ixN1, tRet, tIf, tIfS, tNext, tBreak, tCont, tDrop, tTupN, tLstN, tUn, tCB, tCall, tNot, tAnd, tOr, tB, tAndV, tOrV, tNotV, tChain, tApp, LamX.tLam, tRevLN, rCatN, rInTN, rInLN, flatV, inV, List.all_cons, List.all_nil, List.any_cons, List.any_nil, Bool.and_self, Bool.and_true, if_true, Bool.false_eq_true, if_false, tMt, tFldN, tSto, HO.ins.injEq, lkh, List.drop_zero, List.drop_succ_cons, List.drop_nil, rListS, wipe, L2.start, List.map_cons, List.map_nil, List.length_cons, List.length_nil, List.replicate, List.cons_append, List.nil_append, List.append_nil, Nat.reduceAdd, Nat.reduceSub, Nat.zero_add, List.replicate_succ, List.replicate_zero, List.getElem?_cons_zero, List.getElem?_cons_succ, List.set_cons_zero, List.set_cons_succ, Option.some.injEq, V.int.injEq, V.bl.injEq, V.ref.injEq, V.str.injEq, V.ty.injEq, List.cons.injEq, HO.tup.injEq, HO.lst.injEq, and_true, true_and, and_assoc, exists_eq_left, exists_eq_left', exists_and_left, exists_eq', atI0, atI1, atI2, atI3, Int.cast_ofNat_Int, Int.reduceToNat, scal_ii, scal_in, scal_ni, scal_nn, scal_bb, scal_ss, scal_sn, scal_ns, scal_bn, scal_nb, ite_iff, decide_eq_true_eq, decide_eq_false_iff_not, Bool.not_eq_true', Classical.not_not, ne_eq, not_false_eq_true, not_true_eq_false, forall_const, true_implies, false_implies, imp_self, sizeLine_eq, Nat.reduceLeDiff, reduceCtorEq, decide_true, decide_false]
      refine for_inL ?_
      simp only [exists_and_left, tSl, tPart, tNoPart, rSlLN, rMax2, rMin2, gUnlN, tYes, rLenS, cx_K, Value.ref.injEq, HO.xd.injEq, lk0, tSeq, tPar3, tPar, tCons, tNil, tVar, tC, tAsg, gName, gCons, gNil, gTupN, gSub, tOp, rI, rI0, rU, tTest, rNe, rEq, rIxTN, rIxLN, rLenL, rLenT, rIntI, rIntB, rAbs, rSetLN, tTruL, tRaiseX, rIsTy, rIsOw, ixN0, ixN1, tRet, tIf, tIfS, tNext, tBreak, tCont, tDrop, tTupN, tLstN, tUn, tCB, tCall, tNot, tAnd, tOr, tB, tAndV, tOrV, tNotV, tChain, tApp, LamX.tLam, tRevLN, rCatN, rInTN, rInLN, flatV, inV, List.all_cons, List.all_nil, List.any_cons, List.any_nil, Bool.and_self, Bool.and_true, if_true, Bool.false_eq_true, if_false, tMt, tFldN, tSto, HO.ins.injEq, lkh, List.drop_zero, List.drop_succ_cons, List.drop_nil, rListS, wipe, L2.start, List.map_cons, List.map_nil, List.length_cons, List.length_nil, List.replicate, List.cons_append, List.nil_append, List.append_nil, Nat.reduceAdd, Nat.reduceSub, Nat.zero_add, List.replicate_succ, List.replicate_zero, List.getElem?_cons_zero, List.getElem?_cons_succ, List.set_cons_zero, List.set_cons_succ, Option.some.injEq, V.int.injEq, V.bl.injEq, V.ref.injEq, V.str.injEq, V.ty.injEq, List.cons.injEq, HO.tup.injEq, HO.lst.injEq, and_true, true_and, and_assoc, exists_eq_left, exists_eq_left', exists_and_left, exists_eq', atI0, atI1, atI2, atI3, Int.cast_ofNat_Int, Int.reduceToNat, scal_ii, scal_in, scal_ni, scal_nn, scal_bb, scal_ss, scal_sn, scal_ns, scal_bn, scal_nb, ite_iff, decide_eq_true_eq, decide_eq_false_iff_not, Bool.not_eq_true', Classical.not_not, ne_eq, not_false_eq_true, not_true_eq_false, forall_const, true_implies, false_implies, imp_self, sizeLine_eq, Nat.reduceLeDiff, reduceCtorEq, decide_true, decide_false]
      intro p1 H5 _ s5 h5
      intro p2 H6 _ s6 h6
      intro p3 H7 _ s7 h7
      intro p4 H8 _ s8 h8
      intro p5 H9 _ s9 h9
      intro M H10 _ s10 h10
      have S9 := (s6.trans s7).trans (s8.trans (s9.trans s10))
      have g1 := S9 _ _ h5
      have g2 := s10 _ _ (s9 _ _ (s8 _ _ (s7 _ _ h6)))
      have g3 := s10 _ _ (s9 _ _ (s8 _ _ h7))
      have g4 := s10 _ _ (s9 _ _ h8)
      have g5 := s10 _ _ h9
      have N10 := N4.same (s5.trans S9)
      have E10 := E4.trans (extS (s5.trans S9))
      have O10 : ∀ v ∈ [V.non, .ref p1, .ref p2, .ref p3, .ref p4, .str "00", .int 5, .ref p5], PairK K H10 v ∧ pairV H10 v = none := by
        intro v hv
        simp only [List.mem_cons, List.not_mem_nil, or_false] at hv
        rcases hv with rfl | rfl | rfl | rfl | rfl | rfl | rfl | rfl
        · exact ⟨.non, rfl⟩
        · exact ⟨.tup g1 (fun z hz => by simp at hz; subst hz; exact wh_int), by simp only [pairV, g1]; rfl⟩
        · exact ⟨.lst g2, by simp only [pairV, g2]⟩
        · exact ⟨.tup g3 (fun z hz => by simp at hz; rcases hz with rfl | rfl; exact wh_int; exact wh_bl), by simp only [pairV, g3]; rfl⟩
        · exact ⟨.tup g4 (fun z hz => by simp at hz; subst hz; exact wh_int), by simp only [pairV, g4]; rfl⟩
        · exact ⟨.str _, rfl⟩
        · exact ⟨.int _, rfl⟩
        · exact ⟨.tup g5 (fun z hz => by simp at hz; rcases hz with rfl | rfl; exact wh_non; exact wh_int), by simp only [pairV, g5]; rfl⟩
      clear N4 E4 s5 h5 s6 h6 s7 h7 s8 h8 s9 h9 s10 S9 g1 g2 g3 g4 g5
      refine st_forL (fun R r => r) h10 (fun j σ' H' => ∃ ro od, σ' = [some (V.ref t), ro, some (V.ref p), od] ∧ NR K H' t p dx w s h ∧ ExtN H H' ∧ H' M = some (.lst [V.non, .ref p1, .ref p2, .ref p3, .ref p4, .str "00", .int 5, .ref p5]) ∧
        ∀ v ∈ [V.non, .ref p1, .ref p2, .ref p3, .ref p4, .str "00", .int 5, .ref p5], PairK K H' v ∧ pairV H' v = none) ⟨_, _, rfl, N10, E10, h10, O10⟩ (fun _ _ _ h => by obtain ⟨_, _, _, _, _, h, _⟩ := h; exact h) ?_ ?_
      · clear N10 E10 h10 O10
        rintro j v _ H4 hv ⟨ro, od, rfl, N4, E4, h4, OO⟩
        obtain ⟨Ok, On⟩ := OO v (List.mem_of_getElem? hv)
        simp only [exists_and_left, lkLa, lkLb, lkLd, lkLn_area, lkLn_place, lkLn_order, lkLn_places, tSl, tPart, tNoPart, rSlLN, rMax2, rMin2, gUnlN, tYes, rLenS, cx_K, Value.ref.injEq, HO.xd.injEq, lk0, tSeq, tPar3, tPar, tCons, tNil, tVar, tC, tAsg, gName, gCons, gNil, gTupN, gSub, tOp, rI, rI0, rU, tTest, rNe, rEq, rIxTN, rIxLN, rLenL, rLenT, rIntI, rIntB, rAbs, rSetLN, tTruL, tRaiseX, rIsTy, rIsOw, ixN0, ixN1, tRet, tIf, tIfS, tNext, tBreak, tCont, tDrop, tTupN, tLstN, tUn, tCB, tCall, tNot, tAnd, tOr, tB, tAndV, tOrV, tNotV, tChain, tApp, LamX.tLam, tRevLN, rCatN, rInTN, rInLN, flatV, inV, List.all_cons, List.all_nil, List.any_cons, List.any_nil, Bool.and_self, Bool.and_true, if_true, Bool.false_eq_true, if_false, tMt, tFldN, tSto, HO.ins.injEq, lkh, List.drop_zero, List.drop_succ_cons, List.drop_nil, rListS, wipe, L2.start, List.map_cons, List.map_nil, List.length_cons, List.length_nil, List.replicate, List.cons_append, List.nil_append, List.append_nil, Nat.reduceAdd, Nat.reduceSub, Nat.zero_add, List.replicate_succ, List.replicate_zero, List.getElem?_cons_zero, List.getElem?_cons_succ, List.set_cons_zero, List.set_cons_succ, Option.some.injEq, V.int.injEq, V.bl.injEq, V.ref.injEq, V.str.injEq, V.ty.injEq, List.cons.injEq, HO.tup.injEq, HO.lst.injEq, and_true, true_and, and_assoc, exists_eq_left, exists_eq_left', exists_and_left, exists_eq', atI0, atI1, atI2, atI3, Int.cast_ofNat_Int, Int.reduceToNat, scal_ii, scal_in, scal_ni, scal_nn, scal_bb, scal_ss, scal_sn, scal_ns, scal_bn, scal_nb, ite_iff, decide_eq_true_eq, decide_eq_false_iff_not, Bool.not_eq_true', Classical.not_not, ne_eq, not_false_eq_true, not_true_eq_false, forall_const, true_implies, false_implies, imp_self, sizeLine_eq, Nat.reduceLeDiff, reduceCtorEq, decide_true, decide_false]
        refine told_part N4.hT (fun H7 Q E e r => ⟨dx, _, extI e N4.L, lkLn_place, p, v, rfl, dx, w, s, h, extI e N4.L, B, Ok.ext e, fun _ => r, fun x y e2 => (by rw [Ok.sameX e, On] at e2; cases e2), fun x y e2 => (by rw [Ok.sameX e, On] at e2; cases e2)⟩) (fun H7 q7 e7 hT7 h7 => ?_)
        have N7 := N4.ext hT7 e7
        intro u H8 _ s8 h8
        intro R H9 _ s9 h9
        have h79 := s9 _ _ (s8 _ _ h7)
        have h89 := s9 _ _ h8
        have okp : PyData.strOk "part" = true := by decide +kernel
        have okc : PyData.strOk "cell" = true := by decide +kernel
        have oks : PyData.strOk "shift" = true := by decide +kernel
        refine ⟨R, rfl, _, h9, _, atI0, ?_⟩
        intro c H10 _ s10 h10
        have e10 : ExtN H4 H10 := e7.trans (extS ((s8.trans s9).trans s10))
        have N10 := ((N7.same s8).same s9).same s10
        refine ne_sameN (dp_l2 (s10 _ _ h79)) (dp_l2 h10) (sh_l2 (n := 0) okp okc) ⟨false, rfl, fun e => (by cases e), fun _ => ?_⟩
        refine told_part N10.hT (fun H11 Q E e r => ⟨dx, _, extI e N10.L, lkLn_order, p, v, rfl, dx, w, s, h, extI e N10.L, B, Ok.ext (e10.trans e), fun _ => r, fun x y e2 => (by rw [Ok.sameX (e10.trans e), On] at e2; cases e2)⟩) (fun H11 q11 e11 hT11 h11 => ?_)
        have N11 := N10.ext hT11 e11
        have e4 := e10.trans e11
        refine ⟨R, rfl, _, extL e11 (s10 _ _ h9), _, atI1, ?_⟩
        refine ne_sameN (dp_l2 h11) (dp_l2 (extL e11 (s10 _ _ h89))) (sh_l2 (n := 0) okp oks) ⟨false, rfl, fun e => (by cases e), fun _ => ?_⟩
        refine own_in N11.L ⟨p, v, rfl, dx, w, s, h, N11.L, B, Ok.ext e4, fun x y e2 => (by rw [Ok.sameX e4, On] at e2; cases e2), fun H12 s12 => ?_⟩
        have e12 := e4.trans (extS s12)
        rw [Ok.sameX e4, On]
        refine ⟨false, rfl, false, rfl, fun e => (by cases e), fun _ => ⟨v, rfl, Ok.ext e12, ?_⟩⟩
        rw [Ok.sameX e12, On]
        exact ⟨false, rfl, fun e => (by cases e), fun _ => ⟨N11.same s12, E4.trans e12, extL e12 h4, fun v' hv' => by
          obtain ⟨o1, o2⟩ := OO v' hv'
          exact ⟨o1.ext e12, by rw [o1.sameX e12, o2]⟩⟩⟩
      · rintro _ H5 ⟨ro, od, rfl, N5, E5, _, _⟩
        have hT5 := N5.T
        simp only [hT5, spPair, exists_and_left, tSl, tPart, tNoPart, rSlLN, rMax2, rMin2, gUnlN, tYes, rLenS, cx_K, Value.ref.injEq, HO.xd.injEq, lk0, tSeq, tPar3, tPar, tCons, tNil, tVar, tC, tAsg, gName, gCons, gNil, gTupN, gSub, tOp, rI, rI0, rU, tTest, rNe, rEq, rIxTN, rIxLN, rLenL, rLenT, rIntI, rIntB, rAbs, rSetLN, tTruL, tRaiseX, rIsTy, rIsOw, ixN0, ixN1, tRet, tIf, tIfS, tNext, tBreak, tCont, tDrop, tTupN, tLstN, tUn, tCB, tCall, tNot, tAnd, tOr, tB, tAndV, tOrV, tNotV, tChain, tApp, LamX.tLam, tRevLN, rCatN, rInTN, rInLN, flatV, inV, List.all_cons, List.all_nil, List.any_cons, List.any_nil, Bool.and_self, Bool.and_true, if_true, Bool.false_eq_true, if_false, tMt, tFldN, tSto, HO.ins.injEq, lkh, List.drop_zero, List.drop_succ_cons, List.drop_nil, rListS, wipe, L2.start, List.map_cons, List.map_nil, List.length_cons, List.length_nil, List.replicate, List.cons_append, List.nil_append, List.append_nil, Nat.reduceAdd, Nat.reduceSub, Nat.zero_add, List.replicate_succ, List.replicate_zero, List.getElem?_cons_zero, List.getElem?_cons_succ, List.set_cons_zero, List.set_cons_succ, Option.some.injEq, V.int.injEq, V.bl.injEq, V.ref.injEq, V.str.injEq, V.ty.injEq, List.cons.injEq, HO.tup.injEq, HO.lst.injEq, and_true, true_and, and_assoc, exists_eq_left, exists_eq_left', exists_and_left, exists_eq', atI0, atI1, atI2, atI3, Int.cast_ofNat_Int, Int.reduceToNat, scal_ii, scal_in, scal_ni, scal_nn, scal_bb, scal_ss, scal_sn, scal_ns, scal_bn, scal_nb, ite_iff, decide_eq_true_eq, decide_eq_false_iff_not, Bool.not_eq_true', Classical.not_not, ne_eq, not_false_eq_true, not_true_eq_false, forall_const, true_implies, false_implies, imp_self, sizeLine_eq, Nat.reduceLeDiff, reduceCtorEq, decide_true, decide_false]
        intro c H6 _ s6 h6
        refine ⟨P2.k h6, ?_⟩
        rw [pairV_of h6]
        exact k H6 (E5.trans (extS s6)) (N5.same s6).hT

end
end Iz
/-! k08_j -/
set_option Elab.async false
set_option linter.all false
set_option maxRecDepth 100000
set_option maxHeartbeats 4000000
namespace Iz
open PySem PySem.Spec PyProof.Rows L2
open He (ga)
local macro_rules | `(tactic| walk_at "wp") => `(tactic| simp only [tSl, tPart, tNoPart, rSlLN, rMax2, rMin2, gUnlN, tYes, rLenS, cx_K, Value.ref.injEq, HO.xd.injEq, lk0, tSeq, tPar3, tPar, tCons, tNil, tVar, tC, tAsg, gName, gCons, gNil, gTupN, gSub, tOp, rI, rI0, rU, tTest, rNe, rEq, rIxTN, rIxLN, rLenL, rLenT, rIntI, rIntB, rAbs, rSetLN, tTruL, tRaiseX, rIsTy, rIsOw, ixN0, ixN1, tRet, tIf, tIfS, tNext, tBreak, tCont, tDrop, tTupN, tLstN, tUn, tCB, tCall, tNot, tAnd, tOr, tB, tAndV, tOrV, tNotV, tChain, tApp, LamX.tLam, tRevLN, rCatN, rInTN, rInLN, flatV, inV, List.all_cons, List.all_nil, List.any_cons, List.any_nil, Bool.and_self, Bool.and_true, if_true, Bool.false_eq_true, if_false, tMt, tFldN, tSto, HO.ins.injEq, lkh, List.drop_zero, List.drop_succ_cons, List.drop_nil, rListS, wipe, L2.start, List.map_cons, List.map_nil, List.length_cons, List.length_nil, List.replicate, List.cons_append, List.nil_append, List.append_nil, Nat.reduceAdd, Nat.reduceSub, Nat.zero_add, List.replicate_succ, List.replicate_zero, List.getElem?_cons_zero, List.getElem?_cons_succ, List.set_cons_zero, List.set_cons_succ, Option.some.injEq, V.int.injEq, V.bl.injEq, V.ref.injEq, V.str.injEq, V.ty.injEq, List.cons.injEq, HO.tup.injEq, HO.lst.injEq, and_true, true_and, and_assoc, exists_eq_left, exists_eq_left', exists_and_left, exists_eq', atI0, atI1, atI2, atI3, Int.cast_ofNat_Int, Int.reduceToNat, scal_ii, scal_in, scal_ni, scal_nn, scal_bb, scal_ss, scal_sn, scal_ns, scal_bn, scal_nb, ite_iff, decide_eq_true_eq, decide_eq_false_iff_not, Bool.not_eq_true', Classical.not_not, ne_eq, not_false_eq_true, not_true_eq_false, forall_const, true_implies, false_implies, imp_self, sizeLine_eq, Nat.reduceLeDiff, reduceCtorEq, decide_true, decide_false])
section
variable {P : Program} {w : World} {K : PySem.W.Frag} {mg : Str → Option Value} {base : Heap}
open LamX
theorem Tabs.stpP {a P : Addr} {q : Str} {H H' : Hp} (hT : Tabs [(P, q)] H) (hP : Po H a) (e : StpP a H H') : Tabs [(P, q)] H' := by
  intro p hp
  obtain ⟨ps, h1, h2, h3⟩ := hT p hp
  refine ⟨ps, e.at hP h1 (fun g s z => by cases z), h2, fun pos cv hcv => ?_⟩
  obtain ⟨c0, e1, e2⟩ := h3 pos cv hcv
  exact ⟨c0, e1, e.at hP e2 (fun g s z => by unfold CodeO at z; cases z)⟩
/-- a turn of the law: what stood before stands, the pool is new -/
structure LP (K : PySem.W.Frag) (H0 H : Hp) (a : Addr) : Prop where
  P : Po H a
  n : ∀ b o, H0 b = some o → (∀ ps, o ≠ .tbl ps) → b ≠ a
  E : ExtN H0 H
  hT : Tabs (TbN K) H
section
variable {H0 H H' : Hp} {a : Addr}
theorem LP.same (x : LP K H0 H a) (s : Same H H') : LP K H0 H' a := ⟨x.P.same s, x.n, x.E.trans (extS s), Tabs.ext x.hT s⟩
theorem LP.stp (x : LP K H0 H a) (P : Po H' a) (s : StpP a H H') : LP K H0 H' a := ⟨P, x.n, fun b o h n => s b o (x.E b o h n) (x.n b o h n), Tabs.stpP x.hT x.P s⟩
end
theorem LB.of {w s h : Int} (w1 : 1 ≤ w) (w2 : w ≤ 100000000000000000000) (s0 : 0 ≤ s) (s1 : s < w) (h1 : 1 ≤ h) (h2 : h ≤ 100000000000000000000) : LB w s h ∧ w.natAbs < 2 ^ 100 ∧ h.natAbs < 2 ^ 100 := by
  have a : w.natAbs < 2 ^ 100 := by omega
  have b : h.natAbs < 2 ^ 100 := by omega
  exact ⟨⟨w1, s0, s1, h1, pow_small a (by decide), pow_small b (by decide)⟩, a, b⟩
/-- a list of two lattices' numbers -/
def Two (H : Hp) (v : V) : Prop := ∃ q x y w s h w2 s2 h2, v = V.ref q ∧ H q = some (.lst [.ref x, .ref y]) ∧ T3 H x w s h ∧ LB w s h ∧ T3 H y w2 s2 h2 ∧ LB w2 s2 h2
theorem Two.same {H H' : Hp} {v : V} (t : Two H v) (e : Same H H') : Two H' v := let ⟨q, x, y, w, s, h, w2, s2, h2, a, b, c, d, f, g⟩ := t; ⟨q, x, y, w, s, h, w2, s2, h2, a, e _ _ b, e _ _ c, d, e _ _ f, g⟩
def spLaw (K : PySem.W.Frag) : Sp := fun vs H Q _ => ∃ sc, vs = [.ref sc] ∧ ∃ ns : List Int, SqL K H sc (ns.map V.int) ∧ ns.length ≤ 63 ∧ Tabs (TbN K) H ∧ ∀ H', Q (.bl true) H'
theorem o_law (T : Txt K mg) (TB : TabB base mg (cOf K "_law_none_right") (pOf K "_law_none_right")) {f : Addr} {fd : FuncData} (F : Fun K "law" "law" s_law f fd) : FnOk P w K mg base (L2.CX P w) 11 f fd ["_law_script"] (spLaw K) := by
  have o__law_opened := o__law_opened (P := P) (w := w) (base := base) T
  have o__law_draw := o__law_draw (P := P) (w := w) (base := base) T
  have o__law_pick := o__law_pick (P := P) (w := w) (base := base) T
  have o__law_three := o__law_three (P := P) (w := w) (base := base) T
  have o__law_told_right := o__law_told_right (P := P) (w := w) (base := base) T
  have o__law_within_right := o__law_within_right (P := P) (w := w) (base := base) T
  have o__law_none_right := o__law_none_right (P := P) (w := w) (base := base) T TB
  refine F.okX sc_law (fun vs H Q E h => ?_) (fun cdv A outer s H vs Q E hr h => ?_)
  · first | (obtain ⟨_, rfl, _⟩ := h; rfl) | (obtain ⟨_, _, rfl, _⟩ := h; rfl) | (obtain ⟨_, _, _, rfl, _⟩ := h; rfl) | (obtain ⟨_, _, _, _, rfl, _⟩ := h; rfl) | (obtain ⟨_, _, _, _, _, rfl, _⟩ := h; rfl) | (obtain ⟨_, _, _, _, _, _, rfl, _⟩ := h; rfl) | (obtain ⟨_, _, _, _, _, _, _, rfl, _⟩ := h; rfl)
  have hu64 := hr.units
  refine ⟨_, pss_cons (ps_for (passes_of rfl) rfl (pi_range1 rfl T.m_range (pa_cons (pe_callB (call_max2N rfl) (by rfl) T.m_max (by decide +kernel) (pa_cons (pe_int) (pa_cons (pe_callB (call_min2N rfl) (by rfl) T.m_min (by decide +kernel) (pa_cons (pe_int) (pa_cons (pe_callB call_lenS (by rfl) T.m_len (by decide +kernel) (pa_cons (pv 0) pa_nil)) pa_nil))) pa_nil))) pa_nil)) (pg_name (i := 1) sc_law.nd rfl (Or.inl rfl)) (pss_cons (ps_set (i := 2) sc_law.nd rfl (Or.inl rfl) (pcl o__law_opened (hr.mono (by decide)) pass0 (pa_cons (pv 0) (pa_cons (pv 1) pa_nil))))
      (pss_cons (ps_par (i := 3) (j := 4) (by rfl) sc_law.nd rfl rfl (by decide) rfl rfl (pa_cons (pcl o__law_three (hr.mono (by decide)) pass0 (pa_cons (pv 2) (pa_cons (pe_int) pa_nil))) (pa_cons (pcl o__law_three (hr.mono (by decide)) pass0 (pa_cons (pv 2) (pa_cons (pe_op op_pow (pe_int) (pe_int)) pa_nil))) pa_nil)) (by rfl))
      (pss_cons (ps_cut (ps_if (PW.pt (pw_or (pt_not (pt_val (pcl o__law_told_right (hr.mono (by decide)) pass0 (pa_cons (pv 2) (pa_cons (pv 3) pa_nil))))) (pw_or1 (pt_not (pt_val (pcl o__law_told_right (hr.mono (by decide)) pass0 (pa_cons (pv 2) (pa_cons (pv 4) pa_nil)))))))) (pss_one (ps_ret (pe_bl))) (pss_nil)))
      (pss_cons (ps_set (i := 5) sc_law.nd rfl (Or.inl rfl) (pcl o__law_pick (hr.mono (by decide)) pass0 (pa_cons (pv 2) (pa_cons (pe_lstN (pa_cons (pcl o__law_three (hr.mono (by decide)) pass0 (pa_cons (pv 2) (pa_cons (pe_int) pa_nil))) (pa_cons (pcl o__law_three (hr.mono (by decide)) pass0 (pa_cons (pv 2) (pa_cons (pe_int) pa_nil))) (pa_cons (pv 3) pa_nil)))) pa_nil))))
      (pss_cons (ps_set (i := 6) sc_law.nd rfl (Or.inl rfl) (pe_lstN (pa_cons (pe_op op_mul (pe_ix ix_listN (pv 3) (pe_int) (fun _ _ => rfl)) (pe_int)) (pa_cons (pe_op op_mod (pe_op op_add (pe_op op_mul (pe_ix ix_listN (pv 3) (pe_int) (fun _ _ => rfl)) (pe_int)) (pe_op op_mulW (pe_ix ix_listN (pv 3) (pe_int) (fun _ _ => rfl)) (pcl o__law_draw (hr.mono (by decide)) pass0 (pa_cons (pv 2) (pa_cons (pe_int) pa_nil))))) (pe_op op_mul (pe_ix ix_listN (pv 3) (pe_int) (fun _ _ => rfl)) (pe_int))) (pa_cons (pe_op op_mul (pe_ix ix_listN (pv 3) (pe_int) (fun _ _ => rfl)) (pe_int)) pa_nil)))))
      (pss_cons (ps_for (passes_of rfl) rfl (pi_list (pe_lstN (pa_cons (pe_lstN (pa_cons (pv 3) (pa_cons (pv 5) pa_nil))) (pa_cons (pe_lstN (pa_cons (pv 5) (pa_cons (pv 3) pa_nil))) (pa_cons (pe_lstN (pa_cons (pv 6) (pa_cons (pv 3) pa_nil))) (pa_cons (pe_lstN (pa_cons (pv 3) (pa_cons (pv 6) pa_nil))) (pa_cons (pe_lstN (pa_cons (pv 4) (pa_cons (pv 3) pa_nil))) pa_nil))))))) (pg_name (i := 7) sc_law.nd rfl (Or.inl rfl)) (pss_one (ps_if (pt_not (pt_val (pcl o__law_within_right (hr.mono (by decide)) pass0 (pa_cons (pe_ix ix_listN (pv 7) (pe_int) (fun _ _ => rfl)) (pa_cons (pe_ix ix_listN (pv 7) (pe_int) (fun _ _ => rfl)) pa_nil))))) (pss_one (ps_ret (pe_bl))) (pss_nil))))
      (pss_one (ps_if (PW.pt (pw_or (pt_not (pt_val (pcl o__law_none_right (hr.mono (by decide)) passE (pa_cons (pv 3) pa_nil)))) (pw_or1 (pt_not (pt_val (pcl o__law_none_right (hr.mono (by decide)) passE (pa_cons (pv 4) pa_nil))))))) (pss_one (ps_ret (pe_bl))) (pss_nil))))))))))
      (pss_one (ps_ret (pe_bl))), ?_⟩
  obtain ⟨sc, rfl, ns, hsc, hns, hT, k⟩ := h
  simp only [exists_and_left, tSl, tPart, tNoPart, rSlLN, rMax2, rMin2, gUnlN, tYes, rLenS, cx_K, Value.ref.injEq, HO.xd.injEq, lk0, tSeq, tPar3, tPar, tCons, tNil, tVar, tC, tAsg, gName, gCons, gNil, gTupN, gSub, tOp, rI, rI0, rU, tTest, rNe, rEq, rIxTN, rIxLN, rLenL, rLenT, rIntI, rIntB, rAbs, rSetLN, tTruL, tRaiseX, rIsTy, rIsOw, ixN0, ixN1, tRet, tIf, tIfS, tNext, tBreak, tCont, tDrop, tTupN, tLstN, tUn, tCB, tCall, tNot, tAnd, tOr, tB, tAndV, tOrV, tNotV, tChain, tApp, LamX.tLam, tRevLN, rCatN, rInTN, rInLN, flatV, inV, List.all_cons, List.all_nil, List.any_cons, List.any_nil, Bool.and_self, Bool.and_true, if_true, Bool.false_eq_true, if_false, tMt, tFldN, tSto, HO.ins.injEq, lkh, List.drop_zero, List.drop_succ_cons, List.drop_nil, rListS, wipe, L2.start, List.map_cons, List.map_nil, List.length_cons, List.length_nil, List.replicate, List.cons_append, List.nil_append, List.append_nil, Nat.reduceAdd, Nat.reduceSub, Nat.zero_add, List.replicate_succ, List.replicate_zero, List.getElem?_cons_zero, List.getElem?_cons_succ, List.set_cons_zero, List.set_cons_succ, Option.some.injEq, V.int.injEq, V.bl.injEq, V.ref.injEq, V.str.injEq, V.ty.injEq, List.cons.injEq, HO.tup.injEq, HO.lst.injEq, and_true, true_and, and_assoc, exists_eq_left, exists_eq_left', exists_and_left, exists_eq', atI0, atI1, atI2, atI3, Int.cast_ofNat_Int, Int.reduceToNat, scal_ii, scal_in, scal_ni, scal_nn, scal_bb, scal_ss, scal_sn, scal_ns, scal_bn, scal_nb, ite_iff, decide_eq_true_eq, decide_eq_false_iff_not, Bool.not_eq_true', Classical.not_not, ne_eq, not_false_eq_true, not_true_eq_false, forall_const, true_implies, false_implies, imp_self, sizeLine_eq, Nat.reduceLeDiff, reduceCtorEq, decide_true, decide_false]
  refine st_forR1 (max 1 (min 6 (ns.length : Int))) (by omega) (fun R r => ?_) (fun i σ' H' => ExtN H H' ∧ Tabs (TbN K) H' ∧ ∃ x1 x2 x3 x4 x5 x6 x7, σ' = [some (V.ref sc), x1, x2, x3, x4, x5, x6, x7]) ⟨ExtN.refl H, hT, _, _, _, _, _, _, _, rfl⟩ ?_ ?_
  · simp only [exists_and_left, tSl, tPart, tNoPart, rSlLN, rMax2, rMin2, gUnlN, tYes, rLenS, cx_K, Value.ref.injEq, HO.xd.injEq, lk0, tSeq, tPar3, tPar, tCons, tNil, tVar, tC, tAsg, gName, gCons, gNil, gTupN, gSub, tOp, rI, rI0, rU, tTest, rNe, rEq, rIxTN, rIxLN, rLenL, rLenT, rIntI, rIntB, rAbs, rSetLN, tTruL, tRaiseX, rIsTy, rIsOw, ixN0, ixN1, tRet, tIf, tIfS, tNext, tBreak, tCont, tDrop, tTupN, tLstN, tUn, tCB, tCall, tNot, tAnd, tOr, tB, tAndV, tOrV, tNotV, tChain, tApp, LamX.tLam, tRevLN, rCatN, rInTN, rInLN, flatV, inV, List.all_cons, List.all_nil, List.any_cons, List.any_nil, Bool.and_self, Bool.and_true, if_true, Bool.false_eq_true, if_false, tMt, tFldN, tSto, HO.ins.injEq, lkh, List.drop_zero, List.drop_succ_cons, List.drop_nil, rListS, wipe, L2.start, List.map_cons, List.map_nil, List.length_cons, List.length_nil, List.replicate, List.cons_append, List.nil_append, List.append_nil, Nat.reduceAdd, Nat.reduceSub, Nat.zero_add, List.replicate_succ, List.replicate_zero, List.getElem?_cons_zero, List.getElem?_cons_succ, List.set_cons_zero, List.set_cons_succ, Option.some.injEq, V.int.injEq, V.bl.injEq, V.ref.injEq, V.str.injEq, V.ty.injEq, List.cons.injEq, HO.tup.injEq, HO.lst.injEq, and_true, true_and, and_assoc, exists_eq_left, exists_eq_left', exists_and_left, exists_eq', atI0, atI1, atI2, atI3, Int.cast_ofNat_Int, Int.reduceToNat, scal_ii, scal_in, scal_ni, scal_nn, scal_bb, scal_ss, scal_sn, scal_ns, scal_bn, scal_nb, ite_iff, decide_eq_true_eq, decide_eq_false_iff_not, Bool.not_eq_true', Classical.not_not, ne_eq, not_false_eq_true, not_true_eq_false, forall_const, true_implies, false_implies, imp_self, sizeLine_eq, Nat.reduceLeDiff, reduceCtorEq, decide_true, decide_false]
    exact ⟨_, hsc, by simpa using r⟩
  · rintro i _ H3 hi ⟨E3, T3', x1, x2, x3, x4, x5, x6, x7, rfl⟩
    have e20 : (10 : Int) ^ (20 : Int).toNat = 100000000000000000000 := rfl
    simp only [spOpened, spThree, e20, exists_and_left, tSl, tPart, tNoPart, rSlLN, rMax2, rMin2, gUnlN, tYes, rLenS, cx_K, Value.ref.injEq, HO.xd.injEq, lk0, tSeq, tPar3, tPar, tCons, tNil, tVar, tC, tAsg, gName, gCons, gNil, gTupN, gSub, tOp, rI, rI0, rU, tTest, rNe, rEq, rIxTN, rIxLN, rLenL, rLenT, rIntI, rIntB, rAbs, rSetLN, tTruL, tRaiseX, rIsTy, rIsOw, ixN0, ixN1, tRet, tIf, tIfS, tNext, tBreak, tCont, tDrop, tTupN, tLstN, tUn, tCB, tCall, tNot, tAnd, tOr, tB, tAndV, tOrV, tNotV, tChain, tApp, LamX.tLam, tRevLN, rCatN, rInTN, rInLN, flatV, inV, List.all_cons, List.all_nil, List.any_cons, List.any_nil, Bool.and_self, Bool.and_true, if_true, Bool.false_eq_true, if_false, tMt, tFldN, tSto, HO.ins.injEq, lkh, List.drop_zero, List.drop_succ_cons, List.drop_nil, rListS, wipe, L2.start, List.map_cons, List.map_nil, List.length_cons, List.length_nil, List.replicate, List.cons_append, List.nil_append, List.append_nil, Nat.reduceAdd, Nat.reduceSub, Nat.zero_add, List.replicate_succ, List.replicate_zero, List.getElem?_cons_zero, List.getElem?_cons_succ, List.set_cons_zero, List.set_cons_succ, Option.some.injEq, V.int.injEq, V.bl.injEq, V.ref.injEq, V.str.injEq, V.ty.injEq, List.cons.injEq, HO.tup.injEq, HO.lst.injEq, and_true, true_and, and_assoc, exists_eq_left, exists_eq_left', exists_and_left, exists_eq', atI0, atI1, atI2, atI3, Int.cast_ofNat_Int, Int.reduceToNat, scal_ii, scal_in, scal_ni, scal_nn, scal_bb, scal_ss, scal_sn, scal_ns, scal_bn, scal_nb, ite_iff, decide_eq_true_eq, decide_eq_false_iff_not, Bool.not_eq_true', Classical.not_not, ne_eq, not_false_eq_true, not_true_eq_false, forall_const, true_implies, false_implies, imp_self, sizeLine_eq, Nat.reduceLeDiff, reduceCtorEq, decide_true, decide_false]
    refine ⟨ns, sqL_ext hsc E3, by omega, by omega, fun a H4 ha s4 P4 => ?_⟩
    have W4 : LP K H H4 a := ⟨P4, fun b o h n => ne_of_none (E3 b o h n) ha, E3.trans (extS s4), Tabs.ext T3' s4⟩
    clear E3 T3' ha s4
    refine ⟨P4, by decide, by decide, fun t1 w s h H5 w1 w9 s0 s1 h1 h9 P5 t5 h5 => ?_⟩
    have W5 := W4.stp P5 t5
    refine ⟨⟨by decide, by decide, by decide⟩, P5, by decide, by decide, fun t2 gw gs gh H6 gw1 gw9 gs0 gs1 gh1 gh9 P6 t6 h6 => ?_⟩
    have W6 := W5.stp P6 t6
    have h56 := T3.stp h5 P5 t6
    obtain ⟨B1, bw1, bh1⟩ := LB.of w1 (by omega) s0 s1 h1 (by omega)
    obtain ⟨B2, bw2, bh2⟩ := LB.of gw1 gw9 gs0 gs1 gh1 gh9
    clear W4 P4 P5 t5 h5 W5 P6 t6
    refine ⟨fun σ' H' => σ' = [some (V.ref sc), some (V.int i), some (V.ref a), some (V.ref t1), some (V.ref t2), x5, x6, x7] ∧ LP K H H' a ∧ T3 H' t1 w s h ∧ T3 H' t2 gw gs gh, ?_, ?_⟩
    · simp only [spTold, exists_and_left, tSl, tPart, tNoPart, rSlLN, rMax2, rMin2, gUnlN, tYes, rLenS, cx_K, Value.ref.injEq, HO.xd.injEq, lk0, tSeq, tPar3, tPar, tCons, tNil, tVar, tC, tAsg, gName, gCons, gNil, gTupN, gSub, tOp, rI, rI0, rU, tTest, rNe, rEq, rIxTN, rIxLN, rLenL, rLenT, rIntI, rIntB, rAbs, rSetLN, tTruL, tRaiseX, rIsTy, rIsOw, ixN0, ixN1, tRet, tIf, tIfS, tNext, tBreak, tCont, tDrop, tTupN, tLstN, tUn, tCB, tCall, tNot, tAnd, tOr, tB, tAndV, tOrV, tNotV, tChain, tApp, LamX.tLam, tRevLN, rCatN, rInTN, rInLN, flatV, inV, List.all_cons, List.all_nil, List.any_cons, List.any_nil, Bool.and_self, Bool.and_true, if_true, Bool.false_eq_true, if_false, tMt, tFldN, tSto, HO.ins.injEq, lkh, List.drop_zero, List.drop_succ_cons, List.drop_nil, rListS, wipe, L2.start, List.map_cons, List.map_nil, List.length_cons, List.length_nil, List.replicate, List.cons_append, List.nil_append, List.append_nil, Nat.reduceAdd, Nat.reduceSub, Nat.zero_add, List.replicate_succ, List.replicate_zero, List.getElem?_cons_zero, List.getElem?_cons_succ, List.set_cons_zero, List.set_cons_succ, Option.some.injEq, V.int.injEq, V.bl.injEq, V.ref.injEq, V.str.injEq, V.ty.injEq, List.cons.injEq, HO.tup.injEq, HO.lst.injEq, and_true, true_and, and_assoc, exists_eq_left, exists_eq_left', exists_and_left, exists_eq', atI0, atI1, atI2, atI3, Int.cast_ofNat_Int, Int.reduceToNat, scal_ii, scal_in, scal_ni, scal_nn, scal_bb, scal_ss, scal_sn, scal_ns, scal_bn, scal_nb, ite_iff, decide_eq_true_eq, decide_eq_false_iff_not, Bool.not_eq_true', Classical.not_not, ne_eq, not_false_eq_true, not_true_eq_false, forall_const, true_implies, false_implies, imp_self, sizeLine_eq, Nat.reduceLeDiff, reduceCtorEq, decide_true, decide_false]
      exact ⟨W6.P, w, s, h, h56, B1, bw1, bh1, fun H7 P7 t7 => ⟨P7, gw, gs, gh, h6.stp W6.P t7, B2, bw2, bh2, fun H8 P8 t8 => ⟨(W6.stp P7 t7).stp P8 t8, (h56.stp W6.P t7).stp P7 t8, (h6.stp W6.P t7).stp P7 t8⟩⟩⟩
    · clear W6 h6 h56
      rintro _ H6 ⟨rfl, W6, h56, h6⟩
      simp only [spThree, spPick, exists_and_left, tSl, tPart, tNoPart, rSlLN, rMax2, rMin2, gUnlN, tYes, rLenS, cx_K, Value.ref.injEq, HO.xd.injEq, lk0, tSeq, tPar3, tPar, tCons, tNil, tVar, tC, tAsg, gName, gCons, gNil, gTupN, gSub, tOp, rI, rI0, rU, tTest, rNe, rEq, rIxTN, rIxLN, rLenL, rLenT, rIntI, rIntB, rAbs, rSetLN, tTruL, tRaiseX, rIsTy, rIsOw, ixN0, ixN1, tRet, tIf, tIfS, tNext, tBreak, tCont, tDrop, tTupN, tLstN, tUn, tCB, tCall, tNot, tAnd, tOr, tB, tAndV, tOrV, tNotV, tChain, tApp, LamX.tLam, tRevLN, rCatN, rInTN, rInLN, flatV, inV, List.all_cons, List.all_nil, List.any_cons, List.any_nil, Bool.and_self, Bool.and_true, if_true, Bool.false_eq_true, if_false, tMt, tFldN, tSto, HO.ins.injEq, lkh, List.drop_zero, List.drop_succ_cons, List.drop_nil, rListS, wipe, L2.start, List.map_cons, List.map_nil, List.length_cons, List.length_nil, List.replicate, List.cons_append, List.nil_append, List.append_nil, Nat.reduceAdd, Nat.reduceSub, Nat.zero_add, List.replicate_succ, List.replicate_zero, List.getElem?_cons_zero, List.getElem?_cons_succ, List.set_cons_zero, List.set_cons_succ, Option.some.injEq, V.int.injEq, V.bl.injEq, V.ref.injEq, V.str.injEq, V.ty.injEq, List.cons.injEq, HO.tup.injEq, HO.lst.injEq, and_true, true_and, and_assoc, exists_eq_left, exists_eq_left', exists_and_left, exists_eq', atI0, atI1, atI2, atI3, Int.cast_ofNat_Int, Int.reduceToNat, scal_ii, scal_in, scal_ni, scal_nn, scal_bb, scal_ss, scal_sn, scal_ns, scal_bn, scal_nb, ite_iff, decide_eq_true_eq, decide_eq_false_iff_not, Bool.not_eq_true', Classical.not_not, ne_eq, not_false_eq_true, not_true_eq_false, forall_const, true_implies, false_implies, imp_self, sizeLine_eq, Nat.reduceLeDiff, reduceCtorEq, decide_true, decide_false]
      refine ⟨W6.P, by decide, by decide, fun u4 w4 c4 h4 H7 w41 w42 c40 c41 h41 h42 P7 t7 e7 => ⟨P7, by decide, by decide, fun u9 w9 c9 h9 H8 w91 w92 c90 c91 h91 h92 P8 t8 e8 => ?_⟩⟩
      have W8 := (W6.stp P7 t7).stp P8 t8
      have f1 := (h56.stp W6.P t7).stp P7 t8
      have f2 := (h6.stp W6.P t7).stp P7 t8
      have f4 := e7.stp P7 t8
      intro L H9 hL s9 hL9
      have La : L ≠ a := by obtain ⟨_, _, z⟩ := W8.P; exact (ne_of_none z hL).symm
      refine ⟨L, rfl, W8.P.same s9, La, _, hL9, by simp, by simp, fun v H10 hv P10 t10 => ?_⟩
      have W10 := (W8.same s9).stp P10 t10
      have P9 := W8.P.same s9
      have st : ∀ {o : Addr} {p q r : Int}, T3 H8 o p q r → T3 H10 o p q r := fun z => T3.stp (s9 _ _ z) P9 t10
      obtain ⟨o, ow, os, oh, rfl, ho, Bo⟩ : ∃ o ow os oh, v = V.ref o ∧ T3 H10 o ow os oh ∧ LB ow os oh := by
        simp only [List.mem_cons, List.not_mem_nil, or_false] at hv
        rcases hv with rfl | rfl | rfl
        · exact ⟨_, _, _, _, rfl, st f4, (LB.of w41 (by omega) c40 c41 h41 (by omega)).1⟩
        · exact ⟨_, _, _, _, rfl, st e8, (LB.of w91 (by omega) c90 c91 h91 (by omega)).1⟩
        · exact ⟨_, _, _, _, rfl, st f1, B1⟩
      have g1 := st f1
      have g2 := st f2
      clear W6 h56 h6 P7 t7 e7 P8 t8 e8 W8 f1 f2 f4 hL s9 hL9 La t10 P10 P9 st
      simp only [g1, spDraw, exists_and_left, tSl, tPart, tNoPart, rSlLN, rMax2, rMin2, gUnlN, tYes, rLenS, cx_K, Value.ref.injEq, HO.xd.injEq, lk0, tSeq, tPar3, tPar, tCons, tNil, tVar, tC, tAsg, gName, gCons, gNil, gTupN, gSub, tOp, rI, rI0, rU, tTest, rNe, rEq, rIxTN, rIxLN, rLenL, rLenT, rIntI, rIntB, rAbs, rSetLN, tTruL, tRaiseX, rIsTy, rIsOw, ixN0, ixN1, tRet, tIf, tIfS, tNext, tBreak, tCont, tDrop, tTupN, tLstN, tUn, tCB, tCall, tNot, tAnd, tOr, tB, tAndV, tOrV, tNotV, tChain, tApp, LamX.tLam, tRevLN, rCatN, rInTN, rInLN, flatV, inV, List.all_cons, List.all_nil, List.any_cons, List.any_nil, Bool.and_self, Bool.and_true, if_true, Bool.false_eq_true, if_false, tMt, tFldN, tSto, HO.ins.injEq, lkh, List.drop_zero, List.drop_succ_cons, List.drop_nil, rListS, wipe, L2.start, List.map_cons, List.map_nil, List.length_cons, List.length_nil, List.replicate, List.cons_append, List.nil_append, List.append_nil, Nat.reduceAdd, Nat.reduceSub, Nat.zero_add, List.replicate_succ, List.replicate_zero, List.getElem?_cons_zero, List.getElem?_cons_succ, List.set_cons_zero, List.set_cons_succ, Option.some.injEq, V.int.injEq, V.bl.injEq, V.ref.injEq, V.str.injEq, V.ty.injEq, List.cons.injEq, HO.tup.injEq, HO.lst.injEq, and_true, true_and, and_assoc, exists_eq_left, exists_eq_left', exists_and_left, exists_eq', atI0, atI1, atI2, atI3, Int.cast_ofNat_Int, Int.reduceToNat, scal_ii, scal_in, scal_ni, scal_nn, scal_bb, scal_ss, scal_sn, scal_ns, scal_bn, scal_nb, ite_iff, decide_eq_true_eq, decide_eq_false_iff_not, Bool.not_eq_true', Classical.not_not, ne_eq, not_false_eq_true, not_true_eq_false, forall_const, true_implies, false_implies, imp_self, sizeLine_eq, Nat.reduceLeDiff, reduceCtorEq, decide_true, decide_false]
      refine ⟨.inr ⟨by decide, by decide⟩, .inr ⟨by decide, by decide⟩, W10.P, by decide, by decide, fun d H11 d0 d1 P11 t11 => ?_⟩
      have W11 := W10.stp P11 t11
      have q1 := g1.stp W10.P t11
      have q2 := g2.stp W10.P t11
      have qo := ho.stp W10.P t11
      clear W10 g1 g2 ho P11 t11
      refine ⟨wide_mul (b := 1) bw1 (by omega) (by decide) (by decide) (by decide), _, q1, _, atI0, _, rfl, .inr ⟨by decide, by decide⟩, by omega, _, q1, _, atI2, _, rfl, .inr ⟨by decide, by decide⟩, ?_⟩
      intro t6 H12 _ s12 h12
      have W12 := W11.same s12
      have q1 := s12 _ _ q1
      have q2 := s12 _ _ q2
      have qo := s12 _ _ qo
      have BI := (LB.of (w := w * 2) (s := (s * 3 + w * d) % (w * 2)) (h := h * 3) (by omega) (by omega) (Int.emod_nonneg _ (by omega)) (Int.emod_lt_of_pos _ (by omega)) (by omega) (by omega)).1
      clear W11 s12
      refine for_inL ?_
      simp only [exists_and_left, tSl, tPart, tNoPart, rSlLN, rMax2, rMin2, gUnlN, tYes, rLenS, cx_K, Value.ref.injEq, HO.xd.injEq, lk0, tSeq, tPar3, tPar, tCons, tNil, tVar, tC, tAsg, gName, gCons, gNil, gTupN, gSub, tOp, rI, rI0, rU, tTest, rNe, rEq, rIxTN, rIxLN, rLenL, rLenT, rIntI, rIntB, rAbs, rSetLN, tTruL, tRaiseX, rIsTy, rIsOw, ixN0, ixN1, tRet, tIf, tIfS, tNext, tBreak, tCont, tDrop, tTupN, tLstN, tUn, tCB, tCall, tNot, tAnd, tOr, tB, tAndV, tOrV, tNotV, tChain, tApp, LamX.tLam, tRevLN, rCatN, rInTN, rInLN, flatV, inV, List.all_cons, List.all_nil, List.any_cons, List.any_nil, Bool.and_self, Bool.and_true, if_true, Bool.false_eq_true, if_false, tMt, tFldN, tSto, HO.ins.injEq, lkh, List.drop_zero, List.drop_succ_cons, List.drop_nil, rListS, wipe, L2.start, List.map_cons, List.map_nil, List.length_cons, List.length_nil, List.replicate, List.cons_append, List.nil_append, List.append_nil, Nat.reduceAdd, Nat.reduceSub, Nat.zero_add, List.replicate_succ, List.replicate_zero, List.getElem?_cons_zero, List.getElem?_cons_succ, List.set_cons_zero, List.set_cons_succ, Option.some.injEq, V.int.injEq, V.bl.injEq, V.ref.injEq, V.str.injEq, V.ty.injEq, List.cons.injEq, HO.tup.injEq, HO.lst.injEq, and_true, true_and, and_assoc, exists_eq_left, exists_eq_left', exists_and_left, exists_eq', atI0, atI1, atI2, atI3, Int.cast_ofNat_Int, Int.reduceToNat, scal_ii, scal_in, scal_ni, scal_nn, scal_bb, scal_ss, scal_sn, scal_ns, scal_bn, scal_nb, ite_iff, decide_eq_true_eq, decide_eq_false_iff_not, Bool.not_eq_true', Classical.not_not, ne_eq, not_false_eq_true, not_true_eq_false, forall_const, true_implies, false_implies, imp_self, sizeLine_eq, Nat.reduceLeDiff, reduceCtorEq, decide_true, decide_false]
      intro l1 G1 _ r1 k1
      intro l2 G2 _ r2 k2
      intro l3 G3 _ r3 k3
      intro l4 G4 _ r4 k4
      intro l5 G5 _ r5 k5
      intro LL G6 _ r6 k6
      have R5 := r6
      have R4 := r5.trans R5
      have R3 := r4.trans R4
      have R2 := r3.trans R3
      have R1 := r2.trans R2
      have R0 := r1.trans R1
      have W := W12.same R0
      have two : ∀ v ∈ [V.ref l1, .ref l2, .ref l3, .ref l4, .ref l5], Two G6 v := by
        intro v hv
        simp only [List.mem_cons, List.not_mem_nil, or_false] at hv
        rcases hv with rfl | rfl | rfl | rfl | rfl
        · exact ⟨_, _, _, _, _, _, _, _, _, rfl, R1 _ _ k1, R0 _ _ q1, B1, R0 _ _ qo, Bo⟩
        · exact ⟨_, _, _, _, _, _, _, _, _, rfl, R2 _ _ k2, R0 _ _ qo, Bo, R0 _ _ q1, B1⟩
        · exact ⟨_, _, _, _, _, _, _, _, _, rfl, R3 _ _ k3, R0 _ _ h12, BI, R0 _ _ q1, B1⟩
        · exact ⟨_, _, _, _, _, _, _, _, _, rfl, R4 _ _ k4, R0 _ _ q1, B1, R0 _ _ h12, BI⟩
        · exact ⟨_, _, _, _, _, _, _, _, _, rfl, R5 _ _ k5, R0 _ _ q2, B2, R0 _ _ q1, B1⟩
      have q1 := R0 _ _ q1
      have q2 := R0 _ _ q2
      clear W12 r1 r2 r3 r4 r5 r6 R1 R2 R3 R4 R5 R0 k1 k2 k3 k4 k5 h12 qo
      refine st_forL (fun R r => r) k6 (fun j σ' H' => ∃ x, σ' = [some (V.ref sc), some (V.int i), some (V.ref a), some (V.ref t1), some (V.ref t2), some (V.ref o), some (V.ref t6), x] ∧ Same G6 H') ⟨_, rfl, fun _ _ h => h⟩ (fun _ _ _ h => by obtain ⟨_, _, h⟩ := h; exact h _ _ k6) ?_ ?_
      · rintro j v _ G hv ⟨x, rfl, S⟩
        obtain ⟨q, x, y, w, s, h, w2, s2, h2, rfl, e1, e2, e3, e4, e5⟩ := (two v (List.mem_of_getElem? hv)).same S
        simp only [e1, spWithin, exists_and_left, tSl, tPart, tNoPart, rSlLN, rMax2, rMin2, gUnlN, tYes, rLenS, cx_K, Value.ref.injEq, HO.xd.injEq, lk0, tSeq, tPar3, tPar, tCons, tNil, tVar, tC, tAsg, gName, gCons, gNil, gTupN, gSub, tOp, rI, rI0, rU, tTest, rNe, rEq, rIxTN, rIxLN, rLenL, rLenT, rIntI, rIntB, rAbs, rSetLN, tTruL, tRaiseX, rIsTy, rIsOw, ixN0, ixN1, tRet, tIf, tIfS, tNext, tBreak, tCont, tDrop, tTupN, tLstN, tUn, tCB, tCall, tNot, tAnd, tOr, tB, tAndV, tOrV, tNotV, tChain, tApp, LamX.tLam, tRevLN, rCatN, rInTN, rInLN, flatV, inV, List.all_cons, List.all_nil, List.any_cons, List.any_nil, Bool.and_self, Bool.and_true, if_true, Bool.false_eq_true, if_false, tMt, tFldN, tSto, HO.ins.injEq, lkh, List.drop_zero, List.drop_succ_cons, List.drop_nil, rListS, wipe, L2.start, List.map_cons, List.map_nil, List.length_cons, List.length_nil, List.replicate, List.cons_append, List.nil_append, List.append_nil, Nat.reduceAdd, Nat.reduceSub, Nat.zero_add, List.replicate_succ, List.replicate_zero, List.getElem?_cons_zero, List.getElem?_cons_succ, List.set_cons_zero, List.set_cons_succ, Option.some.injEq, V.int.injEq, V.bl.injEq, V.ref.injEq, V.str.injEq, V.ty.injEq, List.cons.injEq, HO.tup.injEq, HO.lst.injEq, and_true, true_and, and_assoc, exists_eq_left, exists_eq_left', exists_and_left, exists_eq', atI0, atI1, atI2, atI3, Int.cast_ofNat_Int, Int.reduceToNat, scal_ii, scal_in, scal_ni, scal_nn, scal_bb, scal_ss, scal_sn, scal_ns, scal_bn, scal_nb, ite_iff, decide_eq_true_eq, decide_eq_false_iff_not, Bool.not_eq_true', Classical.not_not, ne_eq, not_false_eq_true, not_true_eq_false, forall_const, true_implies, false_implies, imp_self, sizeLine_eq, Nat.reduceLeDiff, reduceCtorEq, decide_true, decide_false]
        exact ⟨w, s, h, e2, e3, w2, s2, h2, e4, e5, fun H1 z => S.trans z⟩
      · rintro _ G ⟨x, rfl, S⟩
        have W := W.same S
        have q1 := S _ _ q1
        have q2 := S _ _ q2
        simp only [spNone, exists_and_left, tSl, tPart, tNoPart, rSlLN, rMax2, rMin2, gUnlN, tYes, rLenS, cx_K, Value.ref.injEq, HO.xd.injEq, lk0, tSeq, tPar3, tPar, tCons, tNil, tVar, tC, tAsg, gName, gCons, gNil, gTupN, gSub, tOp, rI, rI0, rU, tTest, rNe, rEq, rIxTN, rIxLN, rLenL, rLenT, rIntI, rIntB, rAbs, rSetLN, tTruL, tRaiseX, rIsTy, rIsOw, ixN0, ixN1, tRet, tIf, tIfS, tNext, tBreak, tCont, tDrop, tTupN, tLstN, tUn, tCB, tCall, tNot, tAnd, tOr, tB, tAndV, tOrV, tNotV, tChain, tApp, LamX.tLam, tRevLN, rCatN, rInTN, rInLN, flatV, inV, List.all_cons, List.all_nil, List.any_cons, List.any_nil, Bool.and_self, Bool.and_true, if_true, Bool.false_eq_true, if_false, tMt, tFldN, tSto, HO.ins.injEq, lkh, List.drop_zero, List.drop_succ_cons, List.drop_nil, rListS, wipe, L2.start, List.map_cons, List.map_nil, List.length_cons, List.length_nil, List.replicate, List.cons_append, List.nil_append, List.append_nil, Nat.reduceAdd, Nat.reduceSub, Nat.zero_add, List.replicate_succ, List.replicate_zero, List.getElem?_cons_zero, List.getElem?_cons_succ, List.set_cons_zero, List.set_cons_succ, Option.some.injEq, V.int.injEq, V.bl.injEq, V.ref.injEq, V.str.injEq, V.ty.injEq, List.cons.injEq, HO.tup.injEq, HO.lst.injEq, and_true, true_and, and_assoc, exists_eq_left, exists_eq_left', exists_and_left, exists_eq', atI0, atI1, atI2, atI3, Int.cast_ofNat_Int, Int.reduceToNat, scal_ii, scal_in, scal_ni, scal_nn, scal_bb, scal_ss, scal_sn, scal_ns, scal_bn, scal_nb, ite_iff, decide_eq_true_eq, decide_eq_false_iff_not, Bool.not_eq_true', Classical.not_not, ne_eq, not_false_eq_true, not_true_eq_false, forall_const, true_implies, false_implies, imp_self, sizeLine_eq, Nat.reduceLeDiff, reduceCtorEq, decide_true, decide_false]
        exact ⟨w, s, h, q1, B1, W.hT, fun G1 e1 t1 => ⟨gw, gs, gh, extL e1 q2, B2, t1, fun G2 e2 t2 => ⟨(W.E.trans e1).trans e2, t2⟩⟩⟩
  · rintro _ H3 ⟨_, _, x1, x2, x3, x4, x5, x6, x7, rfl⟩
    simp only [exists_and_left, tSl, tPart, tNoPart, rSlLN, rMax2, rMin2, gUnlN, tYes, rLenS, cx_K, Value.ref.injEq, HO.xd.injEq, lk0, tSeq, tPar3, tPar, tCons, tNil, tVar, tC, tAsg, gName, gCons, gNil, gTupN, gSub, tOp, rI, rI0, rU, tTest, rNe, rEq, rIxTN, rIxLN, rLenL, rLenT, rIntI, rIntB, rAbs, rSetLN, tTruL, tRaiseX, rIsTy, rIsOw, ixN0, ixN1, tRet, tIf, tIfS, tNext, tBreak, tCont, tDrop, tTupN, tLstN, tUn, tCB, tCall, tNot, tAnd, tOr, tB, tAndV, tOrV, tNotV, tChain, tApp, LamX.tLam, tRevLN, rCatN, rInTN, rInLN, flatV, inV, List.all_cons, List.all_nil, List.any_cons, List.any_nil, Bool.and_self, Bool.and_true, if_true, Bool.false_eq_true, if_false, tMt, tFldN, tSto, HO.ins.injEq, lkh, List.drop_zero, List.drop_succ_cons, List.drop_nil, rListS, wipe, L2.start, List.map_cons, List.map_nil, List.length_cons, List.length_nil, List.replicate, List.cons_append, List.nil_append, List.append_nil, Nat.reduceAdd, Nat.reduceSub, Nat.zero_add, List.replicate_succ, List.replicate_zero, List.getElem?_cons_zero, List.getElem?_cons_succ, List.set_cons_zero, List.set_cons_succ, Option.some.injEq, V.int.injEq, V.bl.injEq, V.ref.injEq, V.str.injEq, V.ty.injEq, List.cons.injEq, HO.tup.injEq, HO.lst.injEq, and_true, true_and, and_assoc, exists_eq_left, exists_eq_left', exists_and_left, exists_eq', atI0, atI1, atI2, atI3, Int.cast_ofNat_Int, Int.reduceToNat, scal_ii, scal_in, scal_ni, scal_nn, scal_bb, scal_ss, scal_sn, scal_ns, scal_bn, scal_nb, ite_iff, decide_eq_true_eq, decide_eq_false_iff_not, Bool.not_eq_true', Classical.not_not, ne_eq, not_false_eq_true, not_true_eq_false, forall_const, true_implies, false_implies, imp_self, sizeLine_eq, Nat.reduceLeDiff, reduceCtorEq, decide_true, decide_false]
    exact k H3

end
end Iz
/-! k08_k -/
set_option Elab.async false
set_option linter.all false
set_option maxRecDepth 100000
set_option maxHeartbeats 4000000
namespace Iz
open PySem PySem.Spec PyProof.Rows L2
open He (ga)
local macro_rules | `(tactic| walk_at "wp") => `(tactic| simp only [tSl, tPart, tNoPart, rSlLN, rMax2, rMin2, gUnlN, tYes, rLenS, cx_K, Value.ref.injEq, HO.xd.injEq, lk0, tSeq, tPar3, tPar, tCons, tNil, tVar, tC, tAsg, gName, gCons, gNil, gTupN, gSub, tOp, rI, rI0, rU, tTest, rNe, rEq, rIxTN, rIxLN, rLenL, rLenT, rIntI, rIntB, rAbs, rSetLN, tTruL, tRaiseX, rIsTy, rIsOw, ixN0, ixN1, tRet, tIf, tIfS, tNext, tBreak, tCont, tDrop, tTupN, tLstN, tUn, tCB, tCall, tNot, tAnd, tOr, tB, tAndV, tOrV, tNotV, tChain, tApp, LamX.tLam, tRevLN, rCatN, rInTN, rInLN, flatV, inV, List.all_cons, List.all_nil, List.any_cons, List.any_nil, Bool.and_self, Bool.and_true, if_true, Bool.false_eq_true, if_false, tMt, tFldN, tSto, HO.ins.injEq, lkh, List.drop_zero, List.drop_succ_cons, List.drop_nil, rListS, wipe, L2.start, List.map_cons, List.map_nil, List.length_cons, List.length_nil, List.replicate, List.cons_append, List.nil_append, List.append_nil, Nat.reduceAdd, Nat.reduceSub, Nat.zero_add, List.replicate_succ, List.replicate_zero, List.getElem?_cons_zero, List.getElem?_cons_succ, List.set_cons_zero, List.set_cons_succ, Option.some.injEq, V.int.injEq, V.bl.injEq, V.ref.injEq, V.str.injEq, V.ty.injEq, List.cons.injEq, HO.tup.injEq, HO.lst.injEq, and_true, true_and, and_assoc, exists_eq_left, exists_eq_left', exists_and_left, exists_eq', atI0, atI1, atI2, atI3, Int.cast_ofNat_Int, Int.reduceToNat, scal_ii, scal_in, scal_ni, scal_nn, scal_bb, scal_ss, scal_sn, scal_ns, scal_bn, scal_nb, ite_iff, decide_eq_true_eq, decide_eq_false_iff_not, Bool.not_eq_true', Classical.not_not, ne_eq, not_false_eq_true, not_true_eq_false, forall_const, true_implies, false_implies, imp_self, sizeLine_eq, Nat.reduceLeDiff, reduceCtorEq, decide_true, decide_false])
section
variable {P : Program} {w : World} {K : PySem.W.Frag} {mg : Str → Option Value} {base : Heap}
theorem txt_mk {h : Heap} (X : K.In h) (G : h.Ns mainGlobals mg) {f_is_whole f_is_from f_is_pair f_require_whole f_require_pair f_greatest_divisor f_weighed_divisor f_is_shift f_Lattice___init__ f_Lattice___eq__ f_Lattice___le__ f_Lattice___contains__ f_Lattice_area f_Lattice_place f_Lattice_order f_Lattice_places f_require_lattice_numbers f__law_opened f__law_draw f__law_pick f__law_int f__law_three f__law_place f__law_holds f__law_refused f__law_order f__law_told_right f__law_within_right f__law_none_right f_law c__law_none_right P__law_none_right C_BadNumber N_BadNumber fi_BadNumber C_BadPart N_BadPart fi_BadPart C_BadIndex C_NotSo C_TooMany : Addr} {od_is_whole an_is_whole od_is_from an_is_from od_is_pair an_is_pair od_require_whole an_require_whole od_require_pair an_require_pair od_greatest_divisor an_greatest_divisor od_weighed_divisor an_weighed_divisor od_is_shift an_is_shift od_Lattice___init__ an_Lattice___init__ od_Lattice___eq__ an_Lattice___eq__ od_Lattice___le__ an_Lattice___le__ od_Lattice___contains__ an_Lattice___contains__ od_Lattice_area an_Lattice_area od_Lattice_place an_Lattice_place od_Lattice_order an_Lattice_order od_Lattice_places an_Lattice_places od_require_lattice_numbers an_require_lattice_numbers od__law_opened an__law_opened od__law_draw an__law_draw od__law_pick an__law_pick od__law_int an__law_int od__law_three an__law_three od__law_place an__law_place od__law_holds an__law_holds od__law_refused an__law_refused od__law_order an__law_order od__law_told_right an__law_told_right od__law_within_right an__law_within_right od__law_none_right an__law_none_right od_law an_law : Option Addr} {sl_is_whole sl_is_from sl_is_pair sl_require_whole sl_require_pair sl_greatest_divisor sl_weighed_divisor sl_is_shift sl_Lattice___init__ sl_Lattice___eq__ sl_Lattice___le__ sl_Lattice___contains__ sl_Lattice_area sl_Lattice_place sl_Lattice_order sl_Lattice_places sl_require_lattice_numbers sl__law_opened sl__law_draw sl__law_pick sl__law_int sl__law_three sl__law_place sl__law_holds sl__law_refused sl__law_order sl__law_told_right sl__law_within_right sl__law_none_right sl_law : Array (Option Value)} {oc_is_whole kV_is_whole dc_is_whole pm_is_whole ct_is_whole oc_is_from kV_is_from dc_is_from pm_is_from ct_is_from oc_is_pair kV_is_pair dc_is_pair pm_is_pair ct_is_pair oc_require_whole kV_require_whole dc_require_whole pm_require_whole ct_require_whole oc_require_pair kV_require_pair dc_require_pair pm_require_pair ct_require_pair oc_greatest_divisor kV_greatest_divisor dc_greatest_divisor pm_greatest_divisor ct_greatest_divisor oc_weighed_divisor kV_weighed_divisor dc_weighed_divisor pm_weighed_divisor ct_weighed_divisor oc_is_shift kV_is_shift dc_is_shift pm_is_shift ct_is_shift oc_Lattice___init__ kV_Lattice___init__ dc_Lattice___init__ pm_Lattice___init__ ct_Lattice___init__ oc_Lattice___eq__ kV_Lattice___eq__ dc_Lattice___eq__ pm_Lattice___eq__ ct_Lattice___eq__ oc_Lattice___le__ kV_Lattice___le__ dc_Lattice___le__ pm_Lattice___le__ ct_Lattice___le__ oc_Lattice___contains__ kV_Lattice___contains__ dc_Lattice___contains__ pm_Lattice___contains__ ct_Lattice___contains__ oc_Lattice_area kV_Lattice_area dc_Lattice_area pm_Lattice_area ct_Lattice_area oc_Lattice_place kV_Lattice_place dc_Lattice_place pm_Lattice_place ct_Lattice_place oc_Lattice_order kV_Lattice_order dc_Lattice_order pm_Lattice_order ct_Lattice_order oc_Lattice_places kV_Lattice_places dc_Lattice_places pm_Lattice_places ct_Lattice_places oc_require_lattice_numbers kV_require_lattice_numbers dc_require_lattice_numbers pm_require_lattice_numbers ct_require_lattice_numbers oc__law_opened kV__law_opened dc__law_opened pm__law_opened ct__law_opened oc__law_draw kV__law_draw dc__law_draw pm__law_draw ct__law_draw oc__law_pick kV__law_pick dc__law_pick pm__law_pick ct__law_pick oc__law_int kV__law_int dc__law_int pm__law_int ct__law_int oc__law_three kV__law_three dc__law_three pm__law_three ct__law_three oc__law_place kV__law_place dc__law_place pm__law_place ct__law_place oc__law_holds kV__law_holds dc__law_holds pm__law_holds ct__law_holds oc__law_refused kV__law_refused dc__law_refused pm__law_refused ct__law_refused oc__law_order kV__law_order dc__law_order pm__law_order ct__law_order oc__law_told_right kV__law_told_right dc__law_told_right pm__law_told_right ct__law_told_right oc__law_within_right kV__law_within_right dc__law_within_right pm__law_within_right ct__law_within_right oc__law_none_right kV__law_none_right dc__law_none_right pm__law_none_right ct__law_none_right oc_law kV_law dc_law pm_law ct_law cd_is_whole cd_is_from cd_is_pair cd_require_whole cd_require_pair cd_greatest_divisor cd_weighed_divisor cd_is_shift cd_Lattice___init__ cd_Lattice___eq__ cd_Lattice___le__ cd_Lattice___contains__ cd_Lattice_area cd_Lattice_place cd_Lattice_order cd_Lattice_places cd_require_lattice_numbers cd__law_opened cd__law_draw cd__law_pick cd__law_int cd__law_three cd__law_place cd__law_holds cd__law_refused cd__law_order cd__law_told_right cd__law_within_right cd_law : Value} {C_Lattice : Addr} {dd_BadNumber odx_BadNumber anx_BadNumber dd_BadPart odx_BadPart anx_BadPart : Option Addr} {nm_BadNumber q_BadNumber nm_BadPart q_BadPart : Str} {bs_BadNumber bm_BadNumber sub_BadNumber bs_BadPart bm_BadPart sub_BadPart : List Value} {sn_BadNumber sn_BadPart : List Str} {ab_BadNumber ab_BadPart : Bool} {col_BadNumber col_BadPart : Option Bool} {m0_BadNumber m1_BadNumber m2_BadNumber m3_BadNumber m5_BadNumber m0_BadPart m1_BadPart m2_BadPart m3_BadPart m5_BadPart : Option Value} {ocx_BadNumber kVx_BadNumber dcx_BadNumber pmx_BadNumber cdx_BadNumber ctx_BadNumber ocx_BadPart kVx_BadPart dcx_BadPart pmx_BadPart cdx_BadPart ctx_BadPart : Value} {slx_BadNumber slx_BadPart : Array (Option Value)}
    (a_is_whole : PySem.W.nsIn K mainGlobals "is_whole" = some (some (.ref f_is_whole)))
    (l_is_whole : K.lookup f_is_whole = some ⟨oc_is_whole, od_is_whole, .func (PySem.W.fnOf "is_whole" "is_whole" (defArgs s_is_whole) (defBody s_is_whole) (defScope s_is_whole) .none kV_is_whole dc_is_whole pm_is_whole an_is_whole cd_is_whole ct_is_whole), sl_is_whole⟩)
    (d_is_whole : PySem.W.codeIn K cd_is_whole "is_whole" = true)
    (k_is_whole : PySem.W.keepIn K (.ref f_is_whole) = true)
    (a_is_from : PySem.W.nsIn K mainGlobals "is_from" = some (some (.ref f_is_from)))
    (l_is_from : K.lookup f_is_from = some ⟨oc_is_from, od_is_from, .func (PySem.W.fnOf "is_from" "is_from" (defArgs s_is_from) (defBody s_is_from) (defScope s_is_from) .none kV_is_from dc_is_from pm_is_from an_is_from cd_is_from ct_is_from), sl_is_from⟩)
    (d_is_from : PySem.W.codeIn K cd_is_from "is_from" = true)
    (k_is_from : PySem.W.keepIn K (.ref f_is_from) = true)
    (a_is_pair : PySem.W.nsIn K mainGlobals "is_pair" = some (some (.ref f_is_pair)))
    (l_is_pair : K.lookup f_is_pair = some ⟨oc_is_pair, od_is_pair, .func (PySem.W.fnOf "is_pair" "is_pair" (defArgs s_is_pair) (defBody s_is_pair) (defScope s_is_pair) .none kV_is_pair dc_is_pair pm_is_pair an_is_pair cd_is_pair ct_is_pair), sl_is_pair⟩)
    (d_is_pair : PySem.W.codeIn K cd_is_pair "is_pair" = true)
    (k_is_pair : PySem.W.keepIn K (.ref f_is_pair) = true)
    (a_require_whole : PySem.W.nsIn K mainGlobals "require_whole" = some (some (.ref f_require_whole)))
    (l_require_whole : K.lookup f_require_whole = some ⟨oc_require_whole, od_require_whole, .func (PySem.W.fnOf "require_whole" "require_whole" (defArgs s_require_whole) (defBody s_require_whole) (defScope s_require_whole) .none kV_require_whole dc_require_whole pm_require_whole an_require_whole cd_require_whole ct_require_whole), sl_require_whole⟩)
    (d_require_whole : PySem.W.codeIn K cd_require_whole "require_whole" = true)
    (k_require_whole : PySem.W.keepIn K (.ref f_require_whole) = true)
    (a_require_pair : PySem.W.nsIn K mainGlobals "require_pair" = some (some (.ref f_require_pair)))
    (l_require_pair : K.lookup f_require_pair = some ⟨oc_require_pair, od_require_pair, .func (PySem.W.fnOf "require_pair" "require_pair" (defArgs s_require_pair) (defBody s_require_pair) (defScope s_require_pair) .none kV_require_pair dc_require_pair pm_require_pair an_require_pair cd_require_pair ct_require_pair), sl_require_pair⟩)
    (d_require_pair : PySem.W.codeIn K cd_require_pair "require_pair" = true)
    (k_require_pair : PySem.W.keepIn K (.ref f_require_pair) = true)
    (a_greatest_divisor : PySem.W.nsIn K mainGlobals "greatest_divisor" = some (some (.ref f_greatest_divisor)))
    (l_greatest_divisor : K.lookup f_greatest_divisor = some ⟨oc_greatest_divisor, od_greatest_divisor, .func (PySem.W.fnOf "greatest_divisor" "greatest_divisor" (defArgs s_greatest_divisor) (defBody s_greatest_divisor) (defScope s_greatest_divisor) .none kV_greatest_divisor dc_greatest_divisor pm_greatest_divisor an_greatest_divisor cd_greatest_divisor ct_greatest_divisor), sl_greatest_divisor⟩)
    (d_greatest_divisor : PySem.W.codeIn K cd_greatest_divisor "greatest_divisor" = true)
    (k_greatest_divisor : PySem.W.keepIn K (.ref f_greatest_divisor) = true)
    (a_weighed_divisor : PySem.W.nsIn K mainGlobals "weighed_divisor" = some (some (.ref f_weighed_divisor)))
    (l_weighed_divisor : K.lookup f_weighed_divisor = some ⟨oc_weighed_divisor, od_weighed_divisor, .func (PySem.W.fnOf "weighed_divisor" "weighed_divisor" (defArgs s_weighed_divisor) (defBody s_weighed_divisor) (defScope s_weighed_divisor) .none kV_weighed_divisor dc_weighed_divisor pm_weighed_divisor an_weighed_divisor cd_weighed_divisor ct_weighed_divisor), sl_weighed_divisor⟩)
    (d_weighed_divisor : PySem.W.codeIn K cd_weighed_divisor "weighed_divisor" = true)
    (k_weighed_divisor : PySem.W.keepIn K (.ref f_weighed_divisor) = true)
    (a_is_shift : PySem.W.nsIn K mainGlobals "is_shift" = some (some (.ref f_is_shift)))
    (l_is_shift : K.lookup f_is_shift = some ⟨oc_is_shift, od_is_shift, .func (PySem.W.fnOf "is_shift" "is_shift" (defArgs s_is_shift) (defBody s_is_shift) (defScope s_is_shift) .none kV_is_shift dc_is_shift pm_is_shift an_is_shift cd_is_shift ct_is_shift), sl_is_shift⟩)
    (d_is_shift : PySem.W.codeIn K cd_is_shift "is_shift" = true)
    (k_is_shift : PySem.W.keepIn K (.ref f_is_shift) = true)
    (a_require_lattice_numbers : PySem.W.nsIn K mainGlobals "require_lattice_numbers" = some (some (.ref f_require_lattice_numbers)))
    (l_require_lattice_numbers : K.lookup f_require_lattice_numbers = some ⟨oc_require_lattice_numbers, od_require_lattice_numbers, .func (PySem.W.fnOf "require_lattice_numbers" "require_lattice_numbers" (defArgs s_require_lattice_numbers) (defBody s_require_lattice_numbers) (defScope s_require_lattice_numbers) .none kV_require_lattice_numbers dc_require_lattice_numbers pm_require_lattice_numbers an_require_lattice_numbers cd_require_lattice_numbers ct_require_lattice_numbers), sl_require_lattice_numbers⟩)
    (d_require_lattice_numbers : PySem.W.codeIn K cd_require_lattice_numbers "require_lattice_numbers" = true)
    (k_require_lattice_numbers : PySem.W.keepIn K (.ref f_require_lattice_numbers) = true)
    (a__law_opened : PySem.W.nsIn K mainGlobals "_law_opened" = some (some (.ref f__law_opened)))
    (l__law_opened : K.lookup f__law_opened = some ⟨oc__law_opened, od__law_opened, .func (PySem.W.fnOf "_law_opened" "_law_opened" (defArgs s__law_opened) (defBody s__law_opened) (defScope s__law_opened) .none kV__law_opened dc__law_opened pm__law_opened an__law_opened cd__law_opened ct__law_opened), sl__law_opened⟩)
    (d__law_opened : PySem.W.codeIn K cd__law_opened "_law_opened" = true)
    (k__law_opened : PySem.W.keepIn K (.ref f__law_opened) = true)
    (a__law_draw : PySem.W.nsIn K mainGlobals "_law_draw" = some (some (.ref f__law_draw)))
    (l__law_draw : K.lookup f__law_draw = some ⟨oc__law_draw, od__law_draw, .func (PySem.W.fnOf "_law_draw" "_law_draw" (defArgs s__law_draw) (defBody s__law_draw) (defScope s__law_draw) .none kV__law_draw dc__law_draw pm__law_draw an__law_draw cd__law_draw ct__law_draw), sl__law_draw⟩)
    (d__law_draw : PySem.W.codeIn K cd__law_draw "_law_draw" = true)
    (k__law_draw : PySem.W.keepIn K (.ref f__law_draw) = true)
    (a__law_pick : PySem.W.nsIn K mainGlobals "_law_pick" = some (some (.ref f__law_pick)))
    (l__law_pick : K.lookup f__law_pick = some ⟨oc__law_pick, od__law_pick, .func (PySem.W.fnOf "_law_pick" "_law_pick" (defArgs s__law_pick) (defBody s__law_pick) (defScope s__law_pick) .none kV__law_pick dc__law_pick pm__law_pick an__law_pick cd__law_pick ct__law_pick), sl__law_pick⟩)
    (d__law_pick : PySem.W.codeIn K cd__law_pick "_law_pick" = true)
    (k__law_pick : PySem.W.keepIn K (.ref f__law_pick) = true)
    (a__law_int : PySem.W.nsIn K mainGlobals "_law_int" = some (some (.ref f__law_int)))
    (l__law_int : K.lookup f__law_int = some ⟨oc__law_int, od__law_int, .func (PySem.W.fnOf "_law_int" "_law_int" (defArgs s__law_int) (defBody s__law_int) (defScope s__law_int) .none kV__law_int dc__law_int pm__law_int an__law_int cd__law_int ct__law_int), sl__law_int⟩)
    (d__law_int : PySem.W.codeIn K cd__law_int "_law_int" = true)
    (k__law_int : PySem.W.keepIn K (.ref f__law_int) = true)
    (a__law_three : PySem.W.nsIn K mainGlobals "_law_three" = some (some (.ref f__law_three)))
    (l__law_three : K.lookup f__law_three = some ⟨oc__law_three, od__law_three, .func (PySem.W.fnOf "_law_three" "_law_three" (defArgs s__law_three) (defBody s__law_three) (defScope s__law_three) .none kV__law_three dc__law_three pm__law_three an__law_three cd__law_three ct__law_three), sl__law_three⟩)
    (d__law_three : PySem.W.codeIn K cd__law_three "_law_three" = true)
    (k__law_three : PySem.W.keepIn K (.ref f__law_three) = true)
    (a__law_place : PySem.W.nsIn K mainGlobals "_law_place" = some (some (.ref f__law_place)))
    (l__law_place : K.lookup f__law_place = some ⟨oc__law_place, od__law_place, .func (PySem.W.fnOf "_law_place" "_law_place" (defArgs s__law_place) (defBody s__law_place) (defScope s__law_place) .none kV__law_place dc__law_place pm__law_place an__law_place cd__law_place ct__law_place), sl__law_place⟩)
    (d__law_place : PySem.W.codeIn K cd__law_place "_law_place" = true)
    (k__law_place : PySem.W.keepIn K (.ref f__law_place) = true)
    (a__law_holds : PySem.W.nsIn K mainGlobals "_law_holds" = some (some (.ref f__law_holds)))
    (l__law_holds : K.lookup f__law_holds = some ⟨oc__law_holds, od__law_holds, .func (PySem.W.fnOf "_law_holds" "_law_holds" (defArgs s__law_holds) (defBody s__law_holds) (defScope s__law_holds) .none kV__law_holds dc__law_holds pm__law_holds an__law_holds cd__law_holds ct__law_holds), sl__law_holds⟩)
    (d__law_holds : PySem.W.codeIn K cd__law_holds "_law_holds" = true)
    (k__law_holds : PySem.W.keepIn K (.ref f__law_holds) = true)
    (a__law_refused : PySem.W.nsIn K mainGlobals "_law_refused" = some (some (.ref f__law_refused)))
    (l__law_refused : K.lookup f__law_refused = some ⟨oc__law_refused, od__law_refused, .func (PySem.W.fnOf "_law_refused" "_law_refused" (defArgs s__law_refused) (defBody s__law_refused) (defScope s__law_refused) .none kV__law_refused dc__law_refused pm__law_refused an__law_refused cd__law_refused ct__law_refused), sl__law_refused⟩)
    (d__law_refused : PySem.W.codeIn K cd__law_refused "_law_refused" = true)
    (k__law_refused : PySem.W.keepIn K (.ref f__law_refused) = true)
    (a__law_order : PySem.W.nsIn K mainGlobals "_law_order" = some (some (.ref f__law_order)))
    (l__law_order : K.lookup f__law_order = some ⟨oc__law_order, od__law_order, .func (PySem.W.fnOf "_law_order" "_law_order" (defArgs s__law_order) (defBody s__law_order) (defScope s__law_order) .none kV__law_order dc__law_order pm__law_order an__law_order cd__law_order ct__law_order), sl__law_order⟩)
    (d__law_order : PySem.W.codeIn K cd__law_order "_law_order" = true)
    (k__law_order : PySem.W.keepIn K (.ref f__law_order) = true)
    (a__law_told_right : PySem.W.nsIn K mainGlobals "_law_told_right" = some (some (.ref f__law_told_right)))
    (l__law_told_right : K.lookup f__law_told_right = some ⟨oc__law_told_right, od__law_told_right, .func (PySem.W.fnOf "_law_told_right" "_law_told_right" (defArgs s__law_told_right) (defBody s__law_told_right) (defScope s__law_told_right) .none kV__law_told_right dc__law_told_right pm__law_told_right an__law_told_right cd__law_told_right ct__law_told_right), sl__law_told_right⟩)
    (d__law_told_right : PySem.W.codeIn K cd__law_told_right "_law_told_right" = true)
    (k__law_told_right : PySem.W.keepIn K (.ref f__law_told_right) = true)
    (a__law_within_right : PySem.W.nsIn K mainGlobals "_law_within_right" = some (some (.ref f__law_within_right)))
    (l__law_within_right : K.lookup f__law_within_right = some ⟨oc__law_within_right, od__law_within_right, .func (PySem.W.fnOf "_law_within_right" "_law_within_right" (defArgs s__law_within_right) (defBody s__law_within_right) (defScope s__law_within_right) .none kV__law_within_right dc__law_within_right pm__law_within_right an__law_within_right cd__law_within_right ct__law_within_right), sl__law_within_right⟩)
    (d__law_within_right : PySem.W.codeIn K cd__law_within_right "_law_within_right" = true)
    (k__law_within_right : PySem.W.keepIn K (.ref f__law_within_right) = true)
    (a__law_none_right : PySem.W.nsIn K mainGlobals "_law_none_right" = some (some (.ref f__law_none_right)))
    (l__law_none_right : K.lookup f__law_none_right = some ⟨oc__law_none_right, od__law_none_right, .func (PySem.W.fnOf "_law_none_right" "_law_none_right" (defArgs s__law_none_right) (defBody s__law_none_right) (defScope s__law_none_right) .none kV__law_none_right dc__law_none_right pm__law_none_right an__law_none_right (.ref c__law_none_right) ct__law_none_right), sl__law_none_right⟩)
    (d__law_none_right : PySem.W.codeIn K (.ref c__law_none_right) "_law_none_right" = true)
    (k__law_none_right : PySem.W.keepIn K (.ref f__law_none_right) = true)
    (t__law_none_right : PySem.W.tabIn K "_law_none_right" = some (c__law_none_right, P__law_none_right))
    (a_law : PySem.W.nsIn K mainGlobals "law" = some (some (.ref f_law)))
    (l_law : K.lookup f_law = some ⟨oc_law, od_law, .func (PySem.W.fnOf "law" "law" (defArgs s_law) (defBody s_law) (defScope s_law) .none kV_law dc_law pm_law an_law cd_law ct_law), sl_law⟩)
    (d_law : PySem.W.codeIn K cd_law "law" = true)
    (k_law : PySem.W.keepIn K (.ref f_law) = true)
    (xa_Lattice : PySem.W.nsIn K mainGlobals "Lattice" = some (some (.ref C_Lattice)))
    (pg_Lattice : PySem.W.plainGet K C_Lattice Str.empty = true)
    (hd_Lattice : PySem.W.hasDictIn K C_Lattice = true)
    (po_Lattice : PySem.W.plainOver K C_Lattice = true)
    (sa_Lattice : PySem.W.findIn K (.ref C_Lattice) "__setattr__" = some (some (.builtin "object.__setattr__")))
    (mm_Lattice : PySem.W.makesIn K C_Lattice = true)
    (kc_Lattice : PySem.W.keepIn K (.ref C_Lattice) = true)
    (ya_Lattice : PySem.W.findIn K (.ref C_Lattice) "__class__" = some (some (.builtin "object.__class__")))
    (ym_Lattice : PySem.W.mroIn K C_Lattice (.type "object") = some true)
    (na_Lattice_a : PySem.W.findIn K (.ref C_Lattice) "a" = some none)
    (na_Lattice_b : PySem.W.findIn K (.ref C_Lattice) "b" = some none)
    (na_Lattice_d : PySem.W.findIn K (.ref C_Lattice) "d" = some none)
    (ma_Lattice___init__ : PySem.W.findIn K (.ref C_Lattice) "__init__" = some (some (.ref f_Lattice___init__)))
    (mi_Lattice___init__ : PySem.W.isFn K (.ref f_Lattice___init__) = true)
    (mk_Lattice___init__ : PySem.W.keepIn K (.ref f_Lattice___init__) = true)
    (l_Lattice___init__ : K.lookup f_Lattice___init__ = some ⟨oc_Lattice___init__, od_Lattice___init__, .func (PySem.W.fnOf "__init__" "Lattice.__init__" (defArgs s_Lattice___init__) (defBody s_Lattice___init__) (defScope s_Lattice___init__) .none kV_Lattice___init__ dc_Lattice___init__ pm_Lattice___init__ an_Lattice___init__ cd_Lattice___init__ ct_Lattice___init__), sl_Lattice___init__⟩)
    (d_Lattice___init__ : PySem.W.codeIn K cd_Lattice___init__ "Lattice.__init__" = true)
    (ma_Lattice___eq__ : PySem.W.findIn K (.ref C_Lattice) "__eq__" = some (some (.ref f_Lattice___eq__)))
    (mi_Lattice___eq__ : PySem.W.isFn K (.ref f_Lattice___eq__) = true)
    (mk_Lattice___eq__ : PySem.W.keepIn K (.ref f_Lattice___eq__) = true)
    (l_Lattice___eq__ : K.lookup f_Lattice___eq__ = some ⟨oc_Lattice___eq__, od_Lattice___eq__, .func (PySem.W.fnOf "__eq__" "Lattice.__eq__" (defArgs s_Lattice___eq__) (defBody s_Lattice___eq__) (defScope s_Lattice___eq__) .none kV_Lattice___eq__ dc_Lattice___eq__ pm_Lattice___eq__ an_Lattice___eq__ cd_Lattice___eq__ ct_Lattice___eq__), sl_Lattice___eq__⟩)
    (d_Lattice___eq__ : PySem.W.codeIn K cd_Lattice___eq__ "Lattice.__eq__" = true)
    (ma_Lattice___le__ : PySem.W.findIn K (.ref C_Lattice) "__le__" = some (some (.ref f_Lattice___le__)))
    (mi_Lattice___le__ : PySem.W.isFn K (.ref f_Lattice___le__) = true)
    (mk_Lattice___le__ : PySem.W.keepIn K (.ref f_Lattice___le__) = true)
    (l_Lattice___le__ : K.lookup f_Lattice___le__ = some ⟨oc_Lattice___le__, od_Lattice___le__, .func (PySem.W.fnOf "__le__" "Lattice.__le__" (defArgs s_Lattice___le__) (defBody s_Lattice___le__) (defScope s_Lattice___le__) .none kV_Lattice___le__ dc_Lattice___le__ pm_Lattice___le__ an_Lattice___le__ cd_Lattice___le__ ct_Lattice___le__), sl_Lattice___le__⟩)
    (d_Lattice___le__ : PySem.W.codeIn K cd_Lattice___le__ "Lattice.__le__" = true)
    (ma_Lattice___contains__ : PySem.W.findIn K (.ref C_Lattice) "__contains__" = some (some (.ref f_Lattice___contains__)))
    (mi_Lattice___contains__ : PySem.W.isFn K (.ref f_Lattice___contains__) = true)
    (mk_Lattice___contains__ : PySem.W.keepIn K (.ref f_Lattice___contains__) = true)
    (l_Lattice___contains__ : K.lookup f_Lattice___contains__ = some ⟨oc_Lattice___contains__, od_Lattice___contains__, .func (PySem.W.fnOf "__contains__" "Lattice.__contains__" (defArgs s_Lattice___contains__) (defBody s_Lattice___contains__) (defScope s_Lattice___contains__) .none kV_Lattice___contains__ dc_Lattice___contains__ pm_Lattice___contains__ an_Lattice___contains__ cd_Lattice___contains__ ct_Lattice___contains__), sl_Lattice___contains__⟩)
    (d_Lattice___contains__ : PySem.W.codeIn K cd_Lattice___contains__ "Lattice.__contains__" = true)
    (ma_Lattice_area : PySem.W.findIn K (.ref C_Lattice) "area" = some (some (.ref f_Lattice_area)))
    (mi_Lattice_area : PySem.W.isFn K (.ref f_Lattice_area) = true)
    (mk_Lattice_area : PySem.W.keepIn K (.ref f_Lattice_area) = true)
    (l_Lattice_area : K.lookup f_Lattice_area = some ⟨oc_Lattice_area, od_Lattice_area, .func (PySem.W.fnOf "area" "Lattice.area" (defArgs s_Lattice_area) (defBody s_Lattice_area) (defScope s_Lattice_area) .none kV_Lattice_area dc_Lattice_area pm_Lattice_area an_Lattice_area cd_Lattice_area ct_Lattice_area), sl_Lattice_area⟩)
    (d_Lattice_area : PySem.W.codeIn K cd_Lattice_area "Lattice.area" = true)
    (ma_Lattice_place : PySem.W.findIn K (.ref C_Lattice) "place" = some (some (.ref f_Lattice_place)))
    (mi_Lattice_place : PySem.W.isFn K (.ref f_Lattice_place) = true)
    (mk_Lattice_place : PySem.W.keepIn K (.ref f_Lattice_place) = true)
    (l_Lattice_place : K.lookup f_Lattice_place = some ⟨oc_Lattice_place, od_Lattice_place, .func (PySem.W.fnOf "place" "Lattice.place" (defArgs s_Lattice_place) (defBody s_Lattice_place) (defScope s_Lattice_place) .none kV_Lattice_place dc_Lattice_place pm_Lattice_place an_Lattice_place cd_Lattice_place ct_Lattice_place), sl_Lattice_place⟩)
    (d_Lattice_place : PySem.W.codeIn K cd_Lattice_place "Lattice.place" = true)
    (ma_Lattice_order : PySem.W.findIn K (.ref C_Lattice) "order" = some (some (.ref f_Lattice_order)))
    (mi_Lattice_order : PySem.W.isFn K (.ref f_Lattice_order) = true)
    (mk_Lattice_order : PySem.W.keepIn K (.ref f_Lattice_order) = true)
    (l_Lattice_order : K.lookup f_Lattice_order = some ⟨oc_Lattice_order, od_Lattice_order, .func (PySem.W.fnOf "order" "Lattice.order" (defArgs s_Lattice_order) (defBody s_Lattice_order) (defScope s_Lattice_order) .none kV_Lattice_order dc_Lattice_order pm_Lattice_order an_Lattice_order cd_Lattice_order ct_Lattice_order), sl_Lattice_order⟩)
    (d_Lattice_order : PySem.W.codeIn K cd_Lattice_order "Lattice.order" = true)
    (ma_Lattice_places : PySem.W.findIn K (.ref C_Lattice) "places" = some (some (.ref f_Lattice_places)))
    (mi_Lattice_places : PySem.W.isFn K (.ref f_Lattice_places) = true)
    (mk_Lattice_places : PySem.W.keepIn K (.ref f_Lattice_places) = true)
    (l_Lattice_places : K.lookup f_Lattice_places = some ⟨oc_Lattice_places, od_Lattice_places, .func (PySem.W.fnOf "places" "Lattice.places" (defArgs s_Lattice_places) (defBody s_Lattice_places) (defScope s_Lattice_places) .none kV_Lattice_places dc_Lattice_places pm_Lattice_places an_Lattice_places cd_Lattice_places ct_Lattice_places), sl_Lattice_places⟩)
    (d_Lattice_places : PySem.W.codeIn K cd_Lattice_places "Lattice.places" = true)
    (xa_BadNumber : PySem.W.nsIn K mainGlobals "BadNumber" = some (some (.ref C_BadNumber)))
    (xl_BadNumber : K.lookup C_BadNumber = some (excClassObj nm_BadNumber q_BadNumber C_BadNumber N_BadNumber bs_BadNumber bm_BadNumber true sn_BadNumber sub_BadNumber ab_BadNumber col_BadNumber dd_BadNumber m0_BadNumber m1_BadNumber m2_BadNumber m3_BadNumber m5_BadNumber "ValueError.__new__"))
    (xr_BadNumber : PySem.HandSPX.refsVE bm_BadNumber = true)
    (xs_BadNumber : PySem.W.findIn K (.ref C_BadNumber) "__setattr__" = some (some (.builtin "object.__setattr__")))
    (xe_BadNumber : PySem.W.subIn K (.ref C_BadNumber) (.type "BaseException") = some true)
    (xt_BadNumber : PySem.W.typeIn K (.ref C_BadNumber) = some (.type "type"))
    (xk_BadNumber : PySem.W.keepIn K (.ref C_BadNumber) = true)
    (xg_BadNumber : PySem.W.findIn K (.ref C_BadNumber) "__getattribute__" = some (some (.builtin "BaseException.__getattribute__")))
    (xG_BadNumber : PySem.W.findIn K (.ref C_BadNumber) "__getattr__" = some none)
    (xd_BadNumber : PySem.W.hasDictIn K C_BadNumber = true)
    (xn_BadNumber : PySem.W.findIn K (.ref C_BadNumber) "number" = some none)
    (xi_BadNumber : PySem.W.findIn K (.ref C_BadNumber) "__init__" = some (some (.ref fi_BadNumber)))
    (xf_BadNumber : PySem.W.typeIn K (.ref fi_BadNumber) = some (.type "function"))
    (xL_BadNumber : K.lookup fi_BadNumber = some ⟨ocx_BadNumber, odx_BadNumber, .func (PySem.W.fnOf "__init__" "BadNumber.__init__" (defArgs s_BadNumber___init__) (defBody s_BadNumber___init__) (defScope s_BadNumber___init__) .none kVx_BadNumber dcx_BadNumber pmx_BadNumber anx_BadNumber cdx_BadNumber ctx_BadNumber), slx_BadNumber⟩)
    (xc_BadNumber : PySem.W.codeIn K cdx_BadNumber "BadNumber.__init__" = true)
    (xK_BadNumber : PySem.W.keepIn K (.ref fi_BadNumber) = true)
    (yc_BadNumber : (PySem.W.clsIn K C_BadNumber).isSome = true)
    (ya_BadNumber : PySem.W.findIn K (.ref C_BadNumber) "__class__" = some (some (.builtin "object.__class__")))
    (ym_BadNumber : PySem.W.mroIn K C_BadNumber (.type "object") = some true)
    (xa_BadPart : PySem.W.nsIn K mainGlobals "BadPart" = some (some (.ref C_BadPart)))
    (xl_BadPart : K.lookup C_BadPart = some (excClassObj nm_BadPart q_BadPart C_BadPart N_BadPart bs_BadPart bm_BadPart true sn_BadPart sub_BadPart ab_BadPart col_BadPart dd_BadPart m0_BadPart m1_BadPart m2_BadPart m3_BadPart m5_BadPart "ValueError.__new__"))
    (xr_BadPart : PySem.HandSPX.refsVE bm_BadPart = true)
    (xs_BadPart : PySem.W.findIn K (.ref C_BadPart) "__setattr__" = some (some (.builtin "object.__setattr__")))
    (xe_BadPart : PySem.W.subIn K (.ref C_BadPart) (.type "BaseException") = some true)
    (xt_BadPart : PySem.W.typeIn K (.ref C_BadPart) = some (.type "type"))
    (xk_BadPart : PySem.W.keepIn K (.ref C_BadPart) = true)
    (xg_BadPart : PySem.W.findIn K (.ref C_BadPart) "__getattribute__" = some (some (.builtin "BaseException.__getattribute__")))
    (xG_BadPart : PySem.W.findIn K (.ref C_BadPart) "__getattr__" = some none)
    (xd_BadPart : PySem.W.hasDictIn K C_BadPart = true)
    (xn_BadPart : PySem.W.findIn K (.ref C_BadPart) "part" = some none)
    (xi_BadPart : PySem.W.findIn K (.ref C_BadPart) "__init__" = some (some (.ref fi_BadPart)))
    (xf_BadPart : PySem.W.typeIn K (.ref fi_BadPart) = some (.type "function"))
    (xL_BadPart : K.lookup fi_BadPart = some ⟨ocx_BadPart, odx_BadPart, .func (PySem.W.fnOf "__init__" "BadPart.__init__" (defArgs s_BadPart___init__) (defBody s_BadPart___init__) (defScope s_BadPart___init__) .none kVx_BadPart dcx_BadPart pmx_BadPart anx_BadPart cdx_BadPart ctx_BadPart), slx_BadPart⟩)
    (xc_BadPart : PySem.W.codeIn K cdx_BadPart "BadPart.__init__" = true)
    (xK_BadPart : PySem.W.keepIn K (.ref fi_BadPart) = true)
    (yc_BadPart : (PySem.W.clsIn K C_BadPart).isSome = true)
    (ya_BadPart : PySem.W.findIn K (.ref C_BadPart) "__class__" = some (some (.builtin "object.__class__")))
    (ym_BadPart : PySem.W.mroIn K C_BadPart (.type "object") = some true)
    (yn : PySem.W.specialIn K (.builtin "object.__class__") "__get__" = some (some (.builtin "getset_descriptor.__get__")))
    (yt : PySem.W.takesIn K (.builtin "object.__class__") = some true)
    (xa_BadIndex : PySem.W.nsIn K mainGlobals "BadIndex" = some (some (.ref C_BadIndex)))
    (xa_NotSo : PySem.W.nsIn K mainGlobals "NotSo" = some (some (.ref C_NotSo)))
    (xa_TooMany : PySem.W.nsIn K mainGlobals "TooMany" = some (some (.ref C_TooMany)))
    (ePP : PySem.W.exmOne K (.ref C_BadPart) (.ref C_BadPart) = some true)
    (nfS : PySem.W.notFirst K C_Lattice (.type "str") = true)
    (kSL : PySem.W.kitOne K (.type "str") (.ref C_Lattice) = some false)
    (z_isinstance : PySem.W.nsIn K mainGlobals "isinstance" = some none)
    (z_int : PySem.W.nsIn K mainGlobals "int" = some none)
    (z_bool : PySem.W.nsIn K mainGlobals "bool" = some none)
    (z_tuple : PySem.W.nsIn K mainGlobals "tuple" = some none)
    (z_len : PySem.W.nsIn K mainGlobals "len" = some none)
    (z_abs : PySem.W.nsIn K mainGlobals "abs" = some none)
    (z_list : PySem.W.nsIn K mainGlobals "list" = some none)
    (z_range : PySem.W.nsIn K mainGlobals "range" = some none)
    (z_repr : PySem.W.nsIn K mainGlobals "repr" = some none)
    (z_max : PySem.W.nsIn K mainGlobals "max" = some none)
    (z_min : PySem.W.nsIn K mainGlobals "min" = some none) : Txt K mg :=
  { d_is_whole := ⟨_, _, PySem.W.mg_of X G a_is_whole, fun_mk (st := s_is_whole) l_is_whole d_is_whole k_is_whole⟩,
    d_is_from := ⟨_, _, PySem.W.mg_of X G a_is_from, fun_mk (st := s_is_from) l_is_from d_is_from k_is_from⟩,
    d_is_pair := ⟨_, _, PySem.W.mg_of X G a_is_pair, fun_mk (st := s_is_pair) l_is_pair d_is_pair k_is_pair⟩,
    d_require_whole := ⟨_, _, PySem.W.mg_of X G a_require_whole, fun_mk (st := s_require_whole) l_require_whole d_require_whole k_require_whole⟩,
    d_require_pair := ⟨_, _, PySem.W.mg_of X G a_require_pair, fun_mk (st := s_require_pair) l_require_pair d_require_pair k_require_pair⟩,
    d_greatest_divisor := ⟨_, _, PySem.W.mg_of X G a_greatest_divisor, fun_mk (st := s_greatest_divisor) l_greatest_divisor d_greatest_divisor k_greatest_divisor⟩,
    d_weighed_divisor := ⟨_, _, PySem.W.mg_of X G a_weighed_divisor, fun_mk (st := s_weighed_divisor) l_weighed_divisor d_weighed_divisor k_weighed_divisor⟩,
    d_is_shift := ⟨_, _, PySem.W.mg_of X G a_is_shift, fun_mk (st := s_is_shift) l_is_shift d_is_shift k_is_shift⟩,
    d_require_lattice_numbers := ⟨_, _, PySem.W.mg_of X G a_require_lattice_numbers, fun_mk (st := s_require_lattice_numbers) l_require_lattice_numbers d_require_lattice_numbers k_require_lattice_numbers⟩,
    d__law_opened := ⟨_, _, PySem.W.mg_of X G a__law_opened, fun_mk (st := s__law_opened) l__law_opened d__law_opened k__law_opened⟩,
    d__law_draw := ⟨_, _, PySem.W.mg_of X G a__law_draw, fun_mk (st := s__law_draw) l__law_draw d__law_draw k__law_draw⟩,
    d__law_pick := ⟨_, _, PySem.W.mg_of X G a__law_pick, fun_mk (st := s__law_pick) l__law_pick d__law_pick k__law_pick⟩,
    d__law_int := ⟨_, _, PySem.W.mg_of X G a__law_int, fun_mk (st := s__law_int) l__law_int d__law_int k__law_int⟩,
    d__law_three := ⟨_, _, PySem.W.mg_of X G a__law_three, fun_mk (st := s__law_three) l__law_three d__law_three k__law_three⟩,
    d__law_place := ⟨_, _, PySem.W.mg_of X G a__law_place, fun_mk (st := s__law_place) l__law_place d__law_place k__law_place⟩,
    d__law_holds := ⟨_, _, PySem.W.mg_of X G a__law_holds, fun_mk (st := s__law_holds) l__law_holds d__law_holds k__law_holds⟩,
    d__law_refused := ⟨_, _, PySem.W.mg_of X G a__law_refused, fun_mk (st := s__law_refused) l__law_refused d__law_refused k__law_refused⟩,
    d__law_order := ⟨_, _, PySem.W.mg_of X G a__law_order, fun_mk (st := s__law_order) l__law_order d__law_order k__law_order⟩,
    d__law_told_right := ⟨_, _, PySem.W.mg_of X G a__law_told_right, fun_mk (st := s__law_told_right) l__law_told_right d__law_told_right k__law_told_right⟩,
    d__law_within_right := ⟨_, _, PySem.W.mg_of X G a__law_within_right, fun_mk (st := s__law_within_right) l__law_within_right d__law_within_right k__law_within_right⟩,
    lam__law_none_right := lamf_mk X G a__law_none_right l__law_none_right d__law_none_right k__law_none_right t__law_none_right,
    d_law := ⟨_, _, PySem.W.mg_of X G a_law, fun_mk (st := s_law) l_law d_law k_law⟩,
    ci_Lattice := by rw [ga_of xa_Lattice]; exact ⟨⟨pg_Lattice, hd_Lattice, po_Lattice, sa_Lattice⟩, ya_Lattice, yn, yt, ym_Lattice⟩,
    c_Lattice := by rw [ga_of xa_Lattice]; exact ⟨pg_Lattice, hd_Lattice, po_Lattice, sa_Lattice⟩,
    g_Lattice := by rw [ga_of xa_Lattice]; exact PySem.W.mg_of X G xa_Lattice,
    na_Lattice_a := by rw [ga_of xa_Lattice]; exact na_Lattice_a,
    na_Lattice_b := by rw [ga_of xa_Lattice]; exact na_Lattice_b,
    na_Lattice_d := by rw [ga_of xa_Lattice]; exact na_Lattice_d,
    d_Lattice___init__ := by rw [ga_of xa_Lattice]; exact ⟨_, _, ⟨mm_Lattice, ma_Lattice___init__, mi_Lattice___init__, kc_Lattice⟩, ⟨⟨_, _, _, _, _, _, _, _, _, _, rfl, l_Lattice___init__, d_Lattice___init__, .inl ⟨rfl, rfl⟩, .inl rfl⟩, mk_Lattice___init__⟩⟩,
    d_Lattice___eq__ := by rw [ga_of xa_Lattice]; exact ⟨_, _, ⟨ma_Lattice___eq__, mi_Lattice___eq__, mk_Lattice___eq__⟩, ⟨⟨_, _, _, _, _, _, _, _, _, _, rfl, l_Lattice___eq__, d_Lattice___eq__, .inl ⟨rfl, rfl⟩, .inl rfl⟩, mk_Lattice___eq__⟩⟩,
    d_Lattice___le__ := by rw [ga_of xa_Lattice]; exact ⟨_, _, ⟨ma_Lattice___le__, mi_Lattice___le__, mk_Lattice___le__⟩, ⟨⟨_, _, _, _, _, _, _, _, _, _, rfl, l_Lattice___le__, d_Lattice___le__, .inl ⟨rfl, rfl⟩, .inl rfl⟩, mk_Lattice___le__⟩⟩,
    d_Lattice___contains__ := by rw [ga_of xa_Lattice]; exact ⟨_, _, ⟨ma_Lattice___contains__, mi_Lattice___contains__, mk_Lattice___contains__⟩, ⟨⟨_, _, _, _, _, _, _, _, _, _, rfl, l_Lattice___contains__, d_Lattice___contains__, .inl ⟨rfl, rfl⟩, .inl rfl⟩, mk_Lattice___contains__⟩⟩,
    d_Lattice_area := by rw [ga_of xa_Lattice]; exact ⟨_, _, ⟨ma_Lattice_area, mi_Lattice_area, mk_Lattice_area⟩, ⟨⟨_, _, _, _, _, _, _, _, _, _, rfl, l_Lattice_area, d_Lattice_area, .inl ⟨rfl, rfl⟩, .inl rfl⟩, mk_Lattice_area⟩⟩,
    d_Lattice_place := by rw [ga_of xa_Lattice]; exact ⟨_, _, ⟨ma_Lattice_place, mi_Lattice_place, mk_Lattice_place⟩, ⟨⟨_, _, _, _, _, _, _, _, _, _, rfl, l_Lattice_place, d_Lattice_place, .inl ⟨rfl, rfl⟩, .inl rfl⟩, mk_Lattice_place⟩⟩,
    d_Lattice_order := by rw [ga_of xa_Lattice]; exact ⟨_, _, ⟨ma_Lattice_order, mi_Lattice_order, mk_Lattice_order⟩, ⟨⟨_, _, _, _, _, _, _, _, _, _, rfl, l_Lattice_order, d_Lattice_order, .inl ⟨rfl, rfl⟩, .inl rfl⟩, mk_Lattice_order⟩⟩,
    d_Lattice_places := by rw [ga_of xa_Lattice]; exact ⟨_, _, ⟨ma_Lattice_places, mi_Lattice_places, mk_Lattice_places⟩, ⟨⟨_, _, _, _, _, _, _, _, _, _, rfl, l_Lattice_places, d_Lattice_places, .inl ⟨rfl, rfl⟩, .inl rfl⟩, mk_Lattice_places⟩⟩,
    x_BadNumber := ext_mk (st := s_BadNumber___init__) X G xa_BadNumber xl_BadNumber xr_BadNumber xs_BadNumber xe_BadNumber xt_BadNumber xk_BadNumber xg_BadNumber xG_BadNumber xd_BadNumber xn_BadNumber xi_BadNumber xf_BadNumber xL_BadNumber xc_BadNumber xK_BadNumber sc_BadNumber___init__ rfl (fun _ _ _ _ _ _ us hl => match us, hl with | [_, _], _ => rfl),
    x_BadPart := ext_mk (st := s_BadPart___init__) X G xa_BadPart xl_BadPart xr_BadPart xs_BadPart xe_BadPart xt_BadPart xk_BadPart xg_BadPart xG_BadPart xd_BadPart xn_BadPart xi_BadPart xf_BadPart xL_BadPart xc_BadPart xK_BadPart sc_BadPart___init__ rfl (fun _ _ _ _ _ _ us hl => match us, hl with | [_, _], _ => rfl),
    nfS := by rw [ga_of xa_Lattice]; exact nfS,
    kSL := by rw [ga_of xa_Lattice]; exact kSL,
    mPP := by rw [ga_of xa_BadPart]; exact ePP,
    gI := by rw [ga_of xa_BadIndex]; exact PySem.W.mg_of X G xa_BadIndex,
    gS := by rw [ga_of xa_NotSo]; exact PySem.W.mg_of X G xa_NotSo,
    gM := by rw [ga_of xa_TooMany]; exact PySem.W.mg_of X G xa_TooMany,
    m_isinstance := PySem.W.mg_none_of X G z_isinstance,
    m_int := PySem.W.mg_none_of X G z_int,
    m_bool := PySem.W.mg_none_of X G z_bool,
    m_tuple := PySem.W.mg_none_of X G z_tuple,
    m_len := PySem.W.mg_none_of X G z_len,
    m_abs := PySem.W.mg_none_of X G z_abs,
    m_list := PySem.W.mg_none_of X G z_list,
    m_range := PySem.W.mg_none_of X G z_range,
    m_repr := PySem.W.mg_none_of X G z_repr,
    m_max := PySem.W.mg_none_of X G z_max,
    m_min := PySem.W.mg_none_of X G z_min }
open LamX
theorem law_at {l : PySem.W.OpenLaw} {h : Heap} {fa c P0 : Addr} (X : K.In h) (hmg : mg "law" = some (.ref fa)) (T : Txt K mg) (ht : PySem.W.tabIn K "_law_none_right" = some (c, P0)) (hc : PySem.W.codeHdIn K c P0 = true) (hP : h.get? P0 = some (PySem.W.tabObj #[])) (hn : K.lookup P0 = none) :
    LawAtS l w K (L2.CX l.prog w) 11 63 "_law_script" mg fa h := by
  obtain ⟨f, fd, g, F⟩ := T.d_law
  have e : f = fa := by
    have h1 : some (Value.ref f) = some (Value.ref fa) := g.symm.trans hmg
    injection h1 with h2
    injection h2
  subst e
  have e1 : cOf K "_law_none_right" = c := by unfold cOf; rw [ht]; rfl
  have e2 : pOf K "_law_none_right" = P0 := by unfold pOf; rw [ht]; rfl
  refine ⟨fd, [(c, P0)], spLaw K, ?_, ?_, ?_, ?_, ?_, ?_⟩
  · intro p hp; rw [List.mem_singleton.mp hp]; exact hP
  · intro p hp; rw [List.mem_singleton.mp hp]; exact hn
  · intro p hp; rw [List.mem_singleton.mp hp]; exact PySem.W.codeHd_of_K X hc
  · intro s u
    obtain ⟨oc, od, kV, doc, pm, an, cdv, ct, osl, rfl, _⟩ := F.ex
    exact .of_eq rfl
  · intro H a ns hl _ hT hS
    refine ⟨a, rfl, ns, hS, hl, ?_, fun _ => rfl⟩
    intro p hp
    rw [List.mem_singleton.mp hp, e2]
    exact TabS.nil (hT _ (List.mem_singleton.mpr rfl))
  · intro base kb nb hTB
    refine o_law T ?_ F
    rw [e1, e2]
    exact hTB _ (List.mem_singleton.mpr rfl)
end
end Iz
/-! k08_end -/
set_option Elab.async false
set_option linter.all false
open PySem PySem.W PyProof.Rows
set_option maxRecDepth 100000 in
set_option maxHeartbeats 0 in
theorem PySem.Challenge.cw_endlessplane_k08_lattices_told_holds : PySem.Challenge.rw_endlessplane_k08_lattices_told.Holds := by
  w_on; o_law; k_head; (case hw => w_witness2)
  k_fill
  refine LamX.walk_ofTs (l := PySem.Challenge.rw_endlessplane_k08_lattices_told) (n := 63) (k := 11) (x := "_law_script") (CX := fun w => L2.CX PySem.Challenge.rw_endlessplane_k08_lattices_told.prog w) rfl (by decide) rfl ⟨rfl, by decide, by decide⟩ (fun w h Y => PySem.W.km_in_of Y) ?F ?X
  case X =>
    intro w H s e s' hx
    obtain ⟨_, _, _, _, _, _, _, _, _, _, _, _, z⟩ := hx
    exact z.elim
  case F =>
    intro w mg fa h Y KX G hmg
    refine' Iz.law_at KX hmg (Iz.txt_mk KX G ?a_is_whole ?l_is_whole ?d_is_whole ?k_is_whole ?a_is_from ?l_is_from ?d_is_from ?k_is_from ?a_is_pair ?l_is_pair ?d_is_pair ?k_is_pair ?a_require_whole ?l_require_whole ?d_require_whole ?k_require_whole ?a_require_pair ?l_require_pair ?d_require_pair ?k_require_pair ?a_greatest_divisor ?l_greatest_divisor ?d_greatest_divisor ?k_greatest_divisor ?a_weighed_divisor ?l_weighed_divisor ?d_weighed_divisor ?k_weighed_divisor ?a_is_shift ?l_is_shift ?d_is_shift ?k_is_shift ?a_require_lattice_numbers ?l_require_lattice_numbers ?d_require_lattice_numbers ?k_require_lattice_numbers ?a__law_opened ?l__law_opened ?d__law_opened ?k__law_opened ?a__law_draw ?l__law_draw ?d__law_draw ?k__law_draw ?a__law_pick ?l__law_pick ?d__law_pick ?k__law_pick ?a__law_int ?l__law_int ?d__law_int ?k__law_int ?a__law_three ?l__law_three ?d__law_three ?k__law_three ?a__law_place ?l__law_place ?d__law_place ?k__law_place ?a__law_holds ?l__law_holds ?d__law_holds ?k__law_holds ?a__law_refused ?l__law_refused ?d__law_refused ?k__law_refused ?a__law_order ?l__law_order ?d__law_order ?k__law_order ?a__law_told_right ?l__law_told_right ?d__law_told_right ?k__law_told_right ?a__law_within_right ?l__law_within_right ?d__law_within_right ?k__law_within_right ?a__law_none_right ?l__law_none_right ?d__law_none_right ?k__law_none_right ?t__law_none_right ?a_law ?l_law ?d_law ?k_law ?xa_Lattice ?pg_Lattice ?hd_Lattice ?po_Lattice ?sa_Lattice ?mm_Lattice ?kc_Lattice ?ya_Lattice ?ym_Lattice ?na_Lattice_a ?na_Lattice_b ?na_Lattice_d ?ma_Lattice___init__ ?mi_Lattice___init__ ?mk_Lattice___init__ ?l_Lattice___init__ ?d_Lattice___init__ ?ma_Lattice___eq__ ?mi_Lattice___eq__ ?mk_Lattice___eq__ ?l_Lattice___eq__ ?d_Lattice___eq__ ?ma_Lattice___le__ ?mi_Lattice___le__ ?mk_Lattice___le__ ?l_Lattice___le__ ?d_Lattice___le__ ?ma_Lattice___contains__ ?mi_Lattice___contains__ ?mk_Lattice___contains__ ?l_Lattice___contains__ ?d_Lattice___contains__ ?ma_Lattice_area ?mi_Lattice_area ?mk_Lattice_area ?l_Lattice_area ?d_Lattice_area ?ma_Lattice_place ?mi_Lattice_place ?mk_Lattice_place ?l_Lattice_place ?d_Lattice_place ?ma_Lattice_order ?mi_Lattice_order ?mk_Lattice_order ?l_Lattice_order ?d_Lattice_order ?ma_Lattice_places ?mi_Lattice_places ?mk_Lattice_places ?l_Lattice_places ?d_Lattice_places ?xa_BadNumber ?xl_BadNumber ?xr_BadNumber ?xs_BadNumber ?xe_BadNumber ?xt_BadNumber ?xk_BadNumber ?xg_BadNumber ?xG_BadNumber ?xd_BadNumber ?xn_BadNumber ?xi_BadNumber ?xf_BadNumber ?xL_BadNumber ?xc_BadNumber ?xK_BadNumber ?yc_BadNumber ?ya_BadNumber ?ym_BadNumber ?xa_BadPart ?xl_BadPart ?xr_BadPart ?xs_BadPart ?xe_BadPart ?xt_BadPart ?xk_BadPart ?xg_BadPart ?xG_BadPart ?xd_BadPart ?xn_BadPart ?xi_BadPart ?xf_BadPart ?xL_BadPart ?xc_BadPart ?xK_BadPart ?yc_BadPart ?ya_BadPart ?ym_BadPart ?yn ?yt ?xa_BadIndex ?xa_NotSo ?xa_TooMany ?ePP ?nfS ?kSL ?z_isinstance ?z_int ?z_bool ?z_tuple ?z_len ?z_abs ?z_list ?z_range ?z_repr ?z_max ?z_min) ?T1 ?T2 (PySem.W.km_tabs_of Y _ ?T3) ?T4
    (case a_is_whole => k_is)
    (case l_is_whole => k_is)
    (case d_is_whole => k_is)
    (case k_is_whole => k_is)
    (case a_is_from => k_is)
    (case l_is_from => k_is)
    (case d_is_from => k_is)
    (case k_is_from => k_is)
    (case a_is_pair => k_is)
    (case l_is_pair => k_is)
    (case d_is_pair => k_is)
    (case k_is_pair => k_is)
    (case a_require_whole => k_is)
    (case l_require_whole => k_is)
    (case d_require_whole => k_is)
    (case k_require_whole => k_is)
    (case a_require_pair => k_is)
    (case l_require_pair => k_is)
    (case d_require_pair => k_is)
    (case k_require_pair => k_is)
    (case a_greatest_divisor => k_is)
    (case l_greatest_divisor => k_is)
    (case d_greatest_divisor => k_is)
    (case k_greatest_divisor => k_is)
    (case a_weighed_divisor => k_is)
    (case l_weighed_divisor => k_is)
    (case d_weighed_divisor => k_is)
    (case k_weighed_divisor => k_is)
    (case a_is_shift => k_is)
    (case l_is_shift => k_is)
    (case d_is_shift => k_is)
    (case k_is_shift => k_is)
    (case a_require_lattice_numbers => k_is)
    (case l_require_lattice_numbers => k_is)
    (case d_require_lattice_numbers => k_is)
    (case k_require_lattice_numbers => k_is)
    (case a__law_opened => k_is)
    (case l__law_opened => k_is)
    (case d__law_opened => k_is)
    (case k__law_opened => k_is)
    (case a__law_draw => k_is)
    (case l__law_draw => k_is)
    (case d__law_draw => k_is)
    (case k__law_draw => k_is)
    (case a__law_pick => k_is)
    (case l__law_pick => k_is)
    (case d__law_pick => k_is)
    (case k__law_pick => k_is)
    (case a__law_int => k_is)
    (case l__law_int => k_is)
    (case d__law_int => k_is)
    (case k__law_int => k_is)
    (case a__law_three => k_is)
    (case l__law_three => k_is)
    (case d__law_three => k_is)
    (case k__law_three => k_is)
    (case a__law_place => k_is)
    (case l__law_place => k_is)
    (case d__law_place => k_is)
    (case k__law_place => k_is)
    (case a__law_holds => k_is)
    (case l__law_holds => k_is)
    (case d__law_holds => k_is)
    (case k__law_holds => k_is)
    (case a__law_refused => k_is)
    (case l__law_refused => k_is)
    (case d__law_refused => k_is)
    (case k__law_refused => k_is)
    (case a__law_order => k_is)
    (case l__law_order => k_is)
    (case d__law_order => k_is)
    (case k__law_order => k_is)
    (case a__law_told_right => k_is)
    (case l__law_told_right => k_is)
    (case d__law_told_right => k_is)
    (case k__law_told_right => k_is)
    (case a__law_within_right => k_is)
    (case l__law_within_right => k_is)
    (case d__law_within_right => k_is)
    (case k__law_within_right => k_is)
    (case a__law_none_right => k_is)
    (case l__law_none_right => k_is)
    (case d__law_none_right => k_is)
    (case k__law_none_right => k_is)
    (case t__law_none_right => first | rfl | (with_unfolding_all rfl) | kernel_rfl | k_is)
    (case a_law => k_is)
    (case l_law => k_is)
    (case d_law => k_is)
    (case k_law => k_is)
    (case xa_Lattice => k_is)
    (case pg_Lattice => k_is)
    (case hd_Lattice => k_is)
    (case po_Lattice => k_is)
    (case sa_Lattice => k_is)
    (case mm_Lattice => k_is)
    (case kc_Lattice => k_is)
    (case ya_Lattice => k_is)
    (case ym_Lattice => k_is)
    (case na_Lattice_a => k_is)
    (case na_Lattice_b => k_is)
    (case na_Lattice_d => k_is)
    (case ma_Lattice___init__ => k_is)
    (case mi_Lattice___init__ => k_is)
    (case mk_Lattice___init__ => k_is)
    (case l_Lattice___init__ => k_is)
    (case d_Lattice___init__ => k_is)
    (case ma_Lattice___eq__ => k_is)
    (case mi_Lattice___eq__ => k_is)
    (case mk_Lattice___eq__ => k_is)
    (case l_Lattice___eq__ => k_is)
    (case d_Lattice___eq__ => k_is)
    (case ma_Lattice___le__ => k_is)
    (case mi_Lattice___le__ => k_is)
    (case mk_Lattice___le__ => k_is)
    (case l_Lattice___le__ => k_is)
    (case d_Lattice___le__ => k_is)
    (case ma_Lattice___contains__ => k_is)
    (case mi_Lattice___contains__ => k_is)
    (case mk_Lattice___contains__ => k_is)
    (case l_Lattice___contains__ => k_is)
    (case d_Lattice___contains__ => k_is)
    (case ma_Lattice_area => k_is)
    (case mi_Lattice_area => k_is)
    (case mk_Lattice_area => k_is)
    (case l_Lattice_area => k_is)
    (case d_Lattice_area => k_is)
    (case ma_Lattice_place => k_is)
    (case mi_Lattice_place => k_is)
    (case mk_Lattice_place => k_is)
    (case l_Lattice_place => k_is)
    (case d_Lattice_place => k_is)
    (case ma_Lattice_order => k_is)
    (case mi_Lattice_order => k_is)
    (case mk_Lattice_order => k_is)
    (case l_Lattice_order => k_is)
    (case d_Lattice_order => k_is)
    (case ma_Lattice_places => k_is)
    (case mi_Lattice_places => k_is)
    (case mk_Lattice_places => k_is)
    (case l_Lattice_places => k_is)
    (case d_Lattice_places => k_is)
    (case xa_BadNumber => k_is)
    (case xl_BadNumber => k_is)
    (case xr_BadNumber => first | rfl | (with_unfolding_all rfl) | kernel_rfl | k_is)
    (case xs_BadNumber => k_is)
    (case xe_BadNumber => k_is)
    (case xt_BadNumber => k_is)
    (case xk_BadNumber => k_is)
    (case xg_BadNumber => k_is)
    (case xG_BadNumber => k_is)
    (case xd_BadNumber => k_is)
    (case xn_BadNumber => k_is)
    (case xi_BadNumber => k_is)
    (case xf_BadNumber => k_is)
    (case xL_BadNumber => k_is)
    (case xc_BadNumber => k_is)
    (case xK_BadNumber => k_is)
    (case yc_BadNumber => first | rfl | (with_unfolding_all rfl) | kernel_rfl | k_is)
    (case ya_BadNumber => k_is)
    (case ym_BadNumber => k_is)
    (case xa_BadPart => k_is)
    (case xl_BadPart => k_is)
    (case xr_BadPart => first | rfl | (with_unfolding_all rfl) | kernel_rfl | k_is)
    (case xs_BadPart => k_is)
    (case xe_BadPart => k_is)
    (case xt_BadPart => k_is)
    (case xk_BadPart => k_is)
    (case xg_BadPart => k_is)
    (case xG_BadPart => k_is)
    (case xd_BadPart => k_is)
    (case xn_BadPart => k_is)
    (case xi_BadPart => k_is)
    (case xf_BadPart => k_is)
    (case xL_BadPart => k_is)
    (case xc_BadPart => k_is)
    (case xK_BadPart => k_is)
    (case yc_BadPart => first | rfl | (with_unfolding_all rfl) | kernel_rfl | k_is)
    (case ya_BadPart => k_is)
    (case ym_BadPart => k_is)
    (case yn => k_is)
    (case yt => k_is)
    (case xa_BadIndex => k_is)
    (case xa_NotSo => k_is)
    (case xa_TooMany => k_is)
    (case ePP => first | rfl | (with_unfolding_all rfl) | kernel_rfl | k_is)
    (case nfS => first | rfl | (with_unfolding_all rfl) | kernel_rfl | k_is)
    (case kSL => first | rfl | (with_unfolding_all rfl) | kernel_rfl | k_is)
    (case z_isinstance => k_is)
    (case z_int => k_is)
    (case z_bool => k_is)
    (case z_tuple => k_is)
    (case z_len => k_is)
    (case z_abs => k_is)
    (case z_list => k_is)
    (case z_range => k_is)
    (case z_repr => k_is)
    (case z_max => k_is)
    (case z_min => k_is)
    (case T1 => first | rfl | with_unfolding_all rfl); (case T2 => first | rfl | with_unfolding_all rfl); (case T3 => decide); (case T4 => first | k_is | rfl | with_unfolding_all rfl)
