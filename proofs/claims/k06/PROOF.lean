import PyProof.Rows.All
import Wide.All
import OpenK.AllK
import Wide.FinOn
import HandS.ForMost
import HandS.ForExc
import HandS.ExcInit
import HandS.ExcField
import HandS.ExcIs
import HandS.IsInst
import HandS.Lambda
import HandS.EndTab
import HandS.Wide
import HandS.Style
import HandS.RaiseMore
import HandS.Flow
import HandS.HeadHook1
import KE.KExcIs
import PyProof.CallFns
import HandS.Defaults
import PyProof.WalksMore
import PyProof.FactsAll.range
import HandS.TryMany
import HandS.NoneIn
import KE.KFmtOwn
import HandS.SortInts
import HandS.Walk
import PyProof.ReprHeadsTuple
import PyProof.ReprHeadsEmpty
import PySem.Challenge.RW_endlessplane_k06_lines_in_stretches_and
/-! Bs -/
set_option Elab.async false
set_option linter.all false
set_option maxRecDepth 100000
set_option maxHeartbeats 4000000
namespace Iz
open PySem PySem.Spec PyProof.Rows L2
theorem cx_K {CX : CXT} {P : Program} {w : World} {K : PySem.W.Frag} {mg : Str → Option Value} {base : Heap} {N : List Str} {q : Str} {sc : Scope} {f : Addr} {cd : Value} {A : Around} {outer : List Env} {s : Shared} {H : Hp} {E : XK} : (cxOf CX P w K mg base N q sc f cd A outer s H E).K = K := rfl
/-! ### defs by name, calls -/
/-- the global x is a def that keeps sp -/
structure OkF (P : Program) (w : World) (K : PySem.W.Frag) (mg : Str → Option Value) (base : Heap) (CX : CXT) (k : Nat) (x : Str) (ps : List Str) (sp : Sp) : Prop where
  ex : ∃ (f : Addr) (fd : FuncData), mg x = some (.ref f) ∧ PySem.W.keepIn K (.ref f) = true ∧ Binds K fd ps [] ∧ FnOk P w K mg base CX k f fd ps sp
theorem OkF.imp {P : Program} {w : World} {K : PySem.W.Frag} {mg : Str → Option Value} {base : Heap} {CX : CXT} {k : Nat} {x : Str} {ps : List Str} {sp sp' : Sp} (F : OkF P w K mg base CX k x ps sp) (h : ∀ vs H Q E, sp' vs H Q E → sp vs H Q E) : OkF P w K mg base CX k x ps sp' :=
  let ⟨f, fd, g, kp, b, G⟩ := F.ex
  ⟨f, fd, g, kp, b, G.imp h⟩
/-- inside a def that may raise: what is raised goes on out -/
theorem passE {P : Program} {w : World} {K : PySem.W.Frag} {mg : Str → Option Value} {base : Heap} {N : List Str} {q : Str} {sc : Scope} {f : Addr} {cd : Value} {A : Around} {outer : List Env} {s : Shared} {H : Hp} {E : XK} :
    Passes (L2.CX P w) (cxOf (L2.CX P w) P w K mg base N q sc f cd A outer s H E) E := passes_call (W := fun cls d _ H => E cls d H) (takes_of rfl rfl rfl rfl) fun _ _ _ _ h => h
theorem takesE {P : Program} {w : World} {K : PySem.W.Frag} {mg : Str → Option Value} {base : Heap} {N : List Str} {q : Str} {sc : Scope} {f : Addr} {cd : Value} {A : Around} {outer : List Env} {s : Shared} {H : Hp} {E : XK} :
    Takes (cxOf (L2.CX P w) P w K mg base N q sc f cd A outer s H E) (fun cls d _ H => E cls d H) := takes_of rfl rfl rfl rfl
section
variable {X : Cx} {k : Nat} {x : Str} {ps : List Str} {sp : Sp} {E : XK} {e : Expr} {es : List Expr} {t : TA} {p pos : Pos}
/-- f(e, ..) -/
theorem pcl {CX : CXT} (O : OkF X.prog X.w X.K X.mg X.base CX k x ps sp) (hr : Room k X.A) (hx : Passes CX X E) (ha : PA X (e :: es) t) (hg : Gl X x := by rfl) (hdb : (x == ("__debug__" : Str)) = false := by decide)
    (he : starEach (e :: es) X.env = (false, eval e X.env) :: starEach es X.env := by rfl) (hpl : (backTo pos (starEach es X.env)).any (·.1) = false := by rfl) : PE X (.Call (.Name x p) (e :: es) [] pos) (tCall sp [] E t) := by
  obtain ⟨f, fd, g, kp, b, G⟩ := O.ex
  exact pe_call G hr hg g kp b .nil hx ha hdb he hpl
end
theorem op_fdivF {X : Cx} : OpR X (binaryOp .FloorDiv) (rI (fun _ j => j ≠ 0 ∧ j.natAbs.log2 < 9000) fun i j => .int (i.fdiv j)) := opI fun i j _ _ _ _ _ hc q => floordiv_int hc.1 q (.inl (PyProof.noPylong_of_log2 hc.2))
theorem log_lt {x : Int} {n m : Nat} (h : x.natAbs < 2 ^ n) (hm : n ≤ m) (h0 : 0 < m) : x.natAbs.log2 < m := PySem.Flt.log2_lt_of h0 (Nat.lt_of_lt_of_le h (Nat.pow_le_pow_right (by decide) hm))
/-! ### readings in a form that simp reads: an object is named by what stands at it -/
section
variable {X : Cx} {e a b : Expr} {es : List Expr} {t t' ta tb : TE}
theorem PE.imp (h : PE X e t) (k : ∀ σ H Q, t' σ H Q → t σ H Q) : PE X e t' := ⟨fun pins s σ H Q I q => h.run pins s σ H Q I (k σ H Q q)⟩
theorem PS.imp {st : Stmt} {t t' : TS} (h : PS X st t) (k : ∀ D σ H, t' D σ H → t D σ H) : PS X st t' := ⟨fun pins s σ H D I q => h.run pins s σ H D I (k D σ H q)⟩
theorem PG.imp {tg : Expr} {t t' : TG} (h : PG X tg t) (k : ∀ v σ H Q, t' v σ H Q → t v σ H Q) : PG X tg t' := ⟨fun pins s σ H v u Q I r q => h.run pins s σ H v u Q I r (k v σ H Q q)⟩
theorem CallR.imp {f : Value} {r r' : List V → Hp → VK → Prop} (h : CallR X f r) (k : ∀ xs H Q, r' xs H Q → r xs H Q) : CallR X f r' := fun pins s σ H xs us Q I rv q => h pins s σ H xs us Q I rv (k xs H Q q)
theorem Same.upd {H : Hp} {p : Addr} {o : HO} (h : H p = none) : Same H (L2.upd H p o) := fun b u e => by rw [upd_ne (ne_of_none e h)]; exact e
/-- a new object: from then on some heap that has it and all else -/
def News (H : Hp) (o : HO) (Q : V → Hp → Prop) : Prop := ∀ p H2, H p = none → Same H H2 → H2 p = some o → Q (.ref p) H2
theorem News.all {H : Hp} {o : HO} {Q : V → Hp → Prop} (n : News H o Q) : ∀ p, H p = none → Q (.ref p) (upd H p o) := fun p hp => n p _ hp (Same.upd hp) upd_same
def tTupN (t : TA) : TE := fun σ H Q => t σ H fun xs H1 => xs.length ≤ sizeLine ∧ News H1 (.tup xs) Q
def tLstN (t : TA) : TE := fun σ H Q => t σ H fun xs H1 => xs.length ≤ sizeLine ∧ News H1 (.lst xs) Q
/-- what a reading gives, weakened -/
def mcl {α : Type} (t : L2.St → Hp → (α → Hp → Prop) → Prop) : L2.St → Hp → (α → Hp → Prop) → Prop := fun σ H Q => ∃ Q0, t σ H Q0 ∧ ∀ v H1, Q0 v H1 → Q v H1
theorem PA.mcl {t : TA} (h : PA X es t) : PA X es (mcl t) := ⟨fun pos pins s σ H Q I ⟨Q0, q, k⟩ => thn (h.run pos pins s σ H Q0 I q) fun us s1 ⟨vs, H1, I1, r, q1⟩ => ⟨vs, H1, I1, r, k vs H1 q1⟩⟩
theorem PE.mcl {t : TE} (h : PE X e t) : PE X e (mcl t) := ⟨fun pins s σ H Q I ⟨Q0, q, k⟩ => thn (h.run pins s σ H Q0 I q) fun u s1 ⟨v, H1, I1, r, q1⟩ => ⟨v, H1, I1, r, k v H1 q1⟩⟩
theorem pe_tupN {t : TA} {x1 : Nat} {pos : Pos} (h : PA X es t) : PE X (.Tuple es x1 pos) (tTupN t) := PE.imp (pe_tup (PA.mcl h)) fun σ H Q q => ⟨_, q, fun vs H1 ⟨z, n⟩ => ⟨z, n.all⟩⟩
theorem pe_lstN {t : TA} {pos : Pos} (h : PA X es t) : PE X (.List es pos) (tLstN t) := PE.imp (pe_lst (PA.mcl h)) fun σ H Q q => ⟨_, q, fun vs H1 ⟨z, n⟩ => ⟨z, n.all⟩⟩
def rIxTN : R2 := fun x y H Q => ∃ p xs i v, x = .ref p ∧ y = .int i ∧ H p = some (.tup xs) ∧ atI xs i = some v ∧ Q v H
theorem ix_tupN : IxR X rIxTN := fun v0 sl pins s σ H x y v u Q I rx ry q hs => ix_tup v0 sl pins s σ H x y v u Q I rx ry (let ⟨p, xs, i, z, a, b, c, d, q⟩ := q; ⟨p, xs, i, z, a, b, SqT.of c, d, q⟩) hs
def rIxLN : R2 := fun x y H Q => ∃ p xs i v, x = .ref p ∧ y = .int i ∧ H p = some (.lst xs) ∧ atI xs i = some v ∧ Q v H
theorem ix_listN : IxR X rIxLN := fun v0 sl pins s σ H x y v u Q I rx ry q hs => ix_list v0 sl pins s σ H x y v u Q I rx ry (let ⟨p, xs, i, z, a, b, c, d, q⟩ := q; ⟨p, xs, i, z, a, b, SqL.of c, d, q⟩) hs
def gTupN (n : Nat) (t : TGs) : TG := fun v σ H Q => ∃ a xs, v = .ref a ∧ H a = some (.tup xs) ∧ xs.length = n ∧ t xs σ H Q
theorem pg_tupN {k : Nat} {pos : Pos} {t : TGs} {n : Nat} (hc : X.calm = true) (h : PGs X es t) (hn : (assignEach es X.env).length = n := by rfl) (hst : (assignEach es X.env).findIdx? (·.1) = none := by rfl) : PG X (.Tuple es k pos) (gTupN n t) :=
  PG.imp (pg_tup hc h hn hst) fun v σ H Q ⟨p, xs, a, c, d, q⟩ => ⟨p, xs, a, SqT.of c, d, q⟩
def rLenL : List V → Hp → VK → Prop := fun xs H Q => ∃ p ys, xs = [.ref p] ∧ H p = some (.lst ys) ∧ Q (.int ys.length) H
theorem call_lenL : CallR X (.builtin "len") rLenL := CallR.imp call_len_seq fun xs H Q ⟨p, ys, a, b, q⟩ => ⟨p, ys, a, .inl (SqL.of b), q⟩
def rLenT : List V → Hp → VK → Prop := fun xs H Q => ∃ p ys, xs = [.ref p] ∧ H p = some (.tup ys) ∧ Q (.int ys.length) H
theorem call_lenT : CallR X (.builtin "len") rLenT := CallR.imp call_len_seq fun xs H Q ⟨p, ys, a, b, q⟩ => ⟨p, ys, a, .inr (SqT.of b), q⟩
def rIntI : List V → Hp → VK → Prop := fun xs H Q => ∃ i, xs = [.int i] ∧ Q (.int i) H
theorem call_intI : CallR X (.type "int") rIntI := CallR.imp call_int1 fun xs H Q q => .inl q
def rIntB : List V → Hp → VK → Prop := fun xs H Q => ∃ k, xs = [.bl k] ∧ Q (.int (if k then 1 else 0)) H
theorem call_intB : CallR X (.type "int") rIntB := CallR.imp call_int1 fun xs H Q q => .inr q
def rAbs : List V → Hp → VK → Prop := fun xs H Q => ∃ i, xs = [.int i] ∧ Q (.int (i.natAbs : Int)) H
theorem call_absN : CallR X (.builtin "abs") rAbs := CallR.imp call_abs fun xs H Q ⟨i, a, q⟩ => ⟨i, a, by rw [show (if i < 0 then -i else i) = (i.natAbs : Int) by split <;> omega]; exact q⟩
def rListS (K : PySem.W.Frag) : List V → Hp → VK → Prop := fun xs H Q => ∃ p ys, xs = [.ref p] ∧ SqL K H p ys ∧ News H (.lst ys) Q
theorem call_listS : CallR X (.type "list") (rListS X.K) := CallR.imp call_list_of fun xs H Q ⟨p, ys, a, b, n⟩ => ⟨p, ys, a, .inl b, n.all⟩
/-- a truth: what the test says -/
theorem atI0 {α : Type} {a : α} {l : List α} : atI (a :: l) 0 = some a := by simp [atI, ixN]
theorem ixN_ok {n : Nat} {i : Int} (h : 0 ≤ i) (h2 : i < n) : ixN n i = some i.toNat := by simp [ixN, h, h2]
theorem atI_ok {α : Type} {l : List α} {i : Int} {v : α} (h : 0 ≤ i) (h2 : l[i.toNat]? = some v) : atI l i = some v := by
  have h3 := (List.getElem?_eq_some_iff.mp h2).1
  unfold atI
  rw [ixN_ok h (by omega)]
  exact h2
theorem atI1 {α : Type} {a b : α} {l : List α} : atI (a :: b :: l) 1 = some b := atI_ok (by decide) rfl
theorem atI2 {α : Type} {a b c : α} {l : List α} : atI (a :: b :: c :: l) 2 = some c := atI_ok (by decide) rfl
theorem atI3 {α : Type} {a b c d : α} {l : List α} : atI (a :: b :: c :: d :: l) 3 = some d := atI_ok (by decide) rfl
theorem ite_iff {c A B : Prop} [Decidable c] : (if c then A else B) ↔ ((c → A) ∧ (¬ c → B)) := by
  by_cases h : c <;> simp [h]
/-- a while's test may be asked for less -/
theorem mono_eq {r : R2} {i : Nat} {v : V} (hr : ∀ x y H Q Q', (∀ z H1, Q z H1 → Q' z H1) → r x y H Q → r x y H Q') : ∀ (σ : L2.St) (H : Hp) (Q Q' : Bool → Hp → Prop), (∀ b H1, Q b H1 → Q' b H1) → tTest (tOp r (tVar i) (tC v)) σ H Q → tTest (tOp r (tVar i) (tC v)) σ H Q' :=
  fun _ _ _ _ k ⟨x, h, q⟩ => ⟨x, h, hr _ _ _ _ _ (fun _ _ ⟨b, e, q⟩ => ⟨b, e, k _ _ q⟩) q⟩
theorem mono_ne {i : Nat} {v : V} : ∀ (σ : L2.St) (H : Hp) (Q Q' : Bool → Hp → Prop), (∀ b H1, Q b H1 → Q' b H1) → tTest (tOp rNe (tVar i) (tC v)) σ H Q → tTest (tOp rNe (tVar i) (tC v)) σ H Q' := mono_eq fun _ _ _ _ _ k ⟨a, q⟩ => ⟨a, k _ _ q⟩
end
/-- H2 is H with o at p -/
def Put (H H2 : Hp) (p : Addr) (o : HO) : Prop := H2 p = some o ∧ ∀ b, b ≠ p → H2 b = H b
def rSetLN : V → V → V → Hp → (Hp → Prop) → Prop := fun o i v H Q => ∃ p xs k j, o = .ref p ∧ i = .int k ∧ H p = some (.lst xs) ∧ ixN xs.length k = some j ∧ ∀ H2, Put H H2 p (.lst (xs.set j v)) → Q H2
theorem set_listN {X : Cx} : PSet X rSetLN := fun pins s σ H o i v ov iv u Q I ro ri rv ⟨p, xs, k, j, a, b, c, d, q⟩ => set_list pins s σ H o i v ov iv u Q I ro ri rv ⟨p, xs, k, j, a, b, c, d, q _ ⟨upd_same, fun _ h => upd_ne h⟩⟩
theorem PT.imp {X : Cx} {e : Expr} {t t' : TT} (h : PT X e t) (k : ∀ σ H Q, t' σ H Q → t σ H Q) : PT X e t' := ⟨fun pins s σ H Q I q => h.run pins s σ H Q I (k σ H Q q)⟩
/-- a list's truth -/
def tTruL (te : TE) : TT := fun σ H Q => te σ H fun x H1 => ∃ p xs, x = .ref p ∧ H1 p = some (.lst xs) ∧ Q (!xs.isEmpty) H1
theorem pt_truL {X : Cx} {e : Expr} {te : TE} (h : PE X e te) (hw : ∀ t : Sem Value, isTrue e X.env t = (t >>= fun v => standAt e.pos >>= fun _ => holding [v] (truthy v)) := by intro _; rfl) : PT X e (tTruL te) :=
  PT.imp (pt_truth (PE.mcl h) hw) fun σ H Q q => ⟨_, q, fun v H1 ⟨p, xs, a, b, q⟩ => ⟨_, by subst a; exact .inl ⟨xs, SqL.of b, rfl⟩, q⟩⟩
theorem ixN0 {n : Nat} : ixN (n + 1) 0 = some 0 := ixN_ok (by decide) (by omega)
theorem ixN1 {n : Nat} : ixN (n + 1 + 1) 1 = some 1 := ixN_ok (by decide) (by omega)
theorem scal_ii {i j : Int} : scal (.int i) (.int j) = true := rfl
theorem scal_in {i : Int} : scal (.int i) .non = true := rfl
theorem scal_ni {i : Int} : scal .non (.int i) = true := rfl
theorem scal_nn : scal .non .non = true := rfl
theorem scal_bb {i j : Bool} : scal (.bl i) (.bl j) = true := rfl
theorem scal_ss {i j : Str} : scal (.str i) (.str j) = true := rfl
theorem scal_sn {i : Str} : scal (.str i) .non = true := rfl
theorem scal_ns {i : Str} : scal .non (.str i) = true := rfl
theorem scal_bn {i : Bool} : scal (.bl i) .non = true := rfl
theorem scal_nb {i : Bool} : scal .non (.bl i) = true := rfl
/-- xs.append(e) -/
def tApp (to : TE) (ta : TA) : TE := fun σ H Q => to σ H fun x H1 => ∃ l, x = .ref l ∧ (∃ xs, H1 l = some (.lst xs)) ∧ ta σ H1 fun vs H2 => ∃ y xs, vs = [y] ∧ H2 l = some (.lst xs) ∧ xs.length < sizeLine ∧ ∀ H3, Put H2 H3 l (.lst (xs ++ [y])) → Q .non H3
theorem pe_appN {X : Cx} {o e : Expr} {to : TE} {ta : TA} {apos cpos : Pos} (ho : PE X o to) (ha : PA X [e] ta)
    (hbase : attributeBase o "append" X.env (eval o X.env) = eval o X.env := by rfl)
    (hfew : ((backTo cpos (starEach [e] X.env)).all (fun x => !x.1) && (backToKw cpos (keywordEach [] X.env)).all (fun x => x.1.isSome) && decide ([e].length + ([] : List Keyword).length + (if ([] : List Keyword).isEmpty then 0 else 1) < 30)) = true := by rfl)
    (hline : (apos.endLine == cpos.line) = true := by rfl) (hs : starEach [e] X.env = (false, eval e X.env) :: starEach [] X.env := by rfl) (hplain : (backTo cpos (starEach [] X.env)).any (·.1) = false := by rfl) :
    PE X (.Call (.Attribute o "append" apos) [e] [] cpos) (tApp to ta) :=
  PE.imp (pe_bm PySem.F.plainAttrs_list PySem.F.slot_list_append PySem.F.type_list_append mt_append (PE.mcl ho) (PA.mcl ha) hbase hfew hline hs hplain) fun σ H Q q =>
    ⟨_, q, fun x H1 ⟨l, hx, ⟨xs, hl⟩, q⟩ => by subst hx; exact ⟨.inl ⟨rfl, xs, SqL.of hl⟩, _, q, fun vs H2 ⟨y, xs, a, b, c, q⟩ => ⟨l, xs, y, rfl, a, b, c, q _ ⟨upd_same, fun _ h => upd_ne h⟩⟩⟩⟩
/-- a statement whose ways join behind it: M holds there -/
def tCut (t : TS) : TS := fun D σ H => ∃ M : L2.St → Hp → Prop, t { D with nx := M } σ H ∧ ∀ σ' H', M σ' H' → D.nx σ' H'
theorem ps_cut {X : Cx} {st : Stmt} {t : TS} (h : PS X st t) : PS X st (tCut t) := ⟨fun pins s σ H D I ⟨M, q, k⟩ => thn (h.run pins s σ H { D with nx := M } I q) fun f s1 r => by
  cases f with
  | next => obtain ⟨σ', H', J, m⟩ := r; exact ⟨σ', H', J, k σ' H' m⟩
  | brk => exact r
  | cont => exact r
  | ret u => exact r⟩
/-! ### loops -/
section
variable {g : TG} {tb : TS} {D : Ends} {σ : L2.St} {H : Hp} {ta : TA} {tl : TE}
theorem st_forR1 (j : Int) (hj : -(2 ^ 62) ≤ j ∧ j < 2 ^ 62) (ha : ∀ Q : List V → Hp → Prop, Q [.int j] H → ta σ H Q) (Pv : Nat → L2.St → Hp → Prop) (h0 : Pv 0 σ H)
    (hs : ∀ i σ H, i < j.toNat → Pv i σ H → g (.int i) σ H fun σ2 H2 => tb { D with nx := Pv (i + 1), ct := Pv (i + 1), bk := D.nx } σ2 H2) (hd : ∀ σ H, Pv j.toNat σ H → D.nx σ H) : tFor (iRng1 ta) g tb D σ H :=
  ha _ ⟨j, rfl, hj.1, hj.2, for_range Pv h0 (fun i σ H hi p => by rw [Int.zero_add]; exact hs i σ H hi p) hd⟩
theorem st_forR2 (lo j : Int) (hl : -(2 ^ 62) ≤ lo ∧ lo < 2 ^ 62) (hj : -(2 ^ 62) ≤ j ∧ j < 2 ^ 62) (ha : ∀ Q : List V → Hp → Prop, Q [.int lo, .int j] H → ta σ H Q) (Pv : Nat → L2.St → Hp → Prop) (h0 : Pv 0 σ H)
    (hs : ∀ i σ H, i < (j - lo).toNat → Pv i σ H → g (.int (lo + i)) σ H fun σ2 H2 => tb { D with nx := Pv (i + 1), ct := Pv (i + 1), bk := D.nx } σ2 H2) (hd : ∀ σ H, Pv (j - lo).toNat σ H → D.nx σ H) : tFor (iRng2 ta) g tb D σ H :=
  ha _ ⟨lo, j, rfl, ⟨hl.1, hl.2, hj.1, hj.2⟩, for_range Pv h0 hs hd⟩
end
/-! ### values of any kind -/
/-- a plain int -/
def isI : V → Bool
  | .int _ => true
  | _ => false
theorem isI_int {x : V} (h : isI x = true) : ∃ i, x = .int i := by cases x <;> simp_all [isI]
/-- is_whole tells rightly of x -/
def Wh (K : PySem.W.Frag) (H : Hp) (x : V) : Prop := ∃ t b1 b2, TyX K H x t ∧ PySem.W.kitOne K t (.type "int") = some b1 ∧ PySem.W.kitOne K t (.type "bool") = some b2 ∧ (b1 && !b2) = isI x
section
variable {K : PySem.W.Frag} {H : Hp}
theorem wh_int {i : Int} : Wh K H (.int i) := ⟨_, true, false, .base (.int i), kit_ty (by decide +kernel), kit_ty (by decide +kernel), rfl⟩
theorem wh_bl {b : Bool} : Wh K H (.bl b) := ⟨_, true, true, .base (.bl b), kit_ty (by decide +kernel), kit_ty (by decide +kernel), rfl⟩
theorem wh_non : Wh K H .non := ⟨_, false, false, .base .non, kit_ty (by decide +kernel), kit_ty (by decide +kernel), rfl⟩
theorem wh_str {x : Str} : Wh K H (.str x) := ⟨_, false, false, .base (.str x), kit_ty (by decide +kernel), kit_ty (by decide +kernel), rfl⟩
theorem wh_tup {p : Addr} {xs : List V} (h : H p = some (.tup xs)) : Wh K H (.ref p) := ⟨_, false, false, .base (.tup h), kit_ty (by decide +kernel), kit_ty (by decide +kernel), rfl⟩
theorem wh_lst {p : Addr} {xs : List V} (h : H p = some (.lst xs)) : Wh K H (.ref p) := ⟨_, false, false, .base (.lst h), kit_ty (by decide +kernel), kit_ty (by decide +kernel), rfl⟩
end
/-- isinstance with a built-in class, with an own one -/
def rIsTy (K : PySem.W.Frag) : List V → Hp → VK → Prop := fun xs H Q => ∃ x n t b, xs = [x, .ty n] ∧ TyX K H x t ∧ PySem.W.kitOne K t (.type n) = some b ∧ Q (.bl b) H
theorem call_isTy {X : Cx} : CallR X (.builtin "isinstance") (rIsTy X.K) := CallR.imp call_isi fun xs H Q ⟨x, n, t, b, a, ty, k, q⟩ => ⟨x, .ty n, t, .type n, b, a, .ty n, ty, k, q⟩
/-! ### own errors with one field -/
open He (ga)
def spXI (K : PySem.W.Frag) (fld : Str) : Sp := fun vs H Q _ => ∃ (a C : Addr) (v : V), vs = [.ref a, v] ∧ OexC K C ∧ PySem.W.findIn K (.ref C) fld = some none ∧ H a = some (exo a C none) ∧
  ∀ dx, H dx = none → dx ≠ a → Q .non (upd (upd H dx (exd dx [(fld, v)])) a (exo a C (some dx)))
section
variable {P : Program} {w : World} {K : PySem.W.Frag} {mg : Str → Option Value} {base : Heap}
theorem vis_of {N ps : List Str} {sc : Scope} (S : FnScope N ps sc) {x : Str} (h : x ∈ ps) : Vis sc x := (S.par x h).elim .inl fun e => .inr (.inl e)
theorem ok_xi {qual fld : Str} {st : Stmt} {f : Addr} {fd : FuncData} {p1 p2 p3 p4 : Pos} (F : Fun K "__init__" qual st f fd) (S : FnScope ["self", fld] ["self", fld] (defScope st))
    (hb : defBody st = [.Assign [.Attribute (.Name "self" p1) fld p2] (.Name fld p3) p4]) (h1 : (fld == ("__debug__" : Str)) = false) (h2 : (fld == ("__classdict__" : Str)) = false) : FnOk P w K mg base CX0 1 f fd ["self", fld] (spXI K fld) := by
  refine F.ok S (fun vs H Q E h => ?_) (fun cdv A outer s H vs Q E hr h => ?_)
  · obtain ⟨a, C, v, rfl, _⟩ := h; rfl
  · obtain ⟨a, C, v, rfl, T, hn, ha, k⟩ := h
    rw [hb]
    refine ⟨_, pss_one (ps_ost (pe_var (i := 0) rfl (vis_of S (by simp))) (pe_var (i := 1) rfl (vis_of S (by simp)) h1 h2)), ?_⟩
    exact ⟨v, rfl, .ref a, rfl, a, C, rfl, T, hn, .inl ⟨ha, k⟩⟩
/-- what the top has made of the class x, whose __init__ keeps its one argument in fld -/
structure ExT (K : PySem.W.Frag) (mg : Str → Option Value) (x fld : Str) : Prop where
  g : mg x = some (.ref (ga K x))
  ox : OexC K (ga K x)
  xf : XfC K (ga K x)
  no : PySem.W.findIn K (.ref (ga K x)) fld = some none
  ini : ∃ (qual : Str) (st : Stmt) (f : Addr) (fd : FuncData) (p1 p2 p3 p4 : Pos), PySem.W.findIn K (.ref (ga K x)) "__init__" = some (some (.ref f)) ∧ PySem.W.typeIn K (.ref f) = some (.type "function") ∧ Fun K "__init__" qual st f fd ∧ FnScope ["self", fld] ["self", fld] (defScope st) ∧
    defBody st = [.Assign [.Attribute (.Name "self" p1) fld p2] (.Name fld p3) p4] ∧ Binds K fd ["self", fld] []
/-- an error of the class x with fld = v is let out -/
def Rse (K : PySem.W.Frag) (E : XK) (H : Hp) (x fld : Str) (v : V) : Prop := ∀ d H', H d = none → Same H H' → H' d = some (.xd [(fld, v)]) → E (.ref (ga K x)) (some d) H'
theorem Rse.mono {K : PySem.W.Frag} {E : XK} {H H2 : Hp} {x f : Str} {v : V} (r : Rse K E H x f v) (s : Same H H2) : Rse K E H2 x f v := fun d H' hd s2 h => r d H' (s.free hd) (s.trans s2) h
def tRaiseX (K : PySem.W.Frag) (x fld : Str) (W : WX) (te : TE) : TS := fun _ σ H => te σ H fun v H1 => Rse K (fun cls d H' => W cls d σ H') H1 x fld v
theorem ps_raiseX {X : Cx} {x fld : Str} {W : WX} {e : Expr} {te : TE} {p pos pos2 : Pos} (T : ExT X.K X.mg x fld) (hr : Room 2 X.A) (tk : Takes X W) (he : PE X e te) (hc : X.calm = true := by rfl) (hg : Gl X x := by rfl) (hdb : (x == ("__debug__" : Str)) = false := by decide)
    (hd1 : (fld == ("__debug__" : Str)) = false := by decide) (hd2 : (fld == ("__classdict__" : Str)) = false := by decide)
    (hs : starEach [e] X.env = (false, eval e X.env) :: starEach [] X.env := by rfl) (hpl : (backTo pos (starEach [] X.env)).any (·.1) = false := by rfl) : PS X (.Raise (some (.Call (.Name x p) [e] [] pos)) none pos2) (tRaiseX X.K x fld W te) := by
  obtain ⟨qual, st, f, fd, p1, p2, p3, p4, hi, ht, F, S, hb, B⟩ := T.ini
  have G : FnOk X.prog X.w X.K X.mg X.base CX0 1 f fd ["self", fld] (spXI X.K fld) := ok_xi F S hb hd1 hd2
  refine PS.imp (ps_raise hc tk (pmk_oex (k := 1) T.ox hi ht G hr B .nil (pass0) hg T.g (pa_cons (PE.mcl he) pa_nil hs) hdb hs hpl)) fun D σ H q => ?_
  refine ⟨_, q, fun v H1 k => ?_⟩
  refine ⟨by show 1 ≤ 1000; decide, fun a ha => ⟨a, _, v, rfl, T.ox, T.no, upd_same, fun dx hdx hne => ⟨rfl, dx, _, upd_same, by rw [upd_ne hne, upd_same], ?_, ?_⟩⟩⟩
  · rw [upd_ne hne] at hdx; exact hdx
  · have hdn : H1 dx = none := by rw [upd_ne hne] at hdx; exact hdx
    refine k dx _ hdn (fun b u e => ?_) upd_same
    have h1 := ne_of_none e hdn
    have h2 := ne_of_none e ha
    rw [upd_ne h1, del_ne h2, upd_ne h2, upd_ne h1, upd_ne h2]
    exact e
end
end Iz
/-! Bx -/
set_option Elab.async false
set_option linter.all false
set_option maxRecDepth 100000
set_option maxHeartbeats 4000000
namespace Iz
open PySem PySem.Spec PyProof.Rows L2 LamX
open He (ga)
/-! ### repr of plain values -/
def ReprV : V → Str → Prop
  | .non, s => s = "None"
  | .bl b, s => s = if b = true then Str.ofString "True" else Str.ofString "False"
  | .int i, s => i.natAbs.log2 < 1920 ∧ s = Str.ofString (toString i)
  | .str x, s => (reprText x).length ≤ sizeLine ∧ s = reprText x
  | _, _ => False
def rRepr : List V → Hp → VK → Prop := fun xs H Q => ∃ x s, xs = [x] ∧ ReprV x s ∧ Q (.str s) H
theorem call_reprN {X : Cx} : CallR X (.builtin "repr") rRepr := by
  intro pins s σ H xs us Q I r h
  obtain ⟨x, z, rfl, hz, q⟩ := h
  cases r with
  | cons rx rr =>
    cases rr
    cases x with
    | non => cases rx; cases hz; exact PySem.P.repr_of_none ⟨.str _, H, I.tok _, ⟨_, rfl⟩, q⟩
    | bl b => cases rx; cases hz; exact PySem.P.repr_of_bool ⟨.str _, H, I.tok _, ⟨_, rfl⟩, q⟩
    | int i => obtain ⟨t, rfl⟩ := rx; obtain ⟨hb, rfl⟩ := hz; exact PySem.P.repr_of_int hb ⟨.str _, H, I.tok _, ⟨_, rfl⟩, q⟩
    | str y => obtain ⟨t, rfl⟩ := rx; obtain ⟨hb, rfl⟩ := hz; exact PySem.P.repr_of_str ⟨.str _, H, I.tok _, ⟨_, rfl⟩, q⟩ hb
    | byt b => cases hz
    | flt b => cases hz
    | ref a => cases hz
    | ty n => cases hz
/-! ### isinstance of a caught error -/
structure ExI (K : PySem.W.Frag) (D : Addr) : Prop where
  hc : (PySem.W.clsIn K D).isSome = true
  ha : PySem.W.findIn K (.ref D) "__class__" = some (some (.builtin "object.__class__"))
  hn : PySem.W.specialIn K (.builtin "object.__class__") "__get__" = some (some (.builtin "getset_descriptor.__get__"))
  ht : PySem.W.takesIn K (.builtin "object.__class__") = some true
  hm : PySem.W.mroIn K D (.type "object") = some true
def rIsX (K : PySem.W.Frag) (a : Addr) (cls : Value) (d : Option Addr) : List V → Hp → VK → Prop := fun xs H Q => ∃ (c D dd : Addr) (fs : List (Str × V)) (b : Bool), xs = [.ref a, .ref c] ∧ cls = .ref D ∧ d = some dd ∧ H dd = some (.xd fs) ∧ XfC K D ∧ ExI K D ∧ PySem.W.kitOne K (.ref D) (.ref c) = some b ∧ Q (.bl b) H
theorem call_isX {X : Cx} {a : Addr} {oe : Obj} {cls : Value} {d : Option Addr} {pn : List (Addr × Obj)} (hz : Zc cls d oe) (hf : ∃ vs, oe.data = .fields vs) : CallR (X.suite a ((a, oe) :: pn)) (.builtin "isinstance") (rIsX X.K a cls d) := by
  intro pins s σ H xs us Q I r h
  obtain ⟨c, D, dd, fs, b, rfl, rfl, rfl, hd, T, U, hk, q⟩ := h
  cases r with
  | cons rx rr =>
    cases rr with
    | cons ry rr =>
      cases rr; cases rx; cases ry
      have hget := (I.pin (a, oe) (List.mem_append.mpr (.inl List.mem_cons_self))).1
      obtain ⟨vs, hv⟩ := hf
      have hx : ObjOk X.prog X.w H s.heap dd (.xd fs) := I.hok dd _ hd
      obtain ⟨mA, hns, _⟩ := hx
      obtain ⟨od, ho, _⟩ := lookIn_ns hns
      have J : PySem.W.InstAt s.heap a oe D (some od) := ⟨hget, hz.1, by unfold PySem.W.notCls; rw [hv], by rw [hz.2]; exact ho⟩
      refine PySem.W.kia_one (PySem.W.kitx_exc U.hc T.ga T.gg T.exC U.ha U.hn U.ht U.hm) I.kIn J hk (fun z => nomatch z) fun tk => ?_
      exact ⟨.bl b, H, I.kept (t' := tk) fun _ _ z => z, rfl, q⟩
/-! ### a suite knows how many slots there are -/
def tLen (n : Nat) (t : TS) : TS := fun D σ H => σ.length = n → t D σ H
theorem pss_len {X : Cx} {st : List Stmt} {t : TS} {n : Nat} (h : PSs X st t) (hn : X.N.length = n) : PSs X st (tLen n t) := ⟨fun pins s σ H D I q => h.run pins s σ H D I (q (I.len.trans hn))⟩
/-! ### defs that make lambdas: their code object is named -/
def cOf (K : PySem.W.Frag) (x : Str) : Addr := ((PySem.W.tabIn K x).getD (0, 0)).1
def pOf (K : PySem.W.Frag) (x : Str) : Addr := ((PySem.W.tabIn K x).getD (0, 0)).2
structure LamF (K : PySem.W.Frag) (mg : Str → Option Value) (x : Str) (st : Stmt) : Prop where
  ex : ∃ (f : Addr) (oc : Value) (od : Option Addr) (kV doc pm : Value) (an : Option Addr) (ct : Value) (osl : Array (Option Value)), mg x = some (.ref f) ∧ PySem.W.keepIn K (.ref f) = true ∧
    K.lookup f = some ⟨oc, od, .func (PySem.W.fnOf x x (defArgs st) (defBody st) (defScope st) .none kV doc pm an (.ref (cOf K x)) ct), osl⟩ ∧ PySem.W.codeIn K (.ref (cOf K x)) x = true
/-- as Fun.okX, the code object known -/
theorem LamF.okF {P : Program} {w : World} {K : PySem.W.Frag} {mg : Str → Option Value} {base : Heap} {x : Str} {st : Stmt} {N ps : List Str} {k : Nat} {sp : Sp} (F : LamF K mg x st) (S : FnScope N ps (defScope st))
    (hbind : ∀ (kV doc pm : Value) (an : Option Addr) (cdv ct : Value) (us : List Value), us.length = ps.length → bindArgs (PySem.W.fnOf x x (defArgs st) (defBody st) (defScope st) .none kV doc pm an cdv ct) ⟨us, []⟩ = pure (ps.zip us))
    (len : ∀ vs H Q E, sp vs H Q E → vs.length = ps.length)
    (hbody : ∀ (f : Addr) (A : Around) (outer : List Env) (s : Shared) (H : Hp) (vs : List V) (Q : VK) (E : XK), Room k (A.deeper (envOfC x (defScope st) s.heap.objs.size f (.ref (cOf K x)))) → sp vs H Q E →
      ∃ t, PSs (cxOf (L2.CX P w) P w K mg base N x (defScope st) f (.ref (cOf K x)) A outer s H E) (defBody st) t ∧ t { nx := fun _ H' => Q .non H', rt := Q } (L2.start N vs) H) : OkF P w K mg base (L2.CX P w) (k + 1) x ps sp := by
  obtain ⟨f, oc, od, kV, doc, pm, an, ct, osl, g, kp, lk, hcd⟩ := F.ex
  exact ⟨f, _, g, kp, .all (hbind kV doc pm an _ ct), fn_of lk hcd S len fun A outer s H vs Q E hr hsp => hbody f A outer s H vs Q E hr hsp⟩
theorem passLam {X : Cx} {A : Around} {outer : List Env} {s : Shared} {H : Hp} {E : XK} {scope : Scope} {f c : Addr} : Passes (L2.CX X.prog X.w) (lamCx X A outer s H E scope f c) E :=
  passes_call (W := fun cls d _ H => E cls d H) (takes_of rfl rfl rfl rfl) fun _ _ _ _ h => h
/-- told(lambda: body), told a def of the text -/
theorem plam {X : Cx} {x a : Str} {st : Stmt} {N : List Str} {TT : (XK → Hp → VK → Prop) → Hp → VK → Prop} {c P : Addr} {qn : Str} {k : Nat} {params : Arguments} {body : Expr} {scope : Scope} {t : XK → TE} {p lpos pos : Pos}
    (F : ∃ (f : Addr) (fd : FuncData), X.mg x = some (.ref f) ∧ Fun X.K x x st f fd) (S : FnScope N [a] (defScope st))
    (hb : ∀ (kV doc pm : Value) (an : Option Addr) (cdv ct : Value) (us : List Value), us.length = [a].length → bindArgs (PySem.W.fnOf x x (defArgs st) (defBody st) (defScope st) .none kV doc pm an cdv ct) ⟨us, []⟩ = pure ([a].zip us))
    (hG : ∀ (g : Addr) (cdg : Value), GivesTo X N x (defScope st) g cdg (defBody st) a qn TT)
    (TB : TabB X.base X.mg c P) (hcode : X.env.code = .ref c) (hq : X.env.qual ++ "<lambda>" = qn) (hr : Room (k + 2) X.A) (L : lamSB X.env.scope scope = true)
    (hbody : ∀ (A : Around) (outer : List Env) (s : Shared) (H : Hp) (E : XK) (f c' : Addr), Room k (A.deeper (lamEnv X scope s.heap.objs.size f c')) → PE (lamCx X A outer s H E scope f c') body (t E))
    (hdef : defaultsOf params X.env = ([], []) := by rfl) (hg : Gl X x := by rfl) (hv : Vis (defScope st) a := by first | exact Or.inl rfl | exact Or.inr (Or.inl rfl)) (hNa : N[0]? = some a := by rfl)
    (hbind : ∀ (q : Str) (cl : List (Str × Addr)) (pm cv ctv : Value), bindArgs (PySem.W.kla_fn "<lambda>" q params body scope cl pm cv ctv) ⟨[], []⟩ = pure [] := by intros; rfl)
    (hdb : (x == ("__debug__" : Str)) = false := by decide) (hd : (a == ("__debug__" : Str)) = false := by decide) (hcd : (a == ("__classdict__" : Str)) = false := by decide) :
    PE X (.Call (.Name x p) [.Lambda params body scope lpos] [] pos) (tLam [(P, qn)] TT t) := by
  subst hq
  obtain ⟨g, fd, hm, F⟩ := F
  obtain ⟨oc, od, kV, doc, pm, an, cdv, ct, osl, rfl, lk, hcg⟩ := F.ex
  exact pe_lamcall hg hm F.kp lk hcg (.all (hb kV doc pm an cdv ct)) S hNa hv (hG g cdv) TB hcode (List.mem_singleton.mpr rfl) (fun q hq _ => by rw [List.mem_singleton.mp hq]) hr (lamS_by L) hdef hbind hbody hdb hd hcd
theorem extL {H H' : Hp} {p : Addr} {xs : List V} (e : ExtN H H') (h : H p = some (.lst xs)) : H' p = some (.lst xs) := e p _ h fun ps z => by cases z
theorem extT {H H' : Hp} {p : Addr} {xs : List V} (e : ExtN H H') (h : H p = some (.tup xs)) : H' p = some (.tup xs) := e p _ h fun ps z => by cases z
theorem extS {H H' : Hp} (e : Same H H') : ExtN H H' := fun b o h _ => e b o h
/-! ### comprehensions -/
theorem st_lcL {K : PySem.W.Frag} {tl : TE} {g : TG} {tt : TT} {te : TE} {vs : List Nat} {σ : L2.St} {H : Hp} {Q : VK} {a : Addr} {xs : List V} (ha : ∀ R : V → Hp → Prop, R (.ref a) H → tl σ H R) (hx : H a = some (.lst xs)) (Pv : Addr → Nat → Hp → Prop)
    (h0 : ∀ D H1, H D = none → Same H H1 → H1 D = some (.lst []) → Pv D 0 H1) (hl : ∀ D i H, Pv D i H → H a = some (.lst xs))
    (hs : ∀ D i x H, xs[i]? = some x → Pv D i H → g x (wipe σ vs) H fun σ2 H2 => wipe σ2 vs = wipe σ vs ∧ tt σ2 H2 fun b H3 => if b = true then te σ2 H3 fun y H4 => ∃ acc, H4 D = some (.lst acc) ∧ acc.length < sizeLine ∧ Pv D (i + 1) (upd H4 D (.lst (acc ++ [y]))) else Pv D (i + 1) H3)
    (hd : ∀ D H, Pv D xs.length H → Q (.ref D) H) : tLc (iList K tl) g tt te vs σ H Q :=
  ha _ ⟨a, rfl, ⟨xs, SqL.of hx⟩, fun D hD => lc_list (Pv D) (h0 D _ hD (Same.upd hD) upd_same) (fun i H _ p => SqL.of (hl D i H p)) (hs D) (hd D)⟩
/-- deep == of what is alike -/
theorem dataEq {d : PyData} (h : SeqAt.shaped d = true) : PyData.eqv d d = true := SeqAt.eqv_refl d (SeqAt.canLay_of_shaped h)
theorem lk0 {f : Str} {v : V} : List.lookup f [(f, v)] = some v := by simp [List.lookup]
theorem ne_same {K : PySem.W.Frag} {x y : V} {H : Hp} {d : PyData} {R : VK} (hx : Dp K H x d) (hy : Dp K H y d) (h : SeqAt.shaped d = true) (r : R (.bl false) H) : rNeD K x y H R := ⟨d, d, hx, hy, h, h, by rw [dataEq h]; exact r⟩
theorem eq_same {K : PySem.W.Frag} {x y : V} {H : Hp} {d : PyData} {R : VK} (hx : Dp K H x d) (hy : Dp K H y d) (h : SeqAt.shaped d = true) (r : R (.bl true) H) : rEqD K x y H R := ⟨d, d, hx, hy, h, h, by rw [dataEq h]; exact r⟩
theorem dp_ss {K : PySem.W.Frag} {H : Hp} {p : Addr} {x y : Str} (h : H p = some (.tup [.str x, .str y])) : Dp K H (.ref p) (.tuple [.str x, .str y]) := .tup (SqT.of h) (.cons (.str x) (.cons (.str y) .nil))
theorem sh_ss {x y : Str} (hx : PyData.strOk x = true) (hy : PyData.strOk y = true) : SeqAt.shaped (.tuple [.str x, .str y]) = true := by simp [SeqAt.shaped, PyData.canLay0, PyData.canLayAll0, PyData.depth, PyData.depthAll, hx, hy]
theorem dp_nil {K : PySem.W.Frag} {H : Hp} {p : Addr} (h : H p = some (.lst [])) : Dp K H (.ref p) (.list []) := .lst (SqL.of h) .nil
/-- the rules that name the written part, within a comprehension -/
theorem op_neDk {X : Cx} {K : PySem.W.Frag} (e : X.K = K) (hu : X.A.units + 64 < cLine) : OpR X (compareOp .NotEq) (rNeD K) := e ▸ op_neD hu
theorem op_eqDk {X : Cx} {K : PySem.W.Frag} (e : X.K = K) (hu : X.A.units + 64 < cLine) : OpR X (compareOp .Eq) (rEqD K) := e ▸ op_eqD hu
/-! ### what the top has made, from facts -/
theorem ga_of {K : PySem.W.Frag} {x : Str} {a : Addr} (h : PySem.W.nsIn K mainGlobals x = some (some (.ref a))) : ga K x = a := by unfold ga; rw [h]
theorem ext_mk {K : PySem.W.Frag} {mg : Str → Option Value} {h : Heap} (X : K.In h) (G : h.Ns mainGlobals mg) {x fld qual nm q : Str} {st : Stmt} {C f N : Addr} {bs bm sub : List Value} {sn : List Str} {ab : Bool} {col : Option Bool} {dd od an : Option Addr} {m0 m1 m2 m3 m5 : Option Value} {oc kV dc pm cd ct : Value} {sl : Array (Option Value)} {p1 p2 p3 p4 : Pos}
    (aC : PySem.W.nsIn K mainGlobals x = some (some (.ref C))) (xL : K.lookup C = some (excClassObj nm q C N bs bm true sn sub ab col dd m0 m1 m2 m3 m5 "ValueError.__new__")) (hbm : PySem.HandSPX.refsVE bm = true)
    (sa : PySem.W.findIn K (.ref C) "__setattr__" = some (some (.builtin "object.__setattr__"))) (exC : PySem.W.subIn K (.ref C) (.type "BaseException") = some true) (tyC : PySem.W.typeIn K (.ref C) = some (.type "type")) (kC : PySem.W.keepIn K (.ref C) = true)
    (gA : PySem.W.findIn K (.ref C) "__getattribute__" = some (some (.builtin "BaseException.__getattribute__"))) (gG : PySem.W.findIn K (.ref C) "__getattr__" = some none) (hd : PySem.W.hasDictIn K C = true) (no : PySem.W.findIn K (.ref C) fld = some none)
    (iC : PySem.W.findIn K (.ref C) "__init__" = some (some (.ref f))) (tI : PySem.W.typeIn K (.ref f) = some (.type "function"))
    (lI : K.lookup f = some ⟨oc, od, .func (PySem.W.fnOf "__init__" qual (defArgs st) (defBody st) (defScope st) .none kV dc pm an cd ct), sl⟩) (cI : PySem.W.codeIn K cd qual = true) (kI : PySem.W.keepIn K (.ref f) = true)
    (S : FnScope ["self", fld] ["self", fld] (defScope st)) (hb : defBody st = [.Assign [.Attribute (.Name "self" p1) fld p2] (.Name fld p3) p4])
    (hB : ∀ (kV doc pm : Value) (an : Option Addr) (cdv ct : Value) (us : List Value), us.length = (["self", fld] : List Str).length → bindArgs (PySem.W.fnOf "__init__" qual (defArgs st) (defBody st) (defScope st) .none kV doc pm an cdv ct) ⟨us, []⟩ = pure ((["self", fld] : List Str).zip us)) : ExT K mg x fld := by
  have e := ga_of aC
  refine ⟨?_, ?_, ?_, ?_, ?_⟩
  · rw [e]; exact PySem.W.mg_of X G aC
  · rw [e]; exact ⟨⟨_, _, _, _, _, _, _, _, _, _, _, _, _, _, _, xL, hbm⟩, sa, exC, tyC, kC⟩
  · rw [e]; exact ⟨gA, gG, exC, hd⟩
  · rw [e]; exact no
  · rw [e]; exact ⟨qual, st, f, _, p1, p2, p3, p4, iC, tI, fun_mk lI cI kI, S, hb, (fun_mk (st := st) lI cI kI).binds hB⟩
theorem exi_mk {K : PySem.W.Frag} {x : Str} {C : Addr} (aC : PySem.W.nsIn K mainGlobals x = some (some (.ref C))) (hc : (PySem.W.clsIn K C).isSome = true) (ha : PySem.W.findIn K (.ref C) "__class__" = some (some (.builtin "object.__class__")))
    (hn : PySem.W.specialIn K (.builtin "object.__class__") "__get__" = some (some (.builtin "getset_descriptor.__get__"))) (ht : PySem.W.takesIn K (.builtin "object.__class__") = some true) (hm : PySem.W.mroIn K C (.type "object") = some true) : ExI K (ga K x) := by
  rw [ga_of aC]; exact ⟨hc, ha, hn, ht, hm⟩
theorem lamf_mk {K : PySem.W.Frag} {mg : Str → Option Value} {h : Heap} (X : K.In h) (G : h.Ns mainGlobals mg) {x : Str} {st : Stmt} {f c P : Addr} {od an : Option Addr} {oc kV dc pm ct : Value} {sl : Array (Option Value)}
    (a : PySem.W.nsIn K mainGlobals x = some (some (.ref f))) (l : K.lookup f = some ⟨oc, od, .func (PySem.W.fnOf x x (defArgs st) (defBody st) (defScope st) .none kV dc pm an (.ref c) ct), sl⟩) (cI : PySem.W.codeIn K (.ref c) x = true) (kI : PySem.W.keepIn K (.ref f) = true)
    (t : PySem.W.tabIn K x = some (c, P)) : LamF K mg x st := by
  have e : cOf K x = c := by unfold cOf; rw [t]; rfl
  refine ⟨f, oc, od, kV, dc, pm, an, ct, sl, PySem.W.mg_of X G a, kI, ?_, ?_⟩
  · rw [e]; exact l
  · rw [e]; exact cI
end Iz
/-! Bc -/
set_option Elab.async false
set_option linter.all false
set_option maxRecDepth 100000
set_option maxHeartbeats 4000000
namespace Iz
open PySem PySem.Spec PyProof.Rows L2
open He (ga)
/-! ### own classes: their instances stand still -/
/-- how the parameters bind, the last ones by their defaults -/
def BindD (K : PySem.W.Frag) (fd : FuncData) (ps : List Str) (dvs : List V) : Prop := ∀ j, j ≤ dvs.length → ∃ ds, Vals (dvs.drop j) ds ∧ Binds K fd ps ds
theorem BindD.none {K : PySem.W.Frag} {fd : FuncData} {ps : List Str} (b : Binds K fd ps []) : BindD K fd ps [] := fun _ _ => ⟨[], by rw [List.drop_nil]; exact .nil, b⟩
/-- the method m of the class x keeps sp -/
structure OkM (P : Program) (w : World) (K : PySem.W.Frag) (mg : Str → Option Value) (base : Heap) (CX : CXT) (k : Nat) (x m : Str) (ps : List Str) (dvs : List V) (sp : Sp) : Prop where
  ex : ∃ (f : Addr) (fd : FuncData), Meth K (ga K x) m f ∧ BindD K fd ps dvs ∧ FnOk P w K mg base CX k f fd ps sp
/-- a call of the class x keeps sp -/
structure OkK (P : Program) (w : World) (K : PySem.W.Frag) (mg : Str → Option Value) (base : Heap) (CX : CXT) (k : Nat) (x : Str) (ps : List Str) (dvs : List V) (sp : Sp) : Prop where
  ex : ∃ (f : Addr) (fd : FuncData) (si : Sp), Mk K (ga K x) f ∧ mg x = some (.ref (ga K x)) ∧ BindD K fd ("self" :: ps) dvs ∧ FnOk P w K mg base CX k f fd ("self" :: ps) si ∧
    ∀ vs H Q E, sp vs H Q E → ∀ p dx, H p = none → H dx = none → dx ≠ p → si (.ref p :: vs) (upd (upd H dx (.own p)) p (.ins (ga K x) dx [])) (fun v H2 => v = .non ∧ Q (.ref p) H2) E
/-- a new instance -/
def NewsI (H : Hp) (C : Addr) (fs : List (Str × V)) (Q : V → Hp → Prop) : Prop := ∀ p dx H2, H p = none → Same H H2 → H2 p = some (.ins C dx fs) → Q (.ref p) H2
def tMt (C : Addr) (m : Str) (sp : Sp) (dv : List V) (E : XK) (ta : TE) (t : TA) : TE := fun σ H Q => ta σ H fun x H1 => ∃ a dx fs, x = .ref a ∧ H1 a = some (.ins C dx fs) ∧ fs.lookup m = none ∧ t σ H1 fun vs H2 => sp (x :: (vs ++ dv)) H2 Q E
section
variable {X : Cx} {CX : CXT} {k j : Nat} {x m f : Str} {ps : List Str} {dvs : List V} {sp : Sp} {E : XK} {o e : Expr} {es : List Expr} {ta : TE} {t : TA} {p pos apos : Pos}
theorem pmt {pl : Sem Bool} (O : OkM X.prog X.w X.K X.mg X.base CX k x m ps dvs sp) (C : Cls X.K (ga X.K x)) (he : PE X o ta) (hj : j ≤ dvs.length) (hr : Room k X.A) (hx : Passes CX X E) (ha : PA X (e :: es) t)
    (hst : starEach (e :: es) X.env = (false, eval e X.env) :: starEach es X.env := by rfl) (hpl : (backTo pos (starEach es X.env)).any (·.1) = false := by rfl)
    (ht : eval (.Call (.Attribute o m apos) (e :: es) [] pos) X.env = (do
      let ov ← eval o X.env; standAt apos.atName
      let (f, first) ← holding [ov] (getMethod ov m pl)
      callWith pos f first (backTo pos (starEach (e :: es) X.env)) (backToKw pos (keywordEach [] X.env))) := by rfl) :
    PE X (.Call (.Attribute o m apos) (e :: es) [] pos) (tMt (ga X.K x) m sp (dvs.drop j) E ta t) := by
  obtain ⟨f, fd, M, b, G⟩ := O.ex
  obtain ⟨ds, hv, hb⟩ := b j hj
  exact pe_meth he C M G hr hb hv hx ha hst hpl ht
theorem pmt0 {pl : Sem Bool} (O : OkM X.prog X.w X.K X.mg X.base CX k x m ps dvs sp) (C : Cls X.K (ga X.K x)) (he : PE X o ta) (hj : j ≤ dvs.length) (hr : Room k X.A) (hx : Passes CX X E)
    (ht : eval (.Call (.Attribute o m apos) [] [] pos) X.env = (do
      let ov ← eval o X.env; standAt apos.atName
      let (f, first) ← holding [ov] (getMethod ov m pl)
      callWith pos f first (backTo pos (starEach [] X.env)) (backToKw pos (keywordEach [] X.env))) := by rfl) :
    PE X (.Call (.Attribute o m apos) [] [] pos) (tMt (ga X.K x) m sp (dvs.drop j) E ta tNil) := by
  obtain ⟨f, fd, M, b, G⟩ := O.ex
  obtain ⟨ds, hv, hb⟩ := b j hj
  exact pe_meth0 he C M G hr hb hv hx ht
theorem pmk (O : OkK X.prog X.w X.K X.mg X.base CX k x ps dvs sp) (hj : j ≤ dvs.length) (hr : Room (k + 1) X.A) (hx : Passes CX X E) (ha : PA X (e :: es) t) (hg : Gl X x := by rfl) (hdb : (x == ("__debug__" : Str)) = false := by decide)
    (he : starEach (e :: es) X.env = (false, eval e X.env) :: starEach es X.env := by rfl) (hpl : (backTo pos (starEach es X.env)).any (·.1) = false := by rfl) : PE X (.Call (.Name x p) (e :: es) [] pos) (tCall sp (dvs.drop j) E t) := by
  obtain ⟨f, fd, si, M, g, b, G, q⟩ := O.ex
  obtain ⟨ds, hv, hb⟩ := b j hj
  exact PE.imp (pe_make M G hr hg g hb hv hx (PA.mcl ha) hdb he hpl) fun σ H Q h => ⟨_, h, fun vs H1 h1 p dx h2 h3 h4 => q _ H1 Q _ h1 p dx h2 h3 h4⟩
theorem pmk0 (O : OkK X.prog X.w X.K X.mg X.base CX k x ps dvs sp) (hj : j ≤ dvs.length) (hr : Room (k + 1) X.A) (hx : Passes CX X E) (hg : Gl X x := by rfl) (hdb : (x == ("__debug__" : Str)) = false := by decide) : PE X (.Call (.Name x p) [] [] pos) (tCall sp (dvs.drop j) E tNil) := by
  obtain ⟨f, fd, si, M, g, b, G, q⟩ := O.ex
  obtain ⟨ds, hv, hb⟩ := b j hj
  exact PE.imp (pe_make0 M G hr hg g hb hv hx hdb) fun σ H Q h => fun p dx h2 h3 h4 => q _ H Q _ h p dx h2 h3 h4
def tFldN (C : Addr) (ta : TE) (f : Str) : TE := fun σ H Q => ta σ H fun x H1 => ∃ a dx fs v, x = .ref a ∧ H1 a = some (.ins C dx fs) ∧ fs.lookup f = some v ∧ Q v H1
theorem pe_fldN {C : Addr} (c : Cls X.K C) (n : NoAttr X.K C f) (h : PE X o ta) (hb : attributeBase o f X.env (eval o X.env) = eval o X.env := by rfl) : PE X (.Attribute o f apos) (tFldN C ta f) :=
  PE.imp (pe_fld (PE.mcl h) hb) fun σ H Q q => ⟨_, q, fun x H1 ⟨a, dx, fs, v, e1, e2, e3, q⟩ => ⟨a, C, dx, fs, v, e1, e2, c, n, e3, q⟩⟩
end
theorem lk1 {f g : Str} {v w : V} (h : (f == g) = false) : List.lookup f [(g, w), (f, v)] = some v := by simp [List.lookup, h]
theorem lkn2 {f g h : Str} {v w : V} (h1 : (f == g) = false) (h2 : (f == h) = false) : List.lookup f [(g, v), (h, w)] = none := by simp [List.lookup, h1, h2]
theorem lkh {f : Str} {v : V} {l : List (Str × V)} : List.lookup f ((f, v) :: l) = some v := by simp [List.lookup]
/-- None or an int -/
def ov : Option Int → V
  | none => .non
  | some i => .int i
theorem wh_ov {K : PySem.W.Frag} {H : Hp} {o : Option Int} : Wh K H (ov o) := by cases o; exact wh_non; exact wh_int
theorem putF_nil {f : Str} {v : V} : putF f v [] = [(f, v)] := rfl
theorem putF_cons {f g : Str} {v w : V} {l : List (Str × V)} (h : g ≠ f) : putF f v ((g, w) :: l) = (g, w) :: putF f v l := by
  show (if g = f then _ else _) = _
  rw [if_neg h]
/-- self.f = e, the object's class known -/
def tSto (C : Addr) (f : Str) (ta tv : TE) : TS := fun D σ H => tv σ H fun y H1 => ta σ H1 fun x H2 => ∃ a dx fs, x = .ref a ∧ H2 a = some (.ins C dx fs) ∧ fs.length < 1000 ∧ ∀ H3, Put H2 H3 a (.ins C dx (putF f y fs)) → D.nx σ H3
theorem ps_fldN {X : Cx} {C : Addr} {f : Str} {o e : Expr} {ta tv : TE} {apos pos : Pos} (c : Cls X.K C) (n : NoAttr X.K C f) (ho : PE X o ta) (he : PE X e tv) (hs : swapsWith e (some (.Attribute o f apos)) pos.line X.env = pure false := by rfl) : PS X (.Assign [.Attribute o f apos] e pos) (tSto C f ta tv) :=
  PS.imp (ps_fld (PE.mcl ho) (PE.mcl he) hs) fun D σ H q => ⟨_, q, fun y H1 q1 => ⟨_, q1, fun x H2 ⟨a, dx, fs, e1, e2, e3, k⟩ => ⟨a, C, dx, fs, e1, e2, c, n, e3, k _ ⟨upd_same, fun _ h => upd_ne h⟩⟩⟩⟩
theorem tyX_mono {K : PySem.W.Frag} {H H' : Hp} {x : V} {t : Value} (h : TyX K H x t) (s : Same H H') : TyX K H' x t := by
  cases h with
  | base b =>
    cases b with
    | non => exact .base .non
    | bl b => exact .base (.bl b)
    | int i => exact .base (.int i)
    | str y => exact .base (.str y)
    | flt y => exact .base (.flt y)
    | lst e => exact .base (.lst (s _ _ e))
    | frz e => exact .base (.frz (s _ _ e))
    | tup e => exact .base (.tup (s _ _ e))
    | dK e => exact .base (.dK (s _ _ e))
    | dT e => exact .base (.dT (s _ _ e))
    | ins e a b c d f => exact .base (.ins (s _ _ e) a b c d f)
  | byt b => exact .byt b
  | set e => exact .set (s _ _ e)
  | kList e c => exact .kList e c
  | kTuple e c => exact .kTuple e c
  | kDict e c => exact .kDict e c
  | fTuple e => exact .fTuple (s _ _ e)
  | fDict e => exact .fDict (s _ _ e)
theorem wh_mono {K : PySem.W.Frag} {H H' : Hp} {x : V} (h : Wh K H x) (s : Same H H') : Wh K H' x := let ⟨t, b, c, ty, r⟩ := h; ⟨t, b, c, tyX_mono ty s, r⟩
theorem same_made {H H' : Hp} {p dx : Addr} {o o' : HO} (hp : H p = none) (hd : H dx = none) (h : ∀ b, b ≠ p → H' b = upd (upd H dx o) p o' b) : Same H H' := fun b u e => by
  rw [h b (ne_of_none e hp), upd_ne (ne_of_none e hp), upd_ne (ne_of_none e hd)]; exact e
/-- isinstance with an own class -/
def rIsOw (K : PySem.W.Frag) : List V → Hp → VK → Prop := fun xs H Q => ∃ x c, xs = [x, .ref c] ∧ ∃ t b, TyX K H x t ∧ PySem.W.kitOne K t (.ref c) = some b ∧ Q (.bl b) H
theorem call_isOw {X : Cx} : CallR X (.builtin "isinstance") (rIsOw X.K) := CallR.imp call_isi fun xs H Q ⟨x, c, a, t, b, ty, k, q⟩ => ⟨x, .ref c, t, .ref c, b, a, .own c, ty, k, q⟩
/-- what isinstance asks of an own class -/
structure ClsI (K : PySem.W.Frag) (C : Addr) : Prop where
  c : Cls K C
  ha : PySem.W.findIn K (.ref C) "__class__" = some (some (.builtin "object.__class__"))
  hn : PySem.W.specialIn K (.builtin "object.__class__") "__get__" = some (some (.builtin "getset_descriptor.__get__"))
  ht : PySem.W.takesIn K (.builtin "object.__class__") = some true
  hm : PySem.W.mroIn K C (.type "object") = some true
theorem ClsI.ty {K : PySem.W.Frag} {C : Addr} {H : Hp} {a dx : Addr} {fs : List (Str × V)} (T : ClsI K C) (h : H a = some (.ins C dx fs)) : TyX K H (.ref a) (.ref C) := .base (.ins h T.c T.ha T.hn T.ht T.hm)
theorem kit_self {K : PySem.W.Frag} {t : Value} (h : (t == t) = true := by simp) : PySem.W.kitOne K t t = some true := by unfold PySem.W.kitOne; rw [if_pos h]
end Iz
/-! RlA -/
set_option Elab.async false
set_option linter.all false
set_option maxRecDepth 100000
set_option maxHeartbeats 4000000
namespace Iz
open PySem PySem.Spec PyProof.Rows L2
/-! ### ranges with great ends: another iterator goes through them -/
theorem slotL_next : Slot "longrange_iterator" "__next__" "longrange_iterator.__next__" :=
  .of (owner := "longrange_iterator") (n := "__next__") (by rw [typeLookup_type, builtinLookup_eq_fast]; kernel_rfl) (by decide +kernel) (by decide +kernel) (by decide +kernel)
    (by first | exact .inl (by decide +kernel) | exact .inr (by decide +kernel)) (by rw [isSubtype_type]; kernel_rfl)
theorem ownerL : Manifest.owners.lookup (String.ofList ['r', 'o', 't', 'a', 'r', 'e', 't', 'i', '_', 'e', 'g', 'n', 'a', 'r', 'g', 'n', 'o', 'l'].reverse) = some Manifest.sig_longrange_iterator := by kernel_rfl
theorem entryL_next : entryFor table "longrange_iterator.__next__" = some Builtin.«longrange_iterator.__next__» := entryFor_of_tree (by kernel_rfl)
theorem argsL_next (a : Value) : argsOk "longrange_iterator.__next__" ⟨[a], []⟩ := by
  unfold argsOk; rw [signature?_of (id := "longrange_iterator.__next__") (n := ['_', '_', 't', 'x', 'e', 'n', '_', '_']) (o := ['r', 'o', 't', 'a', 'r', 'e', 't', 'i', '_', 'e', 'g', 'n', 'a', 'r', 'g', 'n', 'o', 'l']) (by kernel_rfl) ownerL]; kernel_rfl
abbrev IsLR (h : Heap) (it : Addr) (x left step : Int) : Prop := h.get? it = some { cls := .type "longrange_iterator", dict := none, data := .fields #[rawInt x, rawInt left, rawInt step], slots := #[] }
theorem slotL_iter : Slot "longrange_iterator" "__iter__" "longrange_iterator.__iter__" :=
  .of (owner := "longrange_iterator") (n := "__iter__") (by rw [typeLookup_type, builtinLookup_eq_fast]; kernel_rfl) (by decide +kernel) (by decide +kernel) (by decide +kernel)
    (by first | exact .inl (by decide +kernel) | exact .inr (by decide +kernel)) (by rw [isSubtype_type]; kernel_rfl)
theorem argsL_iter (a : Value) : argsOk "longrange_iterator.__iter__" ⟨[a], []⟩ := by
  unfold argsOk; rw [signature?_of (id := "longrange_iterator.__iter__") (n := ['_', '_', 'r', 'e', 't', 'i', '_', '_']) (o := ['r', 'o', 't', 'a', 'r', 'e', 't', 'i', '_', 'e', 'g', 'n', 'a', 'r', 'g', 'n', 'o', 'l']) (by kernel_rfl) ownerL]; kernel_rfl
theorem entryL_iter : entryFor table "longrange_iterator.__iter__" = some Builtin.«dict_keyiterator.__iter__» :=
  entryFor_alias (id' := "dict_keyiterator.__iter__") (by kernel_rfl) (by first | rfl | decide +kernel | (unfold String.splitOn; simp +decide [String.splitOnAux])) (by decide +kernel) (by kernel_rfl)
end Iz
/-! Rl -/
set_option Elab.async false
set_option linter.all false
set_option maxRecDepth 100000
set_option maxHeartbeats 4000000
namespace Iz
open PySem PySem.Spec PyProof.Rows L2
theorem meetsL_next (it : Addr) (x left step : Int) (hc0 : ¬left ≤ 0) :
    Meets (Builtin.«longrange_iterator.__next__» ⟨[.ref it], []⟩) (fun _ R s => s.heap.get? it = some { cls := .type "longrange_iterator", dict := none, data := .fields #[rawInt x, rawInt left, rawInt step], slots := #[] } ∧ R (.ok (.ret (Value.int x s.toks))) { s with heap := (s.heap.update it (Obj.mapFields fun x_1 => x_1.setIfInBounds 0 (rawInt (x + step)))).update it (Obj.mapFields fun x => x.setIfInBounds 1 (rawInt (left - 1))), toks := s.toks + 1 }) :=
  .of_wp fun prog w A R s h => by obtain ⟨hp, g, d, tk, os⟩ := s; obtain ⟨hl, h⟩ := h; unfold Builtin.«longrange_iterator.__next__» Builtin.Iterators_pickling.intField; wp_walk; exact ⟨_, rfl, h⟩
section
variable {prog : Program} {w : World} {A : Around} {E : Value → Shared → Prop} {s : Shared}
theorem nextL_item {it : Addr} {x left step : Int} {Q : Option Value → Shared → Prop} (hit : IsLR s.heap it x left step) (hleft : 0 < left)
    (hQ : ∀ h', IsLR h' it (x + step) (left - 1) step → Heap.SameBut it s.heap h' → Q (some (.int x s.toks)) { s with heap := h', toks := s.toks + 1 }) :
    wpAny (model prog w) A (pyNext (.ref it)) Q E s := by
  have hT : s.TypeIs (.ref it) "longrange_iterator" := ⟨_, hit, rfl⟩
  unfold pyNext
  refine wpAny_bind (wpAny_attempt (wpAny_callSpecial?_slot (name := Str.ofString "__next__") hT slotL_next
    (call_meets slotL_next hT entryL_next (argsL_next _) (meetsL_next it x left step (by omega)) ⟨hit, ?_⟩)))
  exact wpAny_pure (hQ _ (Heap.get?_update_self _ (Heap.get?_update_self _ hit rfl) rfl) ((Heap.SameBut.update ..).trans (Heap.SameBut.update ..)))
theorem intF {id : String} {a : Addr} {o : Obj} {vs : Array Value} {i : Nat} {x : Int} {Q : Int → Shared → Prop} (ho : s.heap.get? a = some o) (hd : o.data = .fields vs) (hi : vs[i]? = some (rawInt x)) (h : Q x s) :
    wpAny (model prog w) A (Builtin.Iterators_pickling.intField id (.ref a) i) Q E s := by
  unfold Builtin.Iterators_pickling.intField
  exact wpAny_bind (wpAny_field ho hd hi (wpAny_pure h))
theorem nextL_end {it : Addr} {x left step : Int} {Q : Option Value → Shared → Prop} (hh : A.handled = none) (hit : IsLR s.heap it x left step) (hleft : left ≤ 0)
    (hQ : ∀ h', Heap.ExtBut it s.heap h' → Q none { s with heap := h' }) : wpAny (model prog w) A (pyNext (.ref it)) Q E s := by
  have hT : s.TypeIs (.ref it) "longrange_iterator" := ⟨_, hit, rfl⟩
  unfold pyNext
  refine wpAny_bind (wpAny_attempt (wpAny_callSpecial?_slot (name := Str.ofString "__next__") hT slotL_next
    (wpAny_call_entry slotL_next hT entryL_next ?_ (argsL_next _))))
  unfold Builtin.«longrange_iterator.__next__»
  refine wpAny_bind (wpAny_of_eq (a := #[some (Value.ref it)]) (by first | rfl | kernel_rfl) ?_)
  refine wpAny_bind (intF hit rfl (x := x) rfl ?_)
  refine wpAny_bind (intF hit rfl (x := left) rfl ?_)
  refine wpAny_bind (intF hit rfl (x := step) rfl ?_)
  simp only [if_pos hleft]
  refine wpAny_bind (wpAny_rule ?_)
  simp only [newExc, newTuple]
  refine wpAny_bind ?_
  refine wpAny_bind (wpAny_newObj_type ?_ (by size_fits))
  refine wpAny_bind (m := firstArgMember _ _) (wpAny_of_eq (a := Value.none) (by first | rfl | (simp only [firstArgMember]; rfl)) ?_)
  refine wpAny_newObj_type ?_ (by size_fits)
  simp only [raiseNew]
  refine wpAny_bind (wpAny_bind (wpAny_handled ?_))
  first | rw [show A.in1.handled = none from hh] | rw [hh]
  refine wpAny_throw ?_
  refine wpAny_bind (wpAny_isInstance (T := "StopIteration") (b := true) ⟨_, Heap.get?_push_size _ rfl, rfl⟩ isSubtype_stop ?_)
  exact wpAny_pure (hQ _ (((Heap.ExtBut.refl it s.heap).push _).push _))
theorem iterL_self {it : Addr} {x left step : Int} {Q : Value → Shared → Prop} (hit : IsLR s.heap it x left step) (h : Q (.ref it) s) : wpAny (model prog w) A (pyIter (.ref it)) Q E s := by
  have hT : s.TypeIs (.ref it) "longrange_iterator" := ⟨_, hit, rfl⟩
  refine wpAny_pyIter_slot hT slotL_iter (wpAny_call_entry slotL_iter hT entryL_iter ?_ (argsL_iter _))
  show wpAny _ _ (ret (.ref it)) _ _ s
  exact wpAny_pure ⟨_, rfl, "longrange_iterator", _, hT, slotL_next.lookup, h⟩
theorem iterL_range {r : Addr} {a b c : Int} {t u v : Tok} {Q : Value → Shared → Prop} (hr : IsRange s.heap r a b c t u v) (hsmall : ¬ Builtin.Range.small a b c = true)
    (hQ : Q (.ref s.heap.objs.size) { s with heap := s.heap.push { cls := .type "longrange_iterator", data := .fields #[rawInt a, rawInt (Builtin.Range.rangeSize a b c), rawInt c] } }) :
    wpAny (model prog w) A (pyIter (.ref r)) Q E s := by
  have hT : s.TypeIs (.ref r) "range" := ⟨_, hr, rfl⟩
  refine wpAny_pyIter_slot hT F.slot_range_iter (call_meets F.slot_range_iter hT F.entry_range_iter (F.args_range_iter_1 _)
    (AutoRange.range___iter___range_0 r a b c t u v (by have e := Bool.eq_false_iff.mpr hsmall; unfold Builtin.Range.small at e; rw [e]; rfl)) ⟨hr, ?_⟩)
  unfold Builtin.Range.small at hsmall
  rw [if_neg hsmall]
  exact ⟨"longrange_iterator", _, ⟨_, Heap.get?_push_size _ rfl, rfl⟩, slotL_next.lookup, hQ⟩
end
theorem turnL {P : Program} {w : World} {K : PySem.W.Frag} {tg : Expr} (it : Addr) (lo : Int) (n : Nat) : Turn P w K tg (Itr lo n) [it] it (fun i h => IsLR h it (lo + (i : Nat)) ((n : Int) - (i : Nat)) 1) where
  mem := by simp
  obj := fun i h st b hb => by
    have e : b = it := by simpa using hb
    subst e
    exact ⟨_, st, fun v z => by
      have z' : Data.fields _ = Data.cell v := z
      cases z'⟩
  keep := fun i h h' st k => k it (by simp) _ st
  item := by
    intro X hP hw hK hc i pins s σ H E I hf st hg
    subst hP hw hK
    obtain ⟨f0, f1, f2, f3, f4, f5⟩ := hf it (by simp)
    have hg' : i < n := hg
    refine nextL_item st (by omega) fun h' st' sb => ?_
    have I1 : Inv X pins σ H { s with heap := h', toks := s.toks + 1 } := I.turned (fun b o hb e => (sb.2 b hb).trans e) f0 f1 f3 f4 f5
    have e1 : lo + ((i + 1 : Nat) : Int) = lo + (i : Int) + 1 := by omega
    have e2 : (n : Int) - ((i + 1 : Nat) : Int) = (n : Int) - (i : Int) - 1 := by omega
    refine ⟨_, rfl, go_of (s := { s with heap := h', toks := s.toks + 1 }) (n := "longrange_iterator") st' rfl rfl (by decide) ⟨.int (lo + i), H, I1, ⟨_, rfl⟩, ⟨rfl, rfl⟩, ?_, fun b hb => (hf b hb).1⟩⟩
    show IsLR h' it (lo + ((i + 1 : Nat) : Int)) ((n : Int) - ((i + 1 : Nat) : Int)) 1
    rw [e1, e2]; exact st'
  done := by
    intro X hP hw hK hc i pins s σ H E I hf st hg
    subst hP hw hK
    obtain ⟨f0, f1, f2, f3, f4, f5⟩ := hf it (by simp)
    exact nextL_end (I.ok.hd hc) st (by have : n ≤ i := hg; omega) fun h' eb => ⟨rfl, I.turned (t' := s.toks) (fun b o hb e => eb b o hb e) f0 f1 f3 f4 f5⟩
  self := fun _ _ _ _ _ st h => iterL_self st h
section
variable {X : Cx} {tg : Expr}
theorem range_itL {pins : List (Addr × Obj)} {σ : L2.St} {H : Hp} {s : Shared} {R : It → Hp → Prop} {E : Value → Shared → Prop} {lo hi : Int} {t u v : Tok} {tk : Nat} (I : Inv X pins σ H s)
    (q : R (Itr lo (hi - lo).toNat) H) : wpAny (model X.prog X.w) X.A (pyIter (.ref s.heap.objs.size)) (PIE X pins σ tg R) E { s with heap := s.heap.push { cls := .type "range", data := .fields #[.int lo t, .int hi u, .int 1 v] }, toks := tk } := by
  have I1 : Inv X pins σ H { s with heap := s.heap.push { cls := .type "range", data := .fields #[.int lo t, .int hi u, .int 1 v] }, toks := tk } := I.kept fun b o e => Heap.get?_push_of_some _ e
  have e2 : (((hi - lo).toNat : Nat) : Int) - ((0 : Nat) : Int) = Builtin.Range.rangeSize lo hi 1 := by rw [rangeSize_one]; split <;> omega
  by_cases hs : Builtin.Range.small lo hi 1 = true
  · refine wpAny_pyIter_range (IsRange.new ..) hs ?_
    refine ⟨(s.heap.push { cls := .type "range", data := .fields #[.int lo t, .int hi u, .int 1 v] }).objs.size, [(s.heap.push { cls := .type "range", data := .fields #[.int lo t, .int hi u, .int 1 v] }).objs.size], _, _, H, rfl,
      I1.kept (t' := tk) fun b o e => Heap.get?_push_of_some _ e, turn_range _ lo (hi - lo).toNat, ?_, fun b hb => ?_, q⟩
    · have e1 : lo + ((0 : Nat) : Int) * 1 = lo := by simp
      show IsRangeIter _ _ (lo + ((0 : Nat) : Int) * 1) ((((hi - lo).toNat : Nat) : Int) - ((0 : Nat) : Int)) 1
      rw [e1, e2]
      exact Heap.get?_push_size _ rfl
    · have e : b = (s.heap.push { cls := .type "range", data := .fields #[.int lo t, .int hi u, .int 1 v] }).objs.size := by simpa using hb
      subst e
      exact I1.fpOk (Nat.le_refl _) (I1.hok.fresh (Nat.le_refl _))
  · refine iterL_range (IsRange.new ..) hs ?_
    refine ⟨(s.heap.push { cls := .type "range", data := .fields #[.int lo t, .int hi u, .int 1 v] }).objs.size, [(s.heap.push { cls := .type "range", data := .fields #[.int lo t, .int hi u, .int 1 v] }).objs.size], _, _, H, rfl,
      I1.kept (t' := tk) fun b o e => Heap.get?_push_of_some _ e, turnL _ lo (hi - lo).toNat, ?_, fun b hb => ?_, q⟩
    · have e1 : lo + ((0 : Nat) : Int) = lo := by simp
      show IsLR _ _ (lo + ((0 : Nat) : Int)) ((((hi - lo).toNat : Nat) : Int) - ((0 : Nat) : Int)) 1
      rw [e1, e2]
      exact Heap.get?_push_size _ rfl
    · have e : b = (s.heap.push { cls := .type "range", data := .fields #[.int lo t, .int hi u, .int 1 v] }).objs.size := by simpa using hb
      subst e
      exact I1.fpOk (Nat.le_refl _) (I1.hok.fresh (Nat.le_refl _))
/-- range(lo, hi), of any size -/
def iRngL (ta : TA) : TI := fun σ H R => ta σ H fun vs H1 => ∃ i j : Int, vs = [.int i, .int j] ∧ R (Itr i (j - i).toNat) H1
theorem pi_rangeL {a b : Expr} {ta : TA} {p pos : Pos} (hg : Gl X "range") (hm : X.mg "range" = none) (ha : PA X [a, b] ta) (hs : starEach [a, b] X.env = [(false, eval a X.env), (false, eval b X.env)] := by rfl) (hs2 : starEach [b] X.env = [(false, eval b X.env)] := by rfl) :
    PI X tg (.Call (.Name "range" p) [a, b] [] pos) (iRngL ta) := by
  refine ⟨fun pins s σ H R I h => ?_⟩
  refine Call_ (ld_blt I hg hm boot_range (PyProof.Rows.callWith_type1 (thn (ha.run pos pins s σ H _ I h) fun us s1 ⟨vs, H1, I1, r1, q1⟩ => ?_) (by rw [hs, hs2]) (by rw [hs2]; rfl)))
  obtain ⟨i, j, e, q⟩ := q1
  subst e
  cases r1 with
  | cons r rr =>
    cases rr with
    | cons r' rr =>
      cases rr
      obtain ⟨t, rfl⟩ := r
      obtain ⟨t', rfl⟩ := r'
      exact call_range_2 (range_itL I1 q)
end
end Iz
/-! Ls -/
set_option Elab.async false
set_option linter.all false
set_option maxRecDepth 100000
set_option maxHeartbeats 4000000
namespace Iz
open PySem PySem.Spec PyProof.Rows L2
/-! ### loops over lists, tuples and ranges, comprehensions of what is told by functions -/
section
variable {K : PySem.W.Frag} {g : TG} {tb : TS} {D : Ends} {σ : L2.St} {H : Hp} {ta : TA} {tl : TE} {tt : TT} {te : TE} {vs : List Nat} {Q : VK}
theorem st_forRL (lo j : Int) (ha : ∀ R : List V → Hp → Prop, R [.int lo, .int j] H → ta σ H R) (Pv : Nat → L2.St → Hp → Prop) (h0 : Pv 0 σ H)
    (hs : ∀ i σ H, i < (j - lo).toNat → Pv i σ H → g (.int (lo + i)) σ H fun σ2 H2 => tb { D with nx := Pv (i + 1), ct := Pv (i + 1), bk := D.nx } σ2 H2) (hd : ∀ σ H, Pv (j - lo).toNat σ H → D.nx σ H) : tFor (iRngL ta) g tb D σ H :=
  ha _ ⟨lo, j, rfl, for_range Pv h0 hs hd⟩
theorem st_forL {a : Addr} {xs : List V} (ha : ∀ R : V → Hp → Prop, R (.ref a) H → tl σ H R) (hx : H a = some (.lst xs)) (Pv : Nat → L2.St → Hp → Prop) (h0 : Pv 0 σ H) (hl : ∀ i σ H, Pv i σ H → H a = some (.lst xs))
    (hs : ∀ i x σ H, xs[i]? = some x → Pv i σ H → g x σ H fun σ2 H2 => tb { D with nx := Pv (i + 1), ct := Pv (i + 1), bk := D.nx } σ2 H2) (hd : ∀ σ H, Pv xs.length σ H → D.nx σ H) : tFor (iList K tl) g tb D σ H :=
  ha _ ⟨a, rfl, ⟨xs, SqL.of hx⟩, for_list Pv h0 (fun i σ H _ p => SqL.of (hl i σ H p)) hs hd⟩
theorem st_forT {a : Addr} {xs : List V} (ha : ∀ R : V → Hp → Prop, R (.ref a) H → tl σ H R) (hx : H a = some (.tup xs)) (Pv : Nat → L2.St → Hp → Prop) (h0 : Pv 0 σ H) (hl : ∀ i σ H, Pv i σ H → H a = some (.tup xs))
    (hs : ∀ i x σ H, xs[i]? = some x → Pv i σ H → g x σ H fun σ2 H2 => tb { D with nx := Pv (i + 1), ct := Pv (i + 1), bk := D.nx } σ2 H2) (hd : ∀ σ H, Pv xs.length σ H → D.nx σ H) : tFor (iTup K tl) g tb D σ H :=
  ha _ ⟨a, rfl, ⟨xs, SqT.of hx⟩, for_tup Pv h0 (fun i σ H _ p => SqT.of (hl i σ H p)) hs hd⟩
/-- lo, .., j - 1 -/
def intsB (lo j : Int) : List Int := (List.range (j - lo).toNat).map fun (k : Nat) => lo + (k : Int)
theorem mem_intsB {lo j i : Int} : i ∈ intsB lo j ↔ lo ≤ i ∧ i < j := by
  simp only [intsB, List.mem_map, List.mem_range]
  constructor
  · rintro ⟨k, hk, rfl⟩; omega
  · rintro ⟨h1, h2⟩; exact ⟨(i - lo).toNat, by omega, by omega⟩
theorem take_filter_succ {α : Type} {xs : List α} {i : Nat} {x : α} (h : xs[i]? = some x) (p : α → Bool) : (xs.take (i + 1)).filter p = (xs.take i).filter p ++ (if p x = true then [x] else []) := by
  rw [List.take_succ, h, List.filter_append]
  congr 1
  by_cases e : p x = true <;> simp [e]
/-- [f(x) for x in xs if p(x)] -/
theorem st_lcLF {a : Addr} {xs : List V} (ha : ∀ R : V → Hp → Prop, R (.ref a) H → tl σ H R) (hx : H a = some (.lst xs)) (hz : xs.length ≤ sizeLine) (p : V → Bool) (f : V → V)
    (hs : ∀ x H' (A : Hp → Prop) (B : VK), x ∈ xs → Same H H' → (p x = false → ∀ H3, Same H' H3 → A H3) → (p x = true → ∀ H4, Same H' H4 → B (f x) H4) →
      g x (wipe σ vs) H' fun σ2 H2 => wipe σ2 vs = wipe σ vs ∧ tt σ2 H2 fun b H3 => if b = true then te σ2 H3 B else A H3)
    (hd : ∀ D H', H D = none → Same H H' → H' D = some (.lst ((xs.filter p).map f)) → Q (.ref D) H') : tLc (iList K tl) g tt te vs σ H Q := by
  refine ha _ ⟨a, rfl, ⟨xs, SqL.of hx⟩, fun D hD => lc_list (fun i H' => Same H H' ∧ H' D = some (.lst (((xs.take i).filter p).map f))) ⟨Same.upd hD, upd_same⟩ (fun i H' _ q => SqL.of (q.1 _ _ hx)) (fun i x H' hi q => ?_) (fun H' q => hd D H' hD q.1 (by rw [q.2, List.take_length]))⟩
  refine hs x H' _ _ (List.mem_of_getElem? hi) q.1 (fun e H3 s3 => ⟨q.1.trans s3, ?_⟩) (fun e H4 s4 => ⟨_, s4 _ _ q.2, ?_, ?_, ?_⟩)
  · rw [s3 _ _ q.2, take_filter_succ hi, e]; simp
  · have hi' := (List.getElem?_eq_some_iff.mp hi).1
    have h1 : ((xs.take i).filter p).length ≤ (xs.take i).length := List.length_filter_le _ _
    have h2 : (xs.take i).length ≤ i := by rw [List.length_take]; exact Nat.min_le_left _ _
    rw [List.length_map]; omega
  · exact fun b u e2 => by
      have hb : b ≠ D := ne_of_none e2 hD
      rw [upd_ne hb]; exact s4 _ _ (q.1 _ _ e2)
  · rw [upd_same, take_filter_succ hi, e]; simp
/-- [f(x) for x in range(lo, j) if p(x)] -/
theorem st_lcRF (lo j : Int) (ha : ∀ R : List V → Hp → Prop, R [.int lo, .int j] H → ta σ H R) (hz : (j - lo).toNat ≤ sizeLine) (p : Int → Bool) (f : Int → V)
    (hs : ∀ x H' (A : Hp → Prop) (B : VK), lo ≤ x → x < j → Same H H' → (p x = false → ∀ H3, Same H' H3 → A H3) → (p x = true → ∀ H4, Same H' H4 → B (f x) H4) →
      g (.int x) (wipe σ vs) H' fun σ2 H2 => wipe σ2 vs = wipe σ vs ∧ tt σ2 H2 fun b H3 => if b = true then te σ2 H3 B else A H3)
    (hd : ∀ D H', H D = none → Same H H' → H' D = some (.lst (((intsB lo j).filter p).map f)) → Q (.ref D) H') : tLc (iRngL ta) g tt te vs σ H Q := by
  refine ha _ ⟨lo, j, rfl, fun D hD => lc_range (fun i H' => Same H H' ∧ H' D = some (.lst ((((intsB lo j).take i).filter p).map f))) ⟨Same.upd hD, upd_same⟩ (fun i H' hi q => ?_) (fun H' q => hd D H' hD q.1 (by rw [q.2, show (j - lo).toNat = (intsB lo j).length by simp [intsB], List.take_length]))⟩
  have hi' : (intsB lo j)[i]? = some (lo + (i : Int)) := by simp [intsB, hi]
  refine hs (lo + i) H' _ _ (by omega) (by omega) q.1 (fun e H3 s3 => ⟨q.1.trans s3, ?_⟩) (fun e H4 s4 => ⟨_, s4 _ _ q.2, ?_, ?_, ?_⟩)
  · rw [s3 _ _ q.2, take_filter_succ hi', e]; simp
  · have h1 : (((intsB lo j).take i).filter p).length ≤ ((intsB lo j).take i).length := List.length_filter_le _ _
    have h2 : ((intsB lo j).take i).length ≤ i := by rw [List.length_take]; exact Nat.min_le_left _ _
    rw [List.length_map]; omega
  · exact fun b u e2 => by
      have hb : b ≠ D := ne_of_none e2 hD
      rw [upd_ne hb]; exact s4 _ _ (q.1 _ _ e2)
  · rw [upd_same, take_filter_succ hi', e]; simp
end
end Iz
namespace Iz
open PySem PySem.Spec PyProof.Rows L2
/-! ### slices, + of lists, deep ==, in the form that simp reads -/
section
variable {X : Cx} {e : Expr} {te : TE}
def tRevLN (te : TE) : TE := fun σ H Q => te σ H fun x H1 => ∃ a xs, x = .ref a ∧ H1 a = some (.lst xs) ∧ News H1 (.lst xs.reverse) Q
theorem pe_revLN {k : Nat} {p1 p2 p3 pos : Pos} (he : PE X e te) : PE X (.Subscript e (.Slice none none (some (.UnaryOp .USub (.Constant (.int 1) k p1) p2)) p3) pos) (tRevLN te) :=
  PE.imp (pe_revL (PE.mcl he)) fun σ H Q q => ⟨_, q, fun v H1 ⟨a, xs, e1, e2, n⟩ => ⟨a, xs, e1, SqL.of e2, n.all⟩⟩
def rCatN : R2 := fun x y H Q => ∃ l b xs zs, x = .ref l ∧ y = .ref b ∧ H l = some (.lst xs) ∧ H b = some (.lst zs) ∧ xs.length + zs.length ≤ sizeLine ∧ News H (.lst (xs ++ zs)) Q
theorem op_catN : OpR X (binaryOp .Add) rCatN := fun pins s σ H x y v u Q I rx ry ⟨l, b, xs, zs, e1, e2, e3, e4, e5, n⟩ => op_cat pins s σ H x y v u Q I rx ry ⟨l, b, xs, zs, e1, e2, e3, e4, e5, n.all⟩
end
/-- x in xs, x not in xs: flat things -/
def rInTN (neg : Bool) : R2 := fun x y H Q => ∃ p xs, y = .ref p ∧ H p = some (.tup xs) ∧ flatV x = true ∧ xs.all flatV = true ∧ Q (.bl (if neg then !inV x xs else inV x xs)) H
def rInLN (neg : Bool) : R2 := fun x y H Q => ∃ p xs, y = .ref p ∧ H p = some (.lst xs) ∧ flatV x = true ∧ xs.all flatV = true ∧ Q (.bl (if neg then !inV x xs else inV x xs)) H
theorem op_inTN {X : Cx} : OpR X (compareOp .In) (rInTN false) := fun pins s σ H x y v u Q I rx ry ⟨p, xs, e1, e2, e3, e4, q⟩ => op_in_seq pins s σ H x y v u Q I rx ry ⟨p, xs, e1, .inr (SqT.of e2), e3, e4, q⟩
theorem op_notInTN {X : Cx} : OpR X (compareOp .NotIn) (rInTN true) := fun pins s σ H x y v u Q I rx ry ⟨p, xs, e1, e2, e3, e4, q⟩ => op_notIn_seq pins s σ H x y v u Q I rx ry ⟨p, xs, e1, .inr (SqT.of e2), e3, e4, q⟩
theorem op_inLN {X : Cx} : OpR X (compareOp .In) (rInLN false) := fun pins s σ H x y v u Q I rx ry ⟨p, xs, e1, e2, e3, e4, q⟩ => op_in_seq pins s σ H x y v u Q I rx ry ⟨p, xs, e1, .inl (SqL.of e2), e3, e4, q⟩
theorem op_notInLN {X : Cx} : OpR X (compareOp .NotIn) (rInLN true) := fun pins s σ H x y v u Q I rx ry ⟨p, xs, e1, e2, e3, e4, q⟩ => op_notIn_seq pins s σ H x y v u Q I rx ry ⟨p, xs, e1, .inl (SqL.of e2), e3, e4, q⟩
def ShN (n : Nat) (d : PyData) : Prop := d.canLay0 = true ∧ d.depth ≤ n
theorem ShN.up {n m : Nat} {d : PyData} (h : ShN n d) (k : n ≤ m) : ShN m d := ⟨h.1, Nat.le_trans h.2 k⟩
theorem ShN.non {n : Nat} : ShN n .none := ⟨by simp [PyData.canLay0], by simp [PyData.depth]⟩
theorem ShN.int {n : Nat} {i : Int} : ShN n (.int i) := ⟨by simp [PyData.canLay0], by simp [PyData.depth]⟩
theorem ShN.bool {n : Nat} {b : Bool} : ShN n (.bool b) := ⟨by simp [PyData.canLay0], by simp [PyData.depth]⟩
theorem shAll {n : Nat} {ds : List PyData} (h : ∀ d ∈ ds, ShN n d) : PyData.canLayAll0 ds = true ∧ PyData.depthAll ds ≤ n := by
  induction ds with
  | nil => exact ⟨by simp [PyData.canLayAll0], by simp [PyData.depthAll]⟩
  | cons d ds ih =>
    have h1 := h d (by simp)
    have h2 := ih fun x hx => h x (by simp [hx])
    exact ⟨by simp [PyData.canLayAll0, h1.1, h2.1], by simp only [PyData.depthAll]; exact Nat.max_le.mpr ⟨h1.2, h2.2⟩⟩
theorem ShN.list {n : Nat} {ds : List PyData} (h : ∀ d ∈ ds, ShN n d) : ShN (n + 1) (.list ds) := ⟨by simp only [PyData.canLay0]; exact (shAll h).1, by simp only [PyData.depth]; have := (shAll h).2; omega⟩
theorem ShN.tuple {n : Nat} {ds : List PyData} (h : ∀ d ∈ ds, ShN n d) : ShN (n + 1) (.tuple ds) := ⟨by simp only [PyData.canLay0]; exact (shAll h).1, by simp only [PyData.depth]; have := (shAll h).2; omega⟩
theorem ShN.ok {n : Nat} {d : PyData} (h : ShN n d) (k : n ≤ 64 := by decide) : SeqAt.shaped d = true := by
  unfold SeqAt.shaped
  rw [h.1]; simpa using Nat.le_trans h.2 k
/-- None or an int, as data -/
def dO : Option Int → PyData
  | none => .none
  | some i => .int i
theorem dp_ov {K : PySem.W.Frag} {H : Hp} {o : Option Int} : Dp K H (ov o) (dO o) := by cases o; exact .non; exact .int _
theorem sh_dO {n : Nat} {o : Option Int} : ShN n (dO o) := by cases o; exact .non; exact .int
/-- a list of pairs -/
inductive PAll (H : Hp) : List V → List (Option Int × Option Int) → Prop
  | nil : PAll H [] []
  | cons {a : Addr} {xs : List V} {q : Option Int × Option Int} {ps : List (Option Int × Option Int)} : H a = some (.tup [ov q.1, ov q.2]) → PAll H xs ps → PAll H (.ref a :: xs) (q :: ps)
def PairsAt (H : Hp) (a : Addr) (ps : List (Option Int × Option Int)) : Prop := ∃ xs, H a = some (.lst xs) ∧ PAll H xs ps
theorem PAll.length {H : Hp} {xs : List V} {ps : List (Option Int × Option Int)} (h : PAll H xs ps) : xs.length = ps.length := by induction h <;> simp_all
theorem PAll.mono {H H' : Hp} {xs : List V} {ps : List (Option Int × Option Int)} (h : PAll H xs ps) (s : Same H H') : PAll H' xs ps := by
  induction h with
  | nil => exact .nil
  | cons e _ ih => exact .cons (s _ _ e) ih
theorem PAll.monoT {H H' : Hp} {xs : List V} {ps : List (Option Int × Option Int)} (h : PAll H xs ps) (s : ∀ b us, H b = some (.tup us) → H' b = some (.tup us)) : PAll H' xs ps := by
  induction h with
  | nil => exact .nil
  | cons e _ ih => exact .cons (s _ _ e) ih
theorem PAll.snoc {H : Hp} {a : Addr} {q : Option Int × Option Int} {xs : List V} {ps : List (Option Int × Option Int)} (h : PAll H xs ps) (e : H a = some (.tup [ov q.1, ov q.2])) : PAll H (xs ++ [.ref a]) (ps ++ [q]) := by
  induction h with
  | nil => exact .cons e .nil
  | cons e2 _ ih => exact .cons e2 ih
theorem PAll.rev {H : Hp} {xs : List V} {ps : List (Option Int × Option Int)} (h : PAll H xs ps) : PAll H xs.reverse ps.reverse := by
  induction h with
  | nil => exact .nil
  | cons e _ ih => rw [List.reverse_cons, List.reverse_cons]; exact ih.snoc e
theorem PAll.get {H : Hp} {xs : List V} {ps : List (Option Int × Option Int)} (h : PAll H xs ps) {i : Nat} {x : V} (e : xs[i]? = some x) : ∃ a q, x = .ref a ∧ ps[i]? = some q ∧ H a = some (.tup [ov q.1, ov q.2]) := by
  induction h generalizing i with
  | nil => simp at e
  | cons e2 _ ih =>
    cases i with
    | zero => simp at e; subst e; exact ⟨_, _, rfl, rfl, e2⟩
    | succ i => exact ih (by simpa using e)
theorem PairsAt.mono {H H' : Hp} {a : Addr} {ps : List (Option Int × Option Int)} (h : PairsAt H a ps) (s : Same H H') : PairsAt H' a ps := let ⟨xs, e, p⟩ := h; ⟨xs, s _ _ e, p.mono s⟩
theorem drop_of {α : Type} {l : List α} {i : Nat} {x : α} (h : l[i]? = some x) : l.drop i = x :: l.drop (i + 1) := by
  have := (List.getElem?_eq_some_iff.mp h)
  obtain ⟨h1, h2⟩ := this
  rw [← h2]; exact List.drop_eq_getElem_cons h1
def dP (q : Option Int × Option Int) : PyData := .tuple [dO q.1, dO q.2]
theorem PAll.dp {K : PySem.W.Frag} {H : Hp} {xs : List V} {ps : List (Option Int × Option Int)} (h : PAll H xs ps) : DpAll K H xs (ps.map dP) := by
  induction h with
  | nil => exact .nil
  | cons e _ ih => exact .cons (.tup (SqT.of e) (.cons dp_ov (.cons dp_ov .nil))) ih
theorem sh_dP {q : Option Int × Option Int} : ShN 1 (dP q) := ShN.tuple fun d h => by
  simp only [List.mem_cons, List.not_mem_nil, or_false] at h
  rcases h with rfl | rfl <;> exact sh_dO
theorem PairsAt.dp {K : PySem.W.Frag} {H : Hp} {a : Addr} {ps : List (Option Int × Option Int)} (h : PairsAt H a ps) : Dp K H (.ref a) (.list (ps.map dP)) := let ⟨_, e, p⟩ := h; .lst (SqL.of e) p.dp
theorem sh_dPs {ps : List (Option Int × Option Int)} : ShN 2 (.list (ps.map dP)) := ShN.list fun d h => by
  obtain ⟨q, _, rfl⟩ := List.mem_map.mp h; exact sh_dP
/-- xs == [] -/
theorem eq_nil {K : PySem.W.Frag} {H : Hp} {a b : Addr} {ps : List (Option Int × Option Int)} {R : VK} (h : PairsAt H a ps) (h2 : H b = some (.lst [])) (r : R (.bl ps.isEmpty) H) : rEqD K (.ref a) (.ref b) H R :=
  ⟨_, _, h.dp, dp_nil h2, sh_dPs.ok, (ShN.list (n := 0) fun _ h => by simp at h).ok, by cases ps <;> simp_all [PyData.eqv, PyData.eqvAll]⟩
end Iz
namespace Iz
open PySem PySem.Spec PyProof.Rows L2
open He (ga)
/-! ### within a lambda: the rules that name the written part -/
section
variable {X : Cx} {CX : CXT} {k j : Nat} {x m f : Str} {ps : List Str} {dvs : List V} {sp : Sp} {E : XK} {o e : Expr} {es : List Expr} {ta : TE} {t : TA} {p pos apos : Pos} {K : PySem.W.Frag}
theorem pmtK {pl : Sem Bool} (hK : X.K = K) (O : OkM X.prog X.w X.K X.mg X.base CX k x m ps dvs sp) (C : Cls X.K (ga X.K x)) (he : PE X o ta) (hj : j ≤ dvs.length) (hr : Room k X.A) (hx : Passes CX X E) (ha : PA X (e :: es) t)
    (hst : starEach (e :: es) X.env = (false, eval e X.env) :: starEach es X.env := by rfl) (hpl : (backTo pos (starEach es X.env)).any (·.1) = false := by rfl)
    (ht : eval (.Call (.Attribute o m apos) (e :: es) [] pos) X.env = (do
      let ov ← eval o X.env; standAt apos.atName
      let (f, first) ← holding [ov] (getMethod ov m pl)
      callWith pos f first (backTo pos (starEach (e :: es) X.env)) (backToKw pos (keywordEach [] X.env))) := by rfl) :
    PE X (.Call (.Attribute o m apos) (e :: es) [] pos) (tMt (ga K x) m sp (dvs.drop j) E ta t) := by subst hK; exact pmt O C he hj hr hx ha hst hpl ht
theorem pmt0K {pl : Sem Bool} (hK : X.K = K) (O : OkM X.prog X.w X.K X.mg X.base CX k x m ps dvs sp) (C : Cls X.K (ga X.K x)) (he : PE X o ta) (hj : j ≤ dvs.length) (hr : Room k X.A) (hx : Passes CX X E)
    (ht : eval (.Call (.Attribute o m apos) [] [] pos) X.env = (do
      let ov ← eval o X.env; standAt apos.atName
      let (f, first) ← holding [ov] (getMethod ov m pl)
      callWith pos f first (backTo pos (starEach [] X.env)) (backToKw pos (keywordEach [] X.env))) := by rfl) :
    PE X (.Call (.Attribute o m apos) [] [] pos) (tMt (ga K x) m sp (dvs.drop j) E ta tNil) := by subst hK; exact pmt0 O C he hj hr hx ht
theorem pe_fldNK {C : Addr} (hK : X.K = K) (c : Cls K C) (n : NoAttr K C f) (h : PE X o ta) (hb : attributeBase o f X.env (eval o X.env) = eval o X.env := by rfl) : PE X (.Attribute o f apos) (tFldN C ta f) := by subst hK; exact pe_fldN c n h hb
end
end Iz
/-! Ow -/
set_option Elab.async false
set_option linter.all false
set_option maxRecDepth 100000
set_option maxHeartbeats 4000000
namespace Iz
open PySem PySem.Spec PyProof.Rows L2
open He (ga)
/-! ### operators by a class's own methods -/
section
variable {X : Cx} {pins : List (Addr × Obj)} {σ : L2.St} {H : Hp} {s : Shared}
/-- the type of a value is seen -/
theorem looksTy {x : V} {u t : Value} (I : Inv X pins σ H s) (rx : RelV x u) (ty : TyX X.K H x t) : PySem.W.Looks (model X.prog X.w) s.heap (typeOf u) t := by
  have R : ∀ {a : Addr} {o : Obj}, s.heap.get? a = some o → o.cls = t → PySem.W.Looks (model X.prog X.w) s.heap (typeOf (.ref a)) t := fun ho hc A Q E s2 k q => wpAny_typeOf_ref (k _ _ ho) (by rw [hc]; exact q)
  cases ty with
  | base b =>
    cases b with
    | non => cases (show u = Value.none from rx); exact .of_pure rfl
    | bl y => cases (show u = Value.bool y from rx); exact .of_pure rfl
    | int i => obtain ⟨t, q⟩ := (show ∃ t, u = Value.int i t from rx); cases q; exact .of_pure rfl
    | str y => obtain ⟨t, q⟩ := (show ∃ t, u = Value.str y t from rx); cases q; exact .of_pure rfl
    | flt y => obtain ⟨t, q⟩ := (show ∃ t, u = Value.float y t from rx); cases q; exact .of_pure rfl
    | @lst a xs ea =>
      cases rx
      obtain ⟨_, _, n, _, h1⟩ := (show ObjOk X.prog X.w H s.heap a (.lst xs) from I.hok a _ ea)
      exact R h1 rfl
    | @frz a ob xs ea =>
      cases rx
      obtain ⟨_, _, _, n, _, h1⟩ := (show ObjOk X.prog X.w H s.heap a (.frz ob (.lst xs)) from I.hok a _ ea)
      exact R h1 rfl
    | @tup a xs ea =>
      cases rx
      obtain ⟨_, _, _, o, h1, h2, _⟩ := (show ObjOk X.prog X.w H s.heap a (.tup xs) from I.hok a _ ea)
      exact R h1 h2
    | @dK a kvs ea =>
      cases rx
      obtain ⟨_, _, vs, _, o, es, ep, h1, h2, _⟩ := (show ObjOk X.prog X.w H s.heap a (.dK kvs) from I.hok a _ ea)
      exact R h1 h2.1
    | @dT a kvs ea =>
      cases rx
      obtain ⟨_, _, xs, _, o, es, ep, h1, h2, _⟩ := (show ObjOk X.prog X.w H s.heap a (.dT kvs) from I.hok a _ ea)
      exact R h1 h2.1
    | @ins a C dx fs ea cl ha hn htk hm =>
      cases rx
      obtain ⟨mA, O, _⟩ := ins_get I.hok ea
      obtain ⟨od, J, _⟩ := O.look
      exact J.type
  | byt y => obtain ⟨t, q⟩ := (show ∃ t, u = Value.bytes y t from rx); cases q; exact .of_pure rfl
  | @set a S n ea =>
    cases rx
    obtain ⟨o, _, _, _, e, ex, _⟩ := I.hok a _ ea
    exact R e ex.1
  | @kList a o e c => cases rx; exact R (I.kIn a o e) c
  | @kTuple a o e c => cases rx; exact R (I.kIn a o e) c
  | @kDict a o e c => cases rx; exact R (I.kIn a o e) c
  | @fTuple a ob xs ea =>
    cases rx
    obtain ⟨_, _, _, _, o, h1, h2, _⟩ := (show ObjOk X.prog X.w H s.heap a (.frz ob (.tup xs)) from I.hok a _ ea)
    exact R h1 h2
  | @fDict a ob kvs ea =>
    cases rx
    obtain ⟨_, _, _, vs, _, o, es, ep, h1, h2, _⟩ := (show ObjOk X.prog X.w H s.heap a (.frz ob (.dK kvs)) from I.hok a _ ea)
    exact R h1 h2.1
end
section
variable {X : Cx} {CX : CXT} {k : Nat} {x m : Str} {ps : List Str} {sp : Sp} {E : XK}
/-- a method called by its address, within an operator -/
theorem own_call {f a : Addr} {fd : FuncData} {y : V} {u : Value} {pins : List (Addr × Obj)} {σ : L2.St} {H : Hp} {s : Shared} {Q : VK} {R : Value → Shared → Prop} (I : Inv X pins σ H s) (F : FnOk X.prog X.w X.K X.mg X.base CX k f fd ps sp) (hb : Binds X.K fd ps []) (hr : Room k X.A) (hx : Passes CX X E)
    (ry : RelV y u) (hsp : sp [.ref a, y] H Q E) (hR : ∀ v w H' s', Inv X pins σ H' s' → RelV v w → Q v H' → R w s') : wpAny (model X.prog X.w) X.A (call (.ref f) [.ref a, u]) R X.xe s := by
  have hl := F.len _ _ _ _ hsp
  have bd := hb s [.ref a, u] I.kIn (by simpa using hl)
  refine wpAny_call (codeAny_mono (F.run X.A X.stack s H ⟨[.ref a, u], []⟩ [.ref a, u] [.ref a, y] _ E hr I.env0 (by simpa using bd) (.cons rfl (.cons ry .nil)) hsp) fun r s' z => ?_)
  cases r with
  | error e => exact hx _ _ _ _ _ _ I z
  | ok fl =>
    cases fl with
    | ret w => obtain ⟨v, H', I', rv, q⟩ := I.after z; exact hR v w H' s' I' rv q
    | next => exact False.elim z
    | brk => exact False.elim z
    | cont => exact False.elim z
/-- x op y, where x's class has the method: it hands back a truth -/
def rOwn (K : PySem.W.Frag) (C : Addr) (sp : Sp) (E : XK) : R2 := fun x y H Q => ∃ a dx fs, x = .ref a ∧ H a = some (.ins C dx fs) ∧ (∃ t, TyX K H y t ∧ PySem.W.notFirst K C t = true) ∧ sp [.ref a, y] H (fun v H' => ∃ b, v = .bl b ∧ Q (.bl b) H') E
theorem op_own {op : CmpOp} (hop : ∀ a b, compareOp op a b = richCompare op a b) (O : OkM X.prog X.w X.K X.mg X.base CX k x m ps [] sp) (hm : (cmpInfo op).2.1 = m) (hr : Room k X.A) (hx : Passes CX X E) : OpR X (compareOp op) (rOwn X.K (ga X.K x) sp E) := by
  intro pins s σ H v0 y v u Q I rx ry h
  obtain ⟨a, dx, fs, rfl, ha, ⟨t, ty, nf⟩, hsp⟩ := h
  cases rx
  obtain ⟨f, fd, M, b, F⟩ := O.ex
  obtain ⟨ds, hd, hb⟩ := b 0 (Nat.le_refl _)
  cases hd
  obtain ⟨mA, O', _⟩ := ins_get I.hok ha
  obtain ⟨od, J, _⟩ := O'.look
  obtain ⟨mm, hF⟩ := I.fr
  subst hm
  rw [hop]
  refine PySem.W.cmp_K hr.units0 hF I.ok.mod.kin J (looksTy I ry ty) nf M.at_ M.fn (own_call I F hb hr hx ry hsp fun v w H' s' I' rv q => ?_)
  obtain ⟨b, rfl, q⟩ := q
  cases rv
  exact ⟨.bl b, H', I', rfl, q⟩
/-- x in y, where y's class has __contains__ -/
def rOwnIn (C : Addr) (neg : Bool) (sp : Sp) (E : XK) : R2 := fun x y H Q => ∃ a dx fs, y = .ref a ∧ H a = some (.ins C dx fs) ∧ sp [.ref a, x] H (fun v H' => ∃ b, v = .bl b ∧ Q (.bl (if neg then !b else b)) H') E
theorem op_ownIn (O : OkM X.prog X.w X.K X.mg X.base CX k x "__contains__" ps [] sp) (hr : Room k X.A) (hx : Passes CX X E) : OpR X (compareOp .In) (rOwnIn (ga X.K x) false sp E) := by
  intro pins s σ H v0 y v u Q I rx ry h
  obtain ⟨a, dx, fs, rfl, ha, hsp⟩ := h
  cases ry
  obtain ⟨f, fd, M, b, F⟩ := O.ex
  obtain ⟨ds, hd, hb⟩ := b 0 (Nat.le_refl _)
  cases hd
  obtain ⟨mA, O', _⟩ := ins_get I.hok ha
  obtain ⟨od, J, _⟩ := O'.look
  obtain ⟨mm, hF⟩ := I.fr
  refine PySem.W.in_K hF I.ok.mod.kin J M.at_ M.fn (own_call I F hb hr hx rx hsp fun v w H' s' I' rv q => ?_)
  obtain ⟨b, rfl, q⟩ := q
  cases rv
  exact wpAny_truthy_bool ⟨.bl b, H', I', rfl, q⟩
theorem op_ownNotIn (O : OkM X.prog X.w X.K X.mg X.base CX k x "__contains__" ps [] sp) (hr : Room k X.A) (hx : Passes CX X E) : OpR X (compareOp .NotIn) (rOwnIn (ga X.K x) true sp E) := by
  intro pins s σ H v0 y v u Q I rx ry h
  obtain ⟨a, dx, fs, rfl, ha, hsp⟩ := h
  cases ry
  obtain ⟨f, fd, M, b, F⟩ := O.ex
  obtain ⟨ds, hd, hb⟩ := b 0 (Nat.le_refl _)
  cases hd
  obtain ⟨mA, O', _⟩ := ins_get I.hok ha
  obtain ⟨od, J, _⟩ := O'.look
  obtain ⟨mm, hF⟩ := I.fr
  refine PySem.W.notIn_K hF I.ok.mod.kin J M.at_ M.fn (own_call I F hb hr hx rx hsp fun v w H' s' I' rv q => ?_)
  obtain ⟨b, rfl, q⟩ := q
  cases rv
  exact wpAny_truthy_bool ⟨.bl (!b), H', I', rfl, q⟩
end
end Iz
/-! Tn -/
set_option Elab.async false
set_option linter.all false
set_option maxRecDepth 100000
set_option maxHeartbeats 4000000
namespace Iz
open PySem PySem.Spec PyProof.Rows L2
/-! ### try: .. with several clauses «except x as n», one of which catches -/
abbrev Clause := Value × Nat × (Addr → Value → Option Addr → TS)
def unset (D : Ends) (i : Nat) : Ends := { nx := fun σ H => D.nx (σ.set i none) H, rt := D.rt, bk := fun σ H => D.bk (σ.set i none) H, ct := fun σ H => D.ct (σ.set i none) H }
/-- the first clause that catches; one of them does -/
def wNamed (K : PySem.W.Frag) (D : Ends) : List Clause → WX
  | [] => fun _ _ _ _ => False
  | q :: r => fun cls d σ H => ∃ b, PySem.W.exmOne K cls q.1 = some b ∧ (b = true → ∀ a, H a = none → q.2.2 a cls d (unset D q.2.1) (σ.set q.2.1 (some (.ref a))) H) ∧ (b = false → wNamed K D r cls d σ H)
structure ClauseOk (X : Cx) (x n : Str) (q : Clause) (st : Stmt) (ss : List Stmt) : Prop where
  at_ : X.N[q.2.1]? = some n
  loc : X.env.kindOf n = some .local
  cls : Names X x q.1
  run : ∀ a oe cls d pn, Zc cls d oe → (∃ vs, oe.data = .fields vs) → PSs (X.suite a ((a, oe) :: pn)) (st :: ss) (q.2.2 a cls d)
inductive Clauses (X : Cx) : List ExceptHandler → List Clause → Prop
  | nil : Clauses X [] []
  | cons {x n : Str} {q : Clause} {st : Stmt} {ss : List Stmt} {p p' : Pos} {hds : List ExceptHandler} {l : List Clause} : ClauseOk X x n q st ss → Clauses X hds l → Clauses X (.ExceptHandler (some (.Name x p)) (some n) (st :: ss) p' :: hds) (q :: l)
section
variable {X : Cx} {body : List Stmt} {h₀ : ExceptHandler} {hds : List ExceptHandler} {l : List Clause} {pos : Pos} {tb : WX → TS}
theorem ps_try_named (hN : X.N.Nodup)
    (hb : ∀ W pn xe, Takes (X.tr pn xe) W → PassesOwn (model X.prog X.w) X.A X.env xe → PSs (X.tr pn xe) body (tb W)) (hh : Clauses X (h₀ :: hds) l) (hs : X.stack = X.env :: X.outer := by rfl) (hf : X.env.frame = some X.env.locals := by rfl) :
    PS X (.Try body (h₀ :: hds) [] [] pos) (fun D σ H => tb (wNamed X.K D l) D σ H) := by
  constructor
  intro pins s σ H D I h
  have ok := I.ok
  have fr1 : X.A.frames = some (X.env :: X.outer) := hs ▸ ok.frames
  let catcher : Value → Shared → Prop := fun e z1 => wpAny (model X.prog X.w) X.A (noteFrame e X.env) (fun _ z2 => wpAny (model X.prog X.w) X.A (setFlight e none) (fun _ z3 => wpAny (model X.prog X.w) X.A (handleBy e X.env (h₀ :: hds)) (SP X pins D) X.xe z3) X.xe z2) X.xe z1
  have tk : Takes (X.tr (X.pn ++ pins) catcher) (wNamed X.K D l) := by
    intro u z xx
    obtain ⟨a, B, sI, pins', σ1, H1, cls, d, rfl, J0, nb, up, sky, na, os, ag, wish⟩ := xx
    have J : Inv X pins σ1 H1 sI := J0.ofTry ok
    refine Sky.land Zc.steady fr1 hf (show Sky B (X.env :: X.outer) a (Zc cls d) X.env.locals z.heap from hs ▸ sky) fun g fl upg => ?_
    have J1 : Inv X pins σ1 H1 { z with heap := g } := J.landed nb fl.1 (up.trans upg) os ag
    obtain ⟨o1, vs1, at1, z1, dt1⟩ := fl.there
    have out : a ∉ frs (X.env :: X.outer) := fun hm => by
      obtain ⟨_, o', at', no⟩ := fl.2.2.1.mem hm
      rw [at1] at at'
      cases at'
      exact no _ dt1
    have neL : a ≠ X.env.locals := fun e => out (by rw [e]; exact List.mem_filterMap.mpr ⟨X.env, List.mem_cons_self, hf⟩)
    have neF : a ∉ X.fs := fun hm => by
      obtain ⟨e, he, q⟩ := List.mem_filterMap.mp hm
      exact out (List.mem_filterMap.mpr ⟨e, .tail _ he, q⟩)
    have S1 := J1.suite at1 dt1 na neL neF
    have all : ∀ {hs' : List ExceptHandler} {l' : List Clause}, Clauses X hs' l' → wNamed X.K D l' cls d σ1 H1 → wpAny (model X.prog X.w) X.A (handleBy (.ref a) X.env hs') (SP X pins D) X.xe { z with heap := g } := by
      intro hs' l' hc
      induction hc with
      | nil => exact fun w => w.elim
      | @cons x n q st ss p p' hds l C r ih =>
        rintro ⟨b, hb1, yes, no⟩
        obtain ⟨c, i, ts⟩ := q
        refine wpAny_handleBy_cons (codeAny_handlers_test ?_) (by intro q; cases q)
        have LM := PySem.W.exm_one (M := model X.prog X.w) J1.kIn (fun A Q E z' k q => wpAny_typeOf_ref (k _ _ at1) (by rw [z1.1]; exact q)) hb1
        have seen : ∀ {Q E : Value → Shared → Prop}, Q c { z with heap := g } → wpAny (model X.prog X.w) (X.A.mark (some (.ref a))) (eval (.Name x p) X.env) Q E { z with heap := g } := fun {Q E} q => by
          obtain ⟨hg, hdb, own | ⟨n0, bv, nn⟩⟩ := C.cls
          · exact ld_glob (X := X.suite a ((a, o1) :: (X.pn ++ pins))) S1 hg own q hdb
          · exact ld_blt (X := X.suite a ((a, o1) :: (X.pn ++ pins))) S1 hg n0 bv q nn hdb
        refine seen (LM.here ?_)
        cases b with
        | false => exact ih (no rfl)
        | true =>
          refine codeAny_handlers_suite_as (HandSPX.lands_againZ fl fun g2 fl2 up2 => ?_)
          have J2 : Inv X pins σ1 H1 { z with heap := g2 } := J.landed nb fl2.1 ((up.trans upg).trans up2) os ag
          obtain ⟨o2, vs2, at2, z2, dt2⟩ := fl2.there
          refine store_ok (X := X.suite a ((a, o2) :: (X.pn ++ pins))) (v := .ref a) (J2.suite at2 dt2 na neL neF) hN C.at_ (.inl C.loc) rfl (fun s5 S5 => ?_) (.inr C.loc)
          have bye : ∀ {σ6 : L2.St} {H6 : Hp} {s6 : Shared} {Q : Shared → Prop}, Inv (X.suite a ((a, o2) :: (X.pn ++ pins))) [] σ6 H6 s6 → (∀ s7, Inv X pins (σ6.set i none) H6 s7 → Q s7) →
              wpAny (model X.prog X.w) X.A (do bindName X.env n .none; unbindBehindTheSuite X.env n p') (fun _ s7 => Q s7) X.xe s6 := fun S6 hq => gone_ok (S6.unsuite ok) hN C.at_ C.loc hq
          refine wpAny_mono ((C.run a o2 cls d (X.pn ++ pins) z2 ⟨_, dt2⟩).run [] s5 _ H1 _ S5 (yes rfl a na)) (fun f s6 done => ?_) fun _ _ z => z.elim
          cases f with
          | ret u => obtain ⟨v, σ6, H6, S6, rv, q⟩ := done; exact bye S6 fun s7 J7 => ⟨v, _, _, J7, rv, q⟩
          | next => obtain ⟨σ6, H6, S6, q⟩ := done; exact bye S6 fun s7 J7 => ⟨_, _, J7, q⟩
          | brk => obtain ⟨σ6, H6, S6, q⟩ := done; exact bye S6 fun s7 J7 => ⟨_, _, J7, q⟩
          | cont => obtain ⟨σ6, H6, S6, q⟩ := done; exact bye S6 fun s7 J7 => ⟨_, _, J7, q⟩
    exact all hh wish
  refine wpAny_Try_except (wpAny_mono ((hb _ (X.pn ++ pins) catcher tk PassesOwn.looking).run [] s σ H D (I.toTry _) h) (fun f s1 done => ?_) fun e s1 he => he)
  cases f with
  | ret u => obtain ⟨v, σ1, H1, J, r, q⟩ := done; exact ⟨v, σ1, H1, J.ofTry ok, r, q⟩
  | next => obtain ⟨σ1, H1, J, q⟩ := done; exact wpAny_execs_nil ⟨σ1, H1, J.ofTry ok, q⟩
  | brk => obtain ⟨σ1, H1, J, q⟩ := done; exact ⟨σ1, H1, J.ofTry ok, q⟩
  | cont => obtain ⟨σ1, H1, J, q⟩ := done; exact ⟨σ1, H1, J.ofTry ok, q⟩
end
end Iz
/-! Nx -/
set_option Elab.async false
set_option linter.all false
set_option maxRecDepth 100000
set_option maxHeartbeats 4000000
namespace Iz
open PySem PySem.Spec PyProof.Rows L2
open He (ga)
/-! ### slices, max, min, unpacking, in the form that simp reads -/
def rSlLN (K : PySem.W.Frag) : V → Option Int → Option Int → Hp → VK → Prop := fun x lo hi H Q => ∃ a xs, x = .ref a ∧ SqL K H a xs ∧ News H (.lst (cutV xs lo hi)) Q
theorem sl_listN {X : Cx} : SlR X (rSlLN X.K) := fun pins s σ H x v vl vu lo hi sl Q I rx hs pl pu ⟨a, xs, e, h, n⟩ => sl_list pins s σ H x v vl vu lo hi sl Q I rx hs pl pu ⟨a, xs, e, h, n.all⟩
def rMax2 : List V → Hp → VK → Prop := fun xs H Q => ∃ i j, xs = [.int i, .int j] ∧ Q (.int (max i j)) H
theorem call_max2N {X : Cx} (hc : X.calm = true) : CallR X (.builtin "max") rMax2 := CallR.imp (call_max2 hc) fun xs H Q ⟨i, j, a, q⟩ => ⟨i, j, a, by rw [show (if j > i then j else i) = max i j by rw [Int.max_def]; split <;> split <;> omega]; exact q⟩
def rMin2 : List V → Hp → VK → Prop := fun xs H Q => ∃ i j, xs = [.int i, .int j] ∧ Q (.int (min i j)) H
theorem call_min2N {X : Cx} (hc : X.calm = true) : CallR X (.builtin "min") rMin2 := CallR.imp (call_min2 hc) fun xs H Q ⟨i, j, a, q⟩ => ⟨i, j, a, by rw [show (if j < i then j else i) = min i j by rw [Int.min_def]; split <;> split <;> omega]; exact q⟩
def gUnlN (n : Nat) (t : TGs) : TG := fun v σ H Q => ∃ a xs, v = .ref a ∧ H a = some (.lst xs) ∧ xs.length = n ∧ t xs σ H Q
theorem pg_unlN {X : Cx} {es : List Expr} {k : Nat} {pos : Pos} {t : TGs} {n : Nat} (hc : X.calm = true) (h : PGs X es t) (hn : (assignEach es X.env).length = n := by rfl) (hst : (assignEach es X.env).findIdx? (·.1) = none := by rfl) : PG X (.Tuple es k pos) (gUnlN n t) :=
  PG.imp (pg_unl hc h hn hst) fun v σ H Q ⟨p, xs, a, c, d, q⟩ => ⟨p, xs, a, SqL.of c, d, q⟩
/-! ### for x in what an expression gives -/
theorem for_inT {K : PySem.W.Frag} {tl : TE} {g : TG} {tb : TS} {D : Ends} {σ : L2.St} {H : Hp} (h : tl σ H fun x H1 => tFor (iTup K fun _ H R => R x H) g tb D σ H1) : tFor (iTup K tl) g tb D σ H := h
theorem for_inL {K : PySem.W.Frag} {tl : TE} {g : TG} {tb : TS} {D : Ends} {σ : L2.St} {H : Hp} (h : tl σ H fun x H1 => tFor (iList K fun _ H R => R x H) g tb D σ H1) : tFor (iList K tl) g tb D σ H := h
/-! ### two clauses in one comprehension, both over ranges from 0 -/
theorem st_lc2R {ta ta1 : TA} {g g1 : TG} {te : TE} {vs vs1 : List Nat} {σ : L2.St} {H : Hp} {Q : VK} (n : Int) (hn : -(2 ^ 62) ≤ n ∧ n < 2 ^ 62) (ha : ∀ R : List V → Hp → Prop, R [.int n] H → ta σ H R)
    (Pv : Addr → Nat → Hp → Prop) (Pw : Addr → Nat → Nat → Hp → Prop) (h0 : ∀ D H1, H D = none → Same H H1 → H1 D = some (.lst []) → Pv D 0 H1)
    (hs : ∀ D i H, i < n.toNat → Pv D i H → g (.int i) (wipe σ vs) H fun σ2 H2 => wipe σ2 vs = wipe σ vs ∧ ∃ m : Int, (-(2 ^ 62) ≤ m ∧ m < 2 ^ 62) ∧ (∀ R : List V → Hp → Prop, R [.int m] H2 → ta1 σ2 H2 R) ∧ Pw D i 0 H2 ∧ (∀ H, Pw D i m.toNat H → Pv D (i + 1) H) ∧
      ∀ j H, j < m.toNat → Pw D i j H → g1 (.int j) (wipe σ2 vs1) H fun σ3 H5 => wipe σ3 vs1 = wipe σ2 vs1 ∧ te σ3 H5 fun y H7 => ∃ acc, H7 D = some (.lst acc) ∧ acc.length < sizeLine ∧ Pw D i (j + 1) (upd H7 D (.lst (acc ++ [y]))))
    (hg : ∀ v σ H (Q Q' : L2.St → Hp → Prop), (∀ σ H, Q σ H → Q' σ H) → g v σ H Q → g v σ H Q') (hg1 : ∀ v σ H (Q Q' : L2.St → Hp → Prop), (∀ σ H, Q σ H → Q' σ H) → g1 v σ H Q → g1 v σ H Q')
    (hd : ∀ D H, Pv D n.toNat H → Q (.ref D) H) : tLc2 (iRng1 ta) g tYes (iRng1 ta1) g1 tYes te vs vs1 σ H Q := by
  refine ha _ ⟨n, rfl, hn.1, hn.2, fun D hD => ?_⟩
  refine ⟨fun i m H => m = n.toNat - i ∧ i ≤ n.toNat ∧ Pv D i H, ⟨_, rfl, Nat.zero_le _, h0 D _ hD (Same.upd hD) upd_same⟩, ?_⟩
  rintro i m H1 ⟨rfl, hi, p⟩
  by_cases hlt : i < n.toNat
  · refine .inr ⟨hlt, Pv D (i + 1), fun H' p' => ⟨n.toNat - (i + 1), by omega, rfl, hlt, p'⟩, ?_⟩
    rintro x _ ⟨rfl, rfl⟩
    rw [Int.zero_add]
    refine hg _ _ _ _ _ (fun σ2 H2 q => ?_) (hs D i _ hlt p)
    obtain ⟨e, m, hm, hr, w0, wd, ws⟩ := q
    refine ⟨e, ?_⟩
    simp only [tYes, if_true]
    refine hr _ ⟨m, rfl, hm.1, hm.2, ?_⟩
    refine ⟨fun j k H => k = m.toNat - j ∧ j ≤ m.toNat ∧ Pw D i j H, ⟨_, rfl, Nat.zero_le _, w0⟩, ?_⟩
    rintro j k H3 ⟨rfl, hj, pw⟩
    by_cases hjt : j < m.toNat
    · refine .inr ⟨hjt, Pw D i (j + 1), fun H' p' => ⟨m.toNat - (j + 1), by omega, rfl, hjt, p'⟩, ?_⟩
      rintro x _ ⟨rfl, rfl⟩
      rw [Int.zero_add]
      refine hg1 _ _ _ _ _ (fun σ3 H5 q => ⟨q.1, ?_⟩) (ws j _ hjt pw)
      exact q.2
    · have ej : j = m.toNat := by omega
      subst ej
      exact .inl ⟨Nat.le_refl _, wd _ pw⟩
  · have ei : i = n.toNat := by omega
    subst ei
    exact .inl ⟨Nat.le_refl _, hd D _ p⟩
theorem gName_mono {i : Nat} : ∀ v σ H (Q Q' : L2.St → Hp → Prop), (∀ σ H, Q σ H → Q' σ H) → gName i v σ H Q → gName i v σ H Q' := fun _ _ _ _ _ k q => k _ _ q
/-! ### == and != of what is read as data -/
section
variable {K : PySem.W.Frag} {H : Hp} {R : VK}
/-- a pair of ints, at a -/
abbrev P2 (H : Hp) (a : Addr) (x y : Int) : Prop := H a = some (.tup [.int x, .int y])
theorem P2.dp {a : Addr} {x y : Int} (h : P2 H a x y) : Dp K H (.ref a) (.tuple [.int x, .int y]) := .tup (SqT.of h) (.cons (.int x) (.cons (.int y) .nil))
theorem sh_P2 {n : Nat} {x y : Int} : ShN (n + 1) (.tuple [.int x, .int y]) := (ShN.tuple (n := 0) fun d h => by
  simp only [List.mem_cons, List.not_mem_nil, or_false] at h
  rcases h with rfl | rfl <;> exact .int).up (by omega)
theorem eqv_P2 {x y u v : Int} : PyData.eqv (.tuple [.int x, .int y]) (.tuple [.int u, .int v]) = decide (x = u ∧ y = v) := by
  simp [PyData.eqv, PyData.eqvAll]
  by_cases h1 : x = u <;> by_cases h2 : y = v <;> simp [h1, h2]
theorem eq_P2 {a b : Addr} {x y u v : Int} (ha : P2 H a x y) (hb : P2 H b u v) (r : R (.bl (decide (x = u ∧ y = v))) H) : rEqD K (.ref a) (.ref b) H R := ⟨_, _, ha.dp, hb.dp, (sh_P2 (n := 0)).ok, (sh_P2 (n := 0)).ok, by rw [eqv_P2]; exact r⟩
theorem ne_P2 {a b : Addr} {x y u v : Int} (ha : P2 H a x y) (hb : P2 H b u v) (r : R (.bl (!decide (x = u ∧ y = v))) H) : rNeD K (.ref a) (.ref b) H R := ⟨_, _, ha.dp, hb.dp, (sh_P2 (n := 0)).ok, (sh_P2 (n := 0)).ok, by rw [eqv_P2]; exact r⟩
/-- a list of ints, at a -/
theorem dp_ints {a : Addr} {ns : List Int} (h : H a = some (.lst (ns.map V.int))) : Dp K H (.ref a) (.list (ns.map PyData.int)) := by
  refine .lst (SqL.of h) ?_
  clear h
  induction ns with
  | nil => exact .nil
  | cons z zs ih => exact .cons (.int z) ih
theorem sh_ints {n : Nat} {ns : List Int} : ShN (n + 1) (.list (ns.map PyData.int)) := (ShN.list (n := 0) fun d hd => by
  obtain ⟨z, hz, rfl⟩ := List.mem_map.mp hd; exact .int).up (by omega)
theorem eqv_ints {ns ms : List Int} : PyData.eqv (.list (ns.map PyData.int)) (.list (ms.map PyData.int)) = decide (ns = ms) := by
  simp only [PyData.eqv]
  induction ns generalizing ms with
  | nil => cases ms <;> simp [PyData.eqvAll]
  | cons n ns ih => cases ms with
    | nil => simp [PyData.eqvAll]
    | cons m ms =>
      simp only [List.map_cons, PyData.eqvAll, ih, PyData.eqv]
      by_cases h1 : n = m <;> by_cases h2 : ns = ms <;> simp [h1, h2]
theorem eq_ints {a b : Addr} {ns ms : List Int} (ha : H a = some (.lst (ns.map V.int))) (hb : H b = some (.lst (ms.map V.int))) (r : R (.bl (decide (ns = ms))) H) : rEqD K (.ref a) (.ref b) H R := ⟨_, _, dp_ints ha, dp_ints hb, (sh_ints (n := 0)).ok, (sh_ints (n := 0)).ok, by rw [eqv_ints]; exact r⟩
theorem ne_ints {a b : Addr} {ns ms : List Int} (ha : H a = some (.lst (ns.map V.int))) (hb : H b = some (.lst (ms.map V.int))) (r : R (.bl (!decide (ns = ms))) H) : rNeD K (.ref a) (.ref b) H R := ⟨_, _, dp_ints ha, dp_ints hb, (sh_ints (n := 0)).ok, (sh_ints (n := 0)).ok, by rw [eqv_ints]; exact r⟩
/-- a list of two texts, at a -/
theorem dp_l2 {a : Addr} {x y : Str} (h : H a = some (.lst [.str x, .str y])) : Dp K H (.ref a) (.list [.str x, .str y]) := .lst (SqL.of h) (.cons (.str x) (.cons (.str y) .nil))
theorem sh_l2 {n : Nat} {x y : Str} (hx : PyData.strOk x = true) (hy : PyData.strOk y = true) : ShN (n + 1) (.list [.str x, .str y]) := (ShN.list (n := 0) fun d h => by
  simp only [List.mem_cons, List.not_mem_nil, or_false] at h
  have st : ∀ {z : Str}, PyData.strOk z = true → ShN 0 (.str z) := fun h => ⟨by simp [PyData.canLay0, h], by simp [PyData.depth]⟩
  rcases h with rfl | rfl
  · exact st hx
  · exact st hy).up (by omega)
theorem ne_sameN {x y : V} {d : PyData} {n : Nat} (hx : Dp K H x d) (hy : Dp K H y d) (h : ShN n d) (r : R (.bl false) H) (k : n ≤ 64 := by decide) : rNeD K x y H R := ne_same hx hy (h.ok k) r
theorem eq_sameN {x y : V} {d : PyData} {n : Nat} (hx : Dp K H x d) (hy : Dp K H y d) (h : ShN n d) (r : R (.bl true) H) (k : n ≤ 64 := by decide) : rEqD K x y H R := eq_same hx hy (h.ok k) r
end
/-! ### a value that may be a pair of ints -/
/-- the pair that stands there -/
def pairL : List V → Option (Int × Int)
  | [.int x, .int y] => some (x, y)
  | _ => none
def pairV (H : Hp) : V → Option (Int × Int)
  | .ref p => match H p with
    | some (.tup xs) => pairL xs
    | _ => none
  | _ => none
theorem pairL_some {xs : List V} {q : Int × Int} (h : pairL xs = some q) : xs = [.int q.1, .int q.2] := by
  unfold pairL at h
  split at h
  · cases h; rfl
  · cases h
theorem pairL_none {xs : List V} (h : ¬ (xs.length : Int) = 2) : pairL xs = none := by
  unfold pairL
  split
  · simp at h
  · rfl
theorem pairV_of {H : Hp} {p : Addr} {x y : Int} (h : P2 H p x y) : pairV H (.ref p) = some (x, y) := by simp only [pairV, h, pairL]
theorem pairV_some {H : Hp} {v : V} {q : Int × Int} (h : pairV H v = some q) : ∃ p, v = .ref p ∧ P2 H p q.1 q.2 := by
  unfold pairV at h
  split at h
  · rename_i p
    split at h
    · rename_i xs e; exact ⟨p, rfl, by rw [P2, e, pairL_some h]⟩
    · cases h
  · cases h
/-- what is asked of a value that is_pair looks at -/
inductive PairK (K : PySem.W.Frag) (H : Hp) : V → Prop
  | non : PairK K H .non
  | bl (b : Bool) : PairK K H (.bl b)
  | int (i : Int) : PairK K H (.int i)
  | str (s : Str) : PairK K H (.str s)
  | lst {p : Addr} {xs : List V} : H p = some (.lst xs) → PairK K H (.ref p)
  | tup {p : Addr} {xs : List V} : H p = some (.tup xs) → (∀ z ∈ xs, Wh K H z) → PairK K H (.ref p)
  | ins {p C dx : Addr} {fs : List (Str × V)} : H p = some (.ins C dx fs) → ClsI K C → PySem.W.kitOne K (.ref C) (.type "tuple") = some false → PairK K H (.ref p)
theorem PairK.ty {K : PySem.W.Frag} {H : Hp} {v : V} (h : PairK K H v) : (∃ p xs, v = .ref p ∧ H p = some (.tup xs) ∧ ∀ z ∈ xs, Wh K H z) ∨ ∃ t, TyX K H v t ∧ PySem.W.kitOne K t (.type "tuple") = some false ∧ pairV H v = none := by
  cases h with
  | non => exact .inr ⟨_, .base .non, kit_ty (by decide +kernel), rfl⟩
  | bl b => exact .inr ⟨_, .base (.bl b), kit_ty (by decide +kernel), rfl⟩
  | int i => exact .inr ⟨_, .base (.int i), kit_ty (by decide +kernel), rfl⟩
  | str s => exact .inr ⟨_, .base (.str s), kit_ty (by decide +kernel), rfl⟩
  | lst h => exact .inr ⟨_, .base (.lst h), kit_ty (by decide +kernel), by simp only [pairV, h]⟩
  | tup h w => exact .inl ⟨_, _, rfl, h, w⟩
  | ins h T k => exact .inr ⟨_, T.ty h, k, by simp only [pairV, h]⟩
theorem P2.k {K : PySem.W.Frag} {H : Hp} {p : Addr} {x y : Int} (h : P2 H p x y) : PairK K H (.ref p) := .tup h fun z hz => by
  simp only [List.mem_cons, List.not_mem_nil, or_false] at hz
  rcases hz with rfl | rfl <;> exact wh_int
theorem PairK.mono {K : PySem.W.Frag} {H H' : Hp} {v : V} (h : PairK K H v) (s : Same H H') : PairK K H' v := by
  cases h with
  | non => exact .non
  | bl b => exact .bl b
  | int i => exact .int i
  | str s => exact .str s
  | lst h => exact .lst (s _ _ h)
  | tup h w => exact .tup (s _ _ h) fun z hz => wh_mono (w z hz) s
  | ins h T k => exact .ins (s _ _ h) T k
theorem pairV_mono {H H' : Hp} {p : Addr} {o : HO} (h : H p = some o) (s : Same H H') : pairV H' (.ref p) = pairV H (.ref p) := by simp only [pairV, h, s _ _ h]
theorem PairK.same {K : PySem.W.Frag} {H H' : Hp} {v : V} (h : PairK K H v) (s : Same H H') : pairV H' v = pairV H v := by
  cases h with
  | non => rfl
  | bl b => rfl
  | int i => rfl
  | str s => rfl
  | lst h => exact pairV_mono h s
  | tup h w => exact pairV_mono h s
  | ins h T k => exact pairV_mono h s
/-! ### a list of pairs grows -/
theorem PairsAt.push {H : Hp} {D t : Addr} {ps : List (Option Int × Option Int)} {q : Option Int × Option Int} (h : PairsAt H D ps) (e : H t = some (.tup [ov q.1, ov q.2])) (hl : ps.length < 100000) :
    ∃ acc, H D = some (.lst acc) ∧ acc.length < sizeLine ∧ PairsAt (L2.upd H D (.lst (acc ++ [.ref t]))) D (ps ++ [q]) := by
  obtain ⟨xs, hD, hp⟩ := h
  refine ⟨xs, hD, by rw [hp.length, sizeLine_eq]; omega, _, upd_same, PAll.snoc (hp.monoT fun b us hb => ?_) ?_⟩
  · rw [upd_ne (ne_of hb hD (by intro z; cases z))]; exact hb
  · rw [upd_ne (ne_of e hD (by intro z; cases z))]; exact e
/-! ### the operators of own classes, asked -/
theorem own_in {C a dx : Addr} {fs : List (Str × V)} {sp : Sp} {E : XK} {x : V} {H : Hp} {Q : VK} {neg : Bool} (h : H a = some (.ins C dx fs)) (q : sp [.ref a, x] H (fun v H' => ∃ b, v = .bl b ∧ Q (.bl (if neg = true then !b else b)) H') E) : rOwnIn C neg sp E x (.ref a) H Q := ⟨a, dx, fs, rfl, h, q⟩
theorem own_op {K : PySem.W.Frag} {C a dx : Addr} {fs : List (Str × V)} {sp : Sp} {E : XK} {y : V} {H : Hp} {Q : VK} (h : H a = some (.ins C dx fs)) {t : Value} (ty : TyX K H y t) (n : PySem.W.notFirst K C t = true) (q : sp [.ref a, y] H (fun v H' => ∃ b, v = .bl b ∧ Q (.bl b) H') E) : rOwn K C sp E (.ref a) y H Q := ⟨a, dx, fs, rfl, h, ⟨t, ty, n⟩, q⟩
theorem notFirst_self {K : PySem.W.Frag} {C : Addr} : PySem.W.notFirst K C (.ref C) = true := by simp [PySem.W.notFirst]
/-! ### a comprehension over a range from 0 -/
theorem st_lcR1 {ta : TA} {g : TG} {tt : TT} {te : TE} {vs : List Nat} {σ : L2.St} {H : Hp} {Q : VK} (n : Int) (hn : -(2 ^ 62) ≤ n ∧ n < 2 ^ 62) (ha : ∀ R : List V → Hp → Prop, R [.int n] H → ta σ H R)
    (Pv : Addr → Nat → Hp → Prop) (h0 : ∀ D H1, H D = none → Same H H1 → H1 D = some (.lst []) → Pv D 0 H1)
    (hs : ∀ D i H, i < n.toNat → Pv D i H → g (.int i) (wipe σ vs) H fun σ2 H2 => wipe σ2 vs = wipe σ vs ∧ tt σ2 H2 fun b H3 => if b = true then te σ2 H3 fun y H4 => ∃ acc, H4 D = some (.lst acc) ∧ acc.length < sizeLine ∧ Pv D (i + 1) (upd H4 D (.lst (acc ++ [y]))) else Pv D (i + 1) H3)
    (hd : ∀ D H, Pv D n.toNat H → Q (.ref D) H) : tLc (iRng1 ta) g tt te vs σ H Q :=
  ha _ ⟨n, rfl, hn.1, hn.2, fun D hD => lc_range (Pv D) (h0 D _ hD (Same.upd hD) upd_same) (fun i H hi p => by rw [Int.zero_add]; exact hs D i H hi p) (hd D)⟩
theorem PAll.app {H : Hp} {xs ys : List V} {ps qs : List (Option Int × Option Int)} (h : PAll H xs ps) (k : PAll H ys qs) : PAll H (xs ++ ys) (ps ++ qs) := by
  induction h with
  | nil => exact k
  | cons e _ ih => exact .cons e ih
/-! ### kept where tables of code may grow -/
section
open LamX
theorem tyX_ext {K : PySem.W.Frag} {H H' : Hp} {x : V} {t : Value} (h : TyX K H x t) (s : ExtN H H') : TyX K H' x t := by
  cases h with
  | base b =>
    cases b with
    | non => exact .base .non
    | bl b => exact .base (.bl b)
    | int i => exact .base (.int i)
    | str y => exact .base (.str y)
    | flt y => exact .base (.flt y)
    | lst e => exact .base (.lst (s _ _ e fun _ z => by cases z))
    | frz e => exact .base (.frz (s _ _ e fun _ z => by cases z))
    | tup e => exact .base (.tup (s _ _ e fun _ z => by cases z))
    | dK e => exact .base (.dK (s _ _ e fun _ z => by cases z))
    | dT e => exact .base (.dT (s _ _ e fun _ z => by cases z))
    | ins e a b c d f => exact .base (.ins (s _ _ e fun _ z => by cases z) a b c d f)
  | byt b => exact .byt b
  | set e => exact .set (s _ _ e fun _ z => by cases z)
  | kList e c => exact .kList e c
  | kTuple e c => exact .kTuple e c
  | kDict e c => exact .kDict e c
  | fTuple e => exact .fTuple (s _ _ e fun _ z => by cases z)
  | fDict e => exact .fDict (s _ _ e fun _ z => by cases z)
theorem wh_ext {K : PySem.W.Frag} {H H' : Hp} {x : V} (h : Wh K H x) (s : ExtN H H') : Wh K H' x := let ⟨t, b, c, ty, r⟩ := h; ⟨t, b, c, tyX_ext ty s, r⟩
theorem PairK.ext {K : PySem.W.Frag} {H H' : Hp} {v : V} (h : PairK K H v) (s : ExtN H H') : PairK K H' v := by
  cases h with
  | non => exact .non
  | bl b => exact .bl b
  | int i => exact .int i
  | str s => exact .str s
  | lst h => exact .lst (s _ _ h fun _ z => by cases z)
  | tup h w => exact .tup (s _ _ h fun _ z => by cases z) fun z hz => wh_ext (w z hz) s
  | ins h T k => exact .ins (s _ _ h fun _ z => by cases z) T k
theorem PairK.sameX {K : PySem.W.Frag} {H H' : Hp} {v : V} (h : PairK K H v) (s : ExtN H H') : pairV H' v = pairV H v := by
  cases h with
  | non => rfl
  | bl b => rfl
  | int i => rfl
  | str s => rfl
  | lst h => simp only [pairV, h, s _ _ h fun _ z => by cases z]
  | tup h w => simp only [pairV, h, s _ _ h fun _ z => by cases z]
  | ins h T k => simp only [pairV, h, s _ _ h fun _ z => by cases z]
theorem extI {H H' : Hp} {p C dx : Addr} {fs : List (Str × V)} (e : ExtN H H') (h : H p = some (.ins C dx fs)) : H' p = some (.ins C dx fs) := e p _ h fun ps z => by cases z
/-- a list that grows by an item: the tables stay -/
theorem Tabs.put {T : List (Addr × Str)} {H H' : Hp} {L : Addr} {xs ys : List V} (hT : Tabs T H) (hL : H L = some (.lst xs)) (p : Put H H' L (.lst ys)) : Tabs T H' := by
  have key : ∀ b o, H b = some o → (∀ xs, o ≠ .lst xs) → H' b = some o := fun b o h hn => by
    rw [p.2 b (fun z => by subst z; rw [hL] at h; exact hn _ (Option.some.inj h).symm)]; exact h
  intro x hx
  obtain ⟨ps, h1, h2, h3⟩ := hT x hx
  refine ⟨ps, key _ _ h1 (fun xs z => by cases z), h2, fun pos cv hcv => ?_⟩
  obtain ⟨c0, e1, e2⟩ := h3 pos cv hcv
  exact ⟨c0, e1, key _ _ e2 (fun xs z => by unfold CodeO at z; cases z)⟩
theorem Put.other {H H' : Hp} {L b : Addr} {o u : HO} (p : Put H H' L o) (h : H b = some u) (n : b ≠ L) : H' b = some u := by rw [p.2 b n]; exact h
end
/-! ### texts as data -/
theorem ShN.str {n : Nat} {z : Str} (h : PyData.strOk z = true) : ShN n (.str z) := ⟨by simp [PyData.canLay0, h], by simp [PyData.depth]⟩
theorem dp_strs {K : PySem.W.Frag} {H : Hp} {p : Addr} {zs : List Str} (h : H p = some (.lst (zs.map V.str))) : Dp K H (.ref p) (.list (zs.map PyData.str)) := by
  refine .lst (SqL.of h) ?_
  clear h
  induction zs with
  | nil => exact .nil
  | cons z zs ih => exact .cons (.str z) ih
theorem sh_strs {n : Nat} {zs : List Str} (h : ∀ z ∈ zs, PyData.strOk z = true) : ShN (n + 1) (.list (zs.map PyData.str)) := (ShN.list (n := 0) fun d hd => by
  obtain ⟨z, hz, rfl⟩ := List.mem_map.mp hd; exact ShN.str (h z hz)).up (by omega)
theorem sh_ll {n : Nat} {x y u v : Str} (hx : PyData.strOk x = true) (hy : PyData.strOk y = true) (hu : PyData.strOk u = true) (hv : PyData.strOk v = true) : ShN (n + 2) (.list [.list [.str x, .str y], .list [.str u, .str v]]) := (ShN.list (n := 1) fun d h => by
  simp only [List.mem_cons, List.not_mem_nil, or_false] at h
  rcases h with rfl | rfl
  · exact sh_l2 (n := 0) hx hy
  · exact sh_l2 (n := 0) hu hv).up (by omega)
/-! ### the script -/
def rLenS (K : PySem.W.Frag) : List V → Hp → VK → Prop := fun xs H Q => ∃ p ys, xs = [.ref p] ∧ SqL K H p ys ∧ Q (.int ys.length) H
theorem call_lenS {X : Cx} : CallR X (.builtin "len") (rLenS X.K) := CallR.imp call_len_seq fun xs H Q ⟨p, ys, a, b, q⟩ => ⟨p, ys, a, .inl b, q⟩
theorem sqL_ext {K : PySem.W.Frag} {H H' : Hp} {a : Addr} {xs : List V} (h : SqL K H a xs) (e : LamX.ExtN H H') : SqL K H' a xs :=
  h.elim (fun h => .inl (h.elim (fun h => .inl (e _ _ h fun _ z => by cases z)) fun ⟨o, h⟩ => .inr ⟨o, e _ _ h fun _ z => by cases z⟩)) fun h => .inr h
section
open LamX
/-- as plam, with the tables of several defs -/
theorem plamT {X : Cx} {TS : List (Addr × Str)} {x a : Str} {st : Stmt} {N : List Str} {TT : (XK → Hp → VK → Prop) → Hp → VK → Prop} {c P : Addr} {qn : Str} {k : Nat} {params : Arguments} {body : Expr} {scope : Scope} {t : XK → TE} {p lpos pos : Pos}
    (F : ∃ (f : Addr) (fd : FuncData), X.mg x = some (.ref f) ∧ Fun X.K x x st f fd) (S : FnScope N [a] (defScope st))
    (hb : ∀ (kV doc pm : Value) (an : Option Addr) (cdv ct : Value) (us : List Value), us.length = [a].length → bindArgs (PySem.W.fnOf x x (defArgs st) (defBody st) (defScope st) .none kV doc pm an cdv ct) ⟨us, []⟩ = pure ([a].zip us))
    (hG : ∀ (g : Addr) (cdg : Value), GivesTo X N x (defScope st) g cdg (defBody st) a qn TT)
    (hm : (P, qn) ∈ TS) (hu : ∀ q ∈ TS, q.1 = P → q.2 = qn) (TB : TabB X.base X.mg c P) (hcode : X.env.code = .ref c) (hq : X.env.qual ++ "<lambda>" = qn) (hr : Room (k + 2) X.A) (L : lamSB X.env.scope scope = true)
    (hbody : ∀ (A : Around) (outer : List Env) (s : Shared) (H : Hp) (E : XK) (f c' : Addr), Room k (A.deeper (lamEnv X scope s.heap.objs.size f c')) → PE (lamCx X A outer s H E scope f c') body (t E))
    (hdef : defaultsOf params X.env = ([], []) := by rfl) (hg : Gl X x := by rfl) (hv : Vis (defScope st) a := by first | exact Or.inl rfl | exact Or.inr (Or.inl rfl)) (hNa : N[0]? = some a := by rfl)
    (hbind : ∀ (q : Str) (cl : List (Str × Addr)) (pm cv ctv : Value), bindArgs (PySem.W.kla_fn "<lambda>" q params body scope cl pm cv ctv) ⟨[], []⟩ = pure [] := by intros; rfl)
    (hdb : (x == ("__debug__" : Str)) = false := by decide) (hd : (a == ("__debug__" : Str)) = false := by decide) (hcd : (a == ("__classdict__" : Str)) = false := by decide) :
    PE X (.Call (.Name x p) [.Lambda params body scope lpos] [] pos) (tLam TS TT t) := by
  subst hq
  obtain ⟨g, fd, hmg, F⟩ := F
  obtain ⟨oc, od, kV, doc, pm, an, cdv, ct, osl, rfl, lk, hcg⟩ := F.ex
  exact pe_lamcall hg hmg F.kp lk hcg (.all (hb kV doc pm an cdv ct)) S hNa hv (hG g cdv) TB hcode hm hu hr (lamS_by L) hdef hbind hbody hdb hd hcd
end
end Iz
/-! One -/
set_option Elab.async false
set_option linter.all false
set_option maxRecDepth 100000
set_option maxHeartbeats 4000000
namespace Iz
open PySem PySem.Spec PyProof.Rows L2
open He (ga)
/-! ### x != y of a class that has __eq__ alone: object's own __ne__ turns it round -/
section
variable {prog : Program} {w : World} {A : Around} {E : Value → Shared → Prop} {s : Shared} {K : PySem.W.Frag} {x C L f : Addr} {h₀ : Heap} {m : Str → Option Value} {ox : Obj} {od : Option Obj} {b tb : Value}
theorem ne_bind (self : Value) : bindSpecial (.builtin "object.__ne__") self = pure (.builtin "object.__ne__", [self]) := PySem.F.cmp_object.ne.bind self
theorem ne_obj {Q : Value → Shared → Prop} (hu : A.in1.units < cLine) (X : K.In s.heap) (I : PySem.W.InstAt s.heap x ox C od) (hm : PySem.W.mroIn K C (.type "object") = some true) (he : PySem.W.findIn K (.ref C) "__eq__" = some (some (.ref f))) (hf : PySem.W.isFn K (.ref f) = true)
    (h : wpAny (model prog w) A.in1 (call (.ref f) [.ref x, b]) (fun v s' => ∃ r, v = .bool r ∧ Q (.bool (!r)) s') E s) : wpAny (model prog w) A (call (.builtin "object.__ne__") [.ref x, b]) Q E s := by
  refine wpAny_call (codeAny_call_builtin PySem.F.cmp_object.ne.plain PySem.F.cmpEntry_ne (PySem.W.check_slot (i := "object.__ne__") (owner := "object") (n := "__ne__") PySem.F.cmpKind_ne PySem.F.cmpSplit_ne (I.type.andThen (PySem.W.looks_mroIn X hm)) (PySem.F.cmpArgs_ne _ _) ?_))
  unfold Builtin.«object.__ne__»
  refine wpAny_bind (m := slotArgs "__ne__" 1 _) (wpAny_pure ?_)
  dsimp only
  refine wpAny_bind (m := cRoomFor _ _) (wpAny_cRoomFor hu ?_)
  refine wpAny_bind (m := callSpecialIfBound? (.ref x) (Str.ofString "__eq__") _) (PySem.W.ifBound_K X I he hf (wpAny_mono h (fun v s' z => ?_) fun _ _ y => y))
  obtain ⟨r, rfl, q⟩ := z
  dsimp only
  exact wpAny_bind (m := truthy (.bool r)) (wpAny_truthy_bool (wpAny_pure q))
theorem ne_rich {Q : Value → Shared → Prop} (hu : A.in1.units < cLine) (hu0 : A.units < cLine) (F : Fr h₀ L s.heap m) (X₀ : K.In h₀) (I : PySem.W.InstAt s.heap x ox C od) (hb : PySem.W.Looks (model prog w) s.heap (typeOf b) tb) (hn : PySem.W.notFirst K C tb = true) (hm : PySem.W.mroIn K C (.type "object") = some true)
    (hs : PySem.W.findIn K (.ref C) "__ne__" = some (some (.builtin "object.__ne__"))) (he : PySem.W.findIn K (.ref C) "__eq__" = some (some (.ref f))) (hf : PySem.W.isFn K (.ref f) = true)
    (h : wpAny (model prog w) A.in1 (call (.ref f) [.ref x, b]) (fun v s' => ∃ r, v = .bool r ∧ Q (.bool (!r)) s') E s) : wpAny (model prog w) A (richCompare .NotEq (.ref x) b) Q E s := by
  have X := X₀.keeps F.keep
  have asked : wpAny (model prog w) A (tryCompare (.ref x) (cmpInfo .NotEq).2.1 b) (fun r s' => ∃ v, r = some v ∧ Q v s') E s := by
    unfold tryCompare
    refine wpAny_bind (m := callSpecialIfBound? _ _ _) ?_
    simp only [callSpecialIfBound?, bindSpecialIfBound?]
    refine wpAny_holding (wpAny_bind (wpAny_bind (wpAny_bind (I.type.here ((PySem.W.looks_findIn X hs).here ?_)))))
    have fin : wpAny (model prog w) A (call (.builtin "object.__ne__") ([.ref x] ++ [b]) >>= fun v => pure (some v)) (fun r s' => wpAny (model prog w) A (match r with | some .notImplemented | none => pure none | some v => pure (some v)) (fun r s' => ∃ v, r = some v ∧ Q v s') E s') E s :=
      wpAny_bind (ne_obj hu X I hm he hf (wpAny_mono h (fun v s' z => by
        obtain ⟨r, rfl, q⟩ := z
        exact ⟨r, rfl, wpAny_pure (wpAny_pure ⟨_, rfl, q⟩)⟩) fun _ _ y => y))
    refine wpAny_bind (wpAny_askSetting (wpAny_ite ?_))
    split
    · exact wpAny_bind ((PySem.W.Looks.of_pure (ne_bind _)).here (wpAny_pure fin))
    · exact wpAny_tryCatch (wpAny_bind ((PySem.W.Looks.of_pure (ne_bind _)).here (wpAny_pure fin)))
  unfold richCompare
  simp only [oneThing_ref]
  refine wpAny_holding (wpAny_bind (wpAny_cRoomFor hu0 ?_))
  refine wpAny_bind (I.type.here (wpAny_bind (hb.here ?_)))
  split
  · rename_i q
    have e : PySem.W.subIn K tb (.ref C) = some false := by
      rcases Bool.or_eq_true_iff.mp hn with e | e
      · rw [beq_iff_eq.mp e] at q; simp at q
      · exact beq_iff_eq.mp e
    refine wpAny_bind ((PySem.W.looks_subIn X e).here ?_)
    simp only [Bool.false_eq_true, if_false]
    refine wpAny_bind (wpAny_mono asked (fun r s' z => ?_) fun _ _ y => y)
    obtain ⟨v, rfl, q⟩ := z
    exact wpAny_pure q
  · refine wpAny_bind (wpAny_pure ?_)
    simp only [Bool.false_eq_true, if_false]
    refine wpAny_bind (wpAny_mono asked (fun r s' z => ?_) fun _ _ y => y)
    obtain ⟨v, rfl, q⟩ := z
    exact wpAny_pure q
end
section
variable {X : Cx} {CX : CXT} {k : Nat} {x : Str} {ps : List Str} {sp : Sp} {E : XK}
theorem own_callA {A : Around} {f a : Addr} {fd : FuncData} {y : V} {u : Value} {pins : List (Addr × Obj)} {σ : L2.St} {H : Hp} {s : Shared} {Q : VK} {R : Value → Shared → Prop} (I : Inv X pins σ H s) (F : FnOk X.prog X.w X.K X.mg X.base CX k f fd ps sp) (hb : Binds X.K fd ps []) (hr : Room k A) (hA : A.frames = X.A.frames) (hx : Passes CX X E)
    (ry : RelV y u) (hsp : sp [.ref a, y] H Q E) (hR : ∀ v w H' s', Inv X pins σ H' s' → RelV v w → Q v H' → R w s') : wpAny (model X.prog X.w) A (call (.ref f) [.ref a, u]) R X.xe s := by
  have hl := F.len _ _ _ _ hsp
  have bd := hb s [.ref a, u] I.kIn (by simpa using hl)
  have e := I.env0
  have e0 : Env0 X.prog X.w X.K X.mg X.base A X.stack s H := ⟨hA ▸ e.frames, e.mod, e.bs, e.bsz, e.funs, e.frf, e.hok, e.bare⟩
  refine wpAny_call (codeAny_mono (F.run A X.stack s H ⟨[.ref a, u], []⟩ [.ref a, u] [.ref a, y] _ E hr e0 (by simpa using bd) (.cons rfl (.cons ry .nil)) hsp) fun r s' z => ?_)
  cases r with
  | error e => exact hx _ _ _ _ _ _ I z
  | ok fl =>
    cases fl with
    | ret w => obtain ⟨v, H', I', rv, q⟩ := I.after z; exact hR v w H' s' I' rv q
    | next => exact False.elim z
    | brk => exact False.elim z
    | cont => exact False.elim z
def rOwnNe (K : PySem.W.Frag) (C : Addr) (sp : Sp) (E : XK) : R2 := fun x y H Q => ∃ a dx fs, x = .ref a ∧ H a = some (.ins C dx fs) ∧ (∃ t, TyX K H y t ∧ PySem.W.notFirst K C t = true) ∧ sp [.ref a, y] H (fun v H' => ∃ b, v = .bl b ∧ Q (.bl (!b)) H') E
theorem op_ownNe (O : OkM X.prog X.w X.K X.mg X.base CX k x "__eq__" ps [] sp) (hm : PySem.W.mroIn X.K (ga X.K x) (.type "object") = some true) (hs : PySem.W.findIn X.K (.ref (ga X.K x)) "__ne__" = some (some (.builtin "object.__ne__"))) (hr : Room (k + 1) X.A) (hx : Passes CX X E) : OpR X (compareOp .NotEq) (rOwnNe X.K (ga X.K x) sp E) := by
  intro pins s σ H v0 y v u Q I rx ry h
  obtain ⟨a, dx, fs, rfl, ha, ⟨t, ty, nf⟩, hsp⟩ := h
  cases rx
  obtain ⟨f, fd, M, b, F⟩ := O.ex
  obtain ⟨ds, hd, hb⟩ := b 0 (Nat.le_refl _)
  cases hd
  obtain ⟨mA, O', _⟩ := ins_get I.hok ha
  obtain ⟨od, J, _⟩ := O'.look
  obtain ⟨mm, hF⟩ := I.fr
  refine ne_rich hr.in1.units0 hr.units0 hF I.ok.mod.kin J (looksTy I ry ty) nf hm hs M.at_ M.fn (own_callA I F hb hr.in1 rfl hx ry hsp fun v w H' s' I' rv q => ?_)
  obtain ⟨b, rfl, q⟩ := q
  cases rv
  exact ⟨b, rfl, .bl (!b), H', I', rfl, q⟩
theorem own_ne {K : PySem.W.Frag} {C a dx : Addr} {fs : List (Str × V)} {y : V} {H : Hp} {Q : VK} (h : H a = some (.ins C dx fs)) {t : Value} (ty : TyX K H y t) (n : PySem.W.notFirst K C t = true) (q : sp [.ref a, y] H (fun v H' => ∃ b, v = .bl b ∧ Q (.bl (!b)) H') E) : rOwnNe K C sp E (.ref a) y H Q := ⟨a, dx, fs, rfl, h, ⟨t, ty, n⟩, q⟩
end
/-! ### two truths in a list -/
theorem dp_bb {K : PySem.W.Frag} {H : Hp} {a : Addr} {x y : Bool} (h : H a = some (.lst [.bl x, .bl y])) : Dp K H (.ref a) (.list [.bool x, .bool y]) := .lst (SqL.of h) (.cons (.bl x) (.cons (.bl y) .nil))
theorem sh_bb {n : Nat} {x y : Bool} : ShN (n + 1) (.list [.bool x, .bool y]) := (ShN.list (n := 0) fun d h => by
  simp only [List.mem_cons, List.not_mem_nil, or_false] at h
  rcases h with rfl | rfl <;> exact .bool).up (by omega)
theorem eqv_bb {x y : Bool} : PyData.eqv (.list [.bool x, .bool y]) (.list [.bool true, .bool true]) = (x && y) := by
  cases x <;> cases y <;> simp [PyData.eqv, PyData.eqvAll]
/-! ### a list repeated -/
def rRepN : R2 := fun x y H Q => ∃ l k xs, x = .ref l ∧ y = .int k ∧ H l = some (.lst xs) ∧ -(2 ^ 63) ≤ k ∧ k < 2 ^ 63 ∧ xs.length * k.toNat ≤ sizeLine ∧ News H (.lst (List.replicate k.toNat xs).flatten) Q
theorem op_repN {X : Cx} : OpR X (binaryOp .Mult) rRepN := fun pins s σ H x y v u Q I rx ry ⟨l, k, xs, e1, e2, e3, e4, e5, e6, n⟩ => op_rep pins s σ H x y v u Q I rx ry ⟨l, k, xs, e1, e2, e3, e4, e5, e6, n.all⟩
end Iz
/-! Dn -/
set_option Elab.async false
set_option linter.all false
set_option maxRecDepth 100000
set_option maxHeartbeats 4000000
namespace Iz
open PySem PySem.Spec PyProof.Rows L2
/-! ### dicts whose keys are None or ints -/
def kN : Option Int → V
  | none => .non
  | some i => .int i
theorem kN_ov {o : Option Int} : kN o = ov o := by cases o <;> rfl
def kk (o : Option Int) : Option Key := o.map Sum.inl
theorem kk_inj {a b : Option Int} (h : kk a = kk b) : a = b := by cases a <;> cases b <;> simp_all [kk]
theorem kN_is {P : Program} {w : World} {k : Option Int} {u : Value} (r : RelV (ov k) u) : (noneKind P w).is (kk k) u = true := by
  cases k with
  | none => obtain rfl : u = Value.none := r; rfl
  | some i => exact kV_is (P := P) (w := w) (k := .inl i) r
theorem relV_keyN {k : Option Int} {u : Value} (h : nkIs (kk k) u = true) : RelV (ov k) u := by
  cases k with
  | none => exact nk_none h
  | some i => exact relV_key (k := .inl i) h
/-- the pairs as the library's -/
def kvK (kvs : List (Option Int × V)) : List (Option Key × V) := kvs.map fun p => (kk p.1, p.2)
theorem valV_kvK (kvs : List (Option Int × V)) (k : Option Int) : valV (kvK kvs) (kk k) = valV kvs k := by
  induction kvs with
  | nil => rfl
  | cons p r ih =>
    by_cases e : p.1 = k
    · rw [show kvK (p :: r) = (kk p.1, p.2) :: kvK r from rfl, valV_pos (p := (kk p.1, p.2)) (by rw [e]), valV_pos e]
    · rw [show kvK (p :: r) = (kk p.1, p.2) :: kvK r from rfl, valV_neg (p := (kk p.1, p.2)) (fun z => e (kk_inj z)), valV_neg e, ih]
theorem any_kvK (kvs : List (Option Int × V)) (k : Option Int) : ((kvK kvs).any fun kv => decide (kv.1 = kk k)) = kvs.any fun kv => decide (kv.1 = k) := by
  rw [valV_any, valV_any, valV_kvK]
theorem putK_kvK (kvs : List (Option Int × V)) (k : Option Int) (v : V) : putK (kvK kvs) (kk k) v = kvK (putK kvs k v) := by
  unfold putK
  rw [any_kvK]
  split
  · simp only [kvK, List.map_map]
    refine List.map_congr_left fun p _ => ?_
    by_cases e : p.1 = k
    · simp [e]
    · have : ¬ kk p.1 = kk k := fun z => e (kk_inj z)
      simp [e, this]
  · simp [kvK]
/-- the dict at a, its count of changes ep -/
def DN (P : Program) (w : World) (a : Addr) (kvs : List (Option Int × V)) (ep : Nat) : HO := .ext fun h => kvs.length ≤ sizeLine ∧ (a == sysModules) = false ∧ ∃ vs, KV (kvK kvs) vs ∧ h.DictAt (noneKind P w) a vs ep
section
variable {X : Cx} {pins : List (Addr × Obj)} {σ : L2.St} {H : Hp} {s : Shared}
theorem dn_new {P : Program} {w : World} {H : Hp} {h : Heap} {a : Addr} {kvs : List (Option Int × V)} {ep : Nat} {vs : List (Option Key × Value)} (z : kvs.length ≤ sizeLine) (hd : (a == sysModules) = false) (rel : KV (kvK kvs) vs) (dd : h.DictAt (noneKind P w) a vs ep) : ObjOk P w H h a (DN P w a kvs ep) := by
  have ⟨o, es, ho, _⟩ := dd
  refine ⟨⟨z, hd, vs, rel, dd⟩, ⟨o, ho⟩, fun h1 h2 p k => ?_⟩
  obtain ⟨z, hd, vs, rel, o, es, ho, r⟩ := p
  exact ⟨z, hd, vs, rel, o, es, k o ho, r⟩
theorem dn_get {a : Addr} {kvs : List (Option Int × V)} {ep : Nat} (I : Inv X pins σ H s) (ha : H a = some (DN X.prog X.w a kvs ep)) : kvs.length ≤ sizeLine ∧ (a == sysModules) = false ∧ ∃ vs, KV (kvK kvs) vs ∧ s.heap.DictAt (noneKind X.prog X.w) a vs ep := (I.hok a _ ha).1
/-- {} -/
def tDNew (P : Program) (w : World) : TE := fun _ H Q => ∀ p H', H p = none → Same H H' → H' p = some (DN P w p [] 0) → Q (.ref p) H'
theorem pe_dnN {pos : Pos} : PE X (.Dict [] [] pos) (tDNew X.prog X.w) := ⟨fun pins s σ H Q I h =>
  wpAny_Dict_empty ⟨.ref s.heap.objs.size, _, I.laid (a := s.heap.objs.size) (o := DN X.prog X.w s.heap.objs.size [] 0) (t' := s.toks) (fun _ _ q => Heap.get?_push_of_some _ q) (Nat.le_refl _)
    (dn_new (Nat.zero_le _) (beq_eq_false_iff_ne.mpr (Ne.symm (Nat.ne_of_lt I.big))) .nil ⟨_, #[], Heap.get?_push_size _ rfl, ⟨rfl, rfl, rfl⟩, rfl, fun _ he => by simp at he, Pairs.nil, List.nodup_nil⟩), rfl,
    h _ _ (I.hok.fresh (Nat.le_refl _)) (Same.upd (I.hok.fresh (Nat.le_refl _))) upd_same⟩⟩
/-- k in d -/
def rInDN (P : Program) (w : World) : R2 := fun x y H Q => ∃ k a kvs ep, x = ov k ∧ y = .ref a ∧ H a = some (DN P w a kvs ep) ∧ Q (.bl (valV kvs k).isSome) H
theorem op_inDN : OpR X (compareOp .In) (rInDN X.prog X.w) := by
  intro pins s σ H x y v u Q I rx ry h
  obtain ⟨k, a, kvs, ep, rfl, rfl, ha, q⟩ := h
  cases ry
  obtain ⟨z, hd, vs, rel, dd⟩ := dn_get I ha
  refine wpAny_in_of (kN_is rx) hd dd.dictOf.mapOf ?_
  rw [← (rel.val (kk k)).isSome_eq, valV_kvK]
  exact ⟨.bl _, H, I.tok _, rfl, q⟩
/-- d[k] -/
def rIxDN (P : Program) (w : World) : R2 := fun x y H Q => ∃ k a kvs ep v, x = .ref a ∧ y = ov k ∧ H a = some (DN P w a kvs ep) ∧ valV kvs k = some v ∧ Q v H
theorem ix_DN : IxR X (rIxDN X.prog X.w) := by
  intro value slice pins s σ H x y v u Q I rx ry h hs
  obtain ⟨k, a, kvs, ep, z0, rfl, rfl, ha, hv, q⟩ := h
  cases rx
  obtain ⟨z, hd, vs, rel, dd⟩ := dn_get I ha
  obtain ⟨w', hw, rw'⟩ := RelO.some_of (v := z0) (o := valueAt vs (kk k)) (by rw [← hv, ← valV_kvK]; exact rel.val (kk k))
  exact tail_any dd.dictOf.typeIs slot_dict_getitem.lookup (wpAny_getItem_of (kN_is ry) dd.dictOf.mapOf hw ⟨z0, H, I.tok _, rw', q⟩) hs
/-- d[k] = v -/
def rSetDN (P : Program) (w : World) : TSet := fun o i v H Q => ∃ a k kvs ep, o = .ref a ∧ i = ov k ∧ H a = some (DN P w a kvs ep) ∧ kvs.length < sizeLine ∧ ∀ ep' H', Put H H' a (DN P w a (putK kvs k v) ep') → Q H'
theorem set_DN : PSet X (rSetDN X.prog X.w) := by
  intro pins s σ H o i v ov' iv u Q I ro ri rv h
  obtain ⟨a, k, kvs, ep, rfl, rfl, ha, hl, q⟩ := h
  cases ro
  obtain ⟨z, hd, vs, rel, dd⟩ := dn_get I ha
  have hz : vs.length ≤ sizeLine := by rw [← rel.length]; simpa [kvK] using z
  have hl2 : (putK kvs k v).length ≤ sizeLine := by have := length_putK kvs k v; omega
  refine wpAny_setItem_pairs (hsz := hz) (kN_is ri) dd.dictOf fun h' dd' hs => ?_
  obtain ⟨ep', dd2⟩ := dd'.dictAt
  have he : ∃ q, h'.get? a = some q := let ⟨q, _, _, hq, _⟩ := dd'; ⟨q, hq⟩
  refine ⟨upd H a (DN X.prog X.w a (putK kvs k v) ep'), d_write I (by rw [ha]; exact True.intro) hs he (dn_new hl2 hd (vs := stored vs (kk k) u) (by rw [← putK_kvK]; exact rel.put (kk k) rv) dd2), q ep' _ ⟨upd_same, fun b hb => upd_ne hb⟩⟩
end
/-! ### for k in d, in a comprehension -/
def ItN (P : Program) (w : World) (d : Addr) (kvs : List (Option Int × V)) (ep : Nat) : It :=
  ⟨fun i H => H d = some (DN P w d kvs ep) ∧ i < kvs.length, fun i H x H' => H' = H ∧ ∃ k v, kvs[i]? = some (k, v) ∧ x = ov k, fun i H => H d = some (DN P w d kvs ep) ∧ kvs.length ≤ i⟩
theorem turn_DN {P : Program} {w : World} {K : PySem.W.Frag} {tg : Expr} {d : Addr} {ep : Nat} {kvs : List (Option Int × V)} (it : Addr) : Turn P w K tg (ItN P w d kvs ep) [it] it (fun i h => h.IsKeyIter it d i kvs.length ep) where
  mem := by simp
  obj := fun i h st b hb => by
    have e : b = it := by simpa using hb
    subst e
    obtain ⟨oi, e, c, dd⟩ := st
    exact ⟨oi, e, fun v z => by rw [dd] at z; cases z⟩
  keep := fun i h h' st k => st.at fun oi e => k it (by simp) oi e
  item := by
    intro X hP hw hK hc i pins s σ H E I hf st hg
    subst hP hw hK
    obtain ⟨hd, hi⟩ := hg
    obtain ⟨f0, f1, f2, f3, f4, f5⟩ := hf it (by simp)
    obtain ⟨z, hs, vs, kv, hm⟩ := dn_get I hd
    obtain ⟨⟨k, v⟩, hkv⟩ : ∃ p, kvs[i]? = some p := ⟨kvs[i], List.getElem?_eq_getElem hi⟩
    have hkv2 : (kvK kvs)[i]? = some (kk k, v) := by simp [kvK, hkv]
    obtain ⟨u, hu, ru⟩ := kv_get kv hkv2
    have hl : kvs.length = vs.length := by rw [← kv.length]; simp [kvK]
    rw [hl] at st
    refine wpAny_pyNext_dict_item st hm hu fun key h' hkey st' sb => ?_
    have I1 : Inv X pins σ H { s with heap := h' } := I.turned (t' := s.toks) (fun b ob hb e => (sb.2 b hb).trans e) f0 f1 f3 f4 f5
    obtain ⟨oi, e, c, dd⟩ := id st'
    refine ⟨key, rfl, go_of (s := { s with heap := h' }) e c dd (by decide) ⟨ov k, H, I1, relV_keyN (show nkIs (kk k) key = true from hkey), ⟨rfl, k, v, hkv, rfl⟩, ?_, fun b hb => (hf b hb).1⟩⟩
    show h'.IsKeyIter it d (i + 1) kvs.length _
    rw [hl]
    exact st'
  done := by
    intro X hP hw hK hc i pins s σ H E I hf st hg
    subst hP hw hK
    obtain ⟨hd, hi⟩ := hg
    obtain ⟨f0, f1, f2, f3, f4, f5⟩ := hf it (by simp)
    obtain ⟨z, hs, vs, kv, hm⟩ := dn_get I hd
    have hl : kvs.length = vs.length := by rw [← kv.length]; simp [kvK]
    obtain ⟨o, es, ho, hx, hdt, hk, hp, hn⟩ := hm
    have hsz : es.size = kvs.length := by have := hp.length; rw [Array.length_toList] at this; omega
    exact next_key_end (I.ok.hd hc) st ho hdt hsz hi fun h' eb => ⟨rfl, I.turned (t' := s.toks) (fun b ob hb e => eb b ob hb e) f0 f1 f3 f4 f5⟩
  self := fun A i s Q E st h => wpAny_pyIter_keyiter st h
def iDN (P : Program) (w : World) (td : TE) : TI := fun σ H R => td σ H fun x H1 => ∃ d kvs ep, x = .ref d ∧ H1 d = some (DN P w d kvs ep) ∧ R (ItN P w d kvs ep) H1
theorem pi_DN {X : Cx} {tg e : Expr} {td : TE} (he : PE X e td) : PI X tg e (iDN X.prog X.w td) := by
  refine ⟨fun pins s σ H R I h => ?_⟩
  refine thn (he.run pins s σ H _ I h) fun u s1 ⟨x, H1, I1, rx, d, kvs, ep, ex, hd, q⟩ => ?_
  subst ex
  obtain rfl : u = Value.ref d := rx
  obtain ⟨z, hs, vs, kv, hm⟩ := dn_get I1 hd
  have hl : kvs.length = vs.length := by rw [← kv.length]; simp [kvK]
  obtain ⟨o, es, ho, hx, hdt, hk, hp, hn⟩ := hm
  have hsz : es.size = kvs.length := by have := hp.length; rw [Array.length_toList] at this; omega
  refine iter_keys hs ho hx hdt (pi_one (tk := s1.toks) I1 _ (turn_DN (ep := ep) _) ⟨_, Heap.get?_push_size _ rfl, rfl, ?_⟩ q)
  rw [hsz] <;> rfl
theorem walk_DN {P : Program} {w : World} {d : Addr} {ep : Nat} {kvs : List (Option Int × V)} : Walk (ItN P w d kvs ep) kvs.length (fun H => H d = some (DN P w d kvs ep)) (fun i H x H' => H' = H ∧ ∃ k v, kvs[i]? = some (k, v) ∧ x = ov k) :=
  ⟨fun _ _ hi q => ⟨q, hi⟩, fun _ q => ⟨q, Nat.le_refl _⟩, fun _ _ _ _ _ _ y => y⟩
/-- [f(k) for k in d if p(k)] -/
theorem st_lcDN {P : Program} {w : World} {g : TG} {tl : TE} {tt : TT} {te : TE} {vs : List Nat} {σ : L2.St} {H : Hp} {Q : VK} {a : Addr} {kvs : List (Option Int × V)} {ep : Nat} (ha : ∀ R : V → Hp → Prop, R (.ref a) H → tl σ H R) (hx : H a = some (DN P w a kvs ep)) (hz : kvs.length ≤ sizeLine) (p : Option Int → Bool) (f : Option Int → V)
    (hs : ∀ x H' (A : Hp → Prop) (B : VK), x ∈ kvs.map (·.1) → Same H H' → (p x = false → ∀ H3, Same H' H3 → A H3) → (p x = true → ∀ H4, Same H' H4 → B (f x) H4) →
      g (ov x) (wipe σ vs) H' fun σ2 H2 => wipe σ2 vs = wipe σ vs ∧ tt σ2 H2 fun b H3 => if b = true then te σ2 H3 B else A H3)
    (hd : ∀ D H', H D = none → Same H H' → H' D = some (.lst (((kvs.map (·.1)).filter p).map f)) → Q (.ref D) H') : tLc (iDN P w tl) g tt te vs σ H Q := by
  refine ha _ ⟨a, kvs, ep, rfl, hx, fun D hD => lc_it walk_DN (fun i H' => Same H H' ∧ H' D = some (.lst ((((kvs.map (·.1)).take i).filter p).map f))) ⟨Same.upd hD, upd_same⟩ (fun i H' _ q => q.1 _ _ hx) (fun i x H' H'' hi q y => ?_) (fun H' q => hd D H' hD q.1 (by rw [q.2, show kvs.length = (kvs.map (·.1)).length by simp, List.take_length]))⟩
  obtain ⟨rfl, k, v, hk, rfl⟩ := y
  have hi2 : (kvs.map (·.1))[i]? = some k := by simp [hk]
  refine hs k H'' _ _ (List.mem_of_getElem? hi2) q.1 (fun e H3 s3 => ⟨q.1.trans s3, ?_⟩) (fun e H4 s4 => ⟨_, s4 _ _ q.2, ?_, ?_, ?_⟩)
  · rw [s3 _ _ q.2, take_filter_succ hi2, e]; simp
  · have h1 : (((kvs.map (·.1)).take i).filter p).length ≤ ((kvs.map (·.1)).take i).length := List.length_filter_le _ _
    have h2 : ((kvs.map (·.1)).take i).length ≤ i := by rw [List.length_take]; exact Nat.min_le_left _ _
    rw [List.length_map]; omega
  · exact fun b u e2 => by
      have hb : b ≠ D := ne_of_none e2 hD
      rw [upd_ne hb]; exact s4 _ _ (q.1 _ _ e2)
  · rw [upd_same, take_filter_succ hi2, e]; simp
end Iz
/-! Tr -/
set_option Elab.async false
set_option linter.all false
set_option maxRecDepth 100000
set_option maxHeartbeats 4000000
namespace Iz
open PySem PySem.Spec PyProof.Rows L2
/-! ### told rows: the mathematics -/
abbrev PP := Option Int × Option Int
def inB (lo hi : Option Int) (i : Int) : Bool := (match lo with | none => true | some l => decide (l ≤ i)) && (match hi with | none => true | some h => decide (i < h))
def has (ps : List PP) (i : Int) : Bool := ps.any fun q => inB q.1 q.2 i
theorem has_iff {ps : List PP} {i : Int} : has ps i = true ↔ ∃ q ∈ ps, inB q.1 q.2 i = true := by simp only [has, List.any_eq_true]
theorem has_nil {i : Int} : has [] i = false := rfl
theorem has_app {ps qs : List PP} {i : Int} : has (ps ++ qs) i = (has ps i || has qs i) := by simp [has]
theorem has_one {q : PP} {i : Int} : has [q] i = inB q.1 q.2 i := by simp [has]
theorem has_take {ps : List PP} {i : Nat} {q : PP} (h : ps[i]? = some q) {j : Int} : has (ps.take (i + 1)) j = (has (ps.take i) j || inB q.1 q.2 j) := by rw [List.take_succ, h, has_app]; simp [has_one]
def okB : PP → Prop
  | (some a, some b) => a < b
  | _ => True
def ghigh : Option Int → Option Int → Option Int
  | none, _ => none
  | _, none => none
  | some a, some b => some (if a > b then a else b)
theorem in_ghigh {l h h' : Option Int} {i : Int} : inB l (ghigh h h') i = (inB l h i || inB l h' i) := by
  cases h with
  | none => cases l <;> cases h' <;> simp [inB, ghigh] <;> (intros; assumption)
  | some a => cases h' with
    | none => cases l <;> simp [inB, ghigh] <;> (intros; assumption)
    | some b =>
      have : decide (i < if a > b then a else b) = (decide (i < a) || decide (i < b)) := by
        by_cases h1 : i < a <;> by_cases h2 : i < b <;> simp [h1, h2] <;> split <;> omega
      cases l <;> simp only [inB, ghigh, this, Bool.true_and, Bool.and_or_distrib_left]
theorem okB_ghigh {l h h' : Option Int} (k : okB (l, h)) : okB (l, ghigh h h') := by
  cases l <;> cases h <;> cases h' <;> simp_all [okB, ghigh]
  split <;> omega
def keyO (ts : List PP) (k : Option Int) : Option (Option Int) := (ts.find? fun p => decide (p.1 = k)).map (·.2)
def putO (ts : List PP) (k v : Option Int) : List PP := if (ts.any fun p => decide (p.1 = k)) = true then ts.map (fun p => if p.1 = k then (p.1, v) else p) else ts ++ [(k, v)]
def toV (ts : List PP) : List (Option Int × V) := ts.map fun p => (p.1, ov p.2)
theorem valV_toV (ts : List PP) (k : Option Int) : valV (toV ts) k = (keyO ts k).map ov := by
  induction ts with
  | nil => rfl
  | cons p r ih =>
    by_cases e : p.1 = k
    · rw [show toV (p :: r) = (p.1, ov p.2) :: toV r from rfl, valV_pos (p := (p.1, ov p.2)) e]; simp [keyO, e]
    · rw [show toV (p :: r) = (p.1, ov p.2) :: toV r from rfl, valV_neg (p := (p.1, ov p.2)) e, ih]; simp [keyO, e]
theorem any_toV (ts : List PP) (k : Option Int) : ((toV ts).any fun kv => decide (kv.1 = k)) = ts.any fun p => decide (p.1 = k) := by simp [toV, List.any_map, Function.comp_def]
theorem putK_toV (ts : List PP) (k v : Option Int) : putK (toV ts) k (ov v) = toV (putO ts k v) := by
  unfold putK putO
  rw [any_toV]
  split
  · simp only [toV, List.map_map]
    refine List.map_congr_left fun p _ => ?_
    by_cases e : p.1 = k <;> simp [e]
  · simp [toV]
abbrev NdK (ts : List PP) : Prop := (ts.map (·.1)).Nodup
theorem keyO_mem {ts : List PP} {k h : Option Int} (e : keyO ts k = some h) : (k, h) ∈ ts := by
  unfold keyO at e
  obtain ⟨p, hp, rfl⟩ := Option.map_eq_some_iff.mp e
  have h1 := List.mem_of_find?_eq_some hp
  have h2 := List.find?_some hp
  simp only [decide_eq_true_eq] at h2
  subst h2
  exact h1
theorem mem_keyO {ts : List PP} (n : NdK ts) {q : PP} (h : q ∈ ts) : keyO ts q.1 = some q.2 := by
  induction ts with
  | nil => simp at h
  | cons p r ih =>
    simp only [NdK, List.map_cons, List.nodup_cons] at n
    rcases List.mem_cons.mp h with rfl | h
    · simp [keyO]
    · have ne : ¬ p.1 = q.1 := fun z => n.1 (by rw [z]; exact List.mem_map.mpr ⟨q, h, rfl⟩)
      have := ih n.2 h
      simp only [keyO, List.find?_cons, decide_eq_false ne] at this ⊢
      exact this
theorem any_keyO {ts : List PP} {k : Option Int} : (ts.any fun p => decide (p.1 = k)) = (keyO ts k).isSome := by
  unfold keyO
  rw [Option.isSome_map]
  induction ts with
  | nil => rfl
  | cons p r ih => by_cases e : p.1 = k <;> simp [e, ih]
theorem has_putO_some {ts : List PP} (n : NdK ts) {k h h' : Option Int} (e : keyO ts k = some h) {i : Int} : has (putO ts k (ghigh h h')) i = (has ts i || inB k h' i) := by
  rw [Bool.eq_iff_iff, Bool.or_eq_true, has_iff, has_iff]
  unfold putO
  rw [if_pos (by rw [any_keyO, e]; rfl)]
  constructor
  · rintro ⟨q, hq, hi⟩
    obtain ⟨p, hp, rfl⟩ := List.mem_map.mp hq
    by_cases c : p.1 = k
    · have e2 := mem_keyO n hp
      rw [c, e] at e2
      rw [if_pos c] at hi
      simp only [in_ghigh, Bool.or_eq_true] at hi
      rcases hi with hi | hi
      · exact .inl ⟨p, hp, by rw [← Option.some.inj e2]; exact hi⟩
      · exact .inr (by rw [← c]; exact hi)
    · rw [if_neg c] at hi; exact .inl ⟨p, hp, hi⟩
  · rintro (⟨p, hp, hi⟩ | hi)
    · refine ⟨_, List.mem_map.mpr ⟨p, hp, rfl⟩, ?_⟩
      by_cases c : p.1 = k
      · have e2 := mem_keyO n hp
        rw [c, e] at e2
        rw [if_pos c]
        simp only [in_ghigh, Option.some.inj e2, hi, Bool.true_or]
      · rw [if_neg c]; exact hi
    · refine ⟨_, List.mem_map.mpr ⟨(k, h), keyO_mem e, rfl⟩, ?_⟩
      rw [if_pos rfl]
      simp only [in_ghigh, hi, Bool.or_true]
theorem has_putO_none {ts : List PP} {k h' : Option Int} (e : keyO ts k = none) {i : Int} : has (putO ts k h') i = (has ts i || inB k h' i) := by
  unfold putO
  rw [if_neg (by rw [any_keyO, e]; decide), has_app, has_one]
theorem putO_nd {ts : List PP} (n : NdK ts) {k v : Option Int} : NdK (putO ts k v) := by
  unfold putO
  split
  · have : (ts.map fun p => if p.1 = k then (p.1, v) else p).map (·.1) = ts.map (·.1) := by
      rw [List.map_map]
      refine List.map_congr_left fun p _ => ?_
      by_cases e : p.1 = k <;> simp [e]
    unfold NdK; rw [this]; exact n
  · rename_i h
    rw [List.any_eq_true] at h
    simp only [NdK, List.map_append, List.map_cons, List.map_nil]
    refine List.nodup_append.mpr ⟨n, by simp, fun a ha b hb => ?_⟩
    simp only [List.mem_singleton] at hb
    subst hb
    rintro rfl
    obtain ⟨p, hp, rfl⟩ := List.mem_map.mp ha
    exact h ⟨p, hp, by simp⟩
theorem putO_ok {ts : List PP} (o : ∀ q ∈ ts, okB q) {k v : Option Int} (hk : okB (k, v)) : ∀ q ∈ putO ts k v, okB q := by
  unfold putO
  split
  · intro q hq
    obtain ⟨p, hp, rfl⟩ := List.mem_map.mp hq
    by_cases e : p.1 = k
    · rw [if_pos e, e]; exact hk
    · rw [if_neg e]; exact o p hp
  · intro q hq
    rcases List.mem_append.mp hq with h | h
    · exact o q h
    · rw [List.mem_singleton.mp h]; exact hk
theorem putO_len {ts : List PP} {k v : Option Int} : (putO ts k v).length ≤ ts.length + 1 := by unfold putO; split <;> simp
/-- none is least -/
def ltL : Option Int → Option Int → Prop
  | none, some _ => True
  | some a, some b => a < b
  | _, none => False
def leL : Option Int → Option Int → Prop
  | none, _ => True
  | some a, some b => a ≤ b
  | some _, none => False
abbrev Asc (qs : List PP) : Prop := qs.Pairwise fun p q => ltL p.1 q.1
def lowsO (ts : List PP) : List Int := ts.filterMap (·.1)
def valO (ts : List PP) (k : Option Int) : Option Int := (keyO ts k).getD none
def ascO (ts : List PP) (ys : List Int) : List PP := (if (keyO ts none).isSome = true then [(none, valO ts none)] else []) ++ ys.map fun l => (some l, valO ts (some l))
theorem mem_lowsO {ts : List PP} {l : Int} : l ∈ lowsO ts ↔ ∃ h, (some l, h) ∈ ts := by
  simp only [lowsO, List.mem_filterMap]
  constructor
  · rintro ⟨p, hp, e⟩; exact ⟨p.2, by rw [← e]; exact hp⟩
  · rintro ⟨h, hp⟩; exact ⟨_, hp, rfl⟩
theorem mem_ascO {ts : List PP} (n : NdK ts) {ys : List Int} (hy : ys.Perm (lowsO ts)) {q : PP} : q ∈ ascO ts ys ↔ q ∈ ts := by
  have val : ∀ {k h}, (k, h) ∈ ts → valO ts k = h := fun {k h} m => by unfold valO; rw [mem_keyO n m]; rfl
  simp only [ascO, List.mem_append, List.mem_map, hy.mem_iff, mem_lowsO]
  obtain ⟨k, h⟩ := q
  constructor
  · rintro (c | ⟨l, ⟨h2, m⟩, e⟩)
    · split at c
      · rename_i hs
        obtain ⟨h2, e2⟩ := Option.isSome_iff_exists.mp hs
        have m := keyO_mem e2
        rw [val m, List.mem_singleton] at c
        rw [c]; exact m
      · simp at c
    · rw [val m] at e; rw [← e]; exact m
  · intro m
    cases k with
    | none => exact .inl (by rw [if_pos (by rw [mem_keyO n m]; rfl), val m]; simp)
    | some l => exact .inr ⟨l, ⟨h, m⟩, by rw [val m]⟩
theorem has_ascO {ts : List PP} (n : NdK ts) {ys : List Int} (hy : ys.Perm (lowsO ts)) {i : Int} : has (ascO ts ys) i = has ts i := by
  rw [Bool.eq_iff_iff, has_iff, has_iff]
  simp only [mem_ascO n hy]
theorem lowsO_nd {ts : List PP} (n : NdK ts) : (lowsO ts).Nodup := by
  have : lowsO ts = (ts.map (·.1)).filterMap id := by simp [lowsO, List.filterMap_map, Function.comp_def]
  rw [this]
  refine List.Pairwise.filterMap id (R := (· ≠ ·)) (S := (· ≠ ·)) (fun a b h c hc d hd e => h ?_) n
  simp only [id] at hc hd
  rw [hc, hd, e]
theorem ascO_asc {ts : List PP} (n : NdK ts) {ys : List Int} (hy : ys.Perm (lowsO ts)) (hs : ys.Pairwise (· ≤ ·)) : Asc (ascO ts ys) := by
  have nd : ys.Nodup := hy.nodup_iff.mpr (lowsO_nd n)
  have lt : ys.Pairwise (· < ·) := (hs.and nd).imp fun h => by have h1 := h.1; have h2 := h.2; omega
  refine List.pairwise_append.mpr ⟨by split <;> simp, List.pairwise_map.mpr (lt.imp fun h => h), fun p hp q hq => ?_⟩
  split at hp
  · rw [List.mem_singleton.mp hp]
    obtain ⟨l, _, rfl⟩ := List.mem_map.mp hq
    trivial
  · simp at hp
theorem lows_map (ts : List PP) : (((toV ts).map (·.1)).filter Option.isSome).map (fun o => V.int (o.getD 0)) = (lowsO ts).map V.int := by
  induction ts with
  | nil => rfl
  | cons p r ih =>
    have e : toV (p :: r) = (p.1, ov p.2) :: toV r := rfl
    rw [e]
    obtain ⟨l, h⟩ := p
    cases l with
    | none => simpa [lowsO, List.filter_cons] using ih
    | some a => simpa [lowsO, List.filter_cons] using ih
theorem ascO_len {ts : List PP} {ys : List Int} (hy : ys.Perm (lowsO ts)) : (ascO ts ys).length ≤ ts.length := by
  have key : (lowsO ts).length + (if (ts.any fun p => decide (p.1 = none)) = true then 1 else 0) ≤ ts.length := by
    clear hy
    induction ts with
    | nil => simp [lowsO]
    | cons p r ih =>
      obtain ⟨l, h⟩ := p
      have e : lowsO ((l, h) :: r) = (match l with | none => lowsO r | some a => a :: lowsO r) := by cases l <;> rfl
      rw [e]
      cases l with
      | none => simp only [List.any_cons, decide_true, Bool.true_or, if_true, List.length_cons]; split at ih <;> omega
      | some a => simp only [List.any_cons, List.length_cons, show decide (some a = (none : Option Int)) = false from rfl, Bool.false_or]; split at ih <;> rename_i c <;> simp only [c, if_true, if_false, Bool.false_eq_true] <;> omega
  rw [any_keyO] at key
  unfold ascO
  rw [List.length_append, List.length_map, hy.length_eq]
  split at key <;> rename_i c <;> simp only [c, if_true, if_false, Bool.false_eq_true, List.length_cons, List.length_nil] <;> omega
/-! the row -/
def gapP (p q : PP) : Prop := ∃ h l, p.2 = some h ∧ q.1 = some l ∧ h < l
structure Norm (rs : List PP) : Prop where
  ok : ∀ p ∈ rs, okB p
  gap : rs.Pairwise gapP
theorem Norm.nil : Norm [] := ⟨by simp, .nil⟩
theorem Norm.app {rs : List PP} (N : Norm rs) {q : PP} (hq : okB q) (hl : ∀ p, rs.getLast? = some p → gapP p q) : Norm (rs ++ [q]) := by
  refine ⟨fun p hp => (List.mem_append.mp hp).elim (N.ok p) fun h => by rw [List.mem_singleton.mp h]; exact hq, List.pairwise_append.mpr ⟨N.gap, by simp, fun p hp x hx => ?_⟩⟩
  rw [List.mem_singleton.mp hx]
  clear hx x
  rcases List.eq_nil_or_concat rs with rfl | ⟨r0, z, rfl⟩
  · simp at hp
  · have hz := hl z (by simp)
    rw [List.concat_eq_append] at hp N
    rcases List.mem_append.mp hp with h | h
    · have g := (List.pairwise_append.mp N.gap).2.2 p h z (by simp)
      have okz := N.ok z (by simp)
      obtain ⟨h1, l1, e1, e2, lt1⟩ := g
      obtain ⟨h2, l2, e3, e4, lt2⟩ := hz
      obtain ⟨zl, zh⟩ := z
      simp only at e2 e3
      subst e2 e3
      have okz : l1 < h2 := okz
      exact ⟨h1, l2, e1, e4, by omega⟩
    · rw [List.mem_singleton.mp h]; exact hz
theorem Norm.merge {r0 : List PP} {b e h : Option Int} (N : Norm (r0 ++ [(b, e)])) : Norm (r0 ++ [(b, ghigh e h)]) := by
  obtain ⟨g1, _, g3⟩ := List.pairwise_append.mp N.gap
  refine ⟨fun p hp => ?_, List.pairwise_append.mpr ⟨g1, by simp, fun p hp x hx => ?_⟩⟩
  · rcases List.mem_append.mp hp with h | h
    · exact N.ok p (List.mem_append.mpr (.inl h))
    · rw [List.mem_singleton.mp h]; exact okB_ghigh (N.ok (b, e) (by simp))
  · rw [List.mem_singleton.mp hx]
    exact g3 p hp (b, e) (by simp)
theorem has_merge {r0 : List PP} {b e l h : Option Int} {i : Int} (hb : leL b l) (hl : e = none ∨ ∃ x y, l = some x ∧ e = some y ∧ x ≤ y) : has (r0 ++ [(b, ghigh e h)]) i = (has (r0 ++ [(b, e)]) i || inB l h i) := by
  simp only [has_app, has_one, in_ghigh, Bool.or_assoc]
  congr 1
  rcases hl with rfl | ⟨x, y, rfl, rfl, hxy⟩
  · cases b with
    | none => simp [inB]
    | some b0 => cases l with
      | none => exact hb.elim
      | some l0 =>
        have hb : b0 ≤ l0 := hb
        cases h with
        | none => by_cases c : b0 ≤ i <;> by_cases c2 : l0 ≤ i <;> simp [inB, c, c2]; omega
        | some h0 => by_cases c : b0 ≤ i <;> by_cases c2 : l0 ≤ i <;> by_cases c3 : i < h0 <;> simp [inB, c, c2, c3]; omega
  · cases b with
    | none =>
      cases h with
      | none => by_cases c : i < y <;> by_cases c2 : x ≤ i <;> simp [inB, c, c2]; omega
      | some h0 => by_cases c : i < y <;> by_cases c2 : x ≤ i <;> by_cases c3 : i < h0 <;> simp [inB, c, c2, c3]; omega
    | some b0 =>
      have hb : b0 ≤ x := hb
      cases h with
      | none => by_cases c0 : b0 ≤ i <;> by_cases c : i < y <;> by_cases c2 : x ≤ i <;> simp [inB, c, c2, c0] <;> omega
      | some h0 => by_cases c0 : b0 ≤ i <;> by_cases c : i < y <;> by_cases c2 : x ≤ i <;> by_cases c3 : i < h0 <;> simp [inB, c, c2, c3, c0] <;> omega
end Iz
/-! Sp -/
set_option Elab.async false
set_option linter.all false
set_option maxRecDepth 100000
set_option maxHeartbeats 4000000
namespace Iz
open PySem PySem.Spec PyProof.Rows L2
/-! ### xs.pop(), tuple(xs), enumerate, isinstance of several classes -/
def tPop (to : TE) : TE := fun σ H Q => to σ H fun x H1 => ∃ l xs y, x = .ref l ∧ H1 l = some (.lst (xs ++ [y])) ∧ ∀ H3, Put H1 H3 l (.lst xs) → Q y H3
theorem pe_popN {X : Cx} {o : Expr} {to : TE} {apos cpos : Pos} (ho : PE X o to)
    (hbase : attributeBase o "pop" X.env (eval o X.env) = eval o X.env := by rfl) (hline : (apos.endLine == cpos.line) = true := by rfl) : PE X (.Call (.Attribute o "pop" apos) [] [] cpos) (tPop to) :=
  PE.imp (pe_bm0 PySem.F.plainAttrs_list PySem.F.slot_list_pop PySem.F.type_list_pop mt_pop (PE.mcl ho) hbase hline) fun σ H Q q =>
    ⟨_, q, fun x H1 ⟨l, xs, y, hx, hl, q⟩ => by subst hx; exact ⟨.inl ⟨rfl, _, SqL.of hl⟩, l, _, y, rfl, rfl, hl, by simp, q _ ⟨by rw [upd_same, List.dropLast_concat], fun _ h => upd_ne h⟩⟩⟩
def rTupN : List V → Hp → VK → Prop := fun xs H Q => ∃ p ys, xs = [.ref p] ∧ H p = some (.lst ys) ∧ News H (.tup ys) Q
theorem call_tupN {X : Cx} : CallR X (.type "tuple") rTupN := fun pins s σ H xs us Q I r ⟨p, ys, e, hp, n⟩ => call_tuple_of pins s σ H xs us Q I r ⟨p, ys, e, .inl ⟨SqL.of hp, n.all⟩⟩
theorem st_forE {K : PySem.W.Frag} {g : TG} {tb : TS} {D : Ends} {σ : L2.St} {H : Hp} {ta : TA} {a : Addr} {xs : List V} (ha : ∀ R : List V → Hp → Prop, R [.ref a] H → ta σ H R) (hx : H a = some (.lst xs)) (Pv : Nat → L2.St → Hp → Prop) (h0 : Pv 0 σ H) (hl : ∀ i σ H, Pv i σ H → H a = some (.lst xs))
    (hs : ∀ i x T σ H H', xs[i]? = some x → Pv i σ H → Same H H' → H' T = some (.tup [.int (i : Nat), x]) → g (.ref T) σ H' fun σ2 H2 => tb { D with nx := Pv (i + 1), ct := Pv (i + 1), bk := D.nx } σ2 H2) (hd : ∀ σ H, Pv xs.length σ H → D.nx σ H) : tFor (iEnum K ta) g tb D σ H :=
  ha _ ⟨a, xs, rfl, SqL.of hx, for_it walk_enum Pv h0 (fun i σ H _ p => SqL.of (hl i σ H p)) (fun i v σ H H' hi p y => by
    obtain ⟨T, x, z, rfl, hT, rfl, e1, e2⟩ := y
    cases e1
    exact hs i z T σ H _ e2 p (Same.upd hT) upd_same) hd⟩
/-- a comprehension over the pairs of a list -/
theorem ix_DNk {X : Cx} {P : Program} {w : World} (e : X.prog = P) (e2 : X.w = w) : IxR X (rIxDN P w) := e ▸ e2 ▸ ix_DN
theorem op_inDNk {X : Cx} {P : Program} {w : World} (e : X.prog = P) (e2 : X.w = w) : OpR X (compareOp .In) (rInDN P w) := e ▸ e2 ▸ op_inDN
theorem set_DNk {X : Cx} {P : Program} {w : World} (e : X.prog = P) (e2 : X.w = w) : PSet X (rSetDN P w) := e ▸ e2 ▸ set_DN
theorem pi_DNk {X : Cx} {P : Program} {w : World} (e : X.prog = P) (e2 : X.w = w) {tg x : Expr} {td : TE} (he : PE X x td) : PI X tg x (iDN P w td) := by subst e e2; exact pi_DN he
theorem pe_dnNk {X : Cx} {P : Program} {w : World} (e : X.prog = P) (e2 : X.w = w) {pos : Pos} : PE X (.Dict [] [] pos) (tDNew P w) := by subst e e2; exact pe_dnN
/-! ### what may raise, asked where it does not -/
def calmS (sp : Sp) : Sp := fun vs H Q _ => sp vs H Q (fun _ _ _ => False)
section
variable {P : Program} {w : World} {K : PySem.W.Frag} {mg : Str → Option Value} {base : Heap} {k : Nat} {x m : Str} {ps : List Str} {dvs : List V} {sp : Sp}
theorem fn_calm {f : Addr} {fd : FuncData} (F : FnOk P w K mg base (L2.CX P w) k f fd ps sp) : FnOk P w K mg base CX0 k f fd ps (calmS sp) :=
  ⟨fun vs H Q E q => F.len vs H Q _ q, fun A outer s H args us vs Q E hr he hb hv hs => codeAny_mono (F.run A outer s H args us vs Q _ hr he hb hv hs) fun r s' q => by
    cases r with
    | error e => obtain ⟨_, _, _, _, _, _, _, _, _, _, _, _, z⟩ := q; exact z.elim
    | ok fl => cases fl <;> exact q⟩
theorem OkF.calm (F : OkF P w K mg base (L2.CX P w) k x ps sp) : OkF P w K mg base CX0 k x ps (calmS sp) :=
  let ⟨f, fd, g, kp, b, G⟩ := F.ex
  ⟨f, fd, g, kp, b, fn_calm G⟩
theorem OkM.calm (F : OkM P w K mg base (L2.CX P w) k x m ps dvs sp) : OkM P w K mg base CX0 k x m ps dvs (calmS sp) :=
  let ⟨f, fd, M, b, G⟩ := F.ex
  ⟨f, fd, M, b, fn_calm G⟩
theorem OkK.calm (F : OkK P w K mg base (L2.CX P w) k x ps dvs sp) : OkK P w K mg base CX0 k x ps dvs (calmS sp) :=
  let ⟨f, fd, si, M, g, b, G, q⟩ := F.ex
  ⟨f, fd, calmS si, M, g, b, fn_calm G, fun vs H Q E h p dx h1 h2 h3 => q vs H Q _ h p dx h1 h2 h3⟩
end
theorem BindD.cut {K : PySem.W.Frag} {fd : FuncData} {ps : List Str} {d : V} (b : BindD K fd ps [d]) : BindD K fd ps [] := fun j hj => by
  obtain ⟨ds, h1, h2⟩ := b 1 (Nat.le_refl _)
  exact ⟨ds, by rw [List.drop_nil]; exact h1, h2⟩
theorem lc_inT {K : PySem.W.Frag} {tl : TE} {g : TG} {tt : TT} {te : TE} {vs : List Nat} {σ : L2.St} {H : Hp} {Q : VK} (h : tl σ H fun x H1 => tLc (iTup K fun _ H R => R x H) g tt te vs σ H1 Q) : tLc (iTup K tl) g tt te vs σ H Q := h
theorem lc_inL {K : PySem.W.Frag} {tl : TE} {g : TG} {tt : TT} {te : TE} {vs : List Nat} {σ : L2.St} {H : Hp} {Q : VK} (h : tl σ H fun x H1 => tLc (iList K fun _ H R => R x H) g tt te vs σ H1 Q) : tLc (iList K tl) g tt te vs σ H Q := h
/-- ints picked out of the items of a tuple -/
theorem st_lcO {K : PySem.W.Frag} {tl : TE} {g : TG} {tt : TT} {te : TE} {vs : List Nat} {σ : L2.St} {H : Hp} {Q : VK} {a : Addr} {xs : List V} {os : List (Option Int)} (ha : ∀ R : V → Hp → Prop, R (.ref a) H → tl σ H R) (hx : H a = some (.tup xs)) (hl : xs.length = os.length) (hz : os.length ≤ 1000)
    (hs : ∀ (i : Nat) (x : V) (o : Option Int) (H' : Hp) (A : Hp → Prop) (B : VK), xs[i]? = some x → os[i]? = some o → Same H H' → (o = none → A H') → (∀ z, o = some z → B (.int z) H') →
      g x (wipe σ vs) H' fun σ2 H2 => wipe σ2 vs = wipe σ vs ∧ tt σ2 H2 fun b H3 => if b = true then te σ2 H3 B else A H3)
    (hd : ∀ D H', H D = none → Same H H' → H' D = some (.lst ((os.filterMap id).map V.int)) → Q (.ref D) H') : tLc (iTup K tl) g tt te vs σ H Q := by
  refine ha _ ⟨a, rfl, ⟨xs, SqT.of hx⟩, fun D hD => lc_tup (fun i H' => Same H H' ∧ H' D = some (.lst (((os.take i).filterMap id).map V.int))) ⟨Same.upd hD, upd_same⟩ (fun i H' _ q => SqT.of (q.1 _ _ hx)) (fun i x H' hi q => ?_) (fun H' q => hd D H' hD q.1 (by rw [q.2, hl, List.take_length]))⟩
  have hi2 := (List.getElem?_eq_some_iff.mp hi).1
  obtain ⟨o, ho⟩ : ∃ o, os[i]? = some o := ⟨os[i]'(by omega), List.getElem?_eq_getElem (by omega)⟩
  refine hs i x o H' _ _ hi ho q.1 (fun e => ⟨q.1, ?_⟩) (fun z e => ⟨_, q.2, ?_, ?_, ?_⟩)
  · rw [q.2, List.take_succ, ho, e]; simp
  · have h1 : ((os.take i).filterMap id).length ≤ (os.take i).length := List.length_filterMap_le _ _
    have h2 : (os.take i).length ≤ i := by rw [List.length_take]; exact Nat.min_le_left _ _
    rw [List.length_map, sizeLine_eq]; omega
  · exact fun b u e2 => by rw [upd_ne (ne_of_none e2 hD)]; exact q.1 _ _ e2
  · rw [upd_same, List.take_succ, ho, e]; simp
/-- [f(n) for n in ns], each as it is -/
theorem st_lcCp {K : PySem.W.Frag} {tl : TE} {g : TG} {tt : TT} {te : TE} {vs : List Nat} {σ : L2.St} {H : Hp} {Q : VK} {a : Addr} {ns : List Int} (ha : ∀ R : V → Hp → Prop, R (.ref a) H → tl σ H R) (hx : H a = some (.lst (ns.map V.int))) (hz : ns.length ≤ 1000)
    (hs : ∀ (n : Int) (H' : Hp) (A : Hp → Prop) (B : VK), B (.int n) H' → g (.int n) (wipe σ vs) H' fun σ2 H2 => wipe σ2 vs = wipe σ vs ∧ tt σ2 H2 fun b H3 => if b = true then te σ2 H3 B else A H3)
    (hd : ∀ D H', H D = none → Same H H' → H' D = some (.lst (ns.map V.int)) → Q (.ref D) H') : tLc (iList K tl) g tt te vs σ H Q := by
  refine st_lcLF ha hx (by rw [List.length_map, sizeLine_eq]; omega) (fun _ => true) (fun v => v) (fun x H' A B hx s hA hB => ?_) (fun D H' nD s h' => hd D H' nD s (by rw [h']; simp))
  obtain ⟨n, _, rfl⟩ := List.mem_map.mp hx
  exact hs n H' A B (hB rfl H' (fun _ _ h => h))
theorem none_of {H H' : Hp} {r : Addr} (s : Same H H') (n : H' r = none) : H r = none := by
  cases e : H r with
  | none => rfl
  | some o => rw [s _ _ e] at n; cases n
theorem PAll.last {H : Hp} {z0 : List V} {y : V} {rs : List PP} (h : PAll H (z0 ++ [y]) rs) : ∃ t r0 p, y = .ref t ∧ rs = r0 ++ [p] ∧ PAll H z0 r0 ∧ H t = some (.tup [ov p.1, ov p.2]) := by
  induction z0 generalizing rs with
  | nil => cases h with | cons e t => cases t; exact ⟨_, [], _, rfl, rfl, .nil, e⟩
  | cons z z0 ih => cases h with | cons e t => obtain ⟨t', r0, p, e1, e2, e3, e4⟩ := ih t; subst e2; exact ⟨t', _ :: r0, p, e1, rfl, .cons e e3, e4⟩
theorem ixN_end {n : Nat} (h : 0 < n) : ixN n (-1) = some (n - 1) := by
  unfold ixN
  rw [if_neg (by decide), if_pos (by omega)]
  congr 1; omega
theorem atI_end {α : Type} {xs : List α} {x : α} : atI (xs ++ [x]) (-1) = some x := by
  unfold atI
  rw [ixN_end (by simp)]
  simp
theorem drop_at {α : Type} {xs : List α} {i : Nat} {x : α} (h : xs[i]? = some x) : xs.drop i = x :: xs.drop (i + 1) := by
  obtain ⟨h1, rfl⟩ := List.getElem?_eq_some_iff.mp h
  exact List.drop_eq_getElem_cons h1
theorem ltL.le {a b : Option Int} (h : ltL a b) : leL a b := by cases a <;> cases b <;> simp_all [ltL, leL]; omega
theorem scalO {a b : Option Int} : scal (ov a) (ov b) = true := by cases a <;> cases b <;> rfl
theorem ov_inj {a b : Option Int} (h : ov a = ov b) : a = b := by cases a <;> cases b <;> simp_all [ov]
theorem kitAny_ll {K : PySem.W.Frag} : PySem.W.kitAny K (.type "list") [.type "list", .type "tuple"] = some true := kitAny_cons (b := true) (kit_ty (by decide +kernel)) (fun h => by cases h) (fun _ => rfl)
theorem kitAny_tl {K : PySem.W.Frag} : PySem.W.kitAny K (.type "tuple") [.type "list", .type "tuple"] = some true := kitAny_cons (b := false) (kit_ty (by decide +kernel)) (fun _ => kitAny_cons (b := true) (kit_ty (by decide +kernel)) (fun h => by cases h) (fun _ => rfl)) (fun h => by cases h)
end Iz
/-! Rp -/
set_option Elab.async false
set_option linter.all false
set_option maxRecDepth 100000
set_option maxHeartbeats 4000000
namespace Iz
open PySem PySem.Spec PyProof.Rows L2
/-! ### repr of a tuple of ints and of an empty list, where it is not known what else is being told -/
theorem codeAny_guards {M : Model} {A : Around} {c : Code} {R : Result → Shared → Prop} {s : Shared} (h : ∀ g, codeAny M { A with guards := some g } c R s) : codeAny M A c R s :=
  fun Γ p hc hB => h (guardsOf Γ.below) Γ p hc ⟨hB.1, hB.2.1, hB.2.2.1, fun g hg => by cases hg; rfl, hB.2.2.2.2⟩
/-- the text of a tuple, if it isn't being told just now -/
def tupZ (g : List Code) (a : Addr) (ts : List Str) : Str := if (g.any fun c => tupGuardF (.ref a) (c, default)) = true then "(...)" else tupleText ts
section
variable {prog : Program} {w : World} {A : Around} {E : Value → Shared → Prop} {s : Shared} {a : Addr} {o : Obj} {items : Array Value} {n : Nat} {ts : List Str} {g : List Code}
theorem own_tupZ {Q : Fin → Shared → Prop} {c : Code} (hg : A.guards = some g)
    (ha : s.heap.get? a = some o) (hd : o.data = .seq items n) (hT : ReprAll prog w items.toList ts)
    (h : ∀ u tk, Q (.done (.ret (.str (tupZ g a ts) u))) { s with toks := tk }) (hsz : (tupleText ts).length ≤ sizeLine) :
    wpOwn (model prog w) A c (Builtin.tupleReprAt 0 ⟨[.ref a], []⟩) Q E s := by
  rw [tuple_repr_tree, tupleReprUnderWay_eq]
  refine wpOwn_bind (wpOwn_stackTailAny hg (tupGuardF_off _) (tupGuardF_pos _) ?_)
  unfold tupZ at h
  cases e : g.any fun c => tupGuardF (.ref a) (c, default) with
  | true =>
    rw [e] at h
    refine wpOwn_of_wpAny ?_
    simp only [if_true]
    refine wpAny_bind (wpAny_rule ?_)
    exact wpAny_bind (wpAny_mkStr (wpAny_pure (h _ _)) (by decide))
  | false =>
    rw [e] at h
    exact wpOwn_of_wpAny (wpAny_tupleReprRest ha hd hT h (by omega))
theorem call_tupZ {Q : Value → Shared → Prop} (hTy : s.TypeIs (.ref a) "tuple") (hg : A.guards = some g)
    (ha : s.heap.get? a = some o) (hd : o.data = .seq items n) (hT : ReprAll prog w items.toList ts)
    (hQ : ∀ u tk, Q (.str (tupZ g a ts) u) { s with toks := tk }) (hsz : (tupleText ts).length ≤ sizeLine) :
    wpAny (model prog w) A (call (.builtin "tuple.__repr__") [.ref a]) Q E s :=
  wpAny_call (codeAny_call_builtin_own (Code.quiet_builtin _ (by decide +kernel)) F.entry_tuple_repr (F.slot_tuple_repr.check _ _ _ _ _ _ _ _ hTy (F.args_tuple_repr_1 _) (own_tupZ hg ha hd hT hQ hsz)))
theorem repr_tupZ {Q : Value → Shared → Prop} (hu : A.units + 1 < cLine) (hTy : s.TypeIs (.ref a) "tuple") (hg : A.guards = some g)
    (ha : s.heap.get? a = some o) (hd : o.data = .seq items n) (hT : ReprAll prog w items.toList ts)
    (hQ : ∀ u tk, Q (.str (tupZ g a ts) u) { s with toks := tk }) (hsz : (tupleText ts).length ≤ sizeLine) :
    wpAny (model prog w) A (call (.builtin "repr") [.ref a]) Q E s := by
  refine Calls.call_function_entry F.kind_repr F.plain_repr F.entry_repr (F.args_repr1 _) ?_
  unfold Builtin.«repr»
  refine wpAny_bind (m := oneArg "repr" _) (wpAny_pure ?_)
  refine wpAny_bind (wpAny_cRoomFor (by exact hu) ?_)
  refine wpAny_bind (wpAny_specialOf (name := Str.ofString "__repr__") hTy F.slot_tuple_repr.lookup ?_)
  refine wpAny_bind (m := callSpecialIfBound? (.ref a) (Str.ofString "__repr__")) (wpAny_callSpecialIfBound?_slotG (name := Str.ofString "__repr__") hTy F.slot_tuple_repr (call_tupZ hTy (by exact hg) ha hd hT (fun u tk => ?_) hsz))
  refine wpAny_bind (wpAny_isInstance (T := "str") (b := true) rfl isSubtype_str_str ?_)
  exact wpAny_pure ⟨_, rfl, hQ u tk⟩
theorem repr_nil {Q : Value → Shared → Prop} (hu : A.units + 1 < cLine) (hTy : s.TypeIs (.ref a) "list")
    (ha : s.heap.get? a = some o) (hd : o.data = .seq #[] n) (hQ : ∀ u tk, Q (.str "[]" u) { s with toks := tk }) :
    wpAny (model prog w) A (call (.builtin "repr") [.ref a]) Q E s := by
  refine Calls.call_function_entry F.kind_repr F.plain_repr F.entry_repr (F.args_repr1 _) ?_
  unfold Builtin.«repr»
  refine wpAny_bind (m := oneArg "repr" _) (wpAny_pure ?_)
  refine wpAny_bind (wpAny_cRoomFor (by exact hu) ?_)
  refine wpAny_bind (wpAny_specialOf (name := Str.ofString "__repr__") hTy F.slot_list_repr.lookup ?_)
  refine wpAny_bind (m := callSpecialIfBound? (.ref a) (Str.ofString "__repr__")) (wpAny_callSpecialIfBound?_slot (name := Str.ofString "__repr__") hTy F.slot_list_repr (call_list_repr_empty hTy ha hd ?_))
  refine wpAny_bind (wpAny_isInstance (T := "str") (b := true) rfl isSubtype_str_str ?_)
  exact wpAny_pure ⟨_, rfl, hQ _ _⟩
end
/-- repr(x): x plain, or a tuple of one int, or an empty list -/
def ReprG (K : PySem.W.Frag) (g : List Code) (H : Hp) (v : V) (z : Str) : Prop := ReprV v z ∨ (∃ a i, v = .ref a ∧ H a = some (.tup [.int i]) ∧ i.natAbs.log2 < 1920 ∧ (tupleText [Str.ofString (toString i)]).length ≤ sizeLine ∧ z = tupZ g a [Str.ofString (toString i)]) ∨ ∃ a, v = .ref a ∧ H a = some (.lst []) ∧ z = "[]"
theorem ReprG.mono {K : PySem.W.Frag} {g : List Code} {H H' : Hp} {v : V} {z : Str} (h : ReprG K g H v z) (s : Same H H') : ReprG K g H' v z := by
  rcases h with h | ⟨a, i, e1, e2, e3⟩ | ⟨a, e1, e2, e3⟩
  · exact .inl h
  · exact .inr (.inl ⟨a, i, e1, s _ _ e2, e3⟩)
  · exact .inr (.inr ⟨a, e1, s _ _ e2, e3⟩)
def rReprG (K : PySem.W.Frag) (g : List Code) : List V → Hp → VK → Prop := fun xs H Q => ∃ x s, xs = [x] ∧ ReprG K g H x s ∧ Q (.str s) H
theorem call_reprG {X : Cx} {g : List Code} {K : PySem.W.Frag} (eK : X.K = K) (hu : X.A.units + 1 < cLine) (hg : X.A.guards = some g) : CallR X (.builtin "repr") (rReprG K g) := by
  intro pins s σ H xs us Q I r h
  obtain ⟨x, z, rfl, hz, q⟩ := h
  rcases hz with hz | ⟨a, i, rfl, ha, hi, hl, rfl⟩ | ⟨a, rfl, ha, rfl⟩
  · exact call_reprN pins s σ H [x] us Q I r ⟨x, z, rfl, hz, q⟩
  · cases r with
    | cons rx rr =>
      cases rr
      cases rx
      obtain ⟨its, rv, pl, hz⟩ := I.tuple (SqT.of (K := X.K) ha)
      obtain ⟨o, ho, hc, n, hd⟩ := pl
      cases rv with
      | cons r1 r2 =>
        cases r2
        obtain ⟨t, rfl⟩ := r1
        refine repr_tupZ hu ⟨o, ho, hc⟩ hg ho hd (.cons (ReprIs.int t hi) .nil) (fun u tk => ?_) hl
        exact ⟨.str _, H, I.kept (t' := tk) fun _ _ z => z, ⟨_, rfl⟩, q⟩
  · cases r with
    | cons rx rr =>
      cases rr
      cases rx
      obtain ⟨its, rv, pl, hz⟩ := I.list (SqL.of (K := X.K) ha)
      obtain ⟨o, n, ho, hc, hdd, hd⟩ := pl
      cases rv
      refine repr_nil hu ⟨o, ho, hc⟩ ho (by simpa using hd) (fun u tk => ?_)
      exact ⟨.str _, H, I.kept (t' := tk) fun _ _ z => z, ⟨_, rfl⟩, q⟩
theorem tyX_at {K : PySem.W.Frag} {H H' : Hp} {x : V} {t : Value} (h : TyX K H x t) (s : ∀ b o, x = .ref b → H b = some o → H' b = some o) : TyX K H' x t := by
  cases h with
  | base b =>
    cases b with
    | non => exact .base .non
    | bl b => exact .base (.bl b)
    | int i => exact .base (.int i)
    | str y => exact .base (.str y)
    | flt y => exact .base (.flt y)
    | lst e => exact .base (.lst (s _ _ rfl e))
    | frz e => exact .base (.frz (s _ _ rfl e))
    | tup e => exact .base (.tup (s _ _ rfl e))
    | dK e => exact .base (.dK (s _ _ rfl e))
    | dT e => exact .base (.dT (s _ _ rfl e))
    | ins e a b c d f => exact .base (.ins (s _ _ rfl e) a b c d f)
  | byt b => exact .byt b
  | set e => exact .set (s _ _ rfl e)
  | kList e c => exact .kList e c
  | kTuple e c => exact .kTuple e c
  | kDict e c => exact .kDict e c
  | fTuple e => exact .fTuple (s _ _ rfl e)
  | fDict e => exact .fDict (s _ _ rfl e)
theorem wh_at {K : PySem.W.Frag} {H H' : Hp} {x : V} (h : Wh K H x) (s : ∀ b o, x = .ref b → H b = some o → H' b = some o) : Wh K H' x := let ⟨t, b, c, ty, r⟩ := h; ⟨t, b, c, tyX_at ty s, r⟩
/-- a pair of ends, or None -/
def PV (H : Hp) (v : V) : Option PP → Prop
  | none => v = .non
  | some (x, y) => ∃ a, v = .ref a ∧ H a = some (.tup [ov x, ov y])
def dPO : Option PP → PyData
  | none => .none
  | some (x, y) => .tuple [dO x, dO y]
theorem PV.mono {H H' : Hp} {v : V} {o : Option PP} (h : PV H v o) (s : Same H H') : PV H' v o := by
  cases o with
  | none => exact h
  | some p => obtain ⟨a, e, q⟩ := h; exact ⟨a, e, s _ _ q⟩
theorem PV.dp {K : PySem.W.Frag} {H : Hp} {v : V} {o : Option PP} (h : PV H v o) : Dp K H v (dPO o) := by
  cases o with
  | none => cases h; exact .non
  | some p => obtain ⟨a, rfl, q⟩ := h; exact .tup (SqT.of q) (.cons dp_ov (.cons dp_ov .nil))
theorem sh_dPO {n : Nat} {o : Option PP} : ShN (n + 1) (dPO o) := by
  cases o with
  | none => exact .non
  | some p => exact (ShN.tuple (n := 0) fun d hd => by
      simp only [List.mem_cons, List.not_mem_nil, or_false] at hd
      rcases hd with rfl | rfl <;> exact sh_dO).up (by omega)
theorem eqv_dO {a b : Option Int} : PyData.eqv (dO a) (dO b) = decide (a = b) := by
  cases a <;> cases b <;> simp [dO, PyData.eqv]
  rename_i x y
  by_cases h : x = y <;> simp [h]
theorem eqv_dPO {a b : Option PP} : PyData.eqv (dPO a) (dPO b) = decide (a = b) := by
  cases a with
  | none => cases b <;> simp [dPO, PyData.eqv]
  | some p => cases b with
    | none => simp [dPO, PyData.eqv]
    | some q =>
      obtain ⟨x, y⟩ := p
      obtain ⟨u, v⟩ := q
      simp only [dPO, PyData.eqv, PyData.eqvAll, eqv_dO, Bool.and_true]
      by_cases h1 : x = u <;> by_cases h2 : y = v <;> simp [h1, h2]
theorem eqP {K : PySem.W.Frag} {H : Hp} {R : VK} {v v' : V} {o o' : Option PP} (h : PV H v o) (h' : PV H v' o') (r : R (.bl (decide (o = o'))) H) : rEqD K v v' H R := ⟨_, _, h.dp, h'.dp, (sh_dPO (n := 0)).ok, (sh_dPO (n := 0)).ok, by rw [eqv_dPO]; exact r⟩
theorem neP {K : PySem.W.Frag} {H : Hp} {R : VK} {v v' : V} {o o' : Option PP} (h : PV H v o) (h' : PV H v' o') (r : R (.bl (!decide (o = o'))) H) : rNeD K v v' H R := ⟨_, _, h.dp, h'.dp, (sh_dPO (n := 0)).ok, (sh_dPO (n := 0)).ok, by rw [eqv_dPO]; exact r⟩
/-- as LamF.okF; the body knows which calls that tell are under way -/
theorem LamF.okFg {P : Program} {w : World} {K : PySem.W.Frag} {mg : Str → Option Value} {base : Heap} {x : Str} {st : Stmt} {N ps : List Str} {k : Nat} {sp : Sp} (F : LamF K mg x st) (S : FnScope N ps (defScope st))
    (hbind : ∀ (kV doc pm : Value) (an : Option Addr) (cdv ct : Value) (us : List Value), us.length = ps.length → bindArgs (PySem.W.fnOf x x (defArgs st) (defBody st) (defScope st) .none kV doc pm an cdv ct) ⟨us, []⟩ = pure (ps.zip us))
    (len : ∀ vs H Q E, sp vs H Q E → vs.length = ps.length)
    (hbody : ∀ (f : Addr) (A : Around) (outer : List Env) (s : Shared) (H : Hp) (vs : List V) (Q : VK) (E : XK) (g : List Code), A.guards = some g → Room k (A.deeper (envOfC x (defScope st) s.heap.objs.size f (.ref (cOf K x)))) → sp vs H Q E →
      ∃ t, PSs (cxOf (L2.CX P w) P w K mg base N x (defScope st) f (.ref (cOf K x)) A outer s H E) (defBody st) t ∧ t { nx := fun _ H' => Q .non H', rt := Q } (L2.start N vs) H) : OkF P w K mg base (L2.CX P w) (k + 1) x ps sp := by
  obtain ⟨f, oc, od, kV, doc, pm, an, ct, osl, g, kp, lk, hcd⟩ := F.ex
  refine ⟨f, _, g, kp,   .all (hbind kV doc pm an (.ref (cOf K x)) ct), len, fun A outer s H args us vs Q E hr e0 hb r hsp => codeAny_guards fun g => ?_⟩
  refine LamX.run_ofS (N := N) (vs := vs) lk hcd S (A := { A with guards := some g }) ⟨hr.hd, hr.dp, hr.un⟩ ⟨e0.frames, e0.mod, e0.bs, e0.bsz, e0.funs, e0.frf, e0.hok, e0.bare⟩ hb r (len _ _ _ _ hsp) fun hr2 => ?_
  exact hbody f { A with guards := some g } outer s H vs Q E g rfl hr2 hsp
end Iz
/-! La -/
set_option Elab.async false
set_option linter.all false
set_option maxRecDepth 100000
set_option maxHeartbeats 4000000
namespace LamX
open PySem PySem.Spec PyProof.Rows L2
/-! ### a lambda of one parameter, handed to a def that calls it -/
/-- one parameter, no other name of its own: captured ones and globals -/
structure LamP (sc scope : Scope) (p : Str) : Prop where
  kind : scope.kind = .function
  co : scope.isCoroutine = false
  gen : scope.isGenerator = false
  par : scope.names.lookup p = some .local
  own : ∀ y ∈ scope.names, (y.2 = .local → y.1 = p) ∧ y.2 ≠ .cell
  free : ∀ y ∈ scope.names, y.2 = .free → sc.names.lookup y.1 = some .cell ∨ sc.names.lookup y.1 = some .free
def lamPB (sc scope : Scope) (p : Str) : Bool :=
  decide (scope.kind = .function) && !scope.isCoroutine && !scope.isGenerator && decide (scope.names.lookup p = some .local) && scope.names.all fun y => (!decide (y.2 = .local) || decide (y.1 = p)) && !decide (y.2 = .cell) && (!decide (y.2 = .free) || decide (sc.names.lookup y.1 = some .cell) || decide (sc.names.lookup y.1 = some .free))
theorem lamP_by {sc scope : Scope} {p : Str} (h : lamPB sc scope p = true) : LamP sc scope p := by
  unfold lamPB at h
  simp only [Bool.and_eq_true, Bool.or_eq_true, Bool.not_eq_true', decide_eq_true_eq, decide_eq_false_iff_not, List.all_eq_true] at h
  obtain ⟨⟨⟨⟨h1, h2⟩, h3⟩, h5⟩, h4⟩ := h
  refine ⟨h1, h2, h3, h5, fun y hy => ⟨fun e => ?_, (h4 y hy).1.2⟩, fun y hy e => ?_⟩
  · rcases (h4 y hy).1.1 with z | z
    · exact absurd e z
    · exact z
  · rcases (h4 y hy).2 with (z | z) | z
    · exact absurd e z
    · exact .inl z
    · exact .inr z
theorem LamP.has {X : Cx} {scope : Scope} {p : Str} (L : LamP X.env.scope scope p) (ok : X.Ok) : ∀ y ∈ scope.names, y.2 = .free → ∃ c, X.env.cells.lookup y.1 = some c := fun y hy e => by
  rcases L.free y hy e with k | k
  · exact ok.has _ (.inl k)
  · exact ok.has _ (.inr k)
/-- the context of the lambda's body: the maker's slots, behind them the parameter's -/
def lamCxP (X : Cx) (A : Around) (outer : List Env) (s : Shared) (H : Hp) (E : XK) (scope : Scope) (f c' : Addr) (p : Str) : Cx where
  prog := X.prog
  w := X.w
  K := X.K
  mg := X.mg
  base := X.base
  A := A.deeper (lamEnv X scope s.heap.objs.size f c')
  N := X.N ++ [p]
  s_0 := s
  H_0 := H
  env := lamEnv X scope s.heap.objs.size f c'
  outer := outer
  stack := lamEnv X scope s.heap.objs.size f c' :: outer
  ex := []
  fn := fun _ => false
  calm := true
  pn := []
  xe := fun e s' => wpAny (model X.prog X.w) (A.deeper (lamEnv X scope s.heap.objs.size f c')) (leaving (lamEnv X scope s.heap.objs.size f c') e) (fun _ s'' => L2.CX X.prog X.w outer H s E e s'') (fun e' s'' => L2.CX X.prog X.w outer H s E e' s'') s'
section
variable {X : Cx} {pins : List (Addr × Obj)} {σ : L2.St} {H HZ : Hp} {s s1 : Shared}
theorem lam_startP {A : Around} {outer : List Env} {E : XK} {scope : Scope} {f c' : Addr} {h₁ : Heap} {tk : Nat} {p : Str} {u : Value} {v : V} (I : Inv X pins σ H s) (L : LamP X.env.scope scope p) (hp : p ∉ X.N) (e0 : Env0 X.prog X.w X.K X.mg X.base A outer s1 HZ) (hd : A.handled = none)
    (un : Un (frs X.stack) [] H HZ s.heap s1.heap) (hns : h₁.Ns s1.heap.objs.size fun y => ([(p, u)] : List (Str × Value)).reverse.lookup y) (rv : RelV v u) (kp : ∀ b o, s1.heap.get? b = some o → h₁.get? b = some o) :
    Inv (lamCxP X A outer s1 HZ E scope f c' p) [] (σ ++ [some v]) HZ { s1 with heap := h₁, toks := tk } := by
  have hfree := L.has I.ok
  have cm : ∀ {y c}, (cloFrom X.env.cells scope.names []).lookup y = some c → X.env.cells.lookup y = some c := fun {y c} e => by
    rcases cloFrom_mem (PySem.mem_of_lookup e) with hm | ⟨h1, h2⟩
    · cases hm
    · obtain ⟨c1, hc⟩ := hfree _ h1 rfl
      have hc : X.env.cells.lookup y = some c1 := hc
      have e2 : c = c1 := by
        rw [h2, hc] <;> rfl
      rw [e2]
      exact hc
  have look : ∀ {y}, scope.names.lookup y = some .free → ∃ c, (cloFrom X.env.cells scope.names []).lookup y = some c := fun {y} hl => by
    have hy : (y, NameKind.free) ∈ scope.names := PySem.mem_of_lookup hl
    exact mem_lookup (cloFrom_has (cells := X.env.cells) (acc := []) hy)
  have cellK : ∀ {c : Addr} {v : Option Value}, H c = none → s.heap.IsCell c v → h₁.IsCell c v := fun {c v} n ⟨o, ho, hd⟩ => by
    obtain ⟨sl, q⟩ := un.any ho n (by simp)
    exact ⟨_, kp _ _ q, hd⟩
  have noA : ∀ b : Addr, b ∉ (lamCxP X A outer s1 HZ E scope f c' p).ex := fun b z => absurd (show b ∈ ([] : List Addr) from z) (by simp)
  refine ⟨⟨e0.mod, L.kind, rfl, rfl, Nat.le_refl _, fun y z c e1 e2 => I.ok.inj y z c (cm e1) (cm e2), fun y hy => ?_, fun y c z _ => ?_, fun _ => hd, Around.frames_deeper e0.frames, .inr ⟨rfl, rfl⟩, fun b z => absurd z (noA b), e0.bs, e0.bsz, fun b _ _ => noA b,
      fun b z => absurd z (noA b), e0.funs, e0.frf⟩,
    rfl, e0.bare, Un.kept kp, ⟨_, hns, fun i y v' e1 e2 e3 => ?_⟩, fun y c e => ?_, e0.hok.fresh (Nat.le_refl _), fun y c e => ?_, fun q hq => absurd (show q ∈ ([] : List (Addr × Obj)) ++ [] from hq) (by simp), e0.hok.kept kp, ?_⟩
  · have hy : scope.names.lookup y = some .cell ∨ scope.names.lookup y = some .free := hy
    rcases hy with hy | hy
    · exact absurd rfl (L.own _ (PySem.mem_of_lookup hy)).2
    · exact look hy
  · have z : false = true := z
    cases z
  · have e3 : Vis scope y := e3
    have e1 : (X.N ++ [p])[i]? = some y := e1
    have hl := I.len
    by_cases hi : i < X.N.length
    · rw [List.getElem?_append_left hi] at e1
      rw [List.getElem?_append_left (by omega)] at e2
      rcases e3 with k | k | k
      · have := (L.own _ (PySem.mem_of_lookup k)).1 rfl
        exact absurd (List.mem_of_getElem? e1) (by rw [show y = p from this]; exact hp)
      · exact absurd rfl (L.own _ (PySem.mem_of_lookup k)).2
      · obtain ⟨m, hn, hl⟩ := I.loc
        have hvis : Vis X.env.scope y := (L.free _ (PySem.mem_of_lookup k) rfl).elim (fun k => .inr (.inl k)) (fun k => .inr (.inr k))
        obtain ⟨w', r, q⟩ := hl i y v' e1 e2 hvis
        obtain ⟨c2, h2⟩ := look k
        refine ⟨w', r, .inr ⟨.inr k, c2, h2, ?_⟩⟩
        have c1 := cm h2
        rcases q with ⟨k', _⟩ | ⟨_, c3, e', z⟩
        · have k' : X.env.scope.names.lookup y = some .local := k'
          rcases L.free _ (PySem.mem_of_lookup k) rfl with k2 | k2 <;> rw [show X.env.scope.names.lookup y = _ from k2] at k' <;> cases k'
        · rw [c1] at e'
          cases e'
          exact cellK (I.freeC y _ c1) z
    · rw [List.getElem?_append_right (by omega)] at e1 e2
      have h0 : i - X.N.length = 0 := by
        have := (List.getElem?_eq_some_iff.mp e1).1
        simp at this
        omega
      rw [h0] at e1
      rw [show i - σ.length = 0 by omega] at e2
      simp at e1 e2
      subst e1 e2
      exact ⟨u, rv, .inl ⟨L.par, by simp⟩⟩
  · obtain ⟨w', z⟩ := I.cell y c (cm e)
    exact ⟨w', cellK (I.freeC y c (cm e)) z⟩
  · obtain ⟨v, o, ho, hd⟩ := I.cell y c (cm e)
    exact un.free c o ho (I.freeC y c (cm e)) (by simp)
  · show (σ ++ [some v]).length = (X.N ++ [p]).length
    rw [List.length_append, List.length_append, I.len]
    rfl
/-- a(e), in the def that got the lambda -/
theorem pe_actP {CXg : CXT} {Eg : XK} {Ng : List Str} {qg : Str} {sg : Scope} {g f c' : Addr} {cdg pm ctv : Value} {params : Arguments} {body : Expr} {scope : Scope} {k i : Nat} {a p : Str} {tb : TE} {p1 p2 : Pos} {e : Expr} {ta : TA}
    (I : Inv X pins σ H s) (L : LamP X.env.scope scope p) (hp : p ∉ X.N) (hf : s.heap.get? f = some (PySem.W.kla_obj "<lambda>" (X.env.qual ++ "<lambda>") params body scope (cloFrom X.env.cells scope.names []) pm c' ctv)) (hfn : H f = none) (hfr : f ∉ frs X.stack)
    (hbind : ∀ u : Value, bindArgs (PySem.W.kla_fn "<lambda>" (X.env.qual ++ "<lambda>") params body scope (cloFrom X.env.cells scope.names []) pm (.ref c') ctv) ⟨[u], []⟩ = pure [(p, u)])
    (hr : Room (k + 1) (X.A.deeper (envOfC qg sg s.heap.objs.size g cdg)))
    (hbody : ∀ (A : Around) (outer : List Env) (s : Shared) (H : Hp), Room k (A.deeper (lamEnv X scope s.heap.objs.size f c')) → PE (lamCxP X A outer s H (fun _ _ _ => False) scope f c' p) body tb)
    (hN : Ng[i]? = some a) (hv : Vis sg a) (hd : (a == ("__debug__" : Str)) = false) (hcd : (a == ("__classdict__" : Str)) = false)
    (ha : PA (cxOf CXg X.prog X.w X.K X.mg X.base Ng qg sg g cdg X.A X.stack s H Eg).nox [e] ta)
    (he : starEach [e] (envOfC qg sg s.heap.objs.size g cdg) = (false, eval e (envOfC qg sg s.heap.objs.size g cdg)) :: starEach [] (envOfC qg sg s.heap.objs.size g cdg)) :
    PE (cxOf CXg X.prog X.w X.K X.mg X.base Ng qg sg g cdg X.A X.stack s H Eg).nox (.Call (.Name a p1) [e] [] p2)
      (fun σZ HZ Q => σZ[i]? = some (some (.ref f)) ∧ ta σZ HZ fun vs H1 => ∃ v, vs = [v] ∧ H1 c' = some (CodeO c' (X.env.qual ++ "<lambda>")) ∧ tb (σ ++ [some v]) H1 Q) := by
  refine ⟨fun pinsZ sZ σZ HZ Q IZ h => ?_⟩
  obtain ⟨hs, ht⟩ := h
  refine wpAny_Call_Name_kw (thn ((pe_var (X := (cxOf CXg X.prog X.w X.K X.mg X.base Ng qg sg g cdg X.A X.stack s H Eg).nox) (pos := p1) (i := i) hN hv hd hcd).run pinsZ sZ σZ HZ (fun v H1 => v = .ref f ∧ H1 = HZ) IZ ⟨.ref f, hs, rfl, rfl⟩) fun u s1 ⟨v, H1, I1, r1, q1⟩ => ?_)
  obtain ⟨ev, eH⟩ := q1
  subst ev
  rw [eH] at I1
  obtain rfl : u = Value.ref f := r1
  have of1 : s1.heap.get? f = some (PySem.W.kla_obj "<lambda>" (X.env.qual ++ "<lambda>") params body scope (cloFrom X.env.cells scope.names []) pm c' ctv) := I1.base.keep f _ hf hfn hfr (fun z => nomatch (show f ∈ ([] : List Addr) from z))
  refine PySem.W.callWith_F (first := []) ⟨_, _, _, _, of1⟩ (thn (ha.run p2 pinsZ s1 σZ HZ _ I1 ht) fun us s2 ⟨vs, H2, I2, r2, v, ev, hc, ht2⟩ => ?_) he rfl
  subst ev
  have of2 : s2.heap.get? f = some (PySem.W.kla_obj "<lambda>" (X.env.qual ++ "<lambda>") params body scope (cloFrom X.env.cells scope.names []) pm c' ctv) := I2.base.keep f _ hf hfn hfr (fun z => nomatch (show f ∈ ([] : List Addr) from z))
  refine ⟨⟨_, _, _, _, of2⟩, ?_⟩
  obtain ⟨u, rfl, rv⟩ := vals1 r2
  show wpAny _ _ (call (.ref f) [u]) _ _ _
  have un : Un (frs X.stack) [] H H2 s.heap s2.heap := I2.base
  obtain ⟨⟨oc, vs, t, hoc, hdc, hvc⟩, _, _⟩ := I2.hok c' _ hc
  have rc : codeAny (model X.prog X.w) (X.A.deeper (envOfC qg sg s.heap.objs.size g cdg)) (.call (.ref f) ⟨[u], []⟩) (CR (L2.CX X.prog X.w) (envOfC qg sg s.heap.objs.size g cdg :: X.stack) X.prog X.w H2 s2 Q (fun _ _ _ => False)) s2 := by
    refine PySem.W.kla_callFunE hr.depth of2 rfl L.co L.gen rfl ⟨c', oc, vs, t, rfl, hoc, hdc, hvc⟩ ?_
    rw [hbind]
    refine wpAny_pure (wpAny_newFunctionEnv (fun y hy => (L.own y hy).2) (fun y hy => by rw [List.mem_singleton.mp hy]; exact L.par) (fun h₁ hns hsb => ⟨I2.nolimit.fresh _ hsb, ?_⟩) L.kind)
    show codeAny _ _ (.expr body (lamEnv X scope s2.heap.objs.size f c')) _ _
    have kp : ∀ b o, s2.heap.get? b = some o → h₁.get? b = some o := fun b o e => hsb.extBut b o (Nat.ne_of_lt (Heap.lt_size e)) (Heap.get?_push_of_some _ e)
    have J : Inv (lamCxP X (X.A.deeper (envOfC qg sg s.heap.objs.size g cdg)) (envOfC qg sg s.heap.objs.size g cdg :: X.stack) s2 H2 (fun _ _ _ => False) scope f c' p) [] (σ ++ [some v]) H2 { s2 with heap := h₁, toks := s2.toks + ([(p, u)] : List (Str × Value)).length } :=
      lam_startP I L hp I2.env0 hr.hd un hns rv kp
    refine PySem.W.kla_codeExpr (wpAny_mono ((hbody _ _ s2 H2 (hr.deeper _)).run [] _ _ H2 Q J ht2) (fun v s' hq => ?_) fun e s' hq => hq)
    obtain ⟨w', H', J', rv, q⟩ := hq
    exact ⟨w', H', J'.os, J'.bare, J'.base, J'.hok, rv, q⟩
  refine wpAny_call (codeAny_mono rc fun r s' hq => ?_)
  cases r with
  | error e => obtain ⟨_, _, _, _, _, _, _, _, _, _, _, _, z⟩ := hq; exact z.elim
  | ok fl =>
    cases fl with
    | ret u => exact I2.after hq
    | next => exact False.elim hq
    | brk => exact False.elim hq
    | cont => exact False.elim hq
end
/-- the def that calls what it got at its i-th place (of three): TT: what it makes of the lambda's reading -/
def GivesP (X : Cx) (Ng : List Str) (x : Str) (sg : Scope) (g : Addr) (cdg : Value) (bg : List Stmt) (a : Str) (q : Str) (TT : (V → Hp → VK → Prop) → V → V → Hp → VK → Prop) : Prop :=
  ∀ (f c' : Addr) (s : Shared) (H : Hp) (v1 v3 : V) (Q : VK) (tl : V → Hp → VK → Prop),
    (∀ (e : Expr) (ta : TA) (p1 p2 : Pos), PA (cxOf C8.CX0 X.prog X.w X.K X.mg X.base Ng x sg g cdg X.A X.stack s H C8.E0).nox [e] ta →
      starEach [e] (envOfC x sg s.heap.objs.size g cdg) = (false, eval e (envOfC x sg s.heap.objs.size g cdg)) :: starEach [] (envOfC x sg s.heap.objs.size g cdg) →
      PE (cxOf C8.CX0 X.prog X.w X.K X.mg X.base Ng x sg g cdg X.A X.stack s H C8.E0).nox (.Call (.Name a p1) [e] [] p2) (fun σZ HZ Q => σZ[1]? = some (some (.ref f)) ∧ ta σZ HZ fun vs H1 => ∃ v, vs = [v] ∧ H1 c' = some (CodeO c' q) ∧ tl v H1 Q)) →
    H c' = some (CodeO c' q) → Room 8 (X.A.deeper (envOfC x sg s.heap.objs.size g cdg)) → TT tl v1 v3 H Q →
    ∃ t, PSs (cxOf C8.CX0 X.prog X.w X.K X.mg X.base Ng x sg g cdg X.A X.stack s H C8.E0).nox bg t ∧ t { nx := fun _ H' => Q .non H', rt := Q } (L2.start Ng [v1, .ref f, v3]) H
def tLam3 (T : List (Addr × Str)) (q : Str) (TT : (V → Hp → VK → Prop) → V → V → Hp → VK → Prop) (t1 t3 t : TE) : TE := fun σ H Q => t1 σ H fun v1 H1 => Tabs T H1 ∧ ∀ H2 c', ExtN H1 H2 → Tabs T H2 → H2 c' = some (CodeO c' q) →
  t3 σ H2 fun v3 H3 => H3 c' = some (CodeO c' q) ∧ TT (fun v H' Q' => t (σ ++ [some v]) H' Q') v1 v3 H3 Q
section
variable {X : Cx}
/-- x(e1, lambda p: body, e3) -/
theorem pe_lamcall3 {T : List (Addr × Str)} {TT : (V → Hp → VK → Prop) → V → V → Hp → VK → Prop} {x a p0 : Str} {g c P : Addr} {pg : Arguments} {bg : List Stmt} {sg : Scope} {dV kV doc pm cdv ct oc : Value} {an od : Option Addr} {osl : Array (Option Value)} {Ng ps : List Str}
    {params : Arguments} {body e1 e3 : Expr} {scope : Scope} {t1 t3 t : TE} {p lpos pos : Pos} (hg : Gl X x) (hm : X.mg x = some (.ref g)) (hk : PySem.W.keepIn X.K (.ref g) = true)
    (lk : X.K.lookup g = some ⟨oc, od, .func (PySem.W.fnOf x x pg bg sg dV kV doc pm an cdv ct), osl⟩) (hcg : PySem.W.codeIn X.K cdv x = true) (hb : L2.Binds X.K (PySem.W.fnOf x x pg bg sg dV kV doc pm an cdv ct) ps []) (Sg : FnScope Ng ps sg) (hps : ps.length = 3) (hNg : Ng[1]? = some a) (hva : Vis sg a)
    (hG : GivesP X Ng x sg g cdv bg a (X.env.qual ++ "<lambda>") TT)
    (TB : TabB X.base X.mg c P) (hcode : X.env.code = .ref c) (hmT : (P, X.env.qual ++ "<lambda>") ∈ T) (hu : ∀ p ∈ T, p.1 = P → p.2 = X.env.qual ++ "<lambda>") (hr : Room 9 X.A) (L : LamP X.env.scope scope p0) (hp0 : p0 ∉ X.N) (hdef : defaultsOf params X.env = ([], []))
    (hbind : ∀ (q : Str) (cl : List (Str × Addr)) (pm cv ctv u : Value), bindArgs (PySem.W.kla_fn "<lambda>" q params body scope cl pm cv ctv) ⟨[u], []⟩ = pure [(p0, u)])
    (h1 : PE X e1 t1) (h3 : PE X e3 t3)
    (hbody : ∀ (A : Around) (outer : List Env) (s : Shared) (H : Hp) (f c' : Addr), Room 7 (A.deeper (lamEnv X scope s.heap.objs.size f c')) → PE (lamCxP X A outer s H (fun _ _ _ => False) scope f c' p0) body t)
    (he1 : starEach [e1, .Lambda params body scope lpos, e3] X.env = (false, eval e1 X.env) :: starEach [.Lambda params body scope lpos, e3] X.env := by rfl) (he2 : starEach [.Lambda params body scope lpos, e3] X.env = (false, eval (.Lambda params body scope lpos) X.env) :: starEach [e3] X.env := by rfl)
    (he3 : starEach [e3] X.env = (false, eval e3 X.env) :: starEach [] X.env := by rfl) (hpl : (backTo pos (starEach [.Lambda params body scope lpos, e3] X.env)).any (·.1) = false := by rfl)
    (hdb : (x == ("__debug__" : Str)) = false := by decide) (hd : (a == ("__debug__" : Str)) = false := by decide) (hcd : (a == ("__classdict__" : Str)) = false := by decide) :
    PE X (.Call (.Name x p) [e1, .Lambda params body scope lpos, e3] [] pos) (tLam3 T (X.env.qual ++ "<lambda>") TT t1 t3 t) := by
  refine ⟨fun pins s σ H Q I h => ?_⟩
  refine wpAny_Call_Name_kw (ld_glob I hg hm ?_ hdb)
  refine PySem.W.callWith_K (h₀ := X.base) I.ok.mod.kin hk ?_ he1 hpl
  rw [he1]
  show wpAny _ _ (spliced ((false, eval e1 X.env) :: backTo pos (starEach [.Lambda params body scope lpos, e3] X.env))) _ _ s
  rw [he2]
  show wpAny _ _ (spliced ((false, eval e1 X.env) :: (false, eval (.Lambda params body scope lpos) X.env) :: backTo pos (starEach [e3] X.env))) _ _ s
  rw [he3]
  show wpAny _ _ (spliced ((false, eval e1 X.env) :: (false, eval (.Lambda params body scope lpos) X.env) :: (false, eval e3 X.env) :: backTo pos (starEach [] X.env))) _ _ s
  refine Calls.spliced_cons (thn (h1.run pins s σ H _ I h) fun u1 s1 ⟨v1, H1, I1, r1, hT, h⟩ => ?_)
  refine Calls.spliced_cons (lam_make2 I1 TB hcode hmT hu hT hdef (L.has I1.ok) fun f c' pm' ctv H2 s2 I2 eN T2 hf hfn hfr hco => ?_)
  have nl : f ≠ X.env.locals := by
    rintro rfl
    obtain ⟨m, hn, _⟩ := I2.loc
    obtain ⟨o, es, ep, ho, hc, hd, _⟩ := hn
    rw [hf] at ho
    cases ho
    cases hc
  have nfs : f ∉ X.fs := by
    rcases I2.ok.stk with e | ⟨e, _⟩
    · rw [e] at hfr; exact hfr
    · rw [e] at hfr; exact fun z => hfr (List.mem_filterMap.mpr (let ⟨e, he, q⟩ := List.mem_filterMap.mp z; ⟨e, .tail _ he, q⟩))
  generalize ho : PySem.W.kla_obj "<lambda>" (X.env.qual ++ "<lambda>") params body scope (cloFrom X.env.cells scope.names []) pm' c' ctv = ob at hf
  have nd : ∀ v, ob.data ≠ .cell v := fun v z => by rw [← ho] at z; cases z
  have pin2 : ∀ q ∈ X.pn ++ (f, ob) :: pins, s2.heap.get? q.1 = some q.2 ∧ H2 q.1 = none ∧ q.1 ≠ X.env.locals ∧ q.1 ∉ X.fs ∧ ∀ v, q.2.data ≠ .cell v := fun q hq => by
    rcases List.mem_append.mp hq with h | h
    · exact I2.pin q (List.mem_append.mpr (.inl h))
    · rcases List.mem_cons.mp h with rfl | h
      · exact ⟨hf, hfn, nl, nfs, nd⟩
      · exact I2.pin q (List.mem_append.mpr (.inr h))
  have I2p : Inv X ((f, ob) :: pins) σ H2 s2 := { I2 with pin := pin2 }
  refine Calls.spliced_cons (thn (h3.run ((f, ob) :: pins) s2 σ H2 _ I2p (h H2 c' eN T2 hco)) fun u3 s3 ⟨v3, H3, I3p, r3, hco3, h⟩ => ?_)
  have pin3 : ∀ q ∈ X.pn ++ pins, s3.heap.get? q.1 = some q.2 ∧ H3 q.1 = none ∧ q.1 ≠ X.env.locals ∧ q.1 ∉ X.fs ∧ ∀ v, q.2.data ≠ .cell v := fun q hq => by
    rcases List.mem_append.mp hq with h | h
    · exact I3p.pin q (List.mem_append.mpr (.inl h))
    · exact I3p.pin q (List.mem_append.mpr (.inr (.tail _ h)))
  have I3 : Inv X pins σ H3 s3 := { I3p with pin := pin3 }
  obtain ⟨hf3, hfn3, _⟩ := I3p.pin (f, ob) (List.mem_append.mpr (.inr (.head _)))
  subst ho
  refine Calls.spliced_nil ⟨I3.kIn, ?_⟩
  have rc : codeAny (model X.prog X.w) X.A (.call (.ref g) ⟨[u1, .ref f, u3], []⟩) (CR C8.CX0 X.stack X.prog X.w H3 s3 Q C8.E0) s3 := by
    refine run_ofS (N := Ng) (ps := ps) (us := [u1, .ref f, u3]) (vs := [v1, .ref f, v3]) lk hcg Sg hr I3.env0 (hb s3 [u1, .ref f, u3] I3.kIn (by simp [hps])) (.cons r1 (.cons rfl (.cons r3 .nil))) (by simp [hps]) fun hr' => ?_
    obtain ⟨t', ht', hq'⟩ := hG f c' s3 H3 v1 v3 Q (fun v H' Q' => t (σ ++ [some v]) H' Q') (fun e ta p1 p2 ha he => pe_actP I3 L hp0 hf3 hfn3 hfr (fun u => hbind _ _ _ _ _ u) hr' (fun A outer s H hr2 => hbody A outer s H f c' hr2) hNg hva hd hcd ha he) hco3 hr' h
    exact ⟨t', ht'.nox, hq'⟩
  refine wpAny_call (codeAny_mono rc fun r s4 hq => ?_)
  cases r with
  | error e => exact (show False from hq).elim
  | ok fl =>
    cases fl with
    | ret u => exact I3.after hq
    | next => exact False.elim hq
    | brk => exact False.elim hq
    | cont => exact False.elim hq
end
end LamX
namespace Iz
open PySem PySem.Spec PyProof.Rows L2 LamX
/-- told(e1, lambda p: body, e3), told a def of the text -/
theorem plam3 {X : Cx} {TS : List (Addr × Str)} {x a p0 : Str} {st : Stmt} {N ps : List Str} {TT : (V → Hp → VK → Prop) → V → V → Hp → VK → Prop} {c P : Addr} {qn : Str} {params : Arguments} {body e1 e3 : Expr} {scope : Scope} {t1 t3 t : TE} {p lpos pos : Pos}
    (F : ∃ (f : Addr) (fd : FuncData), X.mg x = some (.ref f) ∧ Fun X.K x x st f fd) (S : FnScope N ps (defScope st))
    (hb : ∀ (kV doc pm : Value) (an : Option Addr) (cdv ct : Value) (us : List Value), us.length = ps.length → bindArgs (PySem.W.fnOf x x (defArgs st) (defBody st) (defScope st) .none kV doc pm an cdv ct) ⟨us, []⟩ = pure (ps.zip us))
    (hG : ∀ (g : Addr) (cdg : Value), GivesP X N x (defScope st) g cdg (defBody st) a qn TT)
    (hm : (P, qn) ∈ TS) (hu : ∀ q ∈ TS, q.1 = P → q.2 = qn) (TB : TabB X.base X.mg c P) (hcode : X.env.code = .ref c) (hq : X.env.qual ++ "<lambda>" = qn) (hr : Room 9 X.A) (L : lamPB X.env.scope scope p0 = true) (hp0 : p0 ∉ X.N)
    (h1 : PE X e1 t1) (h3 : PE X e3 t3)
    (hbody : ∀ (A : Around) (outer : List Env) (s : Shared) (H : Hp) (f c' : Addr), Room 7 (A.deeper (lamEnv X scope s.heap.objs.size f c')) → PE (lamCxP X A outer s H (fun _ _ _ => False) scope f c' p0) body t)
    (hps : ps.length = 3 := by rfl) (hdef : defaultsOf params X.env = ([], []) := by rfl) (hg : Gl X x := by rfl) (hv : Vis (defScope st) a := by first | exact Or.inl rfl | exact Or.inr (Or.inl rfl)) (hNa : N[1]? = some a := by rfl)
    (hbind : ∀ (q : Str) (cl : List (Str × Addr)) (pm cv ctv u : Value), bindArgs (PySem.W.kla_fn "<lambda>" q params body scope cl pm cv ctv) ⟨[u], []⟩ = pure [(p0, u)] := by intros; rfl)
    (he1 : starEach [e1, .Lambda params body scope lpos, e3] X.env = (false, eval e1 X.env) :: starEach [.Lambda params body scope lpos, e3] X.env := by rfl) (he2 : starEach [.Lambda params body scope lpos, e3] X.env = (false, eval (.Lambda params body scope lpos) X.env) :: starEach [e3] X.env := by rfl)
    (he3 : starEach [e3] X.env = (false, eval e3 X.env) :: starEach [] X.env := by rfl) (hpl : (backTo pos (starEach [.Lambda params body scope lpos, e3] X.env)).any (·.1) = false := by rfl)
    (hdb : (x == ("__debug__" : Str)) = false := by decide) (hd : (a == ("__debug__" : Str)) = false := by decide) (hcd : (a == ("__classdict__" : Str)) = false := by decide) :
    PE X (.Call (.Name x p) [e1, .Lambda params body scope lpos, e3] [] pos) (tLam3 TS qn TT t1 t3 t) := by
  subst hq
  obtain ⟨g, fd, hmg, F⟩ := F
  obtain ⟨oc, od, kV, doc, pm, an, cdv, ct, osl, rfl, lk, hcg⟩ := F.ex
  exact pe_lamcall3 hg hmg F.kp lk hcg (.all (hb kV doc pm an cdv ct)) S hps hNa hv (hG g cdv) TB hcode hm hu hr (lamP_by L) hp0 hdef hbind h1 h3 hbody he1 he2 he3 hpl hdb hd hcd
def rSlTN : V → Option Int → Option Int → Hp → VK → Prop := fun x lo hi H Q => ∃ a xs, x = .ref a ∧ H a = some (.tup xs) ∧ ¬ (HT.sIx xs.length 0 lo = 0 ∧ HT.sIx xs.length xs.length hi = xs.length) ∧ News H (.tup (cutV xs lo hi)) Q
theorem sl_tupN {X : Cx} : SlR X rSlTN := fun pins s σ H x v vl vu lo hi sl Q I rx hs pl pu ⟨a, xs, e, h, w, n⟩ => sl_tup pins s σ H x v vl vu lo hi sl Q I rx hs pl pu ⟨a, xs, e, SqT.of h, w, n.all⟩
def rCatTN : R2 := fun x y H Q => ∃ a b xs ys, x = .ref a ∧ y = .ref b ∧ H a = some (.tup xs) ∧ H b = some (.tup ys) ∧ xs ≠ [] ∧ ys ≠ [] ∧ xs.length + ys.length ≤ sizeLine ∧ News H (.tup (xs ++ ys)) Q
theorem op_catTN {X : Cx} : OpR X (binaryOp .Add) rCatTN := fun pins s σ H x y v u Q I rx ry ⟨a, b, xs, ys, e1, e2, ha, hb, hx, hy, hz, n⟩ => op_catT pins s σ H x y v u Q I rx ry ⟨a, b, xs, ys, e1, e2, SqT.of ha, SqT.of hb, hx, hz, fun e => absurd e hy, fun _ => n.all⟩
theorem st_lcT {K : PySem.W.Frag} {tl : TE} {g : TG} {tt : TT} {te : TE} {vs : List Nat} {σ : L2.St} {H : Hp} {Q : VK} {a : Addr} {xs : List V} (ha : ∀ R : V → Hp → Prop, R (.ref a) H → tl σ H R) (hx : H a = some (.tup xs)) (Pv : Addr → Nat → Hp → Prop)
    (h0 : ∀ D H1, H D = none → Same H H1 → H1 D = some (.lst []) → Pv D 0 H1) (hl : ∀ D i H, Pv D i H → H a = some (.tup xs))
    (hs : ∀ D i x H, xs[i]? = some x → Pv D i H → g x (wipe σ vs) H fun σ2 H2 => wipe σ2 vs = wipe σ vs ∧ tt σ2 H2 fun b H3 => if b = true then te σ2 H3 fun y H4 => ∃ acc, H4 D = some (.lst acc) ∧ acc.length < sizeLine ∧ Pv D (i + 1) (upd H4 D (.lst (acc ++ [y]))) else Pv D (i + 1) H3)
    (hd : ∀ D H, Pv D xs.length H → Q (.ref D) H) : tLc (iTup K tl) g tt te vs σ H Q :=
  ha _ ⟨a, rfl, ⟨xs, SqT.of hx⟩, fun D hD => lc_tup (Pv D) (h0 D _ hD (Same.upd hD) upd_same) (fun i H _ p => SqT.of (hl D i H p)) (hs D) (hd D)⟩
theorem passLamP {X : Cx} {A : Around} {outer : List Env} {s : Shared} {H : Hp} {scope : Scope} {f c : Addr} {p : Str} : Passes CX0 (lamCxP X A outer s H (fun _ _ _ => False) scope f c p) E0 := pass0
end Iz
/-! Mx -/
namespace Iz
/-! ### how great a number is -/
def lg (x : Int) : Nat := if x = 0 then 0 else x.natAbs.log2 + 1
theorem lg_lt {x : Int} {n : Nat} (h : x.natAbs < 2 ^ n) : lg x ≤ n := by
  unfold lg
  split
  · omega
  · rename_i hx
    have := (Nat.log2_lt (n := x.natAbs) (k := n) (by omega)).mpr h
    omega
theorem lg_self (x : Int) : x.natAbs < 2 ^ lg x := by
  unfold lg
  split
  · rename_i h; subst h; decide
  · exact Nat.lt_log2_self
theorem lg_mono {x y : Int} (h : x.natAbs ≤ y.natAbs) : lg x ≤ lg y := lg_lt (Nat.lt_of_le_of_lt h (lg_self y))
theorem lg_half {x y : Int} (h : 2 * x.natAbs < y.natAbs) : lg x + 1 ≤ lg y := by
  have h1 := lg_self y
  have hy : 0 < lg y := by unfold lg; split <;> omega
  obtain ⟨n, hn⟩ : ∃ n, lg y = n + 1 := ⟨lg y - 1, by omega⟩
  rw [hn] at h1 ⊢
  have h2 : x.natAbs < 2 ^ n := by rw [Nat.pow_succ] at h1; omega
  have := lg_lt h2
  omega
def same (d r : Int) : Prop := (0 ≤ d ∧ 0 ≤ r) ∨ (d ≤ 0 ∧ r ≤ 0)
instance (d r : Int) : Decidable (same d r) := by unfold same; infer_instance
def bud (d r : Int) : Nat := if same d r then lg d + lg r + (if d.natAbs < r.natAbs then 1 else 0) else 2 * lg r + 1
/-- the rest of a division by floors -/
theorem rest_pos {d r : Int} (h : 0 < r) : 0 ≤ d - d.fdiv r * r ∧ d - d.fdiv r * r < r := by
  rw [Int.fdiv_eq_ediv_of_nonneg d (by omega)]
  have h1 := Int.emod_nonneg d (b := r) (by omega)
  have h2 := Int.emod_lt_of_pos d h
  have h3 := Int.emod_add_mul_ediv d r
  rw [Int.mul_comm] at h3
  omega
theorem rest_neg {d r : Int} (h : r < 0) : r < d - d.fdiv r * r ∧ d - d.fdiv r * r ≤ 0 := by
  have h1 := rest_pos (d := -d) (r := -r) (by omega)
  rw [Int.neg_fdiv_neg, Int.mul_neg] at h1
  omega
theorem fdiv_le (d r : Int) : (d.fdiv r).natAbs ≤ d.natAbs := by
  by_cases h : 0 ≤ r
  · rw [Int.fdiv_eq_ediv_of_nonneg d h]; exact Int.natAbs_ediv_le_natAbs _ _
  · rw [← Int.neg_fdiv_neg, Int.fdiv_eq_ediv_of_nonneg _ (by omega), ← Int.natAbs_neg d]; exact Int.natAbs_ediv_le_natAbs _ _
theorem fdiv_same {d r : Int} (hr : r ≠ 0) (hs : same d r) (hl : r.natAbs ≤ d.natAbs) : 2 * (d - d.fdiv r * r).natAbs < d.natAbs := by
  rcases Int.lt_or_gt_of_ne hr with h | h
  · have hd : d < 0 := by rcases hs with hs | hs <;> omega
    have h1 := rest_neg (d := d) h
    have ht : 1 ≤ d.fdiv r := by
      rw [← Int.neg_fdiv_neg, Int.fdiv_eq_ediv_of_nonneg _ (by omega)]
      exact (Int.le_ediv_iff_mul_le (by omega)).mpr (by omega)
    have h2 : d.fdiv r * r ≤ 1 * r := Int.mul_le_mul_of_nonpos_right ht (by omega)
    omega
  · have hd : 0 < d := by rcases hs with hs | hs <;> omega
    have h1 := rest_pos (d := d) h
    have ht : 1 ≤ d.fdiv r := by
      rw [Int.fdiv_eq_ediv_of_nonneg _ (by omega)]
      exact (Int.le_ediv_iff_mul_le (by omega)).mpr (by omega)
    have h2 : 1 * r ≤ d.fdiv r * r := Int.mul_le_mul_of_nonneg_right ht (by omega)
    omega
theorem fdiv_small {d r : Int} (hr : r ≠ 0) (hs : same d r) (hl : d.natAbs < r.natAbs) : d - d.fdiv r * r = d := by
  have : d.fdiv r = 0 := by
    rcases Int.lt_or_gt_of_ne hr with h | h
    · rw [← Int.neg_fdiv_neg, Int.fdiv_eq_ediv_of_nonneg _ (by omega)]
      exact Int.ediv_eq_zero_of_lt (by rcases hs with hs | hs <;> omega) (by rcases hs with hs | hs <;> omega)
    · rw [Int.fdiv_eq_ediv_of_nonneg _ (by omega)]
      exact Int.ediv_eq_zero_of_lt (by rcases hs with hs | hs <;> omega) (by rcases hs with hs | hs <;> omega)
  rw [this]; omega
theorem bud_step {d r : Int} (hr : r ≠ 0) : bud r (d - d.fdiv r * r) < bud d r := by
  have hlt : (d - d.fdiv r * r).natAbs < r.natAbs := by
    rcases Int.lt_or_gt_of_ne hr with h | h
    · have := rest_neg (d := d) h; omega
    · have := rest_pos (d := d) h; omega
  have hs' : same r (d - d.fdiv r * r) := by
    rcases Int.lt_or_gt_of_ne hr with h | h
    · have := rest_neg (d := d) h; exact .inr ⟨by omega, by omega⟩
    · have := rest_pos (d := d) h; exact .inl ⟨by omega, by omega⟩
  unfold bud
  rw [if_pos hs', if_neg (by omega)]
  by_cases hs : same d r
  · rw [if_pos hs]
    by_cases hl : d.natAbs < r.natAbs
    · rw [if_pos hl, fdiv_small hr hs hl]; omega
    · rw [if_neg hl]
      have := lg_half (fdiv_same hr hs (by omega))
      omega
  · rw [if_neg hs]
    have := lg_mono (x := d - d.fdiv r * r) (y := r) (by omega)
    omega
theorem bud_le {d r : Int} {n : Nat} (hd : d.natAbs < 2 ^ n) (hr : r.natAbs < 2 ^ n) : bud d r ≤ 2 * n + 1 := by
  have h1 := lg_lt hd
  have h2 := lg_lt hr
  unfold bud
  split
  · split <;> omega
  · omega
/-! ### the weighed divisor's loop -/
structure EI (one other d u v r nu nv : Int) (k : Nat) : Prop where
  e1 : u * one + v * other = d
  e2 : nu * one + nv * other = r
  g : Int.gcd d r = Int.gcd one other
  hd : d.natAbs < 2 ^ 250
  hr : r.natAbs < 2 ^ 250
  bu : u.natAbs ≤ 2 ^ (251 * k)
  bv : v.natAbs ≤ 2 ^ (251 * k)
  bnu : nu.natAbs ≤ 2 ^ (251 * k)
  bnv : nv.natAbs ≤ 2 ^ (251 * k)
  kb : k + bud d r ≤ 501
theorem EI.start {one other : Int} (h1 : one.natAbs < 2 ^ 250) (h2 : other.natAbs < 2 ^ 250) : EI one other one 1 0 other 0 1 0 :=
  ⟨by omega, by omega, rfl, h1, h2, by decide, by decide, by decide, by decide, by have := bud_le h1 h2; omega⟩
theorem grow {u t nu : Int} {k : Nat} (hu : u.natAbs ≤ 2 ^ (251 * k)) (hn : nu.natAbs ≤ 2 ^ (251 * k)) (ht : t.natAbs < 2 ^ 250) : (u - t * nu).natAbs ≤ 2 ^ (251 * (k + 1)) := by
  have h1 : (t * nu).natAbs ≤ 2 ^ 250 * 2 ^ (251 * k) := by rw [Int.natAbs_mul]; exact Nat.mul_le_mul (Nat.le_of_lt ht) hn
  have h2 : (u - t * nu).natAbs ≤ u.natAbs + (t * nu).natAbs := by omega
  have h3 : 2 ^ (251 * (k + 1)) = 2 * 2 ^ 250 * 2 ^ (251 * k) := by rw [Nat.mul_succ, Nat.pow_add, show (251 : Nat) = 250 + 1 from rfl, Nat.pow_succ]; rw [Nat.mul_comm, Nat.mul_comm (2 ^ 250) 2]
  have h4 : (1 : Nat) * 2 ^ (251 * k) ≤ 2 ^ 250 * 2 ^ (251 * k) := Nat.mul_le_mul_right _ (Nat.one_le_two_pow)
  rw [h3, Nat.mul_assoc]
  generalize 2 ^ 250 * 2 ^ (251 * k) = A at *
  omega
theorem EI.next {one other d u v r nu nv : Int} {k : Nat} (I : EI one other d u v r nu nv k) (h : r ≠ 0) :
    EI one other r nu nv (d - d.fdiv r * r) (u - d.fdiv r * nu) (v - d.fdiv r * nv) (k + 1) := by
  have ht : (d.fdiv r).natAbs < 2 ^ 250 := Nat.lt_of_le_of_lt (fdiv_le d r) I.hd
  have hm : ∀ {z : Int}, z.natAbs ≤ 2 ^ (251 * k) → z.natAbs ≤ 2 ^ (251 * (k + 1)) := fun hz => Nat.le_trans hz (Nat.pow_le_pow_right (by decide) (by omega))
  refine ⟨I.e2, ?_, ?_, I.hr, ?_, hm I.bnu, hm I.bnv, grow I.bu I.bnu ht, grow I.bv I.bnv ht, ?_⟩
  · generalize d.fdiv r = t
    rw [← I.e1, ← I.e2, Int.sub_mul, Int.sub_mul, Int.mul_add, Int.mul_assoc, Int.mul_assoc]; omega
  · rw [← I.g, Int.gcd_comm d r, Int.mul_comm]; exact Int.gcd_sub_mul_left_right _ _ _
  · refine Nat.lt_trans (?_ : _ < r.natAbs) I.hr
    rcases Int.lt_or_gt_of_ne h with h | h
    · have := rest_neg (d := d) h; omega
    · have := rest_pos (d := d) h; omega
  · have := bud_step (d := d) h
    have := I.kb
    omega
theorem EI.done {one other d u v nu nv : Int} {k : Nat} (I : EI one other d u v 0 nu nv k) : d.natAbs = Int.gcd one other ∧ u * one + v * other = d ∧ u.natAbs ≤ 2 ^ 130000 := by
  refine ⟨?_, I.e1, Nat.le_trans I.bu (Nat.pow_le_pow_right (by decide) (by have := I.kb; omega))⟩
  have := I.g
  rw [Int.gcd_zero_right] at this
  exact this
theorem EI.quo {one other d u v r nu nv : Int} {k : Nat} (I : EI one other d u v r nu nv k) : (d.fdiv r).natAbs < 2 ^ 250 := Nat.lt_of_le_of_lt (fdiv_le d r) I.hd
theorem EI.big {one other d u v r nu nv z : Int} {k : Nat} (I : EI one other d u v r nu nv k) (h : z.natAbs ≤ 2 ^ (251 * k)) : z.natAbs < 2 ^ 130000 := Nat.lt_of_le_of_lt h (Nat.pow_lt_pow_right (by decide) (by have := I.kb; omega))
end Iz
/-! My -/
namespace Iz
theorem gpos {b p : Int} (hp : 1 ≤ p) : 0 < (Int.gcd b p : Int) := by have := Int.gcd_pos_of_ne_zero_right b (show p ≠ 0 by omega); omega
theorem qpos {b p : Int} (hp : 1 ≤ p) : 0 < p / (Int.gcd b p : Int) := Int.ediv_pos_of_pos_of_dvd (by omega) (by omega) (Int.gcd_dvd_right b p)
theorem line_sol {a b r p u v : Int} (hp : 1 ≤ p) (h : u * b + v * p = (Int.gcd b p : Int)) (hd : (r - a) % (Int.gcd b p : Int) = 0) :
    (a + b * ((r - a) / (Int.gcd b p : Int) * u % (p / (Int.gcd b p : Int))) - r) % p = 0 := by
  have hg := gpos (b := b) hp
  have e1 : (Int.gcd b p : Int) * (p / (Int.gcd b p : Int)) = p := Int.mul_ediv_cancel' (Int.gcd_dvd_right b p)
  have e2 : (Int.gcd b p : Int) * (b / (Int.gcd b p : Int)) = b := Int.mul_ediv_cancel' (Int.gcd_dvd_left b p)
  have e3 : (Int.gcd b p : Int) * ((r - a) / (Int.gcd b p : Int)) = r - a := Int.mul_ediv_cancel' (Int.dvd_of_emod_eq_zero hd)
  generalize (Int.gcd b p : Int) = g at *
  generalize hq : p / g = q at *
  generalize hk : (r - a) / g = k at *
  generalize hb : b / g = b' at *
  have e4 := Int.emod_add_mul_ediv (k * u) q
  generalize k * u % q = s at *
  generalize k * u / q = m at *
  refine Int.emod_eq_zero_of_dvd ⟨-(k * v + b' * m), ?_⟩
  have e5 : s = k * u - q * m := by omega
  have e6 : b * s = b * (k * u) - b * (q * m) := by rw [e5, Int.mul_sub]
  have e7 : b * (q * m) = p * (b' * m) := by rw [← e1, ← e2, Int.mul_assoc g b', Int.mul_assoc g q]; congr 1; rw [← Int.mul_assoc, ← Int.mul_assoc, Int.mul_comm b' q, Int.mul_assoc]
  have e8 : b * (k * u) = k * (u * b) := by rw [Int.mul_comm b, Int.mul_assoc]
  have e9 : k * (u * b) = k * g - k * (v * p) := by rw [← Int.mul_sub]; congr 1; omega
  have e10 : k * (v * p) = p * (k * v) := by rw [← Int.mul_assoc, Int.mul_comm]
  have e11 : k * g = r - a := by rw [Int.mul_comm]; exact e3
  rw [Int.mul_neg, Int.mul_add]
  omega
theorem dvd_line {b p k : Int} (hp : 1 ≤ p) : p ∣ b * k ↔ p / (Int.gcd b p : Int) ∣ k := by
  have hg := gpos (b := b) hp
  have e1 : (Int.gcd b p : Int) * (p / (Int.gcd b p : Int)) = p := Int.mul_ediv_cancel' (Int.gcd_dvd_right b p)
  have e2 : (Int.gcd b p : Int) * (b / (Int.gcd b p : Int)) = b := Int.mul_ediv_cancel' (Int.gcd_dvd_left b p)
  have co := Int.gcd_ediv_gcd_ediv_gcd (i := b) (j := p) (by omega)
  generalize (Int.gcd b p : Int) = g at *
  generalize p / g = q at *
  generalize b / g = b' at *
  rw [← e1, ← e2, Int.mul_assoc, Int.mul_dvd_mul_iff_left (by omega)]
  constructor
  · intro h
    have h2 : q.natAbs ∣ b'.natAbs * k.natAbs := by rw [← Int.natAbs_mul]; exact Int.natAbs_dvd_natAbs.mpr h
    have h3 : Nat.Coprime q.natAbs b'.natAbs := by
      rw [Int.gcd_eq_natAbs_gcd_natAbs, Nat.gcd_comm] at co; exact co
    exact Int.natAbs_dvd_natAbs.mp (h3.dvd_of_dvd_mul_left h2)
  · exact fun h => Int.dvd_mul_of_dvd_right h
/-- of which i a + b i is r modulo p -/
theorem line_iff {a b r p s i : Int} (hp : 1 ≤ p) (h : (a + b * s - r) % p = 0) : (a + b * i - r) % p = 0 ↔ (i - s) % (p / (Int.gcd b p : Int)) = 0 := by
  have h1 := Int.dvd_of_emod_eq_zero h
  have e : a + b * i - r = (a + b * s - r) + b * (i - s) := by rw [Int.mul_sub]; omega
  rw [← Int.dvd_iff_emod_eq_zero, ← Int.dvd_iff_emod_eq_zero, e, ← dvd_line hp]
  exact Int.dvd_add_right h1
theorem gcd_small {b p : Int} {n : Nat} (hp : 1 ≤ p) (h : p.natAbs < 2 ^ n) : (Int.gcd b p : Int).natAbs < 2 ^ n := by
  have := Int.le_of_dvd (by omega) (Int.gcd_dvd_right b p)
  have := gpos (b := b) hp
  omega
theorem ediv_small {x g : Int} {n : Nat} (h : x.natAbs < 2 ^ n) : (x / g).natAbs < 2 ^ n := Nat.lt_of_le_of_lt (Int.natAbs_ediv_le_natAbs _ _) h
theorem pow_small {x m n : Nat} (h : x < 2 ^ m) (hm : m ≤ n) : x < 2 ^ n := Nat.lt_of_lt_of_le h (Nat.pow_le_pow_right (by decide) hm)
theorem mod_sub {a m n r : Int} (h : n ∣ m) (hr : n ∣ a - r) : (a % m - r) % n = 0 := by
  refine Int.emod_eq_zero_of_dvd ?_
  have h1 : n ∣ a - a % m := Int.dvd_trans h Int.dvd_self_sub_emod
  have e : a % m - r = (a - r) - (a - a % m) := by omega
  rw [e]; exact Int.dvd_sub hr h1
theorem both_sol {r p o q s : Int} (hq : 1 ≤ q) (h : (r + p * s - o) % q = 0) :
    ((r + p * s) % (p * (q / (Int.gcd p q : Int))) - r) % p = 0 ∧ ((r + p * s) % (p * (q / (Int.gcd p q : Int))) - o) % q = 0 := by
  refine ⟨mod_sub (Int.dvd_mul_right _ _) (by rw [show r + p * s - r = p * s by omega]; exact Int.dvd_mul_right _ _), mod_sub ?_ (Int.dvd_of_emod_eq_zero h)⟩
  have e1 : (Int.gcd p q : Int) * (q / (Int.gcd p q : Int)) = q := Int.mul_ediv_cancel' (Int.gcd_dvd_right p q)
  obtain ⟨c, hc⟩ := Int.gcd_dvd_left p q
  refine ⟨c, ?_⟩
  have : p * (q / (Int.gcd p q : Int)) = (Int.gcd p q : Int) * (q / (Int.gcd p q : Int)) * c := by
    conv => lhs; rw [hc]
    rw [Int.mul_assoc, Int.mul_assoc, Int.mul_comm c]
    congr 2
    rw [← hc]
  rw [this, e1]
/-! ### Euclid's steps -/
theorem bud_mod {d r : Int} (h : 0 < r) : bud r (d % r) < bud d r := by
  have := bud_step (d := d) (r := r) (by omega)
  rw [Int.fdiv_eq_ediv_of_nonneg d (by omega)] at this
  have e := Int.emod_def d r
  rw [Int.mul_comm] at e
  rw [e]; exact this
theorem mod_swap {a b g : Int} : (a - b) % g = 0 ↔ (b - a) % g = 0 := by
  rw [← Int.dvd_iff_emod_eq_zero, ← Int.dvd_iff_emod_eq_zero, ← Int.dvd_neg]
  rw [show -(a - b) = b - a by omega]
theorem mul_div_gcd {p q : Int} : p * (q / (Int.gcd p q : Int)) = p / (Int.gcd p q : Int) * q := by
  rw [← Int.mul_ediv_assoc _ (Int.gcd_dvd_right p q), Int.mul_comm p q, Int.mul_ediv_assoc _ (Int.gcd_dvd_left p q), Int.mul_comm]
theorem lcm_abs {x y : Int} : (x.natAbs : Int) / (Int.gcd (x.natAbs : Int) (y.natAbs : Int) : Int) * (y.natAbs : Int) = ((x * y).natAbs : Int) / (Int.gcd x y : Int) := by
  have e : Int.gcd (x.natAbs : Int) (y.natAbs : Int) = Int.gcd x y := by rw [Int.gcd_eq_natAbs_gcd_natAbs, Int.gcd_eq_natAbs_gcd_natAbs]; rfl
  have d : (Int.gcd x y : Int) ∣ (y.natAbs : Int) := Int.dvd_natAbs.mpr (Int.gcd_dvd_right x y)
  have d2 : (Int.gcd x y : Int) ∣ (x.natAbs : Int) := Int.dvd_natAbs.mpr (Int.gcd_dvd_left x y)
  rw [e, Int.natAbs_mul, Int.natCast_mul, Int.mul_comm (x.natAbs : Int) (y.natAbs : Int), Int.mul_ediv_assoc _ d2, Int.mul_comm]
end Iz
/-! k06_text -/
set_option Elab.async false
set_option linter.all false
set_option maxRecDepth 100000
set_option maxHeartbeats 4000000
namespace Iz
open PySem PySem.Spec PyProof.Rows L2
open He (ga)
local macro_rules | `(tactic| walk_at "wp") => `(tactic| simp only [tYes, calmS, rTupN, rIsB, LamX.tLam3, tSl, tPart, tNoPart, rSlTN, cx_K, Value.ref.injEq, HO.xd.injEq, lk0, tSeq, tPar3, tPar, tCons, tNil, tVar, tC, tAsg, gName, gCons, gNil, gTupN, gSub, tOp, rI, rI0, rU, tTest, rNe, rEq, rIxTN, rIxLN, rLenL, rLenT, rIntI, rIntB, rAbs, rSetLN, tTruL, tRaiseX, rIsTy, rIsOw, ixN0, ixN1, tRet, tIf, tIfS, tNext, tBreak, tCont, tDrop, tTupN, tLstN, tUn, tCB, tCall, tNot, tAnd, tOr, tB, tAndV, tOrV, tNotV, tChain, tApp, LamX.tLam, tRevLN, rCatN, rInTN, rInLN, flatV, inV, List.all_cons, List.all_nil, List.any_cons, List.any_nil, Bool.and_self, Bool.and_true, if_true, Bool.false_eq_true, if_false, tMt, tFldN, tSto, HO.ins.injEq, lkh, List.drop_zero, List.drop_succ_cons, List.drop_nil, rListS, wipe, L2.start, List.map_cons, List.map_nil, List.length_cons, List.length_nil, List.replicate, List.cons_append, List.nil_append, List.append_nil, Nat.reduceAdd, Nat.reduceSub, Nat.zero_add, List.replicate_succ, List.replicate_zero, List.getElem?_cons_zero, List.getElem?_cons_succ, List.set_cons_zero, List.set_cons_succ, Option.some.injEq, V.int.injEq, V.bl.injEq, V.ref.injEq, V.str.injEq, V.ty.injEq, List.cons.injEq, HO.tup.injEq, HO.lst.injEq, and_true, true_and, and_assoc, exists_eq_left, exists_eq_left', exists_and_left, exists_eq', atI0, atI1, atI2, atI3, Int.cast_ofNat_Int, Int.reduceToNat, scal_ii, scal_in, scal_ni, scal_nn, scal_bb, scal_ss, scal_sn, scal_ns, scal_bn, scal_nb, ite_iff, decide_eq_true_eq, decide_eq_false_iff_not, Bool.not_eq_true', Classical.not_not, ne_eq, not_false_eq_true, not_true_eq_false, forall_const, true_implies, false_implies, imp_self, sizeLine_eq, Nat.reduceLeDiff, reduceCtorEq, decide_true, decide_false])
def top (i : Nat) : Stmt := PySem.Challenge.pw_endlessplane_k06_lines_in_stretches_and.main.body.getD i (.Pass ⟨0, 0, 0, 0⟩)
abbrev s_is_whole : Stmt := top 6
abbrev N_is_whole : List Str := ["value"]
theorem sc_is_whole : FnScope ["value"] ["value"] (defScope s_is_whole) := ⟨rfl, rfl, rfl, by decide +kernel, rfl, by decide +kernel, by decide +kernel⟩
abbrev s_is_from : Stmt := top 7
abbrev N_is_from : List Str := ["value", "least"]
theorem sc_is_from : FnScope ["value", "least"] ["value", "least"] (defScope s_is_from) := ⟨rfl, rfl, rfl, by decide +kernel, rfl, by decide +kernel, by decide +kernel⟩
abbrev s_is_pair : Stmt := top 8
abbrev N_is_pair : List Str := ["value"]
theorem sc_is_pair : FnScope ["value"] ["value"] (defScope s_is_pair) := ⟨rfl, rfl, rfl, by decide +kernel, rfl, by decide +kernel, by decide +kernel⟩
abbrev s_is_span : Stmt := top 9
abbrev N_is_span : List Str := ["low", "high"]
theorem sc_is_span : FnScope ["low", "high"] ["low", "high"] (defScope s_is_span) := ⟨rfl, rfl, rfl, by decide +kernel, rfl, by decide +kernel, by decide +kernel⟩
abbrev s_is_box : Stmt := top 10
abbrev N_is_box : List Str := ["value"]
theorem sc_is_box : FnScope ["value"] ["value"] (defScope s_is_box) := ⟨rfl, rfl, rfl, by decide +kernel, rfl, by decide +kernel, by decide +kernel⟩
abbrev s_require_whole : Stmt := top 11
abbrev N_require_whole : List Str := ["value"]
theorem sc_require_whole : FnScope ["value"] ["value"] (defScope s_require_whole) := ⟨rfl, rfl, rfl, by decide +kernel, rfl, by decide +kernel, by decide +kernel⟩
abbrev s_require_from : Stmt := top 12
abbrev N_require_from : List Str := ["value", "least"]
theorem sc_require_from : FnScope ["value", "least"] ["value", "least"] (defScope s_require_from) := ⟨rfl, rfl, rfl, by decide +kernel, rfl, by decide +kernel, by decide +kernel⟩
abbrev s_require_pair : Stmt := top 13
abbrev N_require_pair : List Str := ["value", "part"]
theorem sc_require_pair : FnScope ["value", "part"] ["value", "part"] (defScope s_require_pair) := ⟨rfl, rfl, rfl, by decide +kernel, rfl, by decide +kernel, by decide +kernel⟩
abbrev s_Stretch___init__ : Stmt := inClass (top 15) 0
abbrev N_Stretch___init__ : List Str := ["self", "low", "high"]
theorem sc_Stretch___init__ : FnScope ["self", "low", "high"] ["self", "low", "high"] (defScope s_Stretch___init__) := ⟨rfl, rfl, rfl, by decide +kernel, rfl, by decide +kernel, by decide +kernel⟩
abbrev s_Stretch_holds : Stmt := inClass (top 15) 3
abbrev N_Stretch_holds : List Str := ["self", "number"]
theorem sc_Stretch_holds : FnScope ["self", "number"] ["self", "number"] (defScope s_Stretch_holds) := ⟨rfl, rfl, rfl, by decide +kernel, rfl, by decide +kernel, by decide +kernel⟩
abbrev s_Stretch_turned : Stmt := inClass (top 15) 5
abbrev N_Stretch_turned : List Str := ["self", "low", "high"]
theorem sc_Stretch_turned : FnScope ["self", "low", "high"] ["self"] (defScope s_Stretch_turned) := ⟨rfl, rfl, rfl, by decide +kernel, rfl, by decide +kernel, by decide +kernel⟩
abbrev s_Stretch_common : Stmt := inClass (top 15) 6
abbrev N_Stretch_common : List Str := ["self", "other", "low", "high"]
theorem sc_Stretch_common : FnScope ["self", "other", "low", "high"] ["self", "other"] (defScope s_Stretch_common) := ⟨rfl, rfl, rfl, by decide +kernel, rfl, by decide +kernel, by decide +kernel⟩
abbrev s__greater_low : Stmt := top 17
abbrev N__greater_low : List Str := ["one", "other"]
theorem sc__greater_low : FnScope ["one", "other"] ["one", "other"] (defScope s__greater_low) := ⟨rfl, rfl, rfl, by decide +kernel, rfl, by decide +kernel, by decide +kernel⟩
abbrev s__lesser_high : Stmt := top 18
abbrev N__lesser_high : List Str := ["one", "other"]
theorem sc__lesser_high : FnScope ["one", "other"] ["one", "other"] (defScope s__lesser_high) := ⟨rfl, rfl, rfl, by decide +kernel, rfl, by decide +kernel, by decide +kernel⟩
abbrev s_in_stretch : Stmt := top 20
abbrev N_in_stretch : List Str := ["a", "b", "stretch", "turned", "low", "high"]
theorem sc_in_stretch : FnScope ["a", "b", "stretch", "turned", "low", "high"] ["a", "b", "stretch"] (defScope s_in_stretch) := ⟨rfl, rfl, rfl, by decide +kernel, rfl, by decide +kernel, by decide +kernel⟩
abbrev s_in_box : Stmt := top 21
abbrev N_in_box : List Str := ["cell", "step", "box", "x0", "x1", "y0", "y1"]
theorem sc_in_box : FnScope ["cell", "step", "box", "x0", "x1", "y0", "y1"] ["cell", "step", "box"] (defScope s_in_box) := ⟨rfl, rfl, rfl, by decide +kernel, rfl, by decide +kernel, by decide +kernel⟩
abbrev s_on_number : Stmt := top 22
abbrev N_on_number : List Str := ["a", "b", "number"]
theorem sc_on_number : FnScope ["a", "b", "number"] ["a", "b", "number"] (defScope s_on_number) := ⟨rfl, rfl, rfl, by decide +kernel, rfl, by decide +kernel, by decide +kernel⟩
abbrev s_on_cell : Stmt := top 23
abbrev N_on_cell : List Str := ["cell", "step", "goal", "x", "y"]
theorem sc_on_cell : FnScope ["cell", "step", "goal", "x", "y"] ["cell", "step", "goal"] (defScope s_on_cell) := ⟨rfl, rfl, rfl, by decide +kernel, rfl, by decide +kernel, by decide +kernel⟩
abbrev s__in_both : Stmt := top 24
abbrev N__in_both : List Str := ["cell", "step", "columns", "rows", "across", "along"]
theorem sc__in_both : FnScope ["cell", "step", "columns", "rows", "across", "along"] ["cell", "step", "columns", "rows"] (defScope s__in_both) := ⟨rfl, rfl, rfl, by decide +kernel, rfl, by decide +kernel, by decide +kernel⟩
abbrev s__law_draw : Stmt := top 26
abbrev N__law_draw : List Str := ["_law_state", "_law_limit", "_law_cells", "_law_at", "_law_cell", "_law_mixed"]
theorem sc__law_draw : FnScope ["_law_state", "_law_limit", "_law_cells", "_law_at", "_law_cell", "_law_mixed"] ["_law_state", "_law_limit"] (defScope s__law_draw) := ⟨rfl, rfl, rfl, by decide +kernel, rfl, by decide +kernel, by decide +kernel⟩
abbrev s__law_number : Stmt := top 27
abbrev N__law_number : List Str := ["_law_state", "_law_most", "_law_number_here", "_law_turn"]
theorem sc__law_number : FnScope ["_law_state", "_law_most", "_law_number_here", "_law_turn"] ["_law_state", "_law_most"] (defScope s__law_number) := ⟨rfl, rfl, rfl, by decide +kernel, rfl, by decide +kernel, by decide +kernel⟩
abbrev s__law_ends : Stmt := top 28
abbrev N__law_ends : List Str := ["_law_state", "_law_low", "_law_high", "_law_way"]
theorem sc__law_ends : FnScope ["_law_state", "_law_low", "_law_high", "_law_way"] ["_law_state"] (defScope s__law_ends) := ⟨rfl, rfl, rfl, by decide +kernel, rfl, by decide +kernel, by decide +kernel⟩
abbrev s__law_has : Stmt := top 29
abbrev N__law_has : List Str := ["_law_pairs", "_law_number_here", "_law_low", "_law_high"]
theorem sc__law_has : FnScope ["_law_pairs", "_law_number_here", "_law_low", "_law_high"] ["_law_pairs", "_law_number_here"] (defScope s__law_has) := ⟨rfl, rfl, rfl, by decide +kernel, rfl, by decide +kernel, by decide +kernel⟩
abbrev s__law_box : Stmt := top 30
abbrev N__law_box : List Str := ["_law_state", "_law_across", "_law_up"]
theorem sc__law_box : FnScope ["_law_state", "_law_across", "_law_up"] ["_law_state"] (defScope s__law_box) := ⟨rfl, rfl, rfl, by decide +kernel, rfl, by decide +kernel, by decide +kernel⟩
abbrev s__law_on_way : Stmt := top 31
abbrev N__law_on_way : List Str := ["_law_cell", "_law_step", "_law_i"]
theorem sc__law_on_way : FnScope ["_law_cell", "_law_step", "_law_i"] ["_law_cell", "_law_step", "_law_i"] (defScope s__law_on_way) := ⟨rfl, rfl, rfl, by decide +kernel, rfl, by decide +kernel, by decide +kernel⟩
abbrev s__law_in : Stmt := top 32
abbrev N__law_in : List Str := ["_law_box_here", "_law_cell"]
theorem sc__law_in : FnScope ["_law_box_here", "_law_cell"] ["_law_box_here", "_law_cell"] (defScope s__law_in) := ⟨rfl, rfl, rfl, by decide +kernel, rfl, by decide +kernel, by decide +kernel⟩
abbrev s__law_is_row : Stmt := top 33
abbrev N__law_is_row : List Str := ["_law_found", "_law_wanted", "_law_numbers", "_law_near", "_law_end", "_law_number_here"]
theorem sc__law_is_row : FnScope ["_law_found", "_law_wanted", "_law_numbers", "_law_near", "_law_end", "_law_number_here"] ["_law_found", "_law_wanted", "_law_numbers"] (defScope s__law_is_row) := ⟨rfl, rfl, rfl, by decide +kernel, rfl, by decide +kernel, by decide +kernel⟩
abbrev s__law_heard : Stmt := top 34
abbrev N__law_heard : List Str := ["_law_call", "e"]
theorem sc__law_heard : FnScope ["_law_call", "e"] ["_law_call"] (defScope s__law_heard) := ⟨rfl, rfl, rfl, by decide +kernel, rfl, by decide +kernel, by decide +kernel⟩
abbrev s__law_odd_right : Stmt := top 35
abbrev N__law_odd_right : List Str := ["_law_state", "_law_cell", "_law_step", "_law_box_here", "_law_told", "_law_bad", "_law_odd", "_law_word"]
theorem sc__law_odd_right : FnScope ["_law_state", "_law_cell", "_law_step", "_law_box_here", "_law_told", "_law_bad", "_law_odd", "_law_word"] ["_law_state", "_law_cell", "_law_step", "_law_box_here"] (defScope s__law_odd_right) := ⟨rfl, rfl, rfl, by decide +kernel, rfl, by decide +kernel, by decide +kernel⟩
abbrev s_law : Stmt := top 36
abbrev N_law : List Str := ["_law_script", "_law_state", "_law_numbers", "_law_stretch", "_law_far", "_law_on", "_law_a", "_law_b", "_law_box_here", "_law_cell", "_law_goal", "_law_number_here", "_law_pair", "_law_step"]
theorem sc_law : FnScope ["_law_script", "_law_state", "_law_numbers", "_law_stretch", "_law_far", "_law_on", "_law_a", "_law_b", "_law_box_here", "_law_cell", "_law_goal", "_law_number_here", "_law_pair", "_law_step"] ["_law_script"] (defScope s_law) := ⟨rfl, rfl, rfl, by decide +kernel, rfl, by decide +kernel, by decide +kernel⟩
abbrev s_BadNumber___init__ : Stmt := inClass (top 4) 0
abbrev N_BadNumber___init__ : List Str := ["self", "number"]
theorem sc_BadNumber___init__ : FnScope ["self", "number"] ["self", "number"] (defScope s_BadNumber___init__) := ⟨rfl, rfl, rfl, by decide +kernel, rfl, by decide +kernel, by decide +kernel⟩
abbrev s_BadPart___init__ : Stmt := inClass (top 3) 0
abbrev N_BadPart___init__ : List Str := ["self", "part"]
theorem sc_BadPart___init__ : FnScope ["self", "part"] ["self", "part"] (defScope s_BadPart___init__) := ⟨rfl, rfl, rfl, by decide +kernel, rfl, by decide +kernel, by decide +kernel⟩
theorem b_Stretch___init__ {K : PySem.W.Frag} {f : Addr} {fd : FuncData} (F : FunD K "__init__" "Stretch.__init__" (defArgs s_Stretch___init__) (defBody s_Stretch___init__) (defScope s_Stretch___init__) [.non, .non] [] f fd) : BindD K fd ["self", "low", "high"] [.non, .non] := fun j hj => match j, hj with
    | 0, _ => F.binds1 1 0 (by simp) rfl fun _ _ _ _ _ _ _ us its hu hi => match us, its, hu, hi with | [_], [_, _], _, _ => ⟨_, rfl, rfl⟩
    | 1, _ => F.binds1 2 1 (by simp) rfl fun _ _ _ _ _ _ _ us its hu hi => match us, its, hu, hi with | [_, _], [_, _], _, _ => ⟨_, rfl, rfl⟩
    | 2, _ => F.binds1 3 2 (by simp) rfl fun _ _ _ _ _ _ _ us its hu hi => match us, its, hu, hi with | [_, _, _], [_, _], _, _ => ⟨_, rfl, rfl⟩
    | j + 3, h => absurd h (by simp)
theorem b_Stretch_holds {K : PySem.W.Frag} {f : Addr} {fd : FuncData} (F : FunD K "holds" "Stretch.holds" (defArgs s_Stretch_holds) (defBody s_Stretch_holds) (defScope s_Stretch_holds) [] [] f fd) : BindD K fd ["self", "number"] [] := BindD.none (F.bindsN fun _ _ _ _ _ _ us hl => match us, hl with | [_, _], _ => rfl)
theorem b_Stretch_turned {K : PySem.W.Frag} {f : Addr} {fd : FuncData} (F : FunD K "turned" "Stretch.turned" (defArgs s_Stretch_turned) (defBody s_Stretch_turned) (defScope s_Stretch_turned) [] [] f fd) : BindD K fd ["self"] [] := BindD.none (F.bindsN fun _ _ _ _ _ _ us hl => match us, hl with | [_], _ => rfl)
theorem b_Stretch_common {K : PySem.W.Frag} {f : Addr} {fd : FuncData} (F : FunD K "common" "Stretch.common" (defArgs s_Stretch_common) (defBody s_Stretch_common) (defScope s_Stretch_common) [] [] f fd) : BindD K fd ["self", "other"] [] := BindD.none (F.bindsN fun _ _ _ _ _ _ us hl => match us, hl with | [_, _], _ => rfl)
structure Txt (K : PySem.W.Frag) (mg : Str → Option Value) : Prop where
  d_is_whole : ∃ (f : Addr) (fd : FuncData), mg "is_whole" = some (.ref f) ∧ Fun K "is_whole" "is_whole" s_is_whole f fd
  d_is_from : ∃ (f : Addr) (fd : FuncData), mg "is_from" = some (.ref f) ∧ Fun K "is_from" "is_from" s_is_from f fd
  d_is_pair : ∃ (f : Addr) (fd : FuncData), mg "is_pair" = some (.ref f) ∧ Fun K "is_pair" "is_pair" s_is_pair f fd
  d_is_span : ∃ (f : Addr) (fd : FuncData), mg "is_span" = some (.ref f) ∧ Fun K "is_span" "is_span" s_is_span f fd
  d_is_box : ∃ (f : Addr) (fd : FuncData), mg "is_box" = some (.ref f) ∧ Fun K "is_box" "is_box" s_is_box f fd
  d_require_whole : ∃ (f : Addr) (fd : FuncData), mg "require_whole" = some (.ref f) ∧ Fun K "require_whole" "require_whole" s_require_whole f fd
  d_require_from : ∃ (f : Addr) (fd : FuncData), mg "require_from" = some (.ref f) ∧ Fun K "require_from" "require_from" s_require_from f fd
  d_require_pair : ∃ (f : Addr) (fd : FuncData), mg "require_pair" = some (.ref f) ∧ Fun K "require_pair" "require_pair" s_require_pair f fd
  d__greater_low : ∃ (f : Addr) (fd : FuncData), mg "_greater_low" = some (.ref f) ∧ Fun K "_greater_low" "_greater_low" s__greater_low f fd
  d__lesser_high : ∃ (f : Addr) (fd : FuncData), mg "_lesser_high" = some (.ref f) ∧ Fun K "_lesser_high" "_lesser_high" s__lesser_high f fd
  d_in_stretch : ∃ (f : Addr) (fd : FuncData), mg "in_stretch" = some (.ref f) ∧ Fun K "in_stretch" "in_stretch" s_in_stretch f fd
  d_in_box : ∃ (f : Addr) (fd : FuncData), mg "in_box" = some (.ref f) ∧ Fun K "in_box" "in_box" s_in_box f fd
  d_on_number : ∃ (f : Addr) (fd : FuncData), mg "on_number" = some (.ref f) ∧ Fun K "on_number" "on_number" s_on_number f fd
  d_on_cell : ∃ (f : Addr) (fd : FuncData), mg "on_cell" = some (.ref f) ∧ Fun K "on_cell" "on_cell" s_on_cell f fd
  d__in_both : ∃ (f : Addr) (fd : FuncData), mg "_in_both" = some (.ref f) ∧ Fun K "_in_both" "_in_both" s__in_both f fd
  d__law_draw : ∃ (f : Addr) (fd : FuncData), mg "_law_draw" = some (.ref f) ∧ Fun K "_law_draw" "_law_draw" s__law_draw f fd
  d__law_number : ∃ (f : Addr) (fd : FuncData), mg "_law_number" = some (.ref f) ∧ Fun K "_law_number" "_law_number" s__law_number f fd
  d__law_ends : ∃ (f : Addr) (fd : FuncData), mg "_law_ends" = some (.ref f) ∧ Fun K "_law_ends" "_law_ends" s__law_ends f fd
  d__law_has : ∃ (f : Addr) (fd : FuncData), mg "_law_has" = some (.ref f) ∧ Fun K "_law_has" "_law_has" s__law_has f fd
  d__law_box : ∃ (f : Addr) (fd : FuncData), mg "_law_box" = some (.ref f) ∧ Fun K "_law_box" "_law_box" s__law_box f fd
  d__law_on_way : ∃ (f : Addr) (fd : FuncData), mg "_law_on_way" = some (.ref f) ∧ Fun K "_law_on_way" "_law_on_way" s__law_on_way f fd
  d__law_in : ∃ (f : Addr) (fd : FuncData), mg "_law_in" = some (.ref f) ∧ Fun K "_law_in" "_law_in" s__law_in f fd
  d__law_is_row : ∃ (f : Addr) (fd : FuncData), mg "_law_is_row" = some (.ref f) ∧ Fun K "_law_is_row" "_law_is_row" s__law_is_row f fd
  d__law_heard : ∃ (f : Addr) (fd : FuncData), mg "_law_heard" = some (.ref f) ∧ Fun K "_law_heard" "_law_heard" s__law_heard f fd
  lam__law_odd_right : LamF K mg "_law_odd_right" s__law_odd_right
  lam_law : LamF K mg "law" s_law
  ci_Stretch : ClsI K (ga K "Stretch")
  c_Stretch : Cls K (ga K "Stretch")
  g_Stretch : mg "Stretch" = some (.ref (ga K "Stretch"))
  na_Stretch_low : NoAttr K (ga K "Stretch") "low"
  na_Stretch_high : NoAttr K (ga K "Stretch") "high"
  d_Stretch___init__ : ∃ (f : Addr) (fd : FuncData), Mk K (ga K "Stretch") f ∧ FunD K "__init__" "Stretch.__init__" (defArgs s_Stretch___init__) (defBody s_Stretch___init__) (defScope s_Stretch___init__) [.non, .non] [] f fd
  d_Stretch_holds : ∃ (f : Addr) (fd : FuncData), Meth K (ga K "Stretch") "holds" f ∧ FunD K "holds" "Stretch.holds" (defArgs s_Stretch_holds) (defBody s_Stretch_holds) (defScope s_Stretch_holds) [] [] f fd
  d_Stretch_turned : ∃ (f : Addr) (fd : FuncData), Meth K (ga K "Stretch") "turned" f ∧ FunD K "turned" "Stretch.turned" (defArgs s_Stretch_turned) (defBody s_Stretch_turned) (defScope s_Stretch_turned) [] [] f fd
  d_Stretch_common : ∃ (f : Addr) (fd : FuncData), Meth K (ga K "Stretch") "common" f ∧ FunD K "common" "Stretch.common" (defArgs s_Stretch_common) (defBody s_Stretch_common) (defScope s_Stretch_common) [] [] f fd
  m_isinstance : mg "isinstance" = none
  m_int : mg "int" = none
  m_bool : mg "bool" = none
  m_tuple : mg "tuple" = none
  m_len : mg "len" = none
  m_list : mg "list" = none
  m_range : mg "range" = none
  m_repr : mg "repr" = none
  x_BadNumber : ExT K mg "BadNumber" "number"
  x_BadPart : ExT K mg "BadPart" "part"
  pne : pOf K "_law_odd_right" ≠ pOf K "law"
  pe : mg "PlaneError" = some (.ref (ga K "PlaneError"))
  mN : PySem.W.exmOne K (.ref (ga K "BadNumber")) (.ref (ga K "PlaneError")) = some true
  mP : PySem.W.exmOne K (.ref (ga K "BadPart")) (.ref (ga K "PlaneError")) = some true
  iN : ExI K (ga K "BadNumber")
  iP : ExI K (ga K "BadPart")
  kNN : PySem.W.kitOne K (.ref (ga K "BadNumber")) (.ref (ga K "BadNumber")) = some true
  kPN : PySem.W.kitOne K (.ref (ga K "BadPart")) (.ref (ga K "BadNumber")) = some false
  kPP : PySem.W.kitOne K (.ref (ga K "BadPart")) (.ref (ga K "BadPart")) = some true
  kS_tuple : PySem.W.kitOne K (.type "tuple") (.ref (ga K "Stretch")) = some false
end Iz
/-! k06_a -/
set_option Elab.async false
set_option linter.all false
set_option maxRecDepth 100000
set_option maxHeartbeats 4000000
namespace Iz
open PySem PySem.Spec PyProof.Rows L2
open He (ga)
local macro_rules | `(tactic| walk_at "wp") => `(tactic| simp only [tYes, calmS, rTupN, rIsB, LamX.tLam3, tSl, tPart, tNoPart, rSlTN, cx_K, Value.ref.injEq, HO.xd.injEq, lk0, tSeq, tPar3, tPar, tCons, tNil, tVar, tC, tAsg, gName, gCons, gNil, gTupN, gSub, tOp, rI, rI0, rU, tTest, rNe, rEq, rIxTN, rIxLN, rLenL, rLenT, rIntI, rIntB, rAbs, rSetLN, tTruL, tRaiseX, rIsTy, rIsOw, ixN0, ixN1, tRet, tIf, tIfS, tNext, tBreak, tCont, tDrop, tTupN, tLstN, tUn, tCB, tCall, tNot, tAnd, tOr, tB, tAndV, tOrV, tNotV, tChain, tApp, LamX.tLam, tRevLN, rCatN, rInTN, rInLN, flatV, inV, List.all_cons, List.all_nil, List.any_cons, List.any_nil, Bool.and_self, Bool.and_true, if_true, Bool.false_eq_true, if_false, tMt, tFldN, tSto, HO.ins.injEq, lkh, List.drop_zero, List.drop_succ_cons, List.drop_nil, rListS, wipe, L2.start, List.map_cons, List.map_nil, List.length_cons, List.length_nil, List.replicate, List.cons_append, List.nil_append, List.append_nil, Nat.reduceAdd, Nat.reduceSub, Nat.zero_add, List.replicate_succ, List.replicate_zero, List.getElem?_cons_zero, List.getElem?_cons_succ, List.set_cons_zero, List.set_cons_succ, Option.some.injEq, V.int.injEq, V.bl.injEq, V.ref.injEq, V.str.injEq, V.ty.injEq, List.cons.injEq, HO.tup.injEq, HO.lst.injEq, and_true, true_and, and_assoc, exists_eq_left, exists_eq_left', exists_and_left, exists_eq', atI0, atI1, atI2, atI3, Int.cast_ofNat_Int, Int.reduceToNat, scal_ii, scal_in, scal_ni, scal_nn, scal_bb, scal_ss, scal_sn, scal_ns, scal_bn, scal_nb, ite_iff, decide_eq_true_eq, decide_eq_false_iff_not, Bool.not_eq_true', Classical.not_not, ne_eq, not_false_eq_true, not_true_eq_false, forall_const, true_implies, false_implies, imp_self, sizeLine_eq, Nat.reduceLeDiff, reduceCtorEq, decide_true, decide_false])
section
variable {P : Program} {w : World} {K : PySem.W.Frag} {mg : Str → Option Value} {base : Heap}
/-! ### basics -/
def spWhole (K : PySem.W.Frag) : Sp := fun vs H Q _ => ∃ x, vs = [x] ∧ Wh K H x ∧ Q (.bl (isI x)) H
theorem o_is_whole (T : Txt K mg) : OkF P w K mg base CX0 1 "is_whole" ["value"] (spWhole K) := by
  obtain ⟨f, fd, g, F⟩ := T.d_is_whole
  refine ⟨f, fd, g, F.kp, F.binds (fun _ _ _ _ _ _ us hl => match us, hl with | [_], _ => rfl), F.ok sc_is_whole (fun vs H Q E h => ?_) (fun cdv A outer s H vs Q E hr h => ?_)⟩
  · obtain ⟨x, rfl, _⟩ := h; rfl
  · obtain ⟨x, rfl, ⟨t, b1, b2, ty, k1, k2, e⟩, kk⟩ := h
    refine ⟨_, pss_one (ps_ret (pe_and (pe_callB call_isTy (by rfl) T.m_isinstance (by decide +kernel) (pa_cons (pv 0) (pa_cons ((pe_bltn (v := .ty "int") (by rfl) T.m_int (by decide +kernel) rfl)) pa_nil))) (pe_one (pe_not (pe_callB call_isTy (by rfl) T.m_isinstance (by decide +kernel) (pa_cons (pv 0) (pa_cons ((pe_bltn (v := .ty "bool") (by rfl) T.m_bool (by decide +kernel) rfl)) pa_nil))))))), ?_⟩
    walk_at "wp"
    rw [← e] at kk
    refine ⟨t, ty, b1, k1, fun h => ⟨t, ty, b2, k2, ?_⟩, fun h => ?_⟩
    · subst h; exact kk
    · cases b1
      · exact kk
      · exact absurd rfl h
def spFrom (K : PySem.W.Frag) : Sp := fun vs H Q _ => ∃ x l, vs = [x, .int l] ∧ Wh K H x ∧ (isI x = false → Q (.bl false) H) ∧ (∀ i, x = .int i → Q (.bl (decide (l ≤ i))) H)
theorem o_is_from (T : Txt K mg) : OkF P w K mg base CX0 2 "is_from" ["value", "least"] (spFrom K) := by
  have o_is_whole := o_is_whole (P := P) (w := w) (base := base) T
  obtain ⟨f, fd, g, F⟩ := T.d_is_from
  refine ⟨f, fd, g, F.kp, F.binds (fun _ _ _ _ _ _ us hl => match us, hl with | [_, _], _ => rfl), F.ok sc_is_from (fun vs H Q E h => ?_) (fun cdv A outer s H vs Q E hr h => ?_)⟩
  · obtain ⟨x, l, rfl, _⟩ := h; rfl
  · obtain ⟨x, l, rfl, W, k1, k2⟩ := h
    refine ⟨_, pss_one (ps_ret (pe_and (pcl o_is_whole (hr.mono (by decide)) pass0 (pa_cons (pv 0) pa_nil)) (pe_one (pe_cmpR op_ge (pv 0) (pv 1) (nomark _))))), ?_⟩
    walk_at "wp"
    simp only [spWhole, List.cons.injEq, and_true, exists_eq_left']
    refine ⟨W, _, rfl, ?_⟩
    cases e : isI x
    · exact ⟨fun h => (by cases h), fun _ => k1 e⟩
    · obtain ⟨i, rfl⟩ := isI_int e
      exact ⟨fun _ => ⟨i, rfl, k2 i rfl⟩, fun h => absurd rfl h⟩
def spReqW (K : PySem.W.Frag) : Sp := fun vs H Q E => ∃ x, vs = [x] ∧ Wh K H x ∧ (isI x = true → Q .non H) ∧ (isI x = false → Rse K E H "BadNumber" "number" x)
theorem o_require_whole (T : Txt K mg) : OkF P w K mg base (L2.CX P w) 3 "require_whole" ["value"] (spReqW K) := by
  have o_is_whole := o_is_whole (P := P) (w := w) (base := base) T
  obtain ⟨f, fd, g, F⟩ := T.d_require_whole
  refine ⟨f, fd, g, F.kp, F.binds (fun _ _ _ _ _ _ us hl => match us, hl with | [_], _ => rfl), F.okX sc_require_whole (fun vs H Q E h => ?_) (fun cdv A outer s H vs Q E hr h => ?_)⟩
  · obtain ⟨x, rfl, _⟩ := h; rfl
  · obtain ⟨x, rfl, W, k1, k2⟩ := h
    refine ⟨_, pss_one (ps_if (pt_not (pt_val (pcl o_is_whole (hr.mono (by decide)) pass0 (pa_cons (pv 0) pa_nil)))) (pss_one (ps_raiseX (T.x_BadNumber) (hr.mono (by decide)) takesE (pv 0))) (pss_nil)), ?_⟩
    walk_at "wp"
    simp only [spWhole, List.cons.injEq, and_true, exists_eq_left']
    exact ⟨W, _, rfl, ⟨k2, fun h => k1 (by cases e : isI x <;> simp_all)⟩⟩
def spReqF (K : PySem.W.Frag) : Sp := fun vs H Q E => ∃ x l, vs = [x, .int l] ∧ Wh K H x ∧ (∀ i, x = .int i → l ≤ i → Q .non H) ∧ ((∀ i, x = .int i → i < l) → Rse K E H "BadNumber" "number" x)
theorem o_require_from (T : Txt K mg) : OkF P w K mg base (L2.CX P w) 3 "require_from" ["value", "least"] (spReqF K) := by
  have o_is_from := o_is_from (P := P) (w := w) (base := base) T
  obtain ⟨f, fd, g, F⟩ := T.d_require_from
  refine ⟨f, fd, g, F.kp, F.binds (fun _ _ _ _ _ _ us hl => match us, hl with | [_, _], _ => rfl), F.okX sc_require_from (fun vs H Q E h => ?_) (fun cdv A outer s H vs Q E hr h => ?_)⟩
  · obtain ⟨x, l, rfl, _⟩ := h; rfl
  · obtain ⟨x, l, rfl, W, k1, k2⟩ := h
    refine ⟨_, pss_one (ps_if (pt_not (pt_val (pcl o_is_from (hr.mono (by decide)) pass0 (pa_cons (pv 0) (pa_cons (pv 1) pa_nil))))) (pss_one (ps_raiseX (T.x_BadNumber) (hr.mono (by decide)) takesE (pv 0))) (pss_nil)), ?_⟩
    walk_at "wp"
    simp only [spFrom, List.cons.injEq, and_true, exists_and_left, exists_eq_left', V.int.injEq, and_assoc]
    refine ⟨W, fun e => ⟨_, rfl, ?_⟩, fun i e => ⟨_, rfl, ?_⟩⟩
    · refine ⟨fun _ => k2 fun i h => ?_, fun h => ?_⟩
      · subst h; cases e
      · simp at h
    · subst e
      refine ⟨fun h => k2 fun j h2 => ?_, fun h => k1 i rfl ?_⟩
      · cases h2; simp at h; omega
      · simp at h; omega
/-- one is an int of 1 or more -/
def isP : V → Bool
  | .int i => decide (1 ≤ i)
  | _ => false
theorem isP_int {x : V} (h : isP x = true) : ∃ i, x = .int i ∧ 1 ≤ i := by cases x <;> simp_all [isP]
theorem from1 {K : PySem.W.Frag} {H : Hp} {x : V} {Q : VK} {E : XK} (W : Wh K H x) (h1 : isP x = true → Q .non H) (h2 : isP x = false → Rse K E H "BadNumber" "number" x) : spReqF K [x, .int 1] H Q E :=
  ⟨x, 1, rfl, W, fun i e h => h1 (by subst e; simp [isP, h]), fun h => h2 (by cases x <;> simp_all [isP])⟩

/-! ### pairs -/
def spIsPair (K : PySem.W.Frag) : Sp := fun vs H Q _ => ∃ x, vs = [x] ∧ PairK K H x ∧ Q (.bl (pairV H x).isSome) H
theorem o_is_pair (T : Txt K mg) : OkF P w K mg base CX0 2 "is_pair" ["value"] (spIsPair K) := by
  have o_is_whole := o_is_whole (P := P) (w := w) (base := base) T
  obtain ⟨f, fd, g, F⟩ := T.d_is_pair
  refine ⟨f, fd, g, F.kp, F.binds (fun _ _ _ _ _ _ us hl => match us, hl with | [_], _ => rfl), F.ok sc_is_pair (fun vs H Q E h => ?_) (fun cdv A outer s H vs Q E hr h => ?_)⟩
  · first | (obtain ⟨_, rfl, _⟩ := h; rfl) | (obtain ⟨_, _, rfl, _⟩ := h; rfl) | (obtain ⟨_, _, _, rfl, _⟩ := h; rfl) | (obtain ⟨_, _, _, _, rfl, _⟩ := h; rfl) | (obtain ⟨_, _, _, _, _, rfl, _⟩ := h; rfl) | (obtain ⟨_, _, _, _, _, _, rfl, _⟩ := h; rfl) | (obtain ⟨_, _, _, _, _, _, _, rfl, _⟩ := h; rfl)
  have hu64 := hr.units
  refine ⟨_, pss_one (ps_ret (pe_and (pe_callB call_isTy (by rfl) T.m_isinstance (by decide +kernel) (pa_cons (pv 0) (pa_cons ((pe_bltn (v := .ty "tuple") (by rfl) T.m_tuple (by decide +kernel) rfl)) pa_nil))) (pe_and (pe_cmpR op_eq (pe_callB call_lenT (by rfl) T.m_len (by decide +kernel) (pa_cons (pv 0) pa_nil)) (pe_int) (nomark _)) (pe_and (pcl o_is_whole (hr.mono (by decide)) pass0 (pa_cons (pe_ix ix_tupN (pv 0) (pe_int) (fun _ _ => rfl)) pa_nil)) (pe_one (pcl o_is_whole (hr.mono (by decide)) pass0 (pa_cons (pe_ix ix_tupN (pv 0) (pe_int) (fun _ _ => rfl)) pa_nil))))))), ?_⟩
  obtain ⟨x, rfl, hk, k⟩ := h
  simp only [spWhole, exists_and_left, tYes, calmS, rTupN, rIsB, LamX.tLam3, tSl, tPart, tNoPart, rSlTN, cx_K, Value.ref.injEq, HO.xd.injEq, lk0, tSeq, tPar3, tPar, tCons, tNil, tVar, tC, tAsg, gName, gCons, gNil, gTupN, gSub, tOp, rI, rI0, rU, tTest, rNe, rEq, rIxTN, rIxLN, rLenL, rLenT, rIntI, rIntB, rAbs, rSetLN, tTruL, tRaiseX, rIsTy, rIsOw, ixN0, ixN1, tRet, tIf, tIfS, tNext, tBreak, tCont, tDrop, tTupN, tLstN, tUn, tCB, tCall, tNot, tAnd, tOr, tB, tAndV, tOrV, tNotV, tChain, tApp, LamX.tLam, tRevLN, rCatN, rInTN, rInLN, flatV, inV, List.all_cons, List.all_nil, List.any_cons, List.any_nil, Bool.and_self, Bool.and_true, if_true, Bool.false_eq_true, if_false, tMt, tFldN, tSto, HO.ins.injEq, lkh, List.drop_zero, List.drop_succ_cons, List.drop_nil, rListS, wipe, L2.start, List.map_cons, List.map_nil, List.length_cons, List.length_nil, List.replicate, List.cons_append, List.nil_append, List.append_nil, Nat.reduceAdd, Nat.reduceSub, Nat.zero_add, List.replicate_succ, List.replicate_zero, List.getElem?_cons_zero, List.getElem?_cons_succ, List.set_cons_zero, List.set_cons_succ, Option.some.injEq, V.int.injEq, V.bl.injEq, V.ref.injEq, V.str.injEq, V.ty.injEq, List.cons.injEq, HO.tup.injEq, HO.lst.injEq, and_true, true_and, and_assoc, exists_eq_left, exists_eq_left', exists_and_left, exists_eq', atI0, atI1, atI2, atI3, Int.cast_ofNat_Int, Int.reduceToNat, scal_ii, scal_in, scal_ni, scal_nn, scal_bb, scal_ss, scal_sn, scal_ns, scal_bn, scal_nb, ite_iff, decide_eq_true_eq, decide_eq_false_iff_not, Bool.not_eq_true', Classical.not_not, ne_eq, not_false_eq_true, not_true_eq_false, forall_const, true_implies, false_implies, imp_self, sizeLine_eq, Nat.reduceLeDiff, reduceCtorEq, decide_true, decide_false]
  rcases hk.ty with ⟨p, xs, rfl, hx, hw⟩ | ⟨t, ty, e, no⟩
  · refine ⟨_, .base (.tup hx), true, kit_ty (by decide +kernel), fun _ => ?_, fun h => absurd rfl h⟩
    simp only [hx, exists_and_left, tYes, calmS, rTupN, rIsB, LamX.tLam3, tSl, tPart, tNoPart, rSlTN, cx_K, Value.ref.injEq, HO.xd.injEq, lk0, tSeq, tPar3, tPar, tCons, tNil, tVar, tC, tAsg, gName, gCons, gNil, gTupN, gSub, tOp, rI, rI0, rU, tTest, rNe, rEq, rIxTN, rIxLN, rLenL, rLenT, rIntI, rIntB, rAbs, rSetLN, tTruL, tRaiseX, rIsTy, rIsOw, ixN0, ixN1, tRet, tIf, tIfS, tNext, tBreak, tCont, tDrop, tTupN, tLstN, tUn, tCB, tCall, tNot, tAnd, tOr, tB, tAndV, tOrV, tNotV, tChain, tApp, LamX.tLam, tRevLN, rCatN, rInTN, rInLN, flatV, inV, List.all_cons, List.all_nil, List.any_cons, List.any_nil, Bool.and_self, Bool.and_true, if_true, Bool.false_eq_true, if_false, tMt, tFldN, tSto, HO.ins.injEq, lkh, List.drop_zero, List.drop_succ_cons, List.drop_nil, rListS, wipe, L2.start, List.map_cons, List.map_nil, List.length_cons, List.length_nil, List.replicate, List.cons_append, List.nil_append, List.append_nil, Nat.reduceAdd, Nat.reduceSub, Nat.zero_add, List.replicate_succ, List.replicate_zero, List.getElem?_cons_zero, List.getElem?_cons_succ, List.set_cons_zero, List.set_cons_succ, Option.some.injEq, V.int.injEq, V.bl.injEq, V.ref.injEq, V.str.injEq, V.ty.injEq, List.cons.injEq, HO.tup.injEq, HO.lst.injEq, and_true, true_and, and_assoc, exists_eq_left, exists_eq_left', exists_and_left, exists_eq', atI0, atI1, atI2, atI3, Int.cast_ofNat_Int, Int.reduceToNat, scal_ii, scal_in, scal_ni, scal_nn, scal_bb, scal_ss, scal_sn, scal_ns, scal_bn, scal_nb, ite_iff, decide_eq_true_eq, decide_eq_false_iff_not, Bool.not_eq_true', Classical.not_not, ne_eq, not_false_eq_true, not_true_eq_false, forall_const, true_implies, false_implies, imp_self, sizeLine_eq, Nat.reduceLeDiff, reduceCtorEq, decide_true, decide_false]
    have pv : pairV H (.ref p) = pairL xs := by simp only [pairV, hx]
    rw [pv] at k
    refine ⟨fun h2 => ?_, fun h2 => ?_⟩
    · obtain ⟨x, y, rfl⟩ : ∃ x y, xs = [x, y] := by
        match xs, h2 with
        | [x, y], _ => exact ⟨x, y, rfl⟩
        | [], h => simp at h
        | [x], h => simp at h
        | x :: y :: z :: r, h => simp at h; omega
      refine ⟨x, atI0, hw x (by simp), fun h => ⟨y, atI1, hw y (by simp), ?_⟩, fun h => ?_⟩
      · obtain ⟨i, rfl⟩ := isI_int h
        cases y <;> exact k
      · cases x <;> first | exact k | exact absurd rfl h
    · rw [pairL_none h2] at k; exact k
  · refine ⟨t, ty, false, e, fun h => (by cases h), fun _ => ?_⟩
    rw [no] at k; exact k
def spReqP (K : PySem.W.Frag) : Sp := fun vs H Q E => ∃ x y, vs = [x, y] ∧ PairK K H x ∧ ((pairV H x).isSome = true → Q .non H) ∧ (pairV H x = none → Rse K E H "BadPart" "part" y)
theorem o_require_pair (T : Txt K mg) : OkF P w K mg base (L2.CX P w) 3 "require_pair" ["value", "part"] (spReqP K) := by
  have o_is_pair := o_is_pair (P := P) (w := w) (base := base) T
  obtain ⟨f, fd, g, F⟩ := T.d_require_pair
  refine ⟨f, fd, g, F.kp, F.binds (fun _ _ _ _ _ _ us hl => match us, hl with | [_, _], _ => rfl), F.okX sc_require_pair (fun vs H Q E h => ?_) (fun cdv A outer s H vs Q E hr h => ?_)⟩
  · first | (obtain ⟨_, rfl, _⟩ := h; rfl) | (obtain ⟨_, _, rfl, _⟩ := h; rfl) | (obtain ⟨_, _, _, rfl, _⟩ := h; rfl) | (obtain ⟨_, _, _, _, rfl, _⟩ := h; rfl) | (obtain ⟨_, _, _, _, _, rfl, _⟩ := h; rfl) | (obtain ⟨_, _, _, _, _, _, rfl, _⟩ := h; rfl) | (obtain ⟨_, _, _, _, _, _, _, rfl, _⟩ := h; rfl)
  have hu64 := hr.units
  refine ⟨_, pss_one (ps_if (pt_not (pt_val (pcl o_is_pair (hr.mono (by decide)) pass0 (pa_cons (pv 0) pa_nil)))) (pss_one (ps_raiseX (T.x_BadPart) (hr.mono (by decide)) takesE (pv 1))) (pss_nil)), ?_⟩
  obtain ⟨x, y, rfl, hk, k1, k2⟩ := h
  simp only [spIsPair, exists_and_left, tYes, calmS, rTupN, rIsB, LamX.tLam3, tSl, tPart, tNoPart, rSlTN, cx_K, Value.ref.injEq, HO.xd.injEq, lk0, tSeq, tPar3, tPar, tCons, tNil, tVar, tC, tAsg, gName, gCons, gNil, gTupN, gSub, tOp, rI, rI0, rU, tTest, rNe, rEq, rIxTN, rIxLN, rLenL, rLenT, rIntI, rIntB, rAbs, rSetLN, tTruL, tRaiseX, rIsTy, rIsOw, ixN0, ixN1, tRet, tIf, tIfS, tNext, tBreak, tCont, tDrop, tTupN, tLstN, tUn, tCB, tCall, tNot, tAnd, tOr, tB, tAndV, tOrV, tNotV, tChain, tApp, LamX.tLam, tRevLN, rCatN, rInTN, rInLN, flatV, inV, List.all_cons, List.all_nil, List.any_cons, List.any_nil, Bool.and_self, Bool.and_true, if_true, Bool.false_eq_true, if_false, tMt, tFldN, tSto, HO.ins.injEq, lkh, List.drop_zero, List.drop_succ_cons, List.drop_nil, rListS, wipe, L2.start, List.map_cons, List.map_nil, List.length_cons, List.length_nil, List.replicate, List.cons_append, List.nil_append, List.append_nil, Nat.reduceAdd, Nat.reduceSub, Nat.zero_add, List.replicate_succ, List.replicate_zero, List.getElem?_cons_zero, List.getElem?_cons_succ, List.set_cons_zero, List.set_cons_succ, Option.some.injEq, V.int.injEq, V.bl.injEq, V.ref.injEq, V.str.injEq, V.ty.injEq, List.cons.injEq, HO.tup.injEq, HO.lst.injEq, and_true, true_and, and_assoc, exists_eq_left, exists_eq_left', exists_and_left, exists_eq', atI0, atI1, atI2, atI3, Int.cast_ofNat_Int, Int.reduceToNat, scal_ii, scal_in, scal_ni, scal_nn, scal_bb, scal_ss, scal_sn, scal_ns, scal_bn, scal_nb, ite_iff, decide_eq_true_eq, decide_eq_false_iff_not, Bool.not_eq_true', Classical.not_not, ne_eq, not_false_eq_true, not_true_eq_false, forall_const, true_implies, false_implies, imp_self, sizeLine_eq, Nat.reduceLeDiff, reduceCtorEq, decide_true, decide_false]
  exact ⟨hk, fun h => k2 (by simpa using h), fun h => k1 (by cases e : pairV H x <;> simp_all)⟩

end
end Iz
/-! k06_b -/
set_option Elab.async false
set_option linter.all false
set_option maxRecDepth 100000
set_option maxHeartbeats 4000000
namespace Iz
open PySem PySem.Spec PyProof.Rows L2
open He (ga)
local macro_rules | `(tactic| walk_at "wp") => `(tactic| simp only [tYes, calmS, rTupN, rIsB, LamX.tLam3, tSl, tPart, tNoPart, rSlTN, cx_K, Value.ref.injEq, HO.xd.injEq, lk0, tSeq, tPar3, tPar, tCons, tNil, tVar, tC, tAsg, gName, gCons, gNil, gTupN, gSub, tOp, rI, rI0, rU, tTest, rNe, rEq, rIxTN, rIxLN, rLenL, rLenT, rIntI, rIntB, rAbs, rSetLN, tTruL, tRaiseX, rIsTy, rIsOw, ixN0, ixN1, tRet, tIf, tIfS, tNext, tBreak, tCont, tDrop, tTupN, tLstN, tUn, tCB, tCall, tNot, tAnd, tOr, tB, tAndV, tOrV, tNotV, tChain, tApp, LamX.tLam, tRevLN, rCatN, rInTN, rInLN, flatV, inV, List.all_cons, List.all_nil, List.any_cons, List.any_nil, Bool.and_self, Bool.and_true, if_true, Bool.false_eq_true, if_false, tMt, tFldN, tSto, HO.ins.injEq, lkh, List.drop_zero, List.drop_succ_cons, List.drop_nil, rListS, wipe, L2.start, List.map_cons, List.map_nil, List.length_cons, List.length_nil, List.replicate, List.cons_append, List.nil_append, List.append_nil, Nat.reduceAdd, Nat.reduceSub, Nat.zero_add, List.replicate_succ, List.replicate_zero, List.getElem?_cons_zero, List.getElem?_cons_succ, List.set_cons_zero, List.set_cons_succ, Option.some.injEq, V.int.injEq, V.bl.injEq, V.ref.injEq, V.str.injEq, V.ty.injEq, List.cons.injEq, HO.tup.injEq, HO.lst.injEq, and_true, true_and, and_assoc, exists_eq_left, exists_eq_left', exists_and_left, exists_eq', atI0, atI1, atI2, atI3, Int.cast_ofNat_Int, Int.reduceToNat, scal_ii, scal_in, scal_ni, scal_nn, scal_bb, scal_ss, scal_sn, scal_ns, scal_bn, scal_nb, ite_iff, decide_eq_true_eq, decide_eq_false_iff_not, Bool.not_eq_true', Classical.not_not, ne_eq, not_false_eq_true, not_true_eq_false, forall_const, true_implies, false_implies, imp_self, sizeLine_eq, Nat.reduceLeDiff, reduceCtorEq, decide_true, decide_false])
section
variable {P : Program} {w : World} {K : PySem.W.Frag} {mg : Str → Option Value} {base : Heap}
/-! ### stretches -/
/-- low and high are the ends of a stretch -/
def okS : V → V → Bool
  | .non, .non => true
  | .non, .int _ => true
  | .int _, .non => true
  | .int a, .int b => decide (a < b)
  | _, _ => false
def isE : V → Bool
  | .non => true
  | .int _ => true
  | _ => false
theorem isE_ov {x : V} (h : isE x = true) : ∃ o, x = ov o := by cases x <;> simp_all [isE]; exact ⟨none, rfl⟩; exact ⟨some _, rfl⟩
theorem okS_E {l h : V} (e : okS l h = true) : isE l = true ∧ isE h = true := by cases l <;> cases h <;> simp_all [okS, isE]
def okO : Option Int → Option Int → Prop
  | some a, some b => a < b
  | _, _ => True
theorem okS_ov {l h : Option Int} : okS (ov l) (ov h) = true ↔ okO l h := by cases l <;> cases h <;> simp [okS, okO, ov]
def spSpan (K : PySem.W.Frag) : Sp := fun vs H Q _ => ∃ l h, vs = [l, h] ∧ Wh K H l ∧ Wh K H h ∧ Q (.bl (okS l h)) H
theorem o_is_span (T : Txt K mg) : OkF P w K mg base CX0 2 "is_span" ["low", "high"] (spSpan K) := by
  have o_is_whole := o_is_whole (P := P) (w := w) (base := base) T
  obtain ⟨f, fd, g, F⟩ := T.d_is_span
  refine ⟨f, fd, g, F.kp, F.binds (fun _ _ _ _ _ _ us hl => match us, hl with | [_, _], _ => rfl), F.ok sc_is_span (fun vs H Q E h => ?_) (fun cdv A outer s H vs Q E hr h => ?_)⟩
  · first | (obtain ⟨_, rfl, _⟩ := h; rfl) | (obtain ⟨_, _, rfl, _⟩ := h; rfl) | (obtain ⟨_, _, _, rfl, _⟩ := h; rfl) | (obtain ⟨_, _, _, _, rfl, _⟩ := h; rfl) | (obtain ⟨_, _, _, _, _, rfl, _⟩ := h; rfl) | (obtain ⟨_, _, _, _, _, _, rfl, _⟩ := h; rfl) | (obtain ⟨_, _, _, _, _, _, _, rfl, _⟩ := h; rfl)
  have hu64 := hr.units
  refine ⟨_, pss_cons (ps_if (PW.pt (pw_or (pt_not (PW.pt (pw_or (pt_cmpR op_isN (pv 0) (pe_non) (nomark _)) (pw_or1 (pt_val (pcl o_is_whole (hr.mono (by decide)) pass0 (pa_cons (pv 0) pa_nil))))))) (pw_or1 (pt_not (PW.pt (pw_or (pt_cmpR op_isN (pv 1) (pe_non) (nomark _)) (pw_or1 (pt_val (pcl o_is_whole (hr.mono (by decide)) pass0 (pa_cons (pv 1) pa_nil)))))))))) (pss_one (ps_ret (pe_bl))) (pss_nil))
      (pss_one (ps_ret (pe_or (pe_cmpR op_isN (pv 0) (pe_non) (nomark _)) (pe_or (pe_cmpR op_isN (pv 1) (pe_non) (nomark _)) (pe_one (pe_cmpR op_lt (pv 0) (pv 1) (nomark _))))))), ?_⟩
  obtain ⟨l, h, rfl, Wl, Wr, k⟩ := h
  simp only [spWhole, exists_and_left, tYes, calmS, rTupN, rIsB, LamX.tLam3, tSl, tPart, tNoPart, rSlTN, cx_K, Value.ref.injEq, HO.xd.injEq, lk0, tSeq, tPar3, tPar, tCons, tNil, tVar, tC, tAsg, gName, gCons, gNil, gTupN, gSub, tOp, rI, rI0, rU, tTest, rNe, rEq, rIxTN, rIxLN, rLenL, rLenT, rIntI, rIntB, rAbs, rSetLN, tTruL, tRaiseX, rIsTy, rIsOw, ixN0, ixN1, tRet, tIf, tIfS, tNext, tBreak, tCont, tDrop, tTupN, tLstN, tUn, tCB, tCall, tNot, tAnd, tOr, tB, tAndV, tOrV, tNotV, tChain, tApp, LamX.tLam, tRevLN, rCatN, rInTN, rInLN, flatV, inV, List.all_cons, List.all_nil, List.any_cons, List.any_nil, Bool.and_self, Bool.and_true, if_true, Bool.false_eq_true, if_false, tMt, tFldN, tSto, HO.ins.injEq, lkh, List.drop_zero, List.drop_succ_cons, List.drop_nil, rListS, wipe, L2.start, List.map_cons, List.map_nil, List.length_cons, List.length_nil, List.replicate, List.cons_append, List.nil_append, List.append_nil, Nat.reduceAdd, Nat.reduceSub, Nat.zero_add, List.replicate_succ, List.replicate_zero, List.getElem?_cons_zero, List.getElem?_cons_succ, List.set_cons_zero, List.set_cons_succ, Option.some.injEq, V.int.injEq, V.bl.injEq, V.ref.injEq, V.str.injEq, V.ty.injEq, List.cons.injEq, HO.tup.injEq, HO.lst.injEq, and_true, true_and, and_assoc, exists_eq_left, exists_eq_left', exists_and_left, exists_eq', atI0, atI1, atI2, atI3, Int.cast_ofNat_Int, Int.reduceToNat, scal_ii, scal_in, scal_ni, scal_nn, scal_bb, scal_ss, scal_sn, scal_ns, scal_bn, scal_nb, ite_iff, decide_eq_true_eq, decide_eq_false_iff_not, Bool.not_eq_true', Classical.not_not, ne_eq, not_false_eq_true, not_true_eq_false, forall_const, true_implies, false_implies, imp_self, sizeLine_eq, Nat.reduceLeDiff, reduceCtorEq, decide_true, decide_false]
  cases l <;> cases h <;> simp_all [okS, isI]
/-- a call of Stretch -/
def spSt (K : PySem.W.Frag) : Sp := fun vs H Q E => ∃ l h, vs = [l, h] ∧ Wh K H l ∧ Wh K H h ∧ (okS l h = true → NewsI H (ga K "Stretch") [("low", l), ("high", h)] Q) ∧ (okS l h = false → Rse K E H "BadPart" "part" (.str "stretch"))
def spStI (K : PySem.W.Frag) : Sp := fun vs H Q E => ∃ p l h, vs = [.ref p, l, h] ∧ ∃ dx, H p = some (.ins (ga K "Stretch") dx []) ∧ Wh K H l ∧ Wh K H h ∧
  (okS l h = true → ∀ H', (∀ b, b ≠ p → H' b = H b) → H' p = some (.ins (ga K "Stretch") dx [("low", l), ("high", h)]) → Q .non H') ∧ (okS l h = false → Rse K E H "BadPart" "part" (.str "stretch"))
theorem i_Stretch___init__ (T : Txt K mg) {f : Addr} {fd : FuncData} (F : FunD K "__init__" "Stretch.__init__" (defArgs s_Stretch___init__) (defBody s_Stretch___init__) (defScope s_Stretch___init__) [.non, .non] [] f fd) : FnOk P w K mg base (L2.CX P w) 3 f fd ["self", "low", "high"] (spStI K) := by
  have o_is_span := o_is_span (P := P) (w := w) (base := base) T
  refine F.ok (CX := (L2.CX P w)) sc_Stretch___init__ (fun vs H Q E h => ?_) (fun cdv A outer s H vs Q E hr h => ?_)
  · first | (obtain ⟨_, rfl, _⟩ := h; rfl) | (obtain ⟨_, _, rfl, _⟩ := h; rfl) | (obtain ⟨_, _, _, rfl, _⟩ := h; rfl) | (obtain ⟨_, _, _, _, rfl, _⟩ := h; rfl) | (obtain ⟨_, _, _, _, _, rfl, _⟩ := h; rfl) | (obtain ⟨_, _, _, _, _, _, rfl, _⟩ := h; rfl) | (obtain ⟨_, _, _, _, _, _, _, rfl, _⟩ := h; rfl)
  have hu64 := hr.units
  refine ⟨_, (pss_cons (ps_if (pt_not (pt_val (pcl o_is_span (hr.mono (by decide)) pass0 (pa_cons (pv 1) (pa_cons (pv 2) pa_nil))))) (pss_one (ps_raiseX (T.x_BadPart) (hr.mono (by decide)) takesE (pe_str))) (pss_nil))
      (pss_cons (ps_fldN T.c_Stretch T.na_Stretch_low (pv 0) (pv 1))
      (pss_one (ps_fldN T.c_Stretch T.na_Stretch_high (pv 0) (pv 2))))), ?_⟩
  obtain ⟨p, l, h, rfl, dx, hp, Wl, Wr, k1, k2⟩ := h
  simp only [spSpan, exists_and_left, tYes, calmS, rTupN, rIsB, LamX.tLam3, tSl, tPart, tNoPart, rSlTN, cx_K, Value.ref.injEq, HO.xd.injEq, lk0, tSeq, tPar3, tPar, tCons, tNil, tVar, tC, tAsg, gName, gCons, gNil, gTupN, gSub, tOp, rI, rI0, rU, tTest, rNe, rEq, rIxTN, rIxLN, rLenL, rLenT, rIntI, rIntB, rAbs, rSetLN, tTruL, tRaiseX, rIsTy, rIsOw, ixN0, ixN1, tRet, tIf, tIfS, tNext, tBreak, tCont, tDrop, tTupN, tLstN, tUn, tCB, tCall, tNot, tAnd, tOr, tB, tAndV, tOrV, tNotV, tChain, tApp, LamX.tLam, tRevLN, rCatN, rInTN, rInLN, flatV, inV, List.all_cons, List.all_nil, List.any_cons, List.any_nil, Bool.and_self, Bool.and_true, if_true, Bool.false_eq_true, if_false, tMt, tFldN, tSto, HO.ins.injEq, lkh, List.drop_zero, List.drop_succ_cons, List.drop_nil, rListS, wipe, L2.start, List.map_cons, List.map_nil, List.length_cons, List.length_nil, List.replicate, List.cons_append, List.nil_append, List.append_nil, Nat.reduceAdd, Nat.reduceSub, Nat.zero_add, List.replicate_succ, List.replicate_zero, List.getElem?_cons_zero, List.getElem?_cons_succ, List.set_cons_zero, List.set_cons_succ, Option.some.injEq, V.int.injEq, V.bl.injEq, V.ref.injEq, V.str.injEq, V.ty.injEq, List.cons.injEq, HO.tup.injEq, HO.lst.injEq, and_true, true_and, and_assoc, exists_eq_left, exists_eq_left', exists_and_left, exists_eq', atI0, atI1, atI2, atI3, Int.cast_ofNat_Int, Int.reduceToNat, scal_ii, scal_in, scal_ni, scal_nn, scal_bb, scal_ss, scal_sn, scal_ns, scal_bn, scal_nb, ite_iff, decide_eq_true_eq, decide_eq_false_iff_not, Bool.not_eq_true', Classical.not_not, ne_eq, not_false_eq_true, not_true_eq_false, forall_const, true_implies, false_implies, imp_self, sizeLine_eq, Nat.reduceLeDiff, reduceCtorEq, decide_true, decide_false]
  refine ⟨Wl, Wr, k2, fun e => ⟨dx, [], hp, by decide, fun H1 p1 => ⟨dx, _, p1.1, by rw [putF_nil]; exact (by decide : 1 < 1000), fun H2 p2 => ?_⟩⟩⟩
  refine k1 (by simpa using e) H2 (fun b hb => by rw [p2.2 b hb, p1.2 b hb]) ?_
  rw [p2.1, putF_nil, putF_cons (by decide +kernel), putF_nil]
theorem o_Stretch (T : Txt K mg) : OkK P w K mg base (L2.CX P w) 3 "Stretch" ["low", "high"] [.non, .non] (spSt K) := by
  obtain ⟨f, fd, M, F⟩ := T.d_Stretch___init__
  refine ⟨f, fd, spStI K, M, T.g_Stretch, b_Stretch___init__ F, i_Stretch___init__ T F, fun vs H Q E h p dx hp hdx hne => ?_⟩
  obtain ⟨l, r, rfl, Wl, Wr, k1, k2⟩ := h
  have s := same_made (H' := upd (upd H dx (.own p)) p (.ins (ga K "Stretch") dx [])) hp hdx fun b _ => rfl
  exact ⟨p, l, r, rfl, dx, upd_same, wh_mono Wl s, wh_mono Wr s, fun e H' hk hp' => ⟨rfl, k1 e p dx H' hp (same_made hp hdx hk) hp'⟩, fun e => Rse.mono (k2 e) s⟩
theorem lkLow {l h : V} : List.lookup ("low" : Str) [(("low" : Str), l), (("high" : Str), h)] = some l := lkh
theorem lkHigh {l h : V} : List.lookup ("high" : Str) [(("low" : Str), l), (("high" : Str), h)] = some h := lk1 (by decide +kernel)
theorem lkNo {m : Str} {l h : V} (h1 : (m == ("low" : Str)) = false := by decide +kernel) (h2 : (m == ("high" : Str)) = false := by decide +kernel) : List.lookup m [(("low" : Str), l), (("high" : Str), h)] = none := lkn2 h1 h2
theorem lkN_holds {l h : V} : List.lookup ("holds" : Str) [(("low" : Str), l), (("high" : Str), h)] = none := lkNo
theorem lkN_moved {l h : V} : List.lookup ("moved" : Str) [(("low" : Str), l), (("high" : Str), h)] = none := lkNo
theorem lkN_turned {l h : V} : List.lookup ("turned" : Str) [(("low" : Str), l), (("high" : Str), h)] = none := lkNo
theorem lkN_common {l h : V} : List.lookup ("common" : Str) [(("low" : Str), l), (("high" : Str), h)] = none := lkNo
theorem lkN_count {l h : V} : List.lookup ("count" : Str) [(("low" : Str), l), (("high" : Str), h)] = none := lkNo
theorem lkN_first {l h : V} : List.lookup ("first" : Str) [(("low" : Str), l), (("high" : Str), h)] = none := lkNo
theorem lkN_final {l h : V} : List.lookup ("final" : Str) [(("low" : Str), l), (("high" : Str), h)] = none := lkNo
theorem lkN_nth {l h : V} : List.lookup ("nth" : Str) [(("low" : Str), l), (("high" : Str), h)] = none := lkNo
theorem lkN_below {l h : V} : List.lookup ("below" : Str) [(("low" : Str), l), (("high" : Str), h)] = none := lkNo
/-- the stretch at a -/
abbrev SAt (K : PySem.W.Frag) (H : Hp) (a dx : Addr) (lo hi : Option Int) : Prop := H a = some (.ins (ga K "Stretch") dx [("low", ov lo), ("high", ov hi)])
/-- i is in the stretch -/
def inS (lo hi : Option Int) (i : Int) : Bool := (match lo with | none => true | some l => decide (l ≤ i)) && (match hi with | none => true | some h => decide (i < h))
def hasV (lo hi : Option Int) : V → Bool
  | .int i => inS lo hi i
  | _ => false
def spHolds (K : PySem.W.Frag) : Sp := fun vs H Q _ => ∃ a x, vs = [.ref a, x] ∧ ∃ dx lo hi, SAt K H a dx lo hi ∧ Wh K H x ∧ Q (.bl (hasV lo hi x)) H
theorem o_Stretch_holds (T : Txt K mg) : OkM P w K mg base CX0 2 "Stretch" "holds" ["self", "number"] [] (spHolds K) := by
  have o_is_whole := o_is_whole (P := P) (w := w) (base := base) T
  obtain ⟨f, fd, M, F⟩ := T.d_Stretch_holds
  refine ⟨f, fd, M, b_Stretch_holds F, F.ok (CX := CX0) sc_Stretch_holds (fun vs H Q E h => ?_) (fun cdv A outer s H vs Q E hr h => ?_)⟩
  · first | (obtain ⟨_, rfl, _⟩ := h; rfl) | (obtain ⟨_, _, rfl, _⟩ := h; rfl) | (obtain ⟨_, _, _, rfl, _⟩ := h; rfl) | (obtain ⟨_, _, _, _, rfl, _⟩ := h; rfl) | (obtain ⟨_, _, _, _, _, rfl, _⟩ := h; rfl) | (obtain ⟨_, _, _, _, _, _, rfl, _⟩ := h; rfl) | (obtain ⟨_, _, _, _, _, _, _, rfl, _⟩ := h; rfl)
  have hu64 := hr.units
  refine ⟨_, PSs.nox (pss_cons (ps_if (pt_not (pt_val (pcl o_is_whole (hr.mono (by decide)) pass0 (pa_cons (pv 1) pa_nil)))) (pss_one (ps_ret (pe_bl))) (pss_nil))
      (pss_one (ps_ret (pe_and (pe_or (pe_cmpR op_isN (pe_fldN T.c_Stretch T.na_Stretch_low (pv 0)) (pe_non) (nomark _)) (pe_one (pe_cmpR op_le (pe_fldN T.c_Stretch T.na_Stretch_low (pv 0)) (pv 1) (nomark _)))) (pe_one (pe_or (pe_cmpR op_isN (pe_fldN T.c_Stretch T.na_Stretch_high (pv 0)) (pe_non) (nomark _)) (pe_one (pe_cmpR op_lt (pv 1) (pe_fldN T.c_Stretch T.na_Stretch_high (pv 0)) (nomark _))))))))), ?_⟩
  obtain ⟨a, x, rfl, dx, lo, hi, hs, W, k⟩ := h
  have hi' := @isI_int x
  cases lo <;> cases hi <;> simp only [spWhole, exists_and_left, hs, lkLow, lkHigh, lkN_holds, lkN_turned, lkN_common, lkN_count, lkN_first, lkN_final, lkN_nth, lkN_below, ov, tYes, calmS, rTupN, rIsB, LamX.tLam3, tSl, tPart, tNoPart, rSlTN, cx_K, Value.ref.injEq, HO.xd.injEq, lk0, tSeq, tPar3, tPar, tCons, tNil, tVar, tC, tAsg, gName, gCons, gNil, gTupN, gSub, tOp, rI, rI0, rU, tTest, rNe, rEq, rIxTN, rIxLN, rLenL, rLenT, rIntI, rIntB, rAbs, rSetLN, tTruL, tRaiseX, rIsTy, rIsOw, ixN0, ixN1, tRet, tIf, tIfS, tNext, tBreak, tCont, tDrop, tTupN, tLstN, tUn, tCB, tCall, tNot, tAnd, tOr, tB, tAndV, tOrV, tNotV, tChain, tApp, LamX.tLam, tRevLN, rCatN, rInTN, rInLN, flatV, inV, List.all_cons, List.all_nil, List.any_cons, List.any_nil, Bool.and_self, Bool.and_true, if_true, Bool.false_eq_true, if_false, tMt, tFldN, tSto, HO.ins.injEq, lkh, List.drop_zero, List.drop_succ_cons, List.drop_nil, rListS, wipe, L2.start, List.map_cons, List.map_nil, List.length_cons, List.length_nil, List.replicate, List.cons_append, List.nil_append, List.append_nil, Nat.reduceAdd, Nat.reduceSub, Nat.zero_add, List.replicate_succ, List.replicate_zero, List.getElem?_cons_zero, List.getElem?_cons_succ, List.set_cons_zero, List.set_cons_succ, Option.some.injEq, V.int.injEq, V.bl.injEq, V.ref.injEq, V.str.injEq, V.ty.injEq, List.cons.injEq, HO.tup.injEq, HO.lst.injEq, and_true, true_and, and_assoc, exists_eq_left, exists_eq_left', exists_and_left, exists_eq', atI0, atI1, atI2, atI3, Int.cast_ofNat_Int, Int.reduceToNat, scal_ii, scal_in, scal_ni, scal_nn, scal_bb, scal_ss, scal_sn, scal_ns, scal_bn, scal_nb, ite_iff, decide_eq_true_eq, decide_eq_false_iff_not, Bool.not_eq_true', Classical.not_not, ne_eq, not_false_eq_true, not_true_eq_false, forall_const, true_implies, false_implies, imp_self, sizeLine_eq, Nat.reduceLeDiff, reduceCtorEq, decide_true, decide_false] <;> refine ⟨W, fun h => ?_, fun h => ?_⟩
  all_goals first
    | (cases x <;> simp_all [hasV, inS, isI]; done)
    | (obtain ⟨i, rfl⟩ := hi' (by simpa using h); simp only [V.int.injEq, exists_eq_left']; simp_all [hasV, inS, isI]; done)
    | (obtain ⟨i, rfl⟩ := hi' (by simpa using h); simp only [V.int.injEq, exists_eq_left']; constructor <;> intro h1 <;> simp_all [hasV, inS, isI] <;> done)
def turnO : Option Int → Option Int
  | none => none
  | some h => some (1 - h)
def spTurned (K : PySem.W.Frag) : Sp := fun vs H Q _ => ∃ a, vs = [.ref a] ∧ ∃ dx lo hi, SAt K H a dx lo hi ∧ okO lo hi ∧ ∀ p dx H2, H p = none → Same H H2 → SAt K H2 p dx (turnO hi) (turnO lo) → Q (.ref p) H2
theorem o_Stretch_turned (T : Txt K mg) : OkM P w K mg base (L2.CX P w) 5 "Stretch" "turned" ["self"] [] (spTurned K) := by
  have o_Stretch := o_Stretch (P := P) (w := w) (base := base) T
  obtain ⟨f, fd, M, F⟩ := T.d_Stretch_turned
  refine ⟨f, fd, M, b_Stretch_turned F, F.ok (CX := (L2.CX P w)) sc_Stretch_turned (fun vs H Q E h => ?_) (fun cdv A outer s H vs Q E hr h => ?_)⟩
  · first | (obtain ⟨_, rfl, _⟩ := h; rfl) | (obtain ⟨_, _, rfl, _⟩ := h; rfl) | (obtain ⟨_, _, _, rfl, _⟩ := h; rfl) | (obtain ⟨_, _, _, _, rfl, _⟩ := h; rfl) | (obtain ⟨_, _, _, _, _, rfl, _⟩ := h; rfl) | (obtain ⟨_, _, _, _, _, _, rfl, _⟩ := h; rfl) | (obtain ⟨_, _, _, _, _, _, _, rfl, _⟩ := h; rfl)
  have hu64 := hr.units
  refine ⟨_, (pss_cons (ps_set (i := 1) sc_Stretch_turned.nd rfl (Or.inl rfl) (pe_ifExp (pt_cmpR op_isN (pe_fldN T.c_Stretch T.na_Stretch_high (pv 0)) (pe_non) (nomark _)) (pe_non) (pe_op op_sub (pe_int) (pe_fldN T.c_Stretch T.na_Stretch_high (pv 0)))))
      (pss_cons (ps_set (i := 2) sc_Stretch_turned.nd rfl (Or.inl rfl) (pe_ifExp (pt_cmpR op_isN (pe_fldN T.c_Stretch T.na_Stretch_low (pv 0)) (pe_non) (nomark _)) (pe_non) (pe_op op_sub (pe_int) (pe_fldN T.c_Stretch T.na_Stretch_low (pv 0)))))
      (pss_one (ps_ret (pmk (j := 2) o_Stretch (by decide) (hr.mono (by decide)) passE (pa_cons (pv 1) (pa_cons (pv 2) pa_nil))))))), ?_⟩
  obtain ⟨a, rfl, dx, lo, hi, hs, ho, k⟩ := h
  cases lo <;> cases hi <;> simp only [spSt, exists_and_left, hs, lkLow, lkHigh, lkN_holds, lkN_turned, lkN_common, lkN_count, lkN_first, lkN_final, lkN_nth, lkN_below, ov, wh_int, wh_non, tYes, calmS, rTupN, rIsB, LamX.tLam3, tSl, tPart, tNoPart, rSlTN, cx_K, Value.ref.injEq, HO.xd.injEq, lk0, tSeq, tPar3, tPar, tCons, tNil, tVar, tC, tAsg, gName, gCons, gNil, gTupN, gSub, tOp, rI, rI0, rU, tTest, rNe, rEq, rIxTN, rIxLN, rLenL, rLenT, rIntI, rIntB, rAbs, rSetLN, tTruL, tRaiseX, rIsTy, rIsOw, ixN0, ixN1, tRet, tIf, tIfS, tNext, tBreak, tCont, tDrop, tTupN, tLstN, tUn, tCB, tCall, tNot, tAnd, tOr, tB, tAndV, tOrV, tNotV, tChain, tApp, LamX.tLam, tRevLN, rCatN, rInTN, rInLN, flatV, inV, List.all_cons, List.all_nil, List.any_cons, List.any_nil, Bool.and_self, Bool.and_true, if_true, Bool.false_eq_true, if_false, tMt, tFldN, tSto, HO.ins.injEq, lkh, List.drop_zero, List.drop_succ_cons, List.drop_nil, rListS, wipe, L2.start, List.map_cons, List.map_nil, List.length_cons, List.length_nil, List.replicate, List.cons_append, List.nil_append, List.append_nil, Nat.reduceAdd, Nat.reduceSub, Nat.zero_add, List.replicate_succ, List.replicate_zero, List.getElem?_cons_zero, List.getElem?_cons_succ, List.set_cons_zero, List.set_cons_succ, Option.some.injEq, V.int.injEq, V.bl.injEq, V.ref.injEq, V.str.injEq, V.ty.injEq, List.cons.injEq, HO.tup.injEq, HO.lst.injEq, and_true, true_and, and_assoc, exists_eq_left, exists_eq_left', exists_and_left, exists_eq', atI0, atI1, atI2, atI3, Int.cast_ofNat_Int, Int.reduceToNat, scal_ii, scal_in, scal_ni, scal_nn, scal_bb, scal_ss, scal_sn, scal_ns, scal_bn, scal_nb, ite_iff, decide_eq_true_eq, decide_eq_false_iff_not, Bool.not_eq_true', Classical.not_not, ne_eq, not_false_eq_true, not_true_eq_false, forall_const, true_implies, false_implies, imp_self, sizeLine_eq, Nat.reduceLeDiff, reduceCtorEq, decide_true, decide_false]
  all_goals refine ⟨fun _ => fun p dx' H2 hp s h2 => k p dx' H2 hp s h2, fun e => ?_⟩
  · cases e
  · cases e
  · cases e
  · simp [okS, okO] at e ho; omega
def glow : Option Int → Option Int → Option Int
  | none, y => y
  | x, none => x
  | some a, some b => some (if a > b then a else b)
def lhigh : Option Int → Option Int → Option Int
  | none, y => y
  | x, none => x
  | some a, some b => some (if a < b then a else b)
def spGl : Sp := fun vs H Q _ => ∃ x y, vs = [ov x, ov y] ∧ Q (ov (glow x y)) H
def spLh : Sp := fun vs H Q _ => ∃ x y, vs = [ov x, ov y] ∧ Q (ov (lhigh x y)) H
theorem o__greater_low (T : Txt K mg) : OkF P w K mg base CX0 1 "_greater_low" ["one", "other"] spGl := by
  obtain ⟨f, fd, g, F⟩ := T.d__greater_low
  refine ⟨f, fd, g, F.kp, F.binds (fun _ _ _ _ _ _ us hl => match us, hl with | [_, _], _ => rfl), F.ok sc__greater_low (fun vs H Q E h => ?_) (fun cdv A outer s H vs Q E hr h => ?_)⟩
  · first | (obtain ⟨_, rfl, _⟩ := h; rfl) | (obtain ⟨_, _, rfl, _⟩ := h; rfl) | (obtain ⟨_, _, _, rfl, _⟩ := h; rfl) | (obtain ⟨_, _, _, _, rfl, _⟩ := h; rfl) | (obtain ⟨_, _, _, _, _, rfl, _⟩ := h; rfl) | (obtain ⟨_, _, _, _, _, _, rfl, _⟩ := h; rfl) | (obtain ⟨_, _, _, _, _, _, _, rfl, _⟩ := h; rfl)
  have hu64 := hr.units
  refine ⟨_, pss_cons (ps_if (PW.pt (pw_or (pt_cmpR op_isN (pv 0) (pe_non) (nomark _)) (pw_or1 (pt_cmpR op_isN (pv 1) (pe_non) (nomark _))))) (pss_one (ps_ret (pe_ifExp (pt_cmpR op_isN (pv 0) (pe_non) (nomark _)) (pv 1) (pv 0)))) (pss_nil))
      (pss_one (ps_ret (pe_ifExp (pt_cmpR op_gt (pv 0) (pv 1) (nomark _)) (pv 0) (pv 1)))), ?_⟩
  obtain ⟨x, y, rfl, k⟩ := h
  cases x <;> cases y <;> simp only [ov, tYes, calmS, rTupN, rIsB, LamX.tLam3, tSl, tPart, tNoPart, rSlTN, cx_K, Value.ref.injEq, HO.xd.injEq, lk0, tSeq, tPar3, tPar, tCons, tNil, tVar, tC, tAsg, gName, gCons, gNil, gTupN, gSub, tOp, rI, rI0, rU, tTest, rNe, rEq, rIxTN, rIxLN, rLenL, rLenT, rIntI, rIntB, rAbs, rSetLN, tTruL, tRaiseX, rIsTy, rIsOw, ixN0, ixN1, tRet, tIf, tIfS, tNext, tBreak, tCont, tDrop, tTupN, tLstN, tUn, tCB, tCall, tNot, tAnd, tOr, tB, tAndV, tOrV, tNotV, tChain, tApp, LamX.tLam, tRevLN, rCatN, rInTN, rInLN, flatV, inV, List.all_cons, List.all_nil, List.any_cons, List.any_nil, Bool.and_self, Bool.and_true, if_true, Bool.false_eq_true, if_false, tMt, tFldN, tSto, HO.ins.injEq, lkh, List.drop_zero, List.drop_succ_cons, List.drop_nil, rListS, wipe, L2.start, List.map_cons, List.map_nil, List.length_cons, List.length_nil, List.replicate, List.cons_append, List.nil_append, List.append_nil, Nat.reduceAdd, Nat.reduceSub, Nat.zero_add, List.replicate_succ, List.replicate_zero, List.getElem?_cons_zero, List.getElem?_cons_succ, List.set_cons_zero, List.set_cons_succ, Option.some.injEq, V.int.injEq, V.bl.injEq, V.ref.injEq, V.str.injEq, V.ty.injEq, List.cons.injEq, HO.tup.injEq, HO.lst.injEq, and_true, true_and, and_assoc, exists_eq_left, exists_eq_left', exists_and_left, exists_eq', atI0, atI1, atI2, atI3, Int.cast_ofNat_Int, Int.reduceToNat, scal_ii, scal_in, scal_ni, scal_nn, scal_bb, scal_ss, scal_sn, scal_ns, scal_bn, scal_nb, ite_iff, decide_eq_true_eq, decide_eq_false_iff_not, Bool.not_eq_true', Classical.not_not, ne_eq, not_false_eq_true, not_true_eq_false, forall_const, true_implies, false_implies, imp_self, sizeLine_eq, Nat.reduceLeDiff, reduceCtorEq, decide_true, decide_false] <;> simp_all [glow, ov]
  refine ⟨fun h => ?_, fun h => ?_⟩
  · rw [if_pos h] at k; exact k
  · rw [if_neg (by omega)] at k; exact k
theorem o__lesser_high (T : Txt K mg) : OkF P w K mg base CX0 1 "_lesser_high" ["one", "other"] spLh := by
  obtain ⟨f, fd, g, F⟩ := T.d__lesser_high
  refine ⟨f, fd, g, F.kp, F.binds (fun _ _ _ _ _ _ us hl => match us, hl with | [_, _], _ => rfl), F.ok sc__lesser_high (fun vs H Q E h => ?_) (fun cdv A outer s H vs Q E hr h => ?_)⟩
  · first | (obtain ⟨_, rfl, _⟩ := h; rfl) | (obtain ⟨_, _, rfl, _⟩ := h; rfl) | (obtain ⟨_, _, _, rfl, _⟩ := h; rfl) | (obtain ⟨_, _, _, _, rfl, _⟩ := h; rfl) | (obtain ⟨_, _, _, _, _, rfl, _⟩ := h; rfl) | (obtain ⟨_, _, _, _, _, _, rfl, _⟩ := h; rfl) | (obtain ⟨_, _, _, _, _, _, _, rfl, _⟩ := h; rfl)
  have hu64 := hr.units
  refine ⟨_, pss_cons (ps_if (PW.pt (pw_or (pt_cmpR op_isN (pv 0) (pe_non) (nomark _)) (pw_or1 (pt_cmpR op_isN (pv 1) (pe_non) (nomark _))))) (pss_one (ps_ret (pe_ifExp (pt_cmpR op_isN (pv 0) (pe_non) (nomark _)) (pv 1) (pv 0)))) (pss_nil))
      (pss_one (ps_ret (pe_ifExp (pt_cmpR op_lt (pv 0) (pv 1) (nomark _)) (pv 0) (pv 1)))), ?_⟩
  obtain ⟨x, y, rfl, k⟩ := h
  cases x <;> cases y <;> simp only [ov, tYes, calmS, rTupN, rIsB, LamX.tLam3, tSl, tPart, tNoPart, rSlTN, cx_K, Value.ref.injEq, HO.xd.injEq, lk0, tSeq, tPar3, tPar, tCons, tNil, tVar, tC, tAsg, gName, gCons, gNil, gTupN, gSub, tOp, rI, rI0, rU, tTest, rNe, rEq, rIxTN, rIxLN, rLenL, rLenT, rIntI, rIntB, rAbs, rSetLN, tTruL, tRaiseX, rIsTy, rIsOw, ixN0, ixN1, tRet, tIf, tIfS, tNext, tBreak, tCont, tDrop, tTupN, tLstN, tUn, tCB, tCall, tNot, tAnd, tOr, tB, tAndV, tOrV, tNotV, tChain, tApp, LamX.tLam, tRevLN, rCatN, rInTN, rInLN, flatV, inV, List.all_cons, List.all_nil, List.any_cons, List.any_nil, Bool.and_self, Bool.and_true, if_true, Bool.false_eq_true, if_false, tMt, tFldN, tSto, HO.ins.injEq, lkh, List.drop_zero, List.drop_succ_cons, List.drop_nil, rListS, wipe, L2.start, List.map_cons, List.map_nil, List.length_cons, List.length_nil, List.replicate, List.cons_append, List.nil_append, List.append_nil, Nat.reduceAdd, Nat.reduceSub, Nat.zero_add, List.replicate_succ, List.replicate_zero, List.getElem?_cons_zero, List.getElem?_cons_succ, List.set_cons_zero, List.set_cons_succ, Option.some.injEq, V.int.injEq, V.bl.injEq, V.ref.injEq, V.str.injEq, V.ty.injEq, List.cons.injEq, HO.tup.injEq, HO.lst.injEq, and_true, true_and, and_assoc, exists_eq_left, exists_eq_left', exists_and_left, exists_eq', atI0, atI1, atI2, atI3, Int.cast_ofNat_Int, Int.reduceToNat, scal_ii, scal_in, scal_ni, scal_nn, scal_bb, scal_ss, scal_sn, scal_ns, scal_bn, scal_nb, ite_iff, decide_eq_true_eq, decide_eq_false_iff_not, Bool.not_eq_true', Classical.not_not, ne_eq, not_false_eq_true, not_true_eq_false, forall_const, true_implies, false_implies, imp_self, sizeLine_eq, Nat.reduceLeDiff, reduceCtorEq, decide_true, decide_false] <;> simp_all [lhigh, ov]
  refine ⟨fun h => ?_, fun h => ?_⟩
  · rw [if_pos h] at k; exact k
  · rw [if_neg (by omega)] at k; exact k
/-- y is no Stretch -/
def NoS (K : PySem.W.Frag) (H : Hp) (y : V) : Prop := ∃ t, TyX K H y t ∧ PySem.W.kitOne K t (.ref (ga K "Stretch")) = some false
def spCommon (K : PySem.W.Frag) : Sp := fun vs H Q E => ∃ a y, vs = [.ref a, y] ∧ ∃ dx lo hi, SAt K H a dx lo hi ∧ ((NoS K H y ∧ Rse K E H "BadPart" "part" (.str "stretch")) ∨ ∃ b dx2 lo2 hi2, y = .ref b ∧ SAt K H b dx2 lo2 hi2 ∧
  (okO (glow lo lo2) (lhigh hi hi2) → ∀ p dx' H2, H p = none → Same H H2 → SAt K H2 p dx' (glow lo lo2) (lhigh hi hi2) → Q (.ref p) H2) ∧ (¬ okO (glow lo lo2) (lhigh hi hi2) → Q .non H))
theorem o_Stretch_common (T : Txt K mg) : OkM P w K mg base (L2.CX P w) 5 "Stretch" "common" ["self", "other"] [] (spCommon K) := by
  have o_Stretch := o_Stretch (P := P) (w := w) (base := base) T
  have o__greater_low := o__greater_low (P := P) (w := w) (base := base) T
  have o__lesser_high := o__lesser_high (P := P) (w := w) (base := base) T
  have o_is_span := o_is_span (P := P) (w := w) (base := base) T
  obtain ⟨f, fd, M, F⟩ := T.d_Stretch_common
  refine ⟨f, fd, M, b_Stretch_common F, F.ok (CX := (L2.CX P w)) sc_Stretch_common (fun vs H Q E h => ?_) (fun cdv A outer s H vs Q E hr h => ?_)⟩
  · first | (obtain ⟨_, rfl, _⟩ := h; rfl) | (obtain ⟨_, _, rfl, _⟩ := h; rfl) | (obtain ⟨_, _, _, rfl, _⟩ := h; rfl) | (obtain ⟨_, _, _, _, rfl, _⟩ := h; rfl) | (obtain ⟨_, _, _, _, _, rfl, _⟩ := h; rfl) | (obtain ⟨_, _, _, _, _, _, rfl, _⟩ := h; rfl) | (obtain ⟨_, _, _, _, _, _, _, rfl, _⟩ := h; rfl)
  have hu64 := hr.units
  refine ⟨_, (pss_cons (ps_if (pt_not (pt_val (pe_callB call_isOw (by rfl) T.m_isinstance (by decide +kernel) (pa_cons (pv 1) (pa_cons ((pe_glob (v := .ref (ga K "Stretch")) (by rfl) T.g_Stretch rfl)) pa_nil))))) (pss_one (ps_raiseX (T.x_BadPart) (hr.mono (by decide)) takesE (pe_str))) (pss_nil))
      (pss_cons (ps_set (i := 2) sc_Stretch_common.nd rfl (Or.inl rfl) (pcl o__greater_low (hr.mono (by decide)) pass0 (pa_cons (pe_fldN T.c_Stretch T.na_Stretch_low (pv 0)) (pa_cons (pe_fldN T.c_Stretch T.na_Stretch_low (pv 1)) pa_nil))))
      (pss_cons (ps_set (i := 3) sc_Stretch_common.nd rfl (Or.inl rfl) (pcl o__lesser_high (hr.mono (by decide)) pass0 (pa_cons (pe_fldN T.c_Stretch T.na_Stretch_high (pv 0)) (pa_cons (pe_fldN T.c_Stretch T.na_Stretch_high (pv 1)) pa_nil))))
      (pss_one (ps_ret (pe_ifExp (pt_val (pcl o_is_span (hr.mono (by decide)) pass0 (pa_cons (pv 2) (pa_cons (pv 3) pa_nil)))) (pmk (j := 2) o_Stretch (by decide) (hr.mono (by decide)) passE (pa_cons (pv 2) (pa_cons (pv 3) pa_nil))) (pe_non))))))), ?_⟩
  obtain ⟨a, y, rfl, dx, lo, hi, hs, h⟩ := h
  simp only [spGl, spLh, exists_and_left, hs, lkLow, lkHigh, lkN_holds, lkN_turned, lkN_common, lkN_count, lkN_first, lkN_final, lkN_nth, lkN_below, tYes, calmS, rTupN, rIsB, LamX.tLam3, tSl, tPart, tNoPart, rSlTN, cx_K, Value.ref.injEq, HO.xd.injEq, lk0, tSeq, tPar3, tPar, tCons, tNil, tVar, tC, tAsg, gName, gCons, gNil, gTupN, gSub, tOp, rI, rI0, rU, tTest, rNe, rEq, rIxTN, rIxLN, rLenL, rLenT, rIntI, rIntB, rAbs, rSetLN, tTruL, tRaiseX, rIsTy, rIsOw, ixN0, ixN1, tRet, tIf, tIfS, tNext, tBreak, tCont, tDrop, tTupN, tLstN, tUn, tCB, tCall, tNot, tAnd, tOr, tB, tAndV, tOrV, tNotV, tChain, tApp, LamX.tLam, tRevLN, rCatN, rInTN, rInLN, flatV, inV, List.all_cons, List.all_nil, List.any_cons, List.any_nil, Bool.and_self, Bool.and_true, if_true, Bool.false_eq_true, if_false, tMt, tFldN, tSto, HO.ins.injEq, lkh, List.drop_zero, List.drop_succ_cons, List.drop_nil, rListS, wipe, L2.start, List.map_cons, List.map_nil, List.length_cons, List.length_nil, List.replicate, List.cons_append, List.nil_append, List.append_nil, Nat.reduceAdd, Nat.reduceSub, Nat.zero_add, List.replicate_succ, List.replicate_zero, List.getElem?_cons_zero, List.getElem?_cons_succ, List.set_cons_zero, List.set_cons_succ, Option.some.injEq, V.int.injEq, V.bl.injEq, V.ref.injEq, V.str.injEq, V.ty.injEq, List.cons.injEq, HO.tup.injEq, HO.lst.injEq, and_true, true_and, and_assoc, exists_eq_left, exists_eq_left', exists_and_left, exists_eq', atI0, atI1, atI2, atI3, Int.cast_ofNat_Int, Int.reduceToNat, scal_ii, scal_in, scal_ni, scal_nn, scal_bb, scal_ss, scal_sn, scal_ns, scal_bn, scal_nb, ite_iff, decide_eq_true_eq, decide_eq_false_iff_not, Bool.not_eq_true', Classical.not_not, ne_eq, not_false_eq_true, not_true_eq_false, forall_const, true_implies, false_implies, imp_self, sizeLine_eq, Nat.reduceLeDiff, reduceCtorEq, decide_true, decide_false]
  rcases h with ⟨⟨t, ty, kt⟩, hE⟩ | ⟨b, dx2, lo2, hi2, rfl, hs2, k1, k2⟩
  · exact ⟨t, ty, false, kt, fun _ => hE, fun h => absurd rfl h⟩
  · refine ⟨_, T.ci_Stretch.ty hs2, true, kit_self, fun h => (by cases h), fun _ => ⟨b, rfl, dx2, _, hs2, _, lkLow, _, rfl, _, rfl, b, rfl, dx2, _, hs2, _, lkHigh, _, rfl, _, rfl, ?_⟩⟩
    refine ⟨_, _, rfl, wh_ov, wh_ov, _, rfl, fun h => ?_, fun h => ?_⟩
    · refine ⟨_, _, rfl, wh_ov, wh_ov, fun _ => fun p dx' H2 hp s h2 => k1 (okS_ov.mp h) p dx' H2 hp s h2, fun h' => by rw [h] at h'; cases h'⟩
    · exact k2 fun h' => h (okS_ov.mpr h')

end
end Iz
/-! k06_c -/
set_option Elab.async false
set_option linter.all false
set_option maxRecDepth 100000
set_option maxHeartbeats 4000000
namespace Iz
open PySem PySem.Spec PyProof.Rows L2
open He (ga)
local macro_rules | `(tactic| walk_at "wp") => `(tactic| simp only [tYes, calmS, rTupN, rIsB, LamX.tLam3, tSl, tPart, tNoPart, rSlTN, cx_K, Value.ref.injEq, HO.xd.injEq, lk0, tSeq, tPar3, tPar, tCons, tNil, tVar, tC, tAsg, gName, gCons, gNil, gTupN, gSub, tOp, rI, rI0, rU, tTest, rNe, rEq, rIxTN, rIxLN, rLenL, rLenT, rIntI, rIntB, rAbs, rSetLN, tTruL, tRaiseX, rIsTy, rIsOw, ixN0, ixN1, tRet, tIf, tIfS, tNext, tBreak, tCont, tDrop, tTupN, tLstN, tUn, tCB, tCall, tNot, tAnd, tOr, tB, tAndV, tOrV, tNotV, tChain, tApp, LamX.tLam, tRevLN, rCatN, rInTN, rInLN, flatV, inV, List.all_cons, List.all_nil, List.any_cons, List.any_nil, Bool.and_self, Bool.and_true, if_true, Bool.false_eq_true, if_false, tMt, tFldN, tSto, HO.ins.injEq, lkh, List.drop_zero, List.drop_succ_cons, List.drop_nil, rListS, wipe, L2.start, List.map_cons, List.map_nil, List.length_cons, List.length_nil, List.replicate, List.cons_append, List.nil_append, List.append_nil, Nat.reduceAdd, Nat.reduceSub, Nat.zero_add, List.replicate_succ, List.replicate_zero, List.getElem?_cons_zero, List.getElem?_cons_succ, List.set_cons_zero, List.set_cons_succ, Option.some.injEq, V.int.injEq, V.bl.injEq, V.ref.injEq, V.str.injEq, V.ty.injEq, List.cons.injEq, HO.tup.injEq, HO.lst.injEq, and_true, true_and, and_assoc, exists_eq_left, exists_eq_left', exists_and_left, exists_eq', atI0, atI1, atI2, atI3, Int.cast_ofNat_Int, Int.reduceToNat, scal_ii, scal_in, scal_ni, scal_nn, scal_bb, scal_ss, scal_sn, scal_ns, scal_bn, scal_nb, ite_iff, decide_eq_true_eq, decide_eq_false_iff_not, Bool.not_eq_true', Classical.not_not, ne_eq, not_false_eq_true, not_true_eq_false, forall_const, true_implies, false_implies, imp_self, sizeLine_eq, Nat.reduceLeDiff, reduceCtorEq, decide_true, decide_false])
section
variable {P : Program} {w : World} {K : PySem.W.Frag} {mg : Str → Option Value} {base : Heap}
/-! ### lines in stretches -/
/-- a stretch, or None -/
def SV (K : PySem.W.Frag) (H : Hp) (v : V) : Option PP → Prop
  | none => v = .non
  | some (x, y) => ∃ s dx, v = .ref s ∧ SAt K H s dx x y
def upO (a b : Int) : Option Int → Option Int
  | none => none
  | some l => some (-((a - l) / b))
def inP (a b : Int) (lo hi : Option Int) : Option PP := if okS (ov (upO a b lo)) (ov (upO a b hi)) = true then some (upO a b lo, upO a b hi) else none
def inO (a b : Int) (lo hi : Option Int) : Option PP :=
  if b = 0 then (if inS lo hi a = true then some (none, none) else none) else if b < 0 then (inP a (-b) lo hi).map (fun q => (turnO q.2, turnO q.1)) else inP a b lo hi
theorem o_in_stretch_0 (T : Txt K mg) : OkF P w K mg base (L2.CX P w) 0 "in_stretch" ["a", "b", "stretch"] (fun _ _ _ _ => False) := by
  obtain ⟨f, fd, g, F⟩ := T.d_in_stretch
  exact ⟨f, fd, g, F.kp, F.binds (fun _ _ _ _ _ _ us hl => match us, hl with | [_, _, _], _ => rfl), ⟨fun _ _ _ _ h => h.elim, fun _ _ _ _ _ _ _ _ _ _ _ _ _ h => h.elim⟩⟩
def spIn (K : PySem.W.Frag) (G : Int → Prop) : Sp := fun vs H Q E => ∃ a b x, vs = [a, b, x] ∧ Wh K H a ∧ (isI a = false → Rse K E H "BadNumber" "number" a) ∧ (isI a = true → Wh K H b ∧ (isI b = false → Rse K E H "BadNumber" "number" b) ∧
  (isI b = true → (NoS K H x ∧ Rse K E H "BadPart" "part" (.str "stretch")) ∨ ∃ s dx lo hi, x = .ref s ∧ SAt K H s dx lo hi ∧ okO lo hi ∧ ∀ a' b', a = .int a' → b = .int b' → b'.natAbs < 2 ^ 1000 ∧ G b' ∧ ∀ v H', Same H H' → SV K H' v (inO a' b' lo hi) → Q v H'))
theorem o_in_stretch_1 (T : Txt K mg) : OkF P w K mg base (L2.CX P w) 7 "in_stretch" ["a", "b", "stretch"] (spIn K fun b => 0 ≤ b) := by
  have o_in_stretch := o_in_stretch_0 (P := P) (w := w) (base := base) T
  have o_require_whole := o_require_whole (P := P) (w := w) (base := base) T
  have o_Stretch := o_Stretch (P := P) (w := w) (base := base) T
  have o_Stretch_holds := o_Stretch_holds (P := P) (w := w) (base := base) T
  have o_Stretch_turned := o_Stretch_turned (P := P) (w := w) (base := base) T
  obtain ⟨f, fd, g, F⟩ := T.d_in_stretch
  refine ⟨f, fd, g, F.kp, F.binds (fun _ _ _ _ _ _ us hl => match us, hl with | [_, _, _], _ => rfl), F.okX sc_in_stretch (fun vs H Q E h => ?_) (fun cdv A outer s H vs Q E hr h => ?_)⟩
  · obtain ⟨_, _, _, rfl, _⟩ := h; rfl
  have hu64 := hr.units
  refine ⟨_, pss_cons (ps_expr (pcl o_require_whole (hr.mono (by decide)) passE (pa_cons (pv 0) pa_nil)))
      (pss_cons (ps_expr (pcl o_require_whole (hr.mono (by decide)) passE (pa_cons (pv 1) pa_nil)))
      (pss_cons (ps_if (pt_not (pt_val (pe_callB call_isOw (by rfl) T.m_isinstance (by decide +kernel) (pa_cons (pv 2) (pa_cons ((pe_glob (v := .ref (ga K "Stretch")) (by rfl) T.g_Stretch rfl)) pa_nil))))) (pss_one (ps_raiseX (T.x_BadPart) (hr.mono (by decide)) takesE (pe_str))) (pss_nil))
      (pss_cons (ps_if (pt_cmpR op_eq (pv 1) (pe_int) (nomark _)) (pss_one (ps_ret (pe_ifExp (pt_val (pmt (j := 0) o_Stretch_holds T.c_Stretch (pv 2) (by decide) (hr.mono (by decide)) pass0 (pa_cons (pv 0) pa_nil))) (pmk0 (j := 0) o_Stretch (by decide) (hr.mono (by decide)) passE) (pe_non)))) (pss_nil))
      (pss_cons (ps_if (pt_cmpR op_lt (pv 1) (pe_int) (nomark _)) (pss_cons (ps_set (i := 3) sc_in_stretch.nd rfl (Or.inl rfl) (pcl o_in_stretch (hr.mono (by decide)) passE (pa_cons (pv 0) (pa_cons (pe_un un_neg (pv 1)) (pa_cons (pv 2) pa_nil)))))
      (pss_one (ps_ret (pe_ifExp (pt_cmpR op_isN (pv 3) (pe_non) (nomark _)) (pe_non) (pmt0 (j := 0) o_Stretch_turned T.c_Stretch (pv 3) (by decide) (hr.mono (by decide)) passE))))) (pss_nil))
      (pss_cons (ps_set (i := 4) sc_in_stretch.nd rfl (Or.inl rfl) (pe_ifExp (pt_cmpR op_isN (pe_fldN T.c_Stretch T.na_Stretch_low (pv 2)) (pe_non) (nomark _)) (pe_non) (pe_un un_neg (pe_op op_fdivW (pe_op op_sub (pv 0) (pe_fldN T.c_Stretch T.na_Stretch_low (pv 2))) (pv 1)))))
      (pss_cons (ps_set (i := 5) sc_in_stretch.nd rfl (Or.inl rfl) (pe_ifExp (pt_cmpR op_isN (pe_fldN T.c_Stretch T.na_Stretch_high (pv 2)) (pe_non) (nomark _)) (pe_non) (pe_un un_neg (pe_op op_fdivW (pe_op op_sub (pv 0) (pe_fldN T.c_Stretch T.na_Stretch_high (pv 2))) (pv 1)))))
      (pss_cons (ps_if (PW.pt (pw_and (pt_cmpR op_notN (pv 4) (pe_non) (nomark _)) (pw_and (pt_cmpR op_notN (pv 5) (pe_non) (nomark _)) (pw_and1 (pt_cmpR op_ge (pv 4) (pv 5) (nomark _)))))) (pss_one (ps_ret (pe_non))) (pss_nil))
      (pss_one (ps_ret (pmk (j := 2) o_Stretch (by decide) (hr.mono (by decide)) passE (pa_cons (pv 4) (pa_cons (pv 5) pa_nil)))))))))))), ?_⟩
  obtain ⟨a, b, x, rfl, Wa, ka, h⟩ := h
  simp only [spReqW, exists_and_left, lkLow, lkHigh, lkN_holds, lkN_turned, lkN_common, lkN_count, lkN_first, lkN_final, lkN_nth, lkN_below, tYes, calmS, rTupN, rIsB, LamX.tLam3, tSl, tPart, tNoPart, rSlTN, cx_K, Value.ref.injEq, HO.xd.injEq, lk0, tSeq, tPar3, tPar, tCons, tNil, tVar, tC, tAsg, gName, gCons, gNil, gTupN, gSub, tOp, rI, rI0, rU, tTest, rNe, rEq, rIxTN, rIxLN, rLenL, rLenT, rIntI, rIntB, rAbs, rSetLN, tTruL, tRaiseX, rIsTy, rIsOw, ixN0, ixN1, tRet, tIf, tIfS, tNext, tBreak, tCont, tDrop, tTupN, tLstN, tUn, tCB, tCall, tNot, tAnd, tOr, tB, tAndV, tOrV, tNotV, tChain, tApp, LamX.tLam, tRevLN, rCatN, rInTN, rInLN, flatV, inV, List.all_cons, List.all_nil, List.any_cons, List.any_nil, Bool.and_self, Bool.and_true, if_true, Bool.false_eq_true, if_false, tMt, tFldN, tSto, HO.ins.injEq, lkh, List.drop_zero, List.drop_succ_cons, List.drop_nil, rListS, wipe, L2.start, List.map_cons, List.map_nil, List.length_cons, List.length_nil, List.replicate, List.cons_append, List.nil_append, List.append_nil, Nat.reduceAdd, Nat.reduceSub, Nat.zero_add, List.replicate_succ, List.replicate_zero, List.getElem?_cons_zero, List.getElem?_cons_succ, List.set_cons_zero, List.set_cons_succ, Option.some.injEq, V.int.injEq, V.bl.injEq, V.ref.injEq, V.str.injEq, V.ty.injEq, List.cons.injEq, HO.tup.injEq, HO.lst.injEq, and_true, true_and, and_assoc, exists_eq_left, exists_eq_left', exists_and_left, exists_eq', atI0, atI1, atI2, atI3, Int.cast_ofNat_Int, Int.reduceToNat, scal_ii, scal_in, scal_ni, scal_nn, scal_bb, scal_ss, scal_sn, scal_ns, scal_bn, scal_nb, ite_iff, decide_eq_true_eq, decide_eq_false_iff_not, Bool.not_eq_true', Classical.not_not, ne_eq, not_false_eq_true, not_true_eq_false, forall_const, true_implies, false_implies, imp_self, sizeLine_eq, Nat.reduceLeDiff, reduceCtorEq, decide_true, decide_false]
  refine ⟨Wa, fun ia => ?_, ka⟩
  obtain ⟨Wb, kb, h⟩ := h ia
  refine ⟨Wb, fun ib => ?_, kb⟩
  rcases h ib with ⟨⟨t, ty, kt⟩, kE⟩ | ⟨s, dx, lo, hi, rfl, hs, ho, k⟩
  · exact ⟨t, ty, false, kt, fun _ => kE, fun e => absurd rfl e⟩
  refine ⟨_, T.ci_Stretch.ty hs, true, kit_self, fun e => (by cases e), fun _ => ?_⟩
  obtain ⟨a, rfl⟩ := isI_int ia
  obtain ⟨b, rfl⟩ := isI_int ib
  obtain ⟨bb, b0, k⟩ := k a b rfl rfl
  have mk : ∀ x y, inO a b lo hi = some (x, y) → NewsI H (ga K "Stretch") [("low", ov x), ("high", ov y)] Q := fun x y e p dx2 H2 _ s2 h2 => k _ H2 s2 (by rw [e]; exact ⟨p, dx2, rfl, h2⟩)
  have no : inO a b lo hi = none → Q .non H := fun e => k _ H (fun _ _ h => h) (by rw [e]; rfl)
  have e0 : b = 0 → inO a b lo hi = if hasV lo hi (.int a) = true then some (none, none) else none := fun e => by unfold inO; rw [if_pos e]; rfl
  have ep : ¬ b = 0 → inO a b lo hi = inP a b lo hi := fun e => by unfold inO; rw [if_neg e, if_neg (by omega)]
  have dv : ∀ x, 0 < b → CDivW x b := fun x h => ⟨h, log_lt bb (by decide) (by decide)⟩
  cases lo <;> cases hi <;> simp only [spHolds, spSt, wh_non, wh_int, exists_and_left, hs, lkLow, lkHigh, lkN_holds, lkN_turned, lkN_common, lkN_count, lkN_first, lkN_final, lkN_nth, lkN_below, ov, tYes, calmS, rTupN, rIsB, LamX.tLam3, tSl, tPart, tNoPart, rSlTN, cx_K, Value.ref.injEq, HO.xd.injEq, lk0, tSeq, tPar3, tPar, tCons, tNil, tVar, tC, tAsg, gName, gCons, gNil, gTupN, gSub, tOp, rI, rI0, rU, tTest, rNe, rEq, rIxTN, rIxLN, rLenL, rLenT, rIntI, rIntB, rAbs, rSetLN, tTruL, tRaiseX, rIsTy, rIsOw, ixN0, ixN1, tRet, tIf, tIfS, tNext, tBreak, tCont, tDrop, tTupN, tLstN, tUn, tCB, tCall, tNot, tAnd, tOr, tB, tAndV, tOrV, tNotV, tChain, tApp, LamX.tLam, tRevLN, rCatN, rInTN, rInLN, flatV, inV, List.all_cons, List.all_nil, List.any_cons, List.any_nil, Bool.and_self, Bool.and_true, if_true, Bool.false_eq_true, if_false, tMt, tFldN, tSto, HO.ins.injEq, lkh, List.drop_zero, List.drop_succ_cons, List.drop_nil, rListS, wipe, L2.start, List.map_cons, List.map_nil, List.length_cons, List.length_nil, List.replicate, List.cons_append, List.nil_append, List.append_nil, Nat.reduceAdd, Nat.reduceSub, Nat.zero_add, List.replicate_succ, List.replicate_zero, List.getElem?_cons_zero, List.getElem?_cons_succ, List.set_cons_zero, List.set_cons_succ, Option.some.injEq, V.int.injEq, V.bl.injEq, V.ref.injEq, V.str.injEq, V.ty.injEq, List.cons.injEq, HO.tup.injEq, HO.lst.injEq, and_true, true_and, and_assoc, exists_eq_left, exists_eq_left', exists_and_left, exists_eq', atI0, atI1, atI2, atI3, Int.cast_ofNat_Int, Int.reduceToNat, scal_ii, scal_in, scal_ni, scal_nn, scal_bb, scal_ss, scal_sn, scal_ns, scal_bn, scal_nb, ite_iff, decide_eq_true_eq, decide_eq_false_iff_not, Bool.not_eq_true', Classical.not_not, ne_eq, not_false_eq_true, not_true_eq_false, forall_const, true_implies, false_implies, imp_self, sizeLine_eq, Nat.reduceLeDiff, reduceCtorEq, decide_true, decide_false]
  all_goals refine ⟨fun e => ⟨dx, _, _, hs, fun h => ⟨fun _ => mk none none (by rw [e0 e, if_pos h]), fun e => (by cases e)⟩, fun h => no (by rw [e0 e, if_neg h])⟩, fun e => ⟨fun h => absurd h (by omega), fun _ => ?_⟩⟩
  · exact ⟨fun _ => mk none none (by rw [ep e]; simp [inP, upO, okS, ov]), fun e => by cases e⟩
  · exact ⟨dv _ (by omega), fun _ => mk none (some _) (by rw [ep e]; simp [inP, upO, okS, ov]), fun e => by cases e⟩
  · exact ⟨dv _ (by omega), fun _ => mk (some _) none (by rw [ep e]; simp [inP, upO, okS, ov]), fun e => by cases e⟩
  · refine ⟨dv _ (by omega), dv _ (by omega), fun h => no ?_, fun h => ⟨fun h2 => mk (some _) (some _) ?_, fun h2 => ?_⟩⟩
    · rw [ep e, inP, if_neg]; simp [upO, okS, ov]; omega
    · rw [ep e, inP, if_pos]; rfl; simp [upO, okS, ov]; omega
    · simp [okS] at h2; omega
theorem o_in_stretch (T : Txt K mg) : OkF P w K mg base (L2.CX P w) 9 "in_stretch" ["a", "b", "stretch"] (spIn K fun _ => True) := by
  have o_in_stretch := o_in_stretch_1 (P := P) (w := w) (base := base) T
  have o_require_whole := o_require_whole (P := P) (w := w) (base := base) T
  have o_Stretch := o_Stretch (P := P) (w := w) (base := base) T
  have o_Stretch_holds := o_Stretch_holds (P := P) (w := w) (base := base) T
  have o_Stretch_turned := o_Stretch_turned (P := P) (w := w) (base := base) T
  obtain ⟨f, fd, g, F⟩ := T.d_in_stretch
  refine ⟨f, fd, g, F.kp, F.binds (fun _ _ _ _ _ _ us hl => match us, hl with | [_, _, _], _ => rfl), F.okX sc_in_stretch (fun vs H Q E h => ?_) (fun cdv A outer s H vs Q E hr h => ?_)⟩
  · obtain ⟨_, _, _, rfl, _⟩ := h; rfl
  have hu64 := hr.units
  refine ⟨_, pss_cons (ps_expr (pcl o_require_whole (hr.mono (by decide)) passE (pa_cons (pv 0) pa_nil)))
      (pss_cons (ps_expr (pcl o_require_whole (hr.mono (by decide)) passE (pa_cons (pv 1) pa_nil)))
      (pss_cons (ps_if (pt_not (pt_val (pe_callB call_isOw (by rfl) T.m_isinstance (by decide +kernel) (pa_cons (pv 2) (pa_cons ((pe_glob (v := .ref (ga K "Stretch")) (by rfl) T.g_Stretch rfl)) pa_nil))))) (pss_one (ps_raiseX (T.x_BadPart) (hr.mono (by decide)) takesE (pe_str))) (pss_nil))
      (pss_cons (ps_if (pt_cmpR op_eq (pv 1) (pe_int) (nomark _)) (pss_one (ps_ret (pe_ifExp (pt_val (pmt (j := 0) o_Stretch_holds T.c_Stretch (pv 2) (by decide) (hr.mono (by decide)) pass0 (pa_cons (pv 0) pa_nil))) (pmk0 (j := 0) o_Stretch (by decide) (hr.mono (by decide)) passE) (pe_non)))) (pss_nil))
      (pss_cons (ps_if (pt_cmpR op_lt (pv 1) (pe_int) (nomark _)) (pss_cons (ps_set (i := 3) sc_in_stretch.nd rfl (Or.inl rfl) (pcl o_in_stretch (hr.mono (by decide)) passE (pa_cons (pv 0) (pa_cons (pe_un un_neg (pv 1)) (pa_cons (pv 2) pa_nil)))))
      (pss_one (ps_ret (pe_ifExp (pt_cmpR op_isN (pv 3) (pe_non) (nomark _)) (pe_non) (pmt0 (j := 0) o_Stretch_turned T.c_Stretch (pv 3) (by decide) (hr.mono (by decide)) passE))))) (pss_nil))
      (pss_cons (ps_set (i := 4) sc_in_stretch.nd rfl (Or.inl rfl) (pe_ifExp (pt_cmpR op_isN (pe_fldN T.c_Stretch T.na_Stretch_low (pv 2)) (pe_non) (nomark _)) (pe_non) (pe_un un_neg (pe_op op_fdivW (pe_op op_sub (pv 0) (pe_fldN T.c_Stretch T.na_Stretch_low (pv 2))) (pv 1)))))
      (pss_cons (ps_set (i := 5) sc_in_stretch.nd rfl (Or.inl rfl) (pe_ifExp (pt_cmpR op_isN (pe_fldN T.c_Stretch T.na_Stretch_high (pv 2)) (pe_non) (nomark _)) (pe_non) (pe_un un_neg (pe_op op_fdivW (pe_op op_sub (pv 0) (pe_fldN T.c_Stretch T.na_Stretch_high (pv 2))) (pv 1)))))
      (pss_cons (ps_if (PW.pt (pw_and (pt_cmpR op_notN (pv 4) (pe_non) (nomark _)) (pw_and (pt_cmpR op_notN (pv 5) (pe_non) (nomark _)) (pw_and1 (pt_cmpR op_ge (pv 4) (pv 5) (nomark _)))))) (pss_one (ps_ret (pe_non))) (pss_nil))
      (pss_one (ps_ret (pmk (j := 2) o_Stretch (by decide) (hr.mono (by decide)) passE (pa_cons (pv 4) (pa_cons (pv 5) pa_nil)))))))))))), ?_⟩
  obtain ⟨a, b, x, rfl, Wa, ka, h⟩ := h
  simp only [spReqW, exists_and_left, lkLow, lkHigh, lkN_holds, lkN_turned, lkN_common, lkN_count, lkN_first, lkN_final, lkN_nth, lkN_below, tYes, calmS, rTupN, rIsB, LamX.tLam3, tSl, tPart, tNoPart, rSlTN, cx_K, Value.ref.injEq, HO.xd.injEq, lk0, tSeq, tPar3, tPar, tCons, tNil, tVar, tC, tAsg, gName, gCons, gNil, gTupN, gSub, tOp, rI, rI0, rU, tTest, rNe, rEq, rIxTN, rIxLN, rLenL, rLenT, rIntI, rIntB, rAbs, rSetLN, tTruL, tRaiseX, rIsTy, rIsOw, ixN0, ixN1, tRet, tIf, tIfS, tNext, tBreak, tCont, tDrop, tTupN, tLstN, tUn, tCB, tCall, tNot, tAnd, tOr, tB, tAndV, tOrV, tNotV, tChain, tApp, LamX.tLam, tRevLN, rCatN, rInTN, rInLN, flatV, inV, List.all_cons, List.all_nil, List.any_cons, List.any_nil, Bool.and_self, Bool.and_true, if_true, Bool.false_eq_true, if_false, tMt, tFldN, tSto, HO.ins.injEq, lkh, List.drop_zero, List.drop_succ_cons, List.drop_nil, rListS, wipe, L2.start, List.map_cons, List.map_nil, List.length_cons, List.length_nil, List.replicate, List.cons_append, List.nil_append, List.append_nil, Nat.reduceAdd, Nat.reduceSub, Nat.zero_add, List.replicate_succ, List.replicate_zero, List.getElem?_cons_zero, List.getElem?_cons_succ, List.set_cons_zero, List.set_cons_succ, Option.some.injEq, V.int.injEq, V.bl.injEq, V.ref.injEq, V.str.injEq, V.ty.injEq, List.cons.injEq, HO.tup.injEq, HO.lst.injEq, and_true, true_and, and_assoc, exists_eq_left, exists_eq_left', exists_and_left, exists_eq', atI0, atI1, atI2, atI3, Int.cast_ofNat_Int, Int.reduceToNat, scal_ii, scal_in, scal_ni, scal_nn, scal_bb, scal_ss, scal_sn, scal_ns, scal_bn, scal_nb, ite_iff, decide_eq_true_eq, decide_eq_false_iff_not, Bool.not_eq_true', Classical.not_not, ne_eq, not_false_eq_true, not_true_eq_false, forall_const, true_implies, false_implies, imp_self, sizeLine_eq, Nat.reduceLeDiff, reduceCtorEq, decide_true, decide_false]
  refine ⟨Wa, fun ia => ?_, ka⟩
  obtain ⟨Wb, kb, h⟩ := h ia
  refine ⟨Wb, fun ib => ?_, kb⟩
  rcases h ib with ⟨⟨t, ty, kt⟩, kE⟩ | ⟨s, dx, lo, hi, rfl, hs, ho, k⟩
  · exact ⟨t, ty, false, kt, fun _ => kE, fun e => absurd rfl e⟩
  refine ⟨_, T.ci_Stretch.ty hs, true, kit_self, fun e => (by cases e), fun _ => ?_⟩
  obtain ⟨a, rfl⟩ := isI_int ia
  obtain ⟨b, rfl⟩ := isI_int ib
  obtain ⟨bb, _, k⟩ := k a b rfl rfl
  have mk : ∀ x y, inO a b lo hi = some (x, y) → NewsI H (ga K "Stretch") [("low", ov x), ("high", ov y)] Q := fun x y e p dx2 H2 _ s2 h2 => k _ H2 s2 (by rw [e]; exact ⟨p, dx2, rfl, h2⟩)
  have no : inO a b lo hi = none → Q .non H := fun e => k _ H (fun _ _ h => h) (by rw [e]; rfl)
  have e0 : b = 0 → inO a b lo hi = if hasV lo hi (.int a) = true then some (none, none) else none := fun e => by unfold inO; rw [if_pos e]; rfl
  have ep : 0 < b → inO a b lo hi = inP a b lo hi := fun e => by unfold inO; rw [if_neg (by omega), if_neg (by omega)]
  have en : b < 0 → inO a b lo hi = (inO a (-b) lo hi).map (fun q => (turnO q.2, turnO q.1)) := fun e => by unfold inO; rw [if_neg (by omega), if_pos e, if_neg (show ¬ -b = 0 by omega), if_neg (show ¬ -b < 0 by omega)]
  have oo : ∀ x y, 0 < -b → inO a (-b) lo hi = some (x, y) → okO x y := fun x y e h => by
    unfold inO at h
    rw [if_neg (by omega), if_neg (by omega)] at h
    unfold inP at h
    split at h
    · rename_i q; cases h; exact okS_ov.mp q
    · cases h
  have dv : ∀ x, 0 < b → CDivW x b := fun x h => ⟨h, log_lt bb (by decide) (by decide)⟩
  have rc : ∀ (Q2 : VK) (E2 : XK), b < 0 → (∀ v H', Same H H' → SV K H' v (inO a (-b) lo hi) → Q2 v H') → spIn K (fun b => 0 ≤ b) [.int a, .int (-b), .ref s] H Q2 E2 := fun Q2 E2 e hq => by
    refine ⟨_, _, _, rfl, wh_int, fun h => (by cases h), fun _ => ⟨wh_int, fun h => (by cases h), fun _ => .inr ⟨s, dx, lo, hi, rfl, hs, ho, fun a' b' ea eb => ?_⟩⟩⟩
    cases ea
    cases eb
    exact ⟨by rw [Int.natAbs_neg]; exact bb, by omega, hq⟩
  have tn : ∀ v H', b < 0 → Same H H' → SV K H' v (inO a (-b) lo hi) → (v = V.non → Q V.non H') ∧ (¬v = V.non → ∃ c, v = V.ref c ∧ ∃ x_1 x_2, H' c = some (HO.ins (ga K "Stretch") x_1 x_2) ∧ List.lookup ("turned" : Str) x_2 = none ∧ ∀ E2, spTurned K [v] H' Q E2) := fun v H' e s1 hv => by
    cases e1 : inO a (-b) lo hi with
    | none =>
      rw [e1] at hv
      cases hv
      exact ⟨fun _ => k _ H' s1 (by rw [en e, e1]; rfl), fun h => absurd rfl h⟩
    | some q =>
      obtain ⟨x, y⟩ := q
      rw [e1] at hv
      obtain ⟨s2, d2, rfl, h2⟩ := hv
      exact ⟨fun h => (by cases h), fun _ => ⟨s2, rfl, d2, _, h2, lkN_turned, fun E2 => ⟨s2, rfl, d2, x, y, h2, oo x y (by omega) e1, fun p dx3 H3 _ s3 h3 => k _ H3 (s1.trans s3) (by rw [en e, e1]; exact ⟨p, dx3, rfl, h3⟩)⟩⟩⟩
  cases lo <;> cases hi <;> simp only [spHolds, spSt, wh_non, wh_int, exists_and_left, hs, lkLow, lkHigh, lkN_holds, lkN_turned, lkN_common, lkN_count, lkN_first, lkN_final, lkN_nth, lkN_below, ov, tYes, calmS, rTupN, rIsB, LamX.tLam3, tSl, tPart, tNoPart, rSlTN, cx_K, Value.ref.injEq, HO.xd.injEq, lk0, tSeq, tPar3, tPar, tCons, tNil, tVar, tC, tAsg, gName, gCons, gNil, gTupN, gSub, tOp, rI, rI0, rU, tTest, rNe, rEq, rIxTN, rIxLN, rLenL, rLenT, rIntI, rIntB, rAbs, rSetLN, tTruL, tRaiseX, rIsTy, rIsOw, ixN0, ixN1, tRet, tIf, tIfS, tNext, tBreak, tCont, tDrop, tTupN, tLstN, tUn, tCB, tCall, tNot, tAnd, tOr, tB, tAndV, tOrV, tNotV, tChain, tApp, LamX.tLam, tRevLN, rCatN, rInTN, rInLN, flatV, inV, List.all_cons, List.all_nil, List.any_cons, List.any_nil, Bool.and_self, Bool.and_true, if_true, Bool.false_eq_true, if_false, tMt, tFldN, tSto, HO.ins.injEq, lkh, List.drop_zero, List.drop_succ_cons, List.drop_nil, rListS, wipe, L2.start, List.map_cons, List.map_nil, List.length_cons, List.length_nil, List.replicate, List.cons_append, List.nil_append, List.append_nil, Nat.reduceAdd, Nat.reduceSub, Nat.zero_add, List.replicate_succ, List.replicate_zero, List.getElem?_cons_zero, List.getElem?_cons_succ, List.set_cons_zero, List.set_cons_succ, Option.some.injEq, V.int.injEq, V.bl.injEq, V.ref.injEq, V.str.injEq, V.ty.injEq, List.cons.injEq, HO.tup.injEq, HO.lst.injEq, and_true, true_and, and_assoc, exists_eq_left, exists_eq_left', exists_and_left, exists_eq', atI0, atI1, atI2, atI3, Int.cast_ofNat_Int, Int.reduceToNat, scal_ii, scal_in, scal_ni, scal_nn, scal_bb, scal_ss, scal_sn, scal_ns, scal_bn, scal_nb, ite_iff, decide_eq_true_eq, decide_eq_false_iff_not, Bool.not_eq_true', Classical.not_not, ne_eq, not_false_eq_true, not_true_eq_false, forall_const, true_implies, false_implies, imp_self, sizeLine_eq, Nat.reduceLeDiff, reduceCtorEq, decide_true, decide_false]
  all_goals refine ⟨fun e => ⟨dx, _, _, hs, fun h => ⟨fun _ => mk none none (by rw [e0 e, if_pos h]), fun e => (by cases e)⟩, fun h => no (by rw [e0 e, if_neg h])⟩, fun e => ⟨fun h => rc _ _ h fun v H' s1 hv => ?_, fun h => ?_⟩⟩
  all_goals first
    | (obtain ⟨h1, h2⟩ := tn v H' h s1 hv
       exact ⟨h1, fun h3 => let ⟨c, e1, x1, x2, e2, e3, e4⟩ := h2 h3; ⟨c, e1, x1, x2, e2, e3, e4 _⟩⟩)
    | skip
  · exact ⟨fun _ => mk none none (by rw [ep (by omega)]; simp [inP, upO, okS, ov]), fun e => by cases e⟩
  · exact ⟨dv _ (by omega), fun _ => mk none (some _) (by rw [ep (by omega)]; simp [inP, upO, okS, ov]), fun e => by cases e⟩
  · exact ⟨dv _ (by omega), fun _ => mk (some _) none (by rw [ep (by omega)]; simp [inP, upO, okS, ov]), fun e => by cases e⟩
  · refine ⟨dv _ (by omega), dv _ (by omega), fun h => no ?_, fun h => ⟨fun h2 => mk (some _) (some _) ?_, fun h2 => ?_⟩⟩
    · rw [ep (by omega), inP, if_neg]; simp [upO, okS, ov]; omega
    · rw [ep (by omega), inP, if_pos]; rfl; simp [upO, okS, ov]; omega
    · simp [okS] at h2; omega
theorem in_up {a b : Int} (b1 : 0 < b) {lo hi : Option Int} {n : Int} : inS (upO a b lo) (upO a b hi) n = inS lo hi (a + b * n) := by
  have key : ∀ x : Int, -((a - x) / b) ≤ n ↔ x ≤ a + b * n := fun x => by
    have h := Int.le_ediv_iff_mul_le (a := -n) (b := a - x) b1
    rw [Int.neg_mul, Int.mul_comm n b] at h
    omega
  have e1 : ∀ x : Int, decide (-((a - x) / b) ≤ n) = decide (x ≤ a + b * n) := fun x => by rw [decide_eq_decide]; exact key x
  have e2 : ∀ x : Int, decide (n < -((a - x) / b)) = decide (a + b * n < x) := fun x => by rw [decide_eq_decide]; have := key x; omega
  cases lo <;> cases hi <;> simp [inS, upO, e1, e2]
/-- n is in what was found -/
def fhas (o : Option PP) (n : Int) : Bool := match o with
  | none => false
  | some (x, y) => inS x y n
theorem inS_none {x y : Option Int} (h : ¬ okS (ov x) (ov y) = true) (n : Int) : inS x y n = false := by
  cases x <;> cases y <;> simp_all [okS, ov, inS]
  omega
theorem fhas_inP {a b : Int} (b1 : 0 < b) {lo hi : Option Int} {n : Int} : fhas (inP a b lo hi) n = inS lo hi (a + b * n) := by
  unfold inP
  split
  · exact in_up b1
  · rename_i h
    rw [← in_up b1, inS_none h]; rfl
theorem in_turn {lo hi : Option Int} {n : Int} : inS (turnO hi) (turnO lo) n = inS lo hi (-n) := by
  have e1 : ∀ h : Int, decide (1 - h ≤ n) = decide (-n < h) := fun l => by rw [decide_eq_decide]; omega
  have e2 : ∀ l : Int, decide (n < 1 - l) = decide (l ≤ -n) := fun h => by rw [decide_eq_decide]; omega
  cases lo <;> cases hi <;> simp [inS, turnO, e1, e2, Bool.and_comm]
theorem fhas_in {a b : Int} {lo hi : Option Int} {n : Int} : fhas (inO a b lo hi) n = inS lo hi (a + b * n) := by
  unfold inO
  split
  · rename_i h
    subst h
    rw [Int.zero_mul, Int.add_zero]
    cases e : inS lo hi a <;> simp [fhas, inS]
  · split
    · have h : 0 < -b := by omega
      have k := fhas_inP (a := a) h (lo := lo) (hi := hi) (n := -n)
      rw [Int.neg_mul_neg] at k
      rw [← k]
      cases inP a (-b) lo hi with
      | none => rfl
      | some q => exact in_turn
    · exact fhas_inP (by omega)
def okV : Option PP → Prop
  | none => True
  | some (x, y) => okO x y
theorem ok_turn {lo hi : Option Int} (h : okO lo hi) : okO (turnO hi) (turnO lo) := by cases lo <;> cases hi <;> simp_all [okO, turnO]
theorem ok_inP {a b : Int} {lo hi : Option Int} : okV (inP a b lo hi) := by
  unfold inP
  split
  · rename_i h; exact okS_ov.mp h
  · trivial
theorem ok_in {a b : Int} {lo hi : Option Int} : okV (inO a b lo hi) := by
  unfold inO
  split
  · split <;> trivial
  · split
    · have k := ok_inP (a := a) (b := -b) (lo := lo) (hi := hi)
      cases e : inP a (-b) lo hi with
      | none => trivial
      | some q => rw [e] at k; exact ok_turn k
    · exact ok_inP

end
end Iz
/-! k06_d -/
set_option Elab.async false
set_option linter.all false
set_option maxRecDepth 100000
set_option maxHeartbeats 4000000
namespace Iz
open PySem PySem.Spec PyProof.Rows L2
open He (ga)
local macro_rules | `(tactic| walk_at "wp") => `(tactic| simp only [tYes, calmS, rTupN, rIsB, LamX.tLam3, tSl, tPart, tNoPart, rSlTN, cx_K, Value.ref.injEq, HO.xd.injEq, lk0, tSeq, tPar3, tPar, tCons, tNil, tVar, tC, tAsg, gName, gCons, gNil, gTupN, gSub, tOp, rI, rI0, rU, tTest, rNe, rEq, rIxTN, rIxLN, rLenL, rLenT, rIntI, rIntB, rAbs, rSetLN, tTruL, tRaiseX, rIsTy, rIsOw, ixN0, ixN1, tRet, tIf, tIfS, tNext, tBreak, tCont, tDrop, tTupN, tLstN, tUn, tCB, tCall, tNot, tAnd, tOr, tB, tAndV, tOrV, tNotV, tChain, tApp, LamX.tLam, tRevLN, rCatN, rInTN, rInLN, flatV, inV, List.all_cons, List.all_nil, List.any_cons, List.any_nil, Bool.and_self, Bool.and_true, if_true, Bool.false_eq_true, if_false, tMt, tFldN, tSto, HO.ins.injEq, lkh, List.drop_zero, List.drop_succ_cons, List.drop_nil, rListS, wipe, L2.start, List.map_cons, List.map_nil, List.length_cons, List.length_nil, List.replicate, List.cons_append, List.nil_append, List.append_nil, Nat.reduceAdd, Nat.reduceSub, Nat.zero_add, List.replicate_succ, List.replicate_zero, List.getElem?_cons_zero, List.getElem?_cons_succ, List.set_cons_zero, List.set_cons_succ, Option.some.injEq, V.int.injEq, V.bl.injEq, V.ref.injEq, V.str.injEq, V.ty.injEq, List.cons.injEq, HO.tup.injEq, HO.lst.injEq, and_true, true_and, and_assoc, exists_eq_left, exists_eq_left', exists_and_left, exists_eq', atI0, atI1, atI2, atI3, Int.cast_ofNat_Int, Int.reduceToNat, scal_ii, scal_in, scal_ni, scal_nn, scal_bb, scal_ss, scal_sn, scal_ns, scal_bn, scal_nb, ite_iff, decide_eq_true_eq, decide_eq_false_iff_not, Bool.not_eq_true', Classical.not_not, ne_eq, not_false_eq_true, not_true_eq_false, forall_const, true_implies, false_implies, imp_self, sizeLine_eq, Nat.reduceLeDiff, reduceCtorEq, decide_true, decide_false])
section
variable {P : Program} {w : World} {K : PySem.W.Frag} {mg : Str → Option Value} {base : Heap}
/-! ### boxes and cells -/
theorem PairK.ty4 {H : Hp} {v : V} (h : PairK K H v) : (∃ p xs, v = .ref p ∧ H p = some (.tup xs) ∧ ∀ z ∈ xs, Wh K H z) ∨ ∃ t, TyX K H v t ∧ PySem.W.kitOne K t (.type "tuple") = some false ∧ ∀ p xs, v = .ref p → H p ≠ some (.tup xs) := by
  cases h with
  | non => exact .inr ⟨_, .base .non, kit_ty (by decide +kernel), fun _ _ e => (by cases e)⟩
  | bl b => exact .inr ⟨_, .base (.bl b), kit_ty (by decide +kernel), fun _ _ e => (by cases e)⟩
  | int i => exact .inr ⟨_, .base (.int i), kit_ty (by decide +kernel), fun _ _ e => (by cases e)⟩
  | str s => exact .inr ⟨_, .base (.str s), kit_ty (by decide +kernel), fun _ _ e => (by cases e)⟩
  | lst h => exact .inr ⟨_, .base (.lst h), kit_ty (by decide +kernel), fun p xs e z => by cases e; rw [h] at z; cases z⟩
  | tup h w => exact .inl ⟨_, _, rfl, h, w⟩
  | ins h T k => exact .inr ⟨_, T.ty h, k, fun p xs e z => by cases e; rw [h] at z; cases z⟩
/-- the ends of the box that stands there -/
def boxL : List V → Bool
  | [a, b, c, d] => okS a b && okS c d
  | _ => false
def boxV (H : Hp) : V → Bool
  | .ref p => match H p with
    | some (.tup xs) => boxL xs
    | _ => false
  | _ => false
def spIsBox (K : PySem.W.Frag) : Sp := fun vs H Q _ => ∃ x, vs = [x] ∧ PairK K H x ∧ Q (.bl (boxV H x)) H
theorem o_is_box (T : Txt K mg) : OkF P w K mg base CX0 3 "is_box" ["value"] (spIsBox K) := by
  have o_is_span := o_is_span (P := P) (w := w) (base := base) T
  obtain ⟨f, fd, g, F⟩ := T.d_is_box
  refine ⟨f, fd, g, F.kp, F.binds (fun _ _ _ _ _ _ us hl => match us, hl with | [_], _ => rfl), F.ok sc_is_box (fun vs H Q E h => ?_) (fun cdv A outer s H vs Q E hr h => ?_)⟩
  · first | (obtain ⟨_, rfl, _⟩ := h; rfl) | (obtain ⟨_, _, rfl, _⟩ := h; rfl) | (obtain ⟨_, _, _, rfl, _⟩ := h; rfl) | (obtain ⟨_, _, _, _, rfl, _⟩ := h; rfl) | (obtain ⟨_, _, _, _, _, rfl, _⟩ := h; rfl) | (obtain ⟨_, _, _, _, _, _, rfl, _⟩ := h; rfl) | (obtain ⟨_, _, _, _, _, _, _, rfl, _⟩ := h; rfl)
  have hu64 := hr.units
  refine ⟨_, pss_cons (ps_if (PW.pt (pw_or (pt_not (pt_val (pe_callB call_isTy (by rfl) T.m_isinstance (by decide +kernel) (pa_cons (pv 0) (pa_cons ((pe_bltn (v := .ty "tuple") (by rfl) T.m_tuple (by decide +kernel) rfl)) pa_nil))))) (pw_or1 (pt_cmpR op_ne (pe_callB call_lenT (by rfl) T.m_len (by decide +kernel) (pa_cons (pv 0) pa_nil)) (pe_int) (nomark _))))) (pss_one (ps_ret (pe_bl))) (pss_nil))
      (pss_one (ps_ret (pe_and (pcl o_is_span (hr.mono (by decide)) pass0 (pa_cons (pe_ix ix_tupN (pv 0) (pe_int) (fun _ _ => rfl)) (pa_cons (pe_ix ix_tupN (pv 0) (pe_int) (fun _ _ => rfl)) pa_nil))) (pe_one (pcl o_is_span (hr.mono (by decide)) pass0 (pa_cons (pe_ix ix_tupN (pv 0) (pe_int) (fun _ _ => rfl)) (pa_cons (pe_ix ix_tupN (pv 0) (pe_int) (fun _ _ => rfl)) pa_nil))))))), ?_⟩
  obtain ⟨x, rfl, hk, k⟩ := h
  simp only [spSpan, exists_and_left, tYes, calmS, rTupN, rIsB, LamX.tLam3, tSl, tPart, tNoPart, rSlTN, cx_K, Value.ref.injEq, HO.xd.injEq, lk0, tSeq, tPar3, tPar, tCons, tNil, tVar, tC, tAsg, gName, gCons, gNil, gTupN, gSub, tOp, rI, rI0, rU, tTest, rNe, rEq, rIxTN, rIxLN, rLenL, rLenT, rIntI, rIntB, rAbs, rSetLN, tTruL, tRaiseX, rIsTy, rIsOw, ixN0, ixN1, tRet, tIf, tIfS, tNext, tBreak, tCont, tDrop, tTupN, tLstN, tUn, tCB, tCall, tNot, tAnd, tOr, tB, tAndV, tOrV, tNotV, tChain, tApp, LamX.tLam, tRevLN, rCatN, rInTN, rInLN, flatV, inV, List.all_cons, List.all_nil, List.any_cons, List.any_nil, Bool.and_self, Bool.and_true, if_true, Bool.false_eq_true, if_false, tMt, tFldN, tSto, HO.ins.injEq, lkh, List.drop_zero, List.drop_succ_cons, List.drop_nil, rListS, wipe, L2.start, List.map_cons, List.map_nil, List.length_cons, List.length_nil, List.replicate, List.cons_append, List.nil_append, List.append_nil, Nat.reduceAdd, Nat.reduceSub, Nat.zero_add, List.replicate_succ, List.replicate_zero, List.getElem?_cons_zero, List.getElem?_cons_succ, List.set_cons_zero, List.set_cons_succ, Option.some.injEq, V.int.injEq, V.bl.injEq, V.ref.injEq, V.str.injEq, V.ty.injEq, List.cons.injEq, HO.tup.injEq, HO.lst.injEq, and_true, true_and, and_assoc, exists_eq_left, exists_eq_left', exists_and_left, exists_eq', atI0, atI1, atI2, atI3, Int.cast_ofNat_Int, Int.reduceToNat, scal_ii, scal_in, scal_ni, scal_nn, scal_bb, scal_ss, scal_sn, scal_ns, scal_bn, scal_nb, ite_iff, decide_eq_true_eq, decide_eq_false_iff_not, Bool.not_eq_true', Classical.not_not, ne_eq, not_false_eq_true, not_true_eq_false, forall_const, true_implies, false_implies, imp_self, sizeLine_eq, Nat.reduceLeDiff, reduceCtorEq, decide_true, decide_false]
  rcases hk.ty4 with ⟨p, xs, rfl, hx, hw⟩ | ⟨t, ty, e, no⟩
  · refine ⟨_, .base (.tup hx), true, kit_ty (by decide +kernel), fun e => (by cases e), fun _ => ?_⟩
    simp only [hx, exists_and_left, tYes, calmS, rTupN, rIsB, LamX.tLam3, tSl, tPart, tNoPart, rSlTN, cx_K, Value.ref.injEq, HO.xd.injEq, lk0, tSeq, tPar3, tPar, tCons, tNil, tVar, tC, tAsg, gName, gCons, gNil, gTupN, gSub, tOp, rI, rI0, rU, tTest, rNe, rEq, rIxTN, rIxLN, rLenL, rLenT, rIntI, rIntB, rAbs, rSetLN, tTruL, tRaiseX, rIsTy, rIsOw, ixN0, ixN1, tRet, tIf, tIfS, tNext, tBreak, tCont, tDrop, tTupN, tLstN, tUn, tCB, tCall, tNot, tAnd, tOr, tB, tAndV, tOrV, tNotV, tChain, tApp, LamX.tLam, tRevLN, rCatN, rInTN, rInLN, flatV, inV, List.all_cons, List.all_nil, List.any_cons, List.any_nil, Bool.and_self, Bool.and_true, if_true, Bool.false_eq_true, if_false, tMt, tFldN, tSto, HO.ins.injEq, lkh, List.drop_zero, List.drop_succ_cons, List.drop_nil, rListS, wipe, L2.start, List.map_cons, List.map_nil, List.length_cons, List.length_nil, List.replicate, List.cons_append, List.nil_append, List.append_nil, Nat.reduceAdd, Nat.reduceSub, Nat.zero_add, List.replicate_succ, List.replicate_zero, List.getElem?_cons_zero, List.getElem?_cons_succ, List.set_cons_zero, List.set_cons_succ, Option.some.injEq, V.int.injEq, V.bl.injEq, V.ref.injEq, V.str.injEq, V.ty.injEq, List.cons.injEq, HO.tup.injEq, HO.lst.injEq, and_true, true_and, and_assoc, exists_eq_left, exists_eq_left', exists_and_left, exists_eq', atI0, atI1, atI2, atI3, Int.cast_ofNat_Int, Int.reduceToNat, scal_ii, scal_in, scal_ni, scal_nn, scal_bb, scal_ss, scal_sn, scal_ns, scal_bn, scal_nb, ite_iff, decide_eq_true_eq, decide_eq_false_iff_not, Bool.not_eq_true', Classical.not_not, ne_eq, not_false_eq_true, not_true_eq_false, forall_const, true_implies, false_implies, imp_self, sizeLine_eq, Nat.reduceLeDiff, reduceCtorEq, decide_true, decide_false]
    have pv : boxV H (.ref p) = boxL xs := by simp only [boxV, hx]
    rw [pv] at k
    refine ⟨fun h2 => ?_, fun h2 => ?_⟩
    · have : boxL xs = false := by
        match xs, h2 with
        | [a, b, c, d], h => exact absurd rfl h
        | [], h => rfl
        | [_], h => rfl
        | [_, _], h => rfl
        | [_, _, _], h => rfl
        | _ :: _ :: _ :: _ :: _ :: _, h => rfl
      rw [this] at k; exact k
    · obtain ⟨a, b, c, d, rfl⟩ : ∃ a b c d, xs = [a, b, c, d] := by
        match xs, h2 with
        | [a, b, c, d], h => exact ⟨a, b, c, d, rfl⟩
        | [], h => simp at h
        | [_], h => simp at h
        | [_, _], h => simp at h
        | [_, _, _], h => simp at h
        | _ :: _ :: _ :: _ :: _ :: _, h => simp at h; omega
      have kb : Q (.bl (okS a b && okS c d)) H := k
      refine ⟨_, atI0, _, atI1, hw a (by simp), hw b (by simp), fun e => ?_, fun e => ?_⟩
      · rw [e, Bool.true_and] at kb
        exact ⟨_, atI2, _, atI_ok (by decide) rfl, hw c (by simp), hw d (by simp), kb⟩
      · have e : okS a b = false := by simpa using e
        rw [e] at kb; exact kb
  · refine ⟨t, ty, false, e, fun _ => ?_, fun h => absurd rfl h⟩
    have : boxV H x = false := by
      unfold boxV
      split
      · rename_i p
        split
        · rename_i xs h; exact absurd h (no p xs rfl)
        · rfl
      · rfl
    rw [this] at k; exact k
theorem boxV_some {H : Hp} {x : V} (e : boxV H x = true) : ∃ p x0 x1 y0 y1, x = .ref p ∧ H p = some (.tup [ov x0, ov x1, ov y0, ov y1]) ∧ okO x0 x1 ∧ okO y0 y1 := by
  unfold boxV at e
  split at e
  · rename_i p
    split at e
    · rename_i xs hx
      unfold boxL at e
      split at e
      · rename_i a b c d
        rw [Bool.and_eq_true] at e
        obtain ⟨x0, rfl⟩ := isE_ov (okS_E e.1).1
        obtain ⟨x1, rfl⟩ := isE_ov (okS_E e.1).2
        obtain ⟨y0, rfl⟩ := isE_ov (okS_E e.2).1
        obtain ⟨y1, rfl⟩ := isE_ov (okS_E e.2).2
        exact ⟨p, x0, x1, y0, y1, rfl, hx, okS_ov.mp e.1, okS_ov.mp e.2⟩
      · cases e
    · cases e
  · cases e
def bothO : Option PP → Option PP → Option PP
  | some (x, y), some (z, u) => if okS (ov (glow x z)) (ov (lhigh y u)) = true then some (glow x z, lhigh y u) else none
  | _, _ => none
theorem in_glow {x y z u : Option Int} {n : Int} : inS (glow x z) (lhigh y u) n = (inS x y n && inS z u n) := by
  have e1 : ∀ a b : Int, decide ((if a > b then a else b) ≤ n) = (decide (a ≤ n) && decide (b ≤ n)) := fun a b => by
    by_cases h1 : a ≤ n <;> by_cases h2 : b ≤ n <;> simp [h1, h2] <;> split <;> omega
  have e2 : ∀ a b : Int, decide (n < (if a < b then a else b)) = (decide (n < a) && decide (n < b)) := fun a b => by
    by_cases h1 : n < a <;> by_cases h2 : n < b <;> simp [h1, h2] <;> split <;> omega
  cases x <;> cases y <;> cases z <;> cases u <;> simp only [inS, glow, lhigh, e1, e2, Bool.true_and, Bool.and_true, Bool.and_self] <;> (try rfl) <;> simp only [Bool.and_assoc, Bool.and_comm, Bool.and_left_comm]
theorem fhas_both {o o' : Option PP} {n : Int} : fhas (bothO o o') n = (fhas o n && fhas o' n) := by
  cases o with
  | none => rfl
  | some p => cases o' with
    | none => obtain ⟨x, y⟩ := p; simp [bothO, fhas]
    | some q =>
      obtain ⟨x, y⟩ := p
      obtain ⟨z, u⟩ := q
      simp only [bothO]
      split
      · exact in_glow
      · rename_i h
        show false = (inS x y n && inS z u n)
        rw [← in_glow, inS_none h]
def spBoth (K : PySem.W.Frag) : Sp := fun vs H Q E => ∃ c s p q, vs = [.ref c, .ref s, .ref p, .ref q] ∧ ∃ c1 c2 s1 s2 dx dy x0 x1 y0 y1, P2 H c c1 c2 ∧ P2 H s s1 s2 ∧ SAt K H p dx x0 x1 ∧ SAt K H q dy y0 y1 ∧ okO x0 x1 ∧ okO y0 y1 ∧ s1.natAbs < 2 ^ 1000 ∧ s2.natAbs < 2 ^ 1000 ∧
  ∀ v H', Same H H' → SV K H' v (bothO (inO c1 s1 x0 x1) (inO c2 s2 y0 y1)) → Q v H'
theorem o__in_both (T : Txt K mg) : OkF P w K mg base (L2.CX P w) 10 "_in_both" ["cell", "step", "columns", "rows"] (spBoth K) := by
  have o_in_stretch := o_in_stretch (P := P) (w := w) (base := base) T
  have o_Stretch_common := o_Stretch_common (P := P) (w := w) (base := base) T
  obtain ⟨f, fd, g, F⟩ := T.d__in_both
  refine ⟨f, fd, g, F.kp, F.binds (fun _ _ _ _ _ _ us hl => match us, hl with | [_, _, _, _], _ => rfl), F.okX sc__in_both (fun vs H Q E h => ?_) (fun cdv A outer s H vs Q E hr h => ?_)⟩
  · first | (obtain ⟨_, rfl, _⟩ := h; rfl) | (obtain ⟨_, _, rfl, _⟩ := h; rfl) | (obtain ⟨_, _, _, rfl, _⟩ := h; rfl) | (obtain ⟨_, _, _, _, rfl, _⟩ := h; rfl) | (obtain ⟨_, _, _, _, _, rfl, _⟩ := h; rfl) | (obtain ⟨_, _, _, _, _, _, rfl, _⟩ := h; rfl) | (obtain ⟨_, _, _, _, _, _, _, rfl, _⟩ := h; rfl)
  have hu64 := hr.units
  refine ⟨_, pss_cons (ps_set (i := 4) sc__in_both.nd rfl (Or.inl rfl) (pcl o_in_stretch (hr.mono (by decide)) passE (pa_cons (pe_ix ix_tupN (pv 0) (pe_int) (fun _ _ => rfl)) (pa_cons (pe_ix ix_tupN (pv 1) (pe_int) (fun _ _ => rfl)) (pa_cons (pv 2) pa_nil)))))
      (pss_cons (ps_set (i := 5) sc__in_both.nd rfl (Or.inl rfl) (pcl o_in_stretch (hr.mono (by decide)) passE (pa_cons (pe_ix ix_tupN (pv 0) (pe_int) (fun _ _ => rfl)) (pa_cons (pe_ix ix_tupN (pv 1) (pe_int) (fun _ _ => rfl)) (pa_cons (pv 3) pa_nil)))))
      (pss_one (ps_ret (pe_ifExp (PW.pt (pw_or (pt_cmpR op_isN (pv 4) (pe_non) (nomark _)) (pw_or1 (pt_cmpR op_isN (pv 5) (pe_non) (nomark _))))) (pe_non) (pmt (j := 0) o_Stretch_common T.c_Stretch (pv 4) (by decide) (hr.mono (by decide)) passE (pa_cons (pv 5) pa_nil)))))), ?_⟩
  obtain ⟨c, s, p, q, rfl, c1, c2, s1, s2, dx, dy, x0, x1, y0, y1, hc, hs, hp, hq, o1, o2, b1, b2, k⟩ := h
  simp only [exists_and_left, hc, hs, tYes, calmS, rTupN, rIsB, LamX.tLam3, tSl, tPart, tNoPart, rSlTN, cx_K, Value.ref.injEq, HO.xd.injEq, lk0, tSeq, tPar3, tPar, tCons, tNil, tVar, tC, tAsg, gName, gCons, gNil, gTupN, gSub, tOp, rI, rI0, rU, tTest, rNe, rEq, rIxTN, rIxLN, rLenL, rLenT, rIntI, rIntB, rAbs, rSetLN, tTruL, tRaiseX, rIsTy, rIsOw, ixN0, ixN1, tRet, tIf, tIfS, tNext, tBreak, tCont, tDrop, tTupN, tLstN, tUn, tCB, tCall, tNot, tAnd, tOr, tB, tAndV, tOrV, tNotV, tChain, tApp, LamX.tLam, tRevLN, rCatN, rInTN, rInLN, flatV, inV, List.all_cons, List.all_nil, List.any_cons, List.any_nil, Bool.and_self, Bool.and_true, if_true, Bool.false_eq_true, if_false, tMt, tFldN, tSto, HO.ins.injEq, lkh, List.drop_zero, List.drop_succ_cons, List.drop_nil, rListS, wipe, L2.start, List.map_cons, List.map_nil, List.length_cons, List.length_nil, List.replicate, List.cons_append, List.nil_append, List.append_nil, Nat.reduceAdd, Nat.reduceSub, Nat.zero_add, List.replicate_succ, List.replicate_zero, List.getElem?_cons_zero, List.getElem?_cons_succ, List.set_cons_zero, List.set_cons_succ, Option.some.injEq, V.int.injEq, V.bl.injEq, V.ref.injEq, V.str.injEq, V.ty.injEq, List.cons.injEq, HO.tup.injEq, HO.lst.injEq, and_true, true_and, and_assoc, exists_eq_left, exists_eq_left', exists_and_left, exists_eq', atI0, atI1, atI2, atI3, Int.cast_ofNat_Int, Int.reduceToNat, scal_ii, scal_in, scal_ni, scal_nn, scal_bb, scal_ss, scal_sn, scal_ns, scal_bn, scal_nb, ite_iff, decide_eq_true_eq, decide_eq_false_iff_not, Bool.not_eq_true', Classical.not_not, ne_eq, not_false_eq_true, not_true_eq_false, forall_const, true_implies, false_implies, imp_self, sizeLine_eq, Nat.reduceLeDiff, reduceCtorEq, decide_true, decide_false]
  refine ⟨_, _, _, rfl, wh_int, fun h => (by cases h), fun _ => ⟨wh_int, fun h => (by cases h), fun _ => .inr ⟨p, dx, x0, x1, rfl, hp, o1, fun a' b' ea eb => ?_⟩⟩⟩
  cases ea
  cases eb
  refine ⟨b1, trivial, fun v H1 r1 hv => ?_⟩
  have hc1 := r1 _ _ hc
  have hs1 := r1 _ _ hs
  simp only [exists_and_left, hc1, hs1, tYes, calmS, rTupN, rIsB, LamX.tLam3, tSl, tPart, tNoPart, rSlTN, cx_K, Value.ref.injEq, HO.xd.injEq, lk0, tSeq, tPar3, tPar, tCons, tNil, tVar, tC, tAsg, gName, gCons, gNil, gTupN, gSub, tOp, rI, rI0, rU, tTest, rNe, rEq, rIxTN, rIxLN, rLenL, rLenT, rIntI, rIntB, rAbs, rSetLN, tTruL, tRaiseX, rIsTy, rIsOw, ixN0, ixN1, tRet, tIf, tIfS, tNext, tBreak, tCont, tDrop, tTupN, tLstN, tUn, tCB, tCall, tNot, tAnd, tOr, tB, tAndV, tOrV, tNotV, tChain, tApp, LamX.tLam, tRevLN, rCatN, rInTN, rInLN, flatV, inV, List.all_cons, List.all_nil, List.any_cons, List.any_nil, Bool.and_self, Bool.and_true, if_true, Bool.false_eq_true, if_false, tMt, tFldN, tSto, HO.ins.injEq, lkh, List.drop_zero, List.drop_succ_cons, List.drop_nil, rListS, wipe, L2.start, List.map_cons, List.map_nil, List.length_cons, List.length_nil, List.replicate, List.cons_append, List.nil_append, List.append_nil, Nat.reduceAdd, Nat.reduceSub, Nat.zero_add, List.replicate_succ, List.replicate_zero, List.getElem?_cons_zero, List.getElem?_cons_succ, List.set_cons_zero, List.set_cons_succ, Option.some.injEq, V.int.injEq, V.bl.injEq, V.ref.injEq, V.str.injEq, V.ty.injEq, List.cons.injEq, HO.tup.injEq, HO.lst.injEq, and_true, true_and, and_assoc, exists_eq_left, exists_eq_left', exists_and_left, exists_eq', atI0, atI1, atI2, atI3, Int.cast_ofNat_Int, Int.reduceToNat, scal_ii, scal_in, scal_ni, scal_nn, scal_bb, scal_ss, scal_sn, scal_ns, scal_bn, scal_nb, ite_iff, decide_eq_true_eq, decide_eq_false_iff_not, Bool.not_eq_true', Classical.not_not, ne_eq, not_false_eq_true, not_true_eq_false, forall_const, true_implies, false_implies, imp_self, sizeLine_eq, Nat.reduceLeDiff, reduceCtorEq, decide_true, decide_false]
  refine ⟨_, _, _, rfl, wh_int, fun h => (by cases h), fun _ => ⟨wh_int, fun h => (by cases h), fun _ => .inr ⟨q, dy, y0, y1, rfl, r1 _ _ hq, o2, fun a' b' ea eb => ?_⟩⟩⟩
  cases ea
  cases eb
  refine ⟨b2, trivial, fun u H2 r2 hu => ?_⟩
  have none1 : inO c1 s1 x0 x1 = none → Q .non H2 := fun e => k _ H2 (r1.trans r2) (by rw [e]; rfl)
  have none2 : inO c2 s2 y0 y1 = none → Q .non H2 := fun e => k _ H2 (r1.trans r2) (by rw [e]; cases inO c1 s1 x0 x1 <;> rfl)
  cases e1 : inO c1 s1 x0 x1 with
  | none =>
    rw [e1] at hv
    cases hv
    exact ⟨fun _ => none1 e1, fun h => absurd rfl h⟩
  | some a =>
    obtain ⟨a1, a2⟩ := a
    rw [e1] at hv
    obtain ⟨f1, d1, rfl, g1⟩ := hv
    refine ⟨fun h => (by cases h), fun _ => ?_⟩
    cases e2 : inO c2 s2 y0 y1 with
    | none =>
      rw [e2] at hu
      cases hu
      exact ⟨fun _ => none2 e2, fun h => absurd rfl h⟩
    | some b =>
      obtain ⟨a3, a4⟩ := b
      rw [e2] at hu
      obtain ⟨f2, d2, rfl, g2⟩ := hu
      refine ⟨fun h => (by cases h), fun _ => ?_⟩
      refine ⟨f1, rfl, d1, _, r2 _ _ g1, lkN_common, f1, _, rfl, d1, a1, a2, r2 _ _ g1, .inr ⟨f2, d2, a3, a4, rfl, g2, fun ok p dx' H3 np s3 h3 => k _ H3 ((r1.trans r2).trans s3) ?_, fun nok => k _ H2 (r1.trans r2) ?_⟩⟩
      · rw [e1, e2]
        simp only [bothO]
        rw [if_pos (okS_ov.mpr ok)]
        exact ⟨p, dx', rfl, h3⟩
      · rw [e1, e2]
        simp only [bothO]
        rw [if_neg (fun h => nok (okS_ov.mp h))]
        rfl
def spOnNum (K : PySem.W.Frag) : Sp := fun vs H Q E => ∃ a b x, vs = [a, b, x] ∧ Wh K H a ∧ (isI a = false → Rse K E H "BadNumber" "number" a) ∧ (isI a = true → Wh K H b ∧ (isI b = false → Rse K E H "BadNumber" "number" b) ∧ (isI b = true → Wh K H x ∧ (isI x = false → Rse K E H "BadNumber" "number" x) ∧
  ∀ a' b' n, a = .int a' → b = .int b' → x = .int n → b'.natAbs < 2 ^ 1000 ∧ ∀ v H', Same H H' → SV K H' v (inO a' b' (some n) (some (n + 1))) → Q v H'))
theorem o_on_number (T : Txt K mg) : OkF P w K mg base (L2.CX P w) 10 "on_number" ["a", "b", "number"] (spOnNum K) := by
  have o_require_whole := o_require_whole (P := P) (w := w) (base := base) T
  have o_in_stretch := o_in_stretch (P := P) (w := w) (base := base) T
  have o_Stretch := o_Stretch (P := P) (w := w) (base := base) T
  obtain ⟨f, fd, g, F⟩ := T.d_on_number
  refine ⟨f, fd, g, F.kp, F.binds (fun _ _ _ _ _ _ us hl => match us, hl with | [_, _, _], _ => rfl), F.okX sc_on_number (fun vs H Q E h => ?_) (fun cdv A outer s H vs Q E hr h => ?_)⟩
  · first | (obtain ⟨_, rfl, _⟩ := h; rfl) | (obtain ⟨_, _, rfl, _⟩ := h; rfl) | (obtain ⟨_, _, _, rfl, _⟩ := h; rfl) | (obtain ⟨_, _, _, _, rfl, _⟩ := h; rfl) | (obtain ⟨_, _, _, _, _, rfl, _⟩ := h; rfl) | (obtain ⟨_, _, _, _, _, _, rfl, _⟩ := h; rfl) | (obtain ⟨_, _, _, _, _, _, _, rfl, _⟩ := h; rfl)
  have hu64 := hr.units
  refine ⟨_, pss_cons (ps_expr (pcl o_require_whole (hr.mono (by decide)) passE (pa_cons (pv 0) pa_nil)))
      (pss_cons (ps_expr (pcl o_require_whole (hr.mono (by decide)) passE (pa_cons (pv 1) pa_nil)))
      (pss_cons (ps_expr (pcl o_require_whole (hr.mono (by decide)) passE (pa_cons (pv 2) pa_nil)))
      (pss_one (ps_ret (pcl o_in_stretch (hr.mono (by decide)) passE (pa_cons (pv 0) (pa_cons (pv 1) (pa_cons (pmk (j := 2) o_Stretch (by decide) (hr.mono (by decide)) passE (pa_cons (pv 2) (pa_cons (pe_op op_add (pv 2) (pe_int)) pa_nil))) pa_nil)))))))), ?_⟩
  obtain ⟨a, b, x, rfl, Wa, ka, h⟩ := h
  simp only [spReqW, exists_and_left, tYes, calmS, rTupN, rIsB, LamX.tLam3, tSl, tPart, tNoPart, rSlTN, cx_K, Value.ref.injEq, HO.xd.injEq, lk0, tSeq, tPar3, tPar, tCons, tNil, tVar, tC, tAsg, gName, gCons, gNil, gTupN, gSub, tOp, rI, rI0, rU, tTest, rNe, rEq, rIxTN, rIxLN, rLenL, rLenT, rIntI, rIntB, rAbs, rSetLN, tTruL, tRaiseX, rIsTy, rIsOw, ixN0, ixN1, tRet, tIf, tIfS, tNext, tBreak, tCont, tDrop, tTupN, tLstN, tUn, tCB, tCall, tNot, tAnd, tOr, tB, tAndV, tOrV, tNotV, tChain, tApp, LamX.tLam, tRevLN, rCatN, rInTN, rInLN, flatV, inV, List.all_cons, List.all_nil, List.any_cons, List.any_nil, Bool.and_self, Bool.and_true, if_true, Bool.false_eq_true, if_false, tMt, tFldN, tSto, HO.ins.injEq, lkh, List.drop_zero, List.drop_succ_cons, List.drop_nil, rListS, wipe, L2.start, List.map_cons, List.map_nil, List.length_cons, List.length_nil, List.replicate, List.cons_append, List.nil_append, List.append_nil, Nat.reduceAdd, Nat.reduceSub, Nat.zero_add, List.replicate_succ, List.replicate_zero, List.getElem?_cons_zero, List.getElem?_cons_succ, List.set_cons_zero, List.set_cons_succ, Option.some.injEq, V.int.injEq, V.bl.injEq, V.ref.injEq, V.str.injEq, V.ty.injEq, List.cons.injEq, HO.tup.injEq, HO.lst.injEq, and_true, true_and, and_assoc, exists_eq_left, exists_eq_left', exists_and_left, exists_eq', atI0, atI1, atI2, atI3, Int.cast_ofNat_Int, Int.reduceToNat, scal_ii, scal_in, scal_ni, scal_nn, scal_bb, scal_ss, scal_sn, scal_ns, scal_bn, scal_nb, ite_iff, decide_eq_true_eq, decide_eq_false_iff_not, Bool.not_eq_true', Classical.not_not, ne_eq, not_false_eq_true, not_true_eq_false, forall_const, true_implies, false_implies, imp_self, sizeLine_eq, Nat.reduceLeDiff, reduceCtorEq, decide_true, decide_false]
  refine ⟨Wa, fun ia => ?_, ka⟩
  obtain ⟨Wb, kb, h⟩ := h ia
  refine ⟨Wb, fun ib => ?_, kb⟩
  obtain ⟨Wx, kx, k⟩ := h ib
  refine ⟨Wx, fun ix => ?_, kx⟩
  obtain ⟨a, rfl⟩ := isI_int ia
  obtain ⟨b, rfl⟩ := isI_int ib
  obtain ⟨n, rfl⟩ := isI_int ix
  obtain ⟨bb, k⟩ := k a b n rfl rfl rfl
  simp only [spSt, exists_and_left, tYes, calmS, rTupN, rIsB, LamX.tLam3, tSl, tPart, tNoPart, rSlTN, cx_K, Value.ref.injEq, HO.xd.injEq, lk0, tSeq, tPar3, tPar, tCons, tNil, tVar, tC, tAsg, gName, gCons, gNil, gTupN, gSub, tOp, rI, rI0, rU, tTest, rNe, rEq, rIxTN, rIxLN, rLenL, rLenT, rIntI, rIntB, rAbs, rSetLN, tTruL, tRaiseX, rIsTy, rIsOw, ixN0, ixN1, tRet, tIf, tIfS, tNext, tBreak, tCont, tDrop, tTupN, tLstN, tUn, tCB, tCall, tNot, tAnd, tOr, tB, tAndV, tOrV, tNotV, tChain, tApp, LamX.tLam, tRevLN, rCatN, rInTN, rInLN, flatV, inV, List.all_cons, List.all_nil, List.any_cons, List.any_nil, Bool.and_self, Bool.and_true, if_true, Bool.false_eq_true, if_false, tMt, tFldN, tSto, HO.ins.injEq, lkh, List.drop_zero, List.drop_succ_cons, List.drop_nil, rListS, wipe, L2.start, List.map_cons, List.map_nil, List.length_cons, List.length_nil, List.replicate, List.cons_append, List.nil_append, List.append_nil, Nat.reduceAdd, Nat.reduceSub, Nat.zero_add, List.replicate_succ, List.replicate_zero, List.getElem?_cons_zero, List.getElem?_cons_succ, List.set_cons_zero, List.set_cons_succ, Option.some.injEq, V.int.injEq, V.bl.injEq, V.ref.injEq, V.str.injEq, V.ty.injEq, List.cons.injEq, HO.tup.injEq, HO.lst.injEq, and_true, true_and, and_assoc, exists_eq_left, exists_eq_left', exists_and_left, exists_eq', atI0, atI1, atI2, atI3, Int.cast_ofNat_Int, Int.reduceToNat, scal_ii, scal_in, scal_ni, scal_nn, scal_bb, scal_ss, scal_sn, scal_ns, scal_bn, scal_nb, ite_iff, decide_eq_true_eq, decide_eq_false_iff_not, Bool.not_eq_true', Classical.not_not, ne_eq, not_false_eq_true, not_true_eq_false, forall_const, true_implies, false_implies, imp_self, sizeLine_eq, Nat.reduceLeDiff, reduceCtorEq, decide_true, decide_false]
  refine ⟨wh_int, wh_int, fun _ => fun p dx H1 _ s1 h1 => ?_, fun e => by simp [okS] at e; omega⟩
  refine ⟨_, _, _, rfl, wh_int, fun h => (by cases h), fun _ => ⟨wh_int, fun h => (by cases h), fun _ => .inr ⟨p, dx, some n, some (n + 1), rfl, h1, show n < n + 1 by omega, fun a' b' ea eb => ?_⟩⟩⟩
  cases ea
  cases eb
  exact ⟨bb, trivial, fun v H2 s2 hv => k v H2 (s1.trans s2) hv⟩
def spInBox (K : PySem.W.Frag) : Sp := fun vs H Q E => ∃ c s x, vs = [c, s, x] ∧ PairK K H c ∧ (pairV H c = none → Rse K E H "BadPart" "part" (.str "cell")) ∧ ((pairV H c).isSome = true → PairK K H s ∧ (pairV H s = none → Rse K E H "BadPart" "part" (.str "step")) ∧ ((pairV H s).isSome = true →
  PairK K H x ∧ (boxV H x = false → Rse K E H "BadPart" "part" (.str "box")) ∧ ∀ c1 c2 s1 s2 p x0 x1 y0 y1, pairV H c = some (c1, c2) → pairV H s = some (s1, s2) → x = .ref p → H p = some (.tup [ov x0, ov x1, ov y0, ov y1]) → okO x0 x1 → okO y0 y1 → s1.natAbs < 2 ^ 1000 ∧ s2.natAbs < 2 ^ 1000 ∧
  ∀ v H', Same H H' → SV K H' v (bothO (inO c1 s1 x0 x1) (inO c2 s2 y0 y1)) → Q v H'))
theorem o_in_box (T : Txt K mg) : OkF P w K mg base (L2.CX P w) 11 "in_box" ["cell", "step", "box"] (spInBox K) := by
  have o_require_pair := o_require_pair (P := P) (w := w) (base := base) T
  have o_is_box := o_is_box (P := P) (w := w) (base := base) T
  have o__in_both := o__in_both (P := P) (w := w) (base := base) T
  have o_Stretch := o_Stretch (P := P) (w := w) (base := base) T
  obtain ⟨f, fd, g, F⟩ := T.d_in_box
  refine ⟨f, fd, g, F.kp, F.binds (fun _ _ _ _ _ _ us hl => match us, hl with | [_, _, _], _ => rfl), F.okX sc_in_box (fun vs H Q E h => ?_) (fun cdv A outer s H vs Q E hr h => ?_)⟩
  · first | (obtain ⟨_, rfl, _⟩ := h; rfl) | (obtain ⟨_, _, rfl, _⟩ := h; rfl) | (obtain ⟨_, _, _, rfl, _⟩ := h; rfl) | (obtain ⟨_, _, _, _, rfl, _⟩ := h; rfl) | (obtain ⟨_, _, _, _, _, rfl, _⟩ := h; rfl) | (obtain ⟨_, _, _, _, _, _, rfl, _⟩ := h; rfl) | (obtain ⟨_, _, _, _, _, _, _, rfl, _⟩ := h; rfl)
  have hu64 := hr.units
  refine ⟨_, pss_cons (ps_expr (pcl o_require_pair (hr.mono (by decide)) passE (pa_cons (pv 0) (pa_cons (pe_str) pa_nil))))
      (pss_cons (ps_expr (pcl o_require_pair (hr.mono (by decide)) passE (pa_cons (pv 1) (pa_cons (pe_str) pa_nil))))
      (pss_cons (ps_if (pt_not (pt_val (pcl o_is_box (hr.mono (by decide)) pass0 (pa_cons (pv 2) pa_nil)))) (pss_one (ps_raiseX (T.x_BadPart) (hr.mono (by decide)) takesE (pe_str))) (pss_nil))
      (pss_cons (ps_asg (pv 2) (pg_tupN (n := 4) (by rfl) (pgs_cons (pg_name (i := 3) sc_in_box.nd rfl (Or.inl rfl)) (pgs_cons (pg_name (i := 4) sc_in_box.nd rfl (Or.inl rfl)) (pgs_cons (pg_name (i := 5) sc_in_box.nd rfl (Or.inl rfl)) (pgs_cons (pg_name (i := 6) sc_in_box.nd rfl (Or.inl rfl)) pgs_nil))))))
      (pss_one (ps_ret (pcl o__in_both (hr.mono (by decide)) passE (pa_cons (pv 0) (pa_cons (pv 1) (pa_cons (pmk (j := 2) o_Stretch (by decide) (hr.mono (by decide)) passE (pa_cons (pv 3) (pa_cons (pv 4) pa_nil))) (pa_cons (pmk (j := 2) o_Stretch (by decide) (hr.mono (by decide)) passE (pa_cons (pv 5) (pa_cons (pv 6) pa_nil))) pa_nil)))))))))), ?_⟩
  obtain ⟨c, s, x, rfl, Kc, kc, h⟩ := h
  simp only [spReqP, spIsBox, exists_and_left, tYes, calmS, rTupN, rIsB, LamX.tLam3, tSl, tPart, tNoPart, rSlTN, cx_K, Value.ref.injEq, HO.xd.injEq, lk0, tSeq, tPar3, tPar, tCons, tNil, tVar, tC, tAsg, gName, gCons, gNil, gTupN, gSub, tOp, rI, rI0, rU, tTest, rNe, rEq, rIxTN, rIxLN, rLenL, rLenT, rIntI, rIntB, rAbs, rSetLN, tTruL, tRaiseX, rIsTy, rIsOw, ixN0, ixN1, tRet, tIf, tIfS, tNext, tBreak, tCont, tDrop, tTupN, tLstN, tUn, tCB, tCall, tNot, tAnd, tOr, tB, tAndV, tOrV, tNotV, tChain, tApp, LamX.tLam, tRevLN, rCatN, rInTN, rInLN, flatV, inV, List.all_cons, List.all_nil, List.any_cons, List.any_nil, Bool.and_self, Bool.and_true, if_true, Bool.false_eq_true, if_false, tMt, tFldN, tSto, HO.ins.injEq, lkh, List.drop_zero, List.drop_succ_cons, List.drop_nil, rListS, wipe, L2.start, List.map_cons, List.map_nil, List.length_cons, List.length_nil, List.replicate, List.cons_append, List.nil_append, List.append_nil, Nat.reduceAdd, Nat.reduceSub, Nat.zero_add, List.replicate_succ, List.replicate_zero, List.getElem?_cons_zero, List.getElem?_cons_succ, List.set_cons_zero, List.set_cons_succ, Option.some.injEq, V.int.injEq, V.bl.injEq, V.ref.injEq, V.str.injEq, V.ty.injEq, List.cons.injEq, HO.tup.injEq, HO.lst.injEq, and_true, true_and, and_assoc, exists_eq_left, exists_eq_left', exists_and_left, exists_eq', atI0, atI1, atI2, atI3, Int.cast_ofNat_Int, Int.reduceToNat, scal_ii, scal_in, scal_ni, scal_nn, scal_bb, scal_ss, scal_sn, scal_ns, scal_bn, scal_nb, ite_iff, decide_eq_true_eq, decide_eq_false_iff_not, Bool.not_eq_true', Classical.not_not, ne_eq, not_false_eq_true, not_true_eq_false, forall_const, true_implies, false_implies, imp_self, sizeLine_eq, Nat.reduceLeDiff, reduceCtorEq, decide_true, decide_false]
  refine ⟨Kc, fun ic => ?_, kc⟩
  obtain ⟨Ks, ks, h⟩ := h ic
  refine ⟨Ks, fun is => ?_, ks⟩
  obtain ⟨Kx, kx, k⟩ := h is
  refine ⟨Kx, fun e => kx e, fun e => ?_⟩
  obtain ⟨⟨c1, c2⟩, ec⟩ := Option.isSome_iff_exists.mp ic
  obtain ⟨⟨s1, s2⟩, es⟩ := Option.isSome_iff_exists.mp is
  obtain ⟨p, x0, x1, y0, y1, rfl, hx, o1, o2⟩ := boxV_some (by simpa using e)
  obtain ⟨b1, b2, k9⟩ := k c1 c2 s1 s2 p x0 x1 y0 y1 ec es rfl hx o1 o2
  obtain ⟨pc, rfl, hc⟩ := pairV_some ec
  obtain ⟨ps, rfl, hs⟩ := pairV_some es
  simp only [spSt, exists_and_left, hx, tYes, calmS, rTupN, rIsB, LamX.tLam3, tSl, tPart, tNoPart, rSlTN, cx_K, Value.ref.injEq, HO.xd.injEq, lk0, tSeq, tPar3, tPar, tCons, tNil, tVar, tC, tAsg, gName, gCons, gNil, gTupN, gSub, tOp, rI, rI0, rU, tTest, rNe, rEq, rIxTN, rIxLN, rLenL, rLenT, rIntI, rIntB, rAbs, rSetLN, tTruL, tRaiseX, rIsTy, rIsOw, ixN0, ixN1, tRet, tIf, tIfS, tNext, tBreak, tCont, tDrop, tTupN, tLstN, tUn, tCB, tCall, tNot, tAnd, tOr, tB, tAndV, tOrV, tNotV, tChain, tApp, LamX.tLam, tRevLN, rCatN, rInTN, rInLN, flatV, inV, List.all_cons, List.all_nil, List.any_cons, List.any_nil, Bool.and_self, Bool.and_true, if_true, Bool.false_eq_true, if_false, tMt, tFldN, tSto, HO.ins.injEq, lkh, List.drop_zero, List.drop_succ_cons, List.drop_nil, rListS, wipe, L2.start, List.map_cons, List.map_nil, List.length_cons, List.length_nil, List.replicate, List.cons_append, List.nil_append, List.append_nil, Nat.reduceAdd, Nat.reduceSub, Nat.zero_add, List.replicate_succ, List.replicate_zero, List.getElem?_cons_zero, List.getElem?_cons_succ, List.set_cons_zero, List.set_cons_succ, Option.some.injEq, V.int.injEq, V.bl.injEq, V.ref.injEq, V.str.injEq, V.ty.injEq, List.cons.injEq, HO.tup.injEq, HO.lst.injEq, and_true, true_and, and_assoc, exists_eq_left, exists_eq_left', exists_and_left, exists_eq', atI0, atI1, atI2, atI3, Int.cast_ofNat_Int, Int.reduceToNat, scal_ii, scal_in, scal_ni, scal_nn, scal_bb, scal_ss, scal_sn, scal_ns, scal_bn, scal_nb, ite_iff, decide_eq_true_eq, decide_eq_false_iff_not, Bool.not_eq_true', Classical.not_not, ne_eq, not_false_eq_true, not_true_eq_false, forall_const, true_implies, false_implies, imp_self, sizeLine_eq, Nat.reduceLeDiff, reduceCtorEq, decide_true, decide_false]
  refine ⟨wh_ov, wh_ov, fun _ => fun f1 d1 H1 _ r1 g1 => ⟨wh_ov, wh_ov, fun _ => fun f2 d2 H2 _ r2 g2 => ?_, fun e => by rw [okS_ov.mpr o2] at e; cases e⟩, fun e => by rw [okS_ov.mpr o1] at e; cases e⟩
  refine ⟨pc, ps, f1, f2, rfl, c1, c2, s1, s2, d1, d2, x0, x1, y0, y1, r2 _ _ (r1 _ _ hc), r2 _ _ (r1 _ _ hs), r2 _ _ g1, g2, o1, o2, b1, b2, fun v H3 r3 hv => k9 v H3 ((r1.trans r2).trans r3) hv⟩
def spOnCell (K : PySem.W.Frag) : Sp := fun vs H Q E => ∃ c s x, vs = [c, s, x] ∧ PairK K H c ∧ (pairV H c = none → Rse K E H "BadPart" "part" (.str "cell")) ∧ ((pairV H c).isSome = true → PairK K H s ∧ (pairV H s = none → Rse K E H "BadPart" "part" (.str "step")) ∧ ((pairV H s).isSome = true →
  PairK K H x ∧ (pairV H x = none → Rse K E H "BadPart" "part" (.str "cell")) ∧ ∀ c1 c2 s1 s2 g1 g2, pairV H c = some (c1, c2) → pairV H s = some (s1, s2) → pairV H x = some (g1, g2) → s1.natAbs < 2 ^ 1000 ∧ s2.natAbs < 2 ^ 1000 ∧
  ∀ v H', Same H H' → SV K H' v (bothO (inO c1 s1 (some g1) (some (g1 + 1))) (inO c2 s2 (some g2) (some (g2 + 1)))) → Q v H'))
theorem o_on_cell (T : Txt K mg) : OkF P w K mg base (L2.CX P w) 11 "on_cell" ["cell", "step", "goal"] (spOnCell K) := by
  have o_require_pair := o_require_pair (P := P) (w := w) (base := base) T
  have o__in_both := o__in_both (P := P) (w := w) (base := base) T
  have o_Stretch := o_Stretch (P := P) (w := w) (base := base) T
  obtain ⟨f, fd, g, F⟩ := T.d_on_cell
  refine ⟨f, fd, g, F.kp, F.binds (fun _ _ _ _ _ _ us hl => match us, hl with | [_, _, _], _ => rfl), F.okX sc_on_cell (fun vs H Q E h => ?_) (fun cdv A outer s H vs Q E hr h => ?_)⟩
  · first | (obtain ⟨_, rfl, _⟩ := h; rfl) | (obtain ⟨_, _, rfl, _⟩ := h; rfl) | (obtain ⟨_, _, _, rfl, _⟩ := h; rfl) | (obtain ⟨_, _, _, _, rfl, _⟩ := h; rfl) | (obtain ⟨_, _, _, _, _, rfl, _⟩ := h; rfl) | (obtain ⟨_, _, _, _, _, _, rfl, _⟩ := h; rfl) | (obtain ⟨_, _, _, _, _, _, _, rfl, _⟩ := h; rfl)
  have hu64 := hr.units
  refine ⟨_, pss_cons (ps_expr (pcl o_require_pair (hr.mono (by decide)) passE (pa_cons (pv 0) (pa_cons (pe_str) pa_nil))))
      (pss_cons (ps_expr (pcl o_require_pair (hr.mono (by decide)) passE (pa_cons (pv 1) (pa_cons (pe_str) pa_nil))))
      (pss_cons (ps_expr (pcl o_require_pair (hr.mono (by decide)) passE (pa_cons (pv 2) (pa_cons (pe_str) pa_nil))))
      (pss_cons (ps_asg (pv 2) (pg_tupN (n := 2) (by rfl) (pgs_cons (pg_name (i := 3) sc_on_cell.nd rfl (Or.inl rfl)) (pgs_cons (pg_name (i := 4) sc_on_cell.nd rfl (Or.inl rfl)) pgs_nil))))
      (pss_one (ps_ret (pcl o__in_both (hr.mono (by decide)) passE (pa_cons (pv 0) (pa_cons (pv 1) (pa_cons (pmk (j := 2) o_Stretch (by decide) (hr.mono (by decide)) passE (pa_cons (pv 3) (pa_cons (pe_op op_add (pv 3) (pe_int)) pa_nil))) (pa_cons (pmk (j := 2) o_Stretch (by decide) (hr.mono (by decide)) passE (pa_cons (pv 4) (pa_cons (pe_op op_add (pv 4) (pe_int)) pa_nil))) pa_nil)))))))))), ?_⟩
  obtain ⟨c, s, x, rfl, Kc, kc, h⟩ := h
  simp only [spReqP, exists_and_left, tYes, calmS, rTupN, rIsB, LamX.tLam3, tSl, tPart, tNoPart, rSlTN, cx_K, Value.ref.injEq, HO.xd.injEq, lk0, tSeq, tPar3, tPar, tCons, tNil, tVar, tC, tAsg, gName, gCons, gNil, gTupN, gSub, tOp, rI, rI0, rU, tTest, rNe, rEq, rIxTN, rIxLN, rLenL, rLenT, rIntI, rIntB, rAbs, rSetLN, tTruL, tRaiseX, rIsTy, rIsOw, ixN0, ixN1, tRet, tIf, tIfS, tNext, tBreak, tCont, tDrop, tTupN, tLstN, tUn, tCB, tCall, tNot, tAnd, tOr, tB, tAndV, tOrV, tNotV, tChain, tApp, LamX.tLam, tRevLN, rCatN, rInTN, rInLN, flatV, inV, List.all_cons, List.all_nil, List.any_cons, List.any_nil, Bool.and_self, Bool.and_true, if_true, Bool.false_eq_true, if_false, tMt, tFldN, tSto, HO.ins.injEq, lkh, List.drop_zero, List.drop_succ_cons, List.drop_nil, rListS, wipe, L2.start, List.map_cons, List.map_nil, List.length_cons, List.length_nil, List.replicate, List.cons_append, List.nil_append, List.append_nil, Nat.reduceAdd, Nat.reduceSub, Nat.zero_add, List.replicate_succ, List.replicate_zero, List.getElem?_cons_zero, List.getElem?_cons_succ, List.set_cons_zero, List.set_cons_succ, Option.some.injEq, V.int.injEq, V.bl.injEq, V.ref.injEq, V.str.injEq, V.ty.injEq, List.cons.injEq, HO.tup.injEq, HO.lst.injEq, and_true, true_and, and_assoc, exists_eq_left, exists_eq_left', exists_and_left, exists_eq', atI0, atI1, atI2, atI3, Int.cast_ofNat_Int, Int.reduceToNat, scal_ii, scal_in, scal_ni, scal_nn, scal_bb, scal_ss, scal_sn, scal_ns, scal_bn, scal_nb, ite_iff, decide_eq_true_eq, decide_eq_false_iff_not, Bool.not_eq_true', Classical.not_not, ne_eq, not_false_eq_true, not_true_eq_false, forall_const, true_implies, false_implies, imp_self, sizeLine_eq, Nat.reduceLeDiff, reduceCtorEq, decide_true, decide_false]
  refine ⟨Kc, fun ic => ?_, kc⟩
  obtain ⟨Ks, ks, h⟩ := h ic
  refine ⟨Ks, fun is => ?_, ks⟩
  obtain ⟨Kx, kx, k⟩ := h is
  refine ⟨Kx, fun ix => ?_, kx⟩
  obtain ⟨⟨c1, c2⟩, ec⟩ := Option.isSome_iff_exists.mp ic
  obtain ⟨⟨s1, s2⟩, es⟩ := Option.isSome_iff_exists.mp is
  obtain ⟨⟨g1, g2⟩, eg⟩ := Option.isSome_iff_exists.mp ix
  obtain ⟨b1, b2, k9⟩ := k c1 c2 s1 s2 g1 g2 ec es eg
  obtain ⟨pc, rfl, hc⟩ := pairV_some ec
  obtain ⟨ps, rfl, hs⟩ := pairV_some es
  obtain ⟨pg, rfl, hg⟩ := pairV_some eg
  have hg' : H pg = some (.tup [.int g1, .int g2]) := hg
  simp only [spSt, exists_and_left, hg', tYes, calmS, rTupN, rIsB, LamX.tLam3, tSl, tPart, tNoPart, rSlTN, cx_K, Value.ref.injEq, HO.xd.injEq, lk0, tSeq, tPar3, tPar, tCons, tNil, tVar, tC, tAsg, gName, gCons, gNil, gTupN, gSub, tOp, rI, rI0, rU, tTest, rNe, rEq, rIxTN, rIxLN, rLenL, rLenT, rIntI, rIntB, rAbs, rSetLN, tTruL, tRaiseX, rIsTy, rIsOw, ixN0, ixN1, tRet, tIf, tIfS, tNext, tBreak, tCont, tDrop, tTupN, tLstN, tUn, tCB, tCall, tNot, tAnd, tOr, tB, tAndV, tOrV, tNotV, tChain, tApp, LamX.tLam, tRevLN, rCatN, rInTN, rInLN, flatV, inV, List.all_cons, List.all_nil, List.any_cons, List.any_nil, Bool.and_self, Bool.and_true, if_true, Bool.false_eq_true, if_false, tMt, tFldN, tSto, HO.ins.injEq, lkh, List.drop_zero, List.drop_succ_cons, List.drop_nil, rListS, wipe, L2.start, List.map_cons, List.map_nil, List.length_cons, List.length_nil, List.replicate, List.cons_append, List.nil_append, List.append_nil, Nat.reduceAdd, Nat.reduceSub, Nat.zero_add, List.replicate_succ, List.replicate_zero, List.getElem?_cons_zero, List.getElem?_cons_succ, List.set_cons_zero, List.set_cons_succ, Option.some.injEq, V.int.injEq, V.bl.injEq, V.ref.injEq, V.str.injEq, V.ty.injEq, List.cons.injEq, HO.tup.injEq, HO.lst.injEq, and_true, true_and, and_assoc, exists_eq_left, exists_eq_left', exists_and_left, exists_eq', atI0, atI1, atI2, atI3, Int.cast_ofNat_Int, Int.reduceToNat, scal_ii, scal_in, scal_ni, scal_nn, scal_bb, scal_ss, scal_sn, scal_ns, scal_bn, scal_nb, ite_iff, decide_eq_true_eq, decide_eq_false_iff_not, Bool.not_eq_true', Classical.not_not, ne_eq, not_false_eq_true, not_true_eq_false, forall_const, true_implies, false_implies, imp_self, sizeLine_eq, Nat.reduceLeDiff, reduceCtorEq, decide_true, decide_false]
  refine ⟨wh_int, wh_int, fun _ => fun f1 d1 H1 _ r1 k1 => ⟨wh_int, wh_int, fun _ => fun f2 d2 H2 _ r2 k2 => ?_, fun e => by simp [okS] at e; omega⟩, fun e => by simp [okS] at e; omega⟩
  exact ⟨pc, ps, f1, f2, rfl, c1, c2, s1, s2, d1, d2, some g1, some (g1 + 1), some g2, some (g2 + 1), r2 _ _ (r1 _ _ hc), r2 _ _ (r1 _ _ hs), r2 _ _ k1, k2, show g1 < g1 + 1 by omega, show g2 < g2 + 1 by omega, b1, b2, fun v H3 r3 hv => k9 v H3 ((r1.trans r2).trans r3) hv⟩

end
end Iz
/-! k06_e -/
set_option Elab.async false
set_option linter.all false
set_option maxRecDepth 100000
set_option maxHeartbeats 4000000
namespace Iz
open PySem PySem.Spec PyProof.Rows L2
open He (ga)
local macro_rules | `(tactic| walk_at "wp") => `(tactic| simp only [tYes, calmS, rTupN, rIsB, LamX.tLam3, tSl, tPart, tNoPart, rSlTN, cx_K, Value.ref.injEq, HO.xd.injEq, lk0, tSeq, tPar3, tPar, tCons, tNil, tVar, tC, tAsg, gName, gCons, gNil, gTupN, gSub, tOp, rI, rI0, rU, tTest, rNe, rEq, rIxTN, rIxLN, rLenL, rLenT, rIntI, rIntB, rAbs, rSetLN, tTruL, tRaiseX, rIsTy, rIsOw, ixN0, ixN1, tRet, tIf, tIfS, tNext, tBreak, tCont, tDrop, tTupN, tLstN, tUn, tCB, tCall, tNot, tAnd, tOr, tB, tAndV, tOrV, tNotV, tChain, tApp, LamX.tLam, tRevLN, rCatN, rInTN, rInLN, flatV, inV, List.all_cons, List.all_nil, List.any_cons, List.any_nil, Bool.and_self, Bool.and_true, if_true, Bool.false_eq_true, if_false, tMt, tFldN, tSto, HO.ins.injEq, lkh, List.drop_zero, List.drop_succ_cons, List.drop_nil, rListS, wipe, L2.start, List.map_cons, List.map_nil, List.length_cons, List.length_nil, List.replicate, List.cons_append, List.nil_append, List.append_nil, Nat.reduceAdd, Nat.reduceSub, Nat.zero_add, List.replicate_succ, List.replicate_zero, List.getElem?_cons_zero, List.getElem?_cons_succ, List.set_cons_zero, List.set_cons_succ, Option.some.injEq, V.int.injEq, V.bl.injEq, V.ref.injEq, V.str.injEq, V.ty.injEq, List.cons.injEq, HO.tup.injEq, HO.lst.injEq, and_true, true_and, and_assoc, exists_eq_left, exists_eq_left', exists_and_left, exists_eq', atI0, atI1, atI2, atI3, Int.cast_ofNat_Int, Int.reduceToNat, scal_ii, scal_in, scal_ni, scal_nn, scal_bb, scal_ss, scal_sn, scal_ns, scal_bn, scal_nb, ite_iff, decide_eq_true_eq, decide_eq_false_iff_not, Bool.not_eq_true', Classical.not_not, ne_eq, not_false_eq_true, not_true_eq_false, forall_const, true_implies, false_implies, imp_self, sizeLine_eq, Nat.reduceLeDiff, reduceCtorEq, decide_true, decide_false])
section
variable {P : Program} {w : World} {K : PySem.W.Frag} {mg : Str → Option Value} {base : Heap}
/-! ### the law's draws -/
/-- the draws' state: a list of the cells and a count -/
def StA (H : Hp) (a c : Addr) : Prop := a ≠ c ∧ ∃ (n : Int) (cs : List Int), H a = some (.lst [.ref c, .int n]) ∧ H c = some (.lst (cs.map V.int)) ∧ cs.length ≤ 63
/-- all but the state stays -/
def Stp (a c : Addr) (H H' : Hp) : Prop := ∀ b o, H b = some o → b ≠ a → b ≠ c → H' b = some o
theorem Stp.refl {a c : Addr} {H : Hp} : Stp a c H H := fun _ _ h _ _ => h
theorem Stp.trans {a c : Addr} {H H1 H2 : Hp} (x : Stp a c H H1) (y : Stp a c H1 H2) : Stp a c H H2 := fun b o h h1 h2 => y b o (x b o h h1 h2) h1 h2
theorem Stp.of {a c : Addr} {H H1 : Hp} (x : Same H H1) : Stp a c H H1 := fun b o h _ _ => x b o h
theorem Put.stp {a c p : Addr} {H H1 : Hp} {o : HO} (x : Put H H1 p o) (h : p = a ∨ p = c) : Stp a c H H1 := fun b u e h1 h2 => by
  rw [x.2 b (by rcases h with h | h <;> (subst h; assumption))]; exact e
theorem StA.same {a c : Addr} {H H1 : Hp} (x : StA H a c) (h : Same H H1) : StA H1 a c := let ⟨n, m, cs, h1, h2, h3⟩ := x; ⟨n, m, cs, h _ _ h1, h _ _ h2, h3⟩
def spDraw : Sp := fun vs H Q _ => ∃ a c lim, vs = [.ref a, .int lim] ∧ StA H a c ∧ 1 ≤ lim ∧ lim.natAbs < 2 ^ 250 ∧ ∀ d H', 0 ≤ d → d < lim → StA H' a c → Stp a c H H' → Q (.int d) H'
theorem o__law_draw (T : Txt K mg) : OkF P w K mg base CX0 1 "_law_draw" ["_law_state", "_law_limit"] spDraw := by
  obtain ⟨f, fd, g, F⟩ := T.d__law_draw
  refine ⟨f, fd, g, F.kp, F.binds (fun _ _ _ _ _ _ us hl => match us, hl with | [_, _], _ => rfl), F.ok sc__law_draw (fun vs H Q E h => ?_) (fun cdv A outer s H vs Q E hr h => ?_)⟩
  · first | (obtain ⟨_, rfl, _⟩ := h; rfl) | (obtain ⟨_, _, rfl, _⟩ := h; rfl) | (obtain ⟨_, _, _, rfl, _⟩ := h; rfl) | (obtain ⟨_, _, _, _, rfl, _⟩ := h; rfl) | (obtain ⟨_, _, _, _, _, rfl, _⟩ := h; rfl) | (obtain ⟨_, _, _, _, _, _, rfl, _⟩ := h; rfl) | (obtain ⟨_, _, _, _, _, _, _, rfl, _⟩ := h; rfl)
  have hu64 := hr.units
  refine ⟨_, pss_cons (ps_set (i := 2) sc__law_draw.nd rfl (Or.inl rfl) (pe_ix ix_listN (pv 0) (pe_int) (fun _ _ => rfl)))
      (pss_cons (ps_if (pt_not (pt_truL (pv 2))) (pss_one (ps_ret (pe_int))) (pss_nil))
      (pss_cons (ps_set (i := 3) sc__law_draw.nd rfl (Or.inl rfl) (pe_op op_mod (pe_callTy call_intI (by rfl) T.m_int (by decide +kernel) (pa_cons (pe_ix ix_listN (pv 0) (pe_int) (fun _ _ => rfl)) pa_nil)) (pe_callB call_lenL (by rfl) T.m_len (by decide +kernel) (pa_cons (pv 2) pa_nil))))
      (pss_cons (ps_set (i := 4) sc__law_draw.nd rfl (Or.inl rfl) (pe_ix ix_listN (pv 2) (pv 3) (fun _ _ => rfl)))
      (pss_cons (ps_asg (pe_op op_add (pe_ix ix_listN (pv 0) (pe_int) (fun _ _ => rfl)) (pe_int)) (pg_sub (pv 0) (pe_int) set_listN))
      (pss_cons (ps_if (pt_cmpR op_ge (pv 4) (pe_op op_pow (pe_int) (pe_int)) (nomark _)) (pss_cons (ps_asg (pe_op op_fdivW (pv 4) (pv 1)) (pg_sub (pv 2) (pv 3) set_listN))
      (pss_one (ps_ret (pe_op op_mod (pe_callTy call_intI (by rfl) T.m_int (by decide +kernel) (pa_cons (pv 4) pa_nil)) (pv 1))))) (pss_nil))
      (pss_cons (ps_set (i := 5) sc__law_draw.nd rfl (Or.inl rfl) (pe_op op_mod (pe_callTy call_intI (by rfl) T.m_int (by decide +kernel) (pa_cons (pe_op op_add (pe_op op_add (pe_op op_mul (pv 4) (pe_int)) (pe_op op_mul (pe_ix ix_listN (pv 0) (pe_int) (fun _ _ => rfl)) (pe_int))) (pe_int)) pa_nil)) (pe_int)))
      (pss_one (ps_ret (pe_op op_mod (pe_op op_mod (pe_callTy call_intI (by rfl) T.m_int (by decide +kernel) (pa_cons (pe_op op_add (pe_op op_mul (pv 5) (pe_int)) (pe_op op_mul (pe_ix ix_listN (pv 0) (pe_int) (fun _ _ => rfl)) (pe_int))) pa_nil)) (pe_int)) (pv 1)))))))))), ?_⟩
  obtain ⟨a, c, lim, rfl, ⟨hac, n, cs, ha, hc, hl⟩, h1, hb, k⟩ := h
  simp only [ha, hc, exists_and_left, tYes, calmS, rTupN, rIsB, LamX.tLam3, tSl, tPart, tNoPart, rSlTN, cx_K, Value.ref.injEq, HO.xd.injEq, lk0, tSeq, tPar3, tPar, tCons, tNil, tVar, tC, tAsg, gName, gCons, gNil, gTupN, gSub, tOp, rI, rI0, rU, tTest, rNe, rEq, rIxTN, rIxLN, rLenL, rLenT, rIntI, rIntB, rAbs, rSetLN, tTruL, tRaiseX, rIsTy, rIsOw, ixN0, ixN1, tRet, tIf, tIfS, tNext, tBreak, tCont, tDrop, tTupN, tLstN, tUn, tCB, tCall, tNot, tAnd, tOr, tB, tAndV, tOrV, tNotV, tChain, tApp, LamX.tLam, tRevLN, rCatN, rInTN, rInLN, flatV, inV, List.all_cons, List.all_nil, List.any_cons, List.any_nil, Bool.and_self, Bool.and_true, if_true, Bool.false_eq_true, if_false, tMt, tFldN, tSto, HO.ins.injEq, lkh, List.drop_zero, List.drop_succ_cons, List.drop_nil, rListS, wipe, L2.start, List.map_cons, List.map_nil, List.length_cons, List.length_nil, List.replicate, List.cons_append, List.nil_append, List.append_nil, Nat.reduceAdd, Nat.reduceSub, Nat.zero_add, List.replicate_succ, List.replicate_zero, List.getElem?_cons_zero, List.getElem?_cons_succ, List.set_cons_zero, List.set_cons_succ, Option.some.injEq, V.int.injEq, V.bl.injEq, V.ref.injEq, V.str.injEq, V.ty.injEq, List.cons.injEq, HO.tup.injEq, HO.lst.injEq, and_true, true_and, and_assoc, exists_eq_left, exists_eq_left', exists_and_left, exists_eq', atI0, atI1, atI2, atI3, Int.cast_ofNat_Int, Int.reduceToNat, scal_ii, scal_in, scal_ni, scal_nn, scal_bb, scal_ss, scal_sn, scal_ns, scal_bn, scal_nb, ite_iff, decide_eq_true_eq, decide_eq_false_iff_not, Bool.not_eq_true', Classical.not_not, ne_eq, not_false_eq_true, not_true_eq_false, forall_const, true_implies, false_implies, imp_self, sizeLine_eq, Nat.reduceLeDiff, reduceCtorEq, decide_true, decide_false]
  cases hcs : cs with
  | nil => 
    subst hcs
    exact ⟨fun _ => k 0 H (by decide) (by omega) ⟨hac, n, [], ha, hc, by decide⟩ Stp.refl, fun h => absurd rfl h⟩
  | cons z zs =>
    refine ⟨fun h => (by cases h), fun _ => ?_⟩
    rw [← hcs]
    rw [List.length_map]
    have hpos : 0 < cs.length := by rw [hcs]; simp
    have m1 := Int.emod_nonneg n (b := (cs.length : Int)) (by omega)
    have m2 := Int.emod_lt_of_pos n (b := (cs.length : Int)) (by omega)
    have hlt : (n % (cs.length : Int)).toNat < cs.length := by omega
    refine ⟨by omega, .int cs[(n % (cs.length : Int)).toNat], atI_ok m1 (by rw [List.getElem?_map, List.getElem?_eq_getElem hlt]; rfl), fun H2 p2 => ?_⟩
    have hc2 : H2 c = some (.lst (cs.map V.int)) := by rw [p2.2 c hac.symm]; exact hc
    have ha2 := p2.1
    simp only [hc2, ha2, exists_and_left, tYes, calmS, rTupN, rIsB, LamX.tLam3, tSl, tPart, tNoPart, rSlTN, cx_K, Value.ref.injEq, HO.xd.injEq, lk0, tSeq, tPar3, tPar, tCons, tNil, tVar, tC, tAsg, gName, gCons, gNil, gTupN, gSub, tOp, rI, rI0, rU, tTest, rNe, rEq, rIxTN, rIxLN, rLenL, rLenT, rIntI, rIntB, rAbs, rSetLN, tTruL, tRaiseX, rIsTy, rIsOw, ixN0, ixN1, tRet, tIf, tIfS, tNext, tBreak, tCont, tDrop, tTupN, tLstN, tUn, tCB, tCall, tNot, tAnd, tOr, tB, tAndV, tOrV, tNotV, tChain, tApp, LamX.tLam, tRevLN, rCatN, rInTN, rInLN, flatV, inV, List.all_cons, List.all_nil, List.any_cons, List.any_nil, Bool.and_self, Bool.and_true, if_true, Bool.false_eq_true, if_false, tMt, tFldN, tSto, HO.ins.injEq, lkh, List.drop_zero, List.drop_succ_cons, List.drop_nil, rListS, wipe, L2.start, List.map_cons, List.map_nil, List.length_cons, List.length_nil, List.replicate, List.cons_append, List.nil_append, List.append_nil, Nat.reduceAdd, Nat.reduceSub, Nat.zero_add, List.replicate_succ, List.replicate_zero, List.getElem?_cons_zero, List.getElem?_cons_succ, List.set_cons_zero, List.set_cons_succ, Option.some.injEq, V.int.injEq, V.bl.injEq, V.ref.injEq, V.str.injEq, V.ty.injEq, List.cons.injEq, HO.tup.injEq, HO.lst.injEq, and_true, true_and, and_assoc, exists_eq_left, exists_eq_left', exists_and_left, exists_eq', atI0, atI1, atI2, atI3, Int.cast_ofNat_Int, Int.reduceToNat, scal_ii, scal_in, scal_ni, scal_nn, scal_bb, scal_ss, scal_sn, scal_ns, scal_bn, scal_nb, ite_iff, decide_eq_true_eq, decide_eq_false_iff_not, Bool.not_eq_true', Classical.not_not, ne_eq, not_false_eq_true, not_true_eq_false, forall_const, true_implies, false_implies, imp_self, sizeLine_eq, Nat.reduceLeDiff, reduceCtorEq, decide_true, decide_false]
    refine ⟨⟨by decide, by decide, by decide⟩, fun _ => ⟨⟨by omega, log_lt hb (by decide) (by decide)⟩, _, by rw [List.length_map]; exact ixN_ok m1 m2, fun H3 p3 => ?_⟩, fun _ => ?_⟩
    · refine ⟨by omega, k _ H3 (Int.emod_nonneg _ (by omega)) (Int.emod_lt_of_pos _ (by omega)) ⟨hac, n + 1, cs.set (n % (cs.length : Int)).toNat (cs[(n % (cs.length : Int)).toNat] / lim), ?_, ?_, by rw [List.length_set]; exact hl⟩ ((p2.stp (.inl rfl)).trans (p3.stp (.inr rfl)))⟩
      · rw [p3.2 a hac]; exact ha2
      · rw [p3.1, List.map_set]
    · exact ⟨.inr ⟨by decide, by decide⟩, .inr ⟨by decide, by decide⟩, by decide, .inr ⟨by decide, by decide⟩, .inr ⟨by decide, by decide⟩, by decide, by omega,
        k _ H2 (Int.emod_nonneg _ (by omega)) (Int.emod_lt_of_pos _ (by omega)) ⟨hac, n + 1, cs, ha2, hc2, hl⟩ (p2.stp (.inl rfl))⟩
def spNum : Sp := fun vs H Q _ => ∃ a c most, vs = [.ref a, .int most] ∧ StA H a c ∧ 0 ≤ most ∧ most < 2 ^ 20 ∧ ∀ (d : Int) H', d.natAbs < 2 ^ 98 → StA H' a c → Stp a c H H' → Q (.int d) H'
theorem o__law_number (T : Txt K mg) : OkF P w K mg base CX0 2 "_law_number" ["_law_state", "_law_most"] spNum := by
  have o__law_draw := o__law_draw (P := P) (w := w) (base := base) T
  obtain ⟨f, fd, g, F⟩ := T.d__law_number
  refine ⟨f, fd, g, F.kp, F.binds (fun _ _ _ _ _ _ us hl => match us, hl with | [_, _], _ => rfl), F.ok sc__law_number (fun vs H Q E h => ?_) (fun cdv A outer s H vs Q E hr h => ?_)⟩
  · first | (obtain ⟨_, rfl, _⟩ := h; rfl) | (obtain ⟨_, _, rfl, _⟩ := h; rfl) | (obtain ⟨_, _, _, rfl, _⟩ := h; rfl) | (obtain ⟨_, _, _, _, rfl, _⟩ := h; rfl) | (obtain ⟨_, _, _, _, _, rfl, _⟩ := h; rfl) | (obtain ⟨_, _, _, _, _, _, rfl, _⟩ := h; rfl) | (obtain ⟨_, _, _, _, _, _, _, rfl, _⟩ := h; rfl)
  have hu64 := hr.units
  refine ⟨_, pss_cons (ps_if (pt_cmpR op_lt (pcl o__law_draw (hr.mono (by decide)) pass0 (pa_cons (pv 0) (pa_cons (pe_int) pa_nil))) (pe_int) (nomark _)) (pss_one (ps_ret (pe_op op_sub (pcl o__law_draw (hr.mono (by decide)) pass0 (pa_cons (pv 0) (pa_cons (pe_op op_add (pe_op op_mul (pe_int) (pv 1)) (pe_int)) pa_nil))) (pv 1)))) (pss_nil))
      (pss_cons (ps_set (i := 2) sc__law_number.nd rfl (Or.inl rfl) (pe_int))
      (pss_cons (ps_for PassesOwn.never rfl (pi_range1 rfl T.m_range (pa_cons (pe_int) pa_nil)) (pg_name (i := 3) sc__law_number.nd rfl (Or.inl rfl)) (pss_one (ps_set (i := 2) sc__law_number.nd rfl (Or.inl rfl) (pe_op op_add (pe_op op_mulW (pv 2) (pe_op op_pow (pe_int) (pe_int))) (pcl o__law_draw (hr.mono (by decide)) pass0 (pa_cons (pv 0) (pa_cons (pe_op op_pow (pe_int) (pe_int)) pa_nil)))))))
      (pss_one (ps_ret (pe_op op_mulW (pe_op op_add (pv 2) (pe_op op_pow (pe_int) (pe_int))) (pe_op op_sub (pe_int) (pe_op op_mul (pe_int) (pcl o__law_draw (hr.mono (by decide)) pass0 (pa_cons (pv 0) (pa_cons (pe_int) pa_nil)))))))))), ?_⟩
  obtain ⟨a, c, most, rfl, hS, h0, h1, k⟩ := h
  simp only [spDraw, exists_and_left, tYes, calmS, rTupN, rIsB, LamX.tLam3, tSl, tPart, tNoPart, rSlTN, cx_K, Value.ref.injEq, HO.xd.injEq, lk0, tSeq, tPar3, tPar, tCons, tNil, tVar, tC, tAsg, gName, gCons, gNil, gTupN, gSub, tOp, rI, rI0, rU, tTest, rNe, rEq, rIxTN, rIxLN, rLenL, rLenT, rIntI, rIntB, rAbs, rSetLN, tTruL, tRaiseX, rIsTy, rIsOw, ixN0, ixN1, tRet, tIf, tIfS, tNext, tBreak, tCont, tDrop, tTupN, tLstN, tUn, tCB, tCall, tNot, tAnd, tOr, tB, tAndV, tOrV, tNotV, tChain, tApp, LamX.tLam, tRevLN, rCatN, rInTN, rInLN, flatV, inV, List.all_cons, List.all_nil, List.any_cons, List.any_nil, Bool.and_self, Bool.and_true, if_true, Bool.false_eq_true, if_false, tMt, tFldN, tSto, HO.ins.injEq, lkh, List.drop_zero, List.drop_succ_cons, List.drop_nil, rListS, wipe, L2.start, List.map_cons, List.map_nil, List.length_cons, List.length_nil, List.replicate, List.cons_append, List.nil_append, List.append_nil, Nat.reduceAdd, Nat.reduceSub, Nat.zero_add, List.replicate_succ, List.replicate_zero, List.getElem?_cons_zero, List.getElem?_cons_succ, List.set_cons_zero, List.set_cons_succ, Option.some.injEq, V.int.injEq, V.bl.injEq, V.ref.injEq, V.str.injEq, V.ty.injEq, List.cons.injEq, HO.tup.injEq, HO.lst.injEq, and_true, true_and, and_assoc, exists_eq_left, exists_eq_left', exists_and_left, exists_eq', atI0, atI1, atI2, atI3, Int.cast_ofNat_Int, Int.reduceToNat, scal_ii, scal_in, scal_ni, scal_nn, scal_bb, scal_ss, scal_sn, scal_ns, scal_bn, scal_nb, ite_iff, decide_eq_true_eq, decide_eq_false_iff_not, Bool.not_eq_true', Classical.not_not, ne_eq, not_false_eq_true, not_true_eq_false, forall_const, true_implies, false_implies, imp_self, sizeLine_eq, Nat.reduceLeDiff, reduceCtorEq, decide_true, decide_false]
  refine ⟨c, hS, by decide, by decide, fun d H1 d0 d1 hS1 t1 => ⟨fun _ => ⟨.inl ⟨by decide, by decide⟩, c, hS1, by omega, by omega, fun e H2 e0 e1 hS2 t2 => k _ H2 (by omega) hS2 (t1.trans t2)⟩, fun _ => ?_⟩⟩
  have e24 : (2 : Int) ^ (24 : Int).toNat = 16777216 := rfl
  have e29 : (10 : Int) ^ (29 : Int).toNat = 100000000000000000000000000000 := rfl
  refine st_forR1 4 (by decide) (fun Q q => q) (fun i σ H' => ∃ (x : Int) (t : Option V), σ = [some (.ref a), some (.int most), some (.int x), t] ∧ 0 ≤ x ∧ x.natAbs < 2 ^ (24 * i) ∧ StA H' a c ∧ Stp a c H H') ⟨0, none, rfl, by decide, by decide, hS1, t1⟩ ?_ ?_
  · rintro i _ H2 hi ⟨x, t, rfl, x0, x1, hS2, t2⟩
    simp only [spDraw, exists_and_left, e24, tYes, calmS, rTupN, rIsB, LamX.tLam3, tSl, tPart, tNoPart, rSlTN, cx_K, Value.ref.injEq, HO.xd.injEq, lk0, tSeq, tPar3, tPar, tCons, tNil, tVar, tC, tAsg, gName, gCons, gNil, gTupN, gSub, tOp, rI, rI0, rU, tTest, rNe, rEq, rIxTN, rIxLN, rLenL, rLenT, rIntI, rIntB, rAbs, rSetLN, tTruL, tRaiseX, rIsTy, rIsOw, ixN0, ixN1, tRet, tIf, tIfS, tNext, tBreak, tCont, tDrop, tTupN, tLstN, tUn, tCB, tCall, tNot, tAnd, tOr, tB, tAndV, tOrV, tNotV, tChain, tApp, LamX.tLam, tRevLN, rCatN, rInTN, rInLN, flatV, inV, List.all_cons, List.all_nil, List.any_cons, List.any_nil, Bool.and_self, Bool.and_true, if_true, Bool.false_eq_true, if_false, tMt, tFldN, tSto, HO.ins.injEq, lkh, List.drop_zero, List.drop_succ_cons, List.drop_nil, rListS, wipe, L2.start, List.map_cons, List.map_nil, List.length_cons, List.length_nil, List.replicate, List.cons_append, List.nil_append, List.append_nil, Nat.reduceAdd, Nat.reduceSub, Nat.zero_add, List.replicate_succ, List.replicate_zero, List.getElem?_cons_zero, List.getElem?_cons_succ, List.set_cons_zero, List.set_cons_succ, Option.some.injEq, V.int.injEq, V.bl.injEq, V.ref.injEq, V.str.injEq, V.ty.injEq, List.cons.injEq, HO.tup.injEq, HO.lst.injEq, and_true, true_and, and_assoc, exists_eq_left, exists_eq_left', exists_and_left, exists_eq', atI0, atI1, atI2, atI3, Int.cast_ofNat_Int, Int.reduceToNat, scal_ii, scal_in, scal_ni, scal_nn, scal_bb, scal_ss, scal_sn, scal_ns, scal_bn, scal_nb, ite_iff, decide_eq_true_eq, decide_eq_false_iff_not, Bool.not_eq_true', Classical.not_not, ne_eq, not_false_eq_true, not_true_eq_false, forall_const, true_implies, false_implies, imp_self, sizeLine_eq, Nat.reduceLeDiff, reduceCtorEq, decide_true, decide_false]
    have hi : i < 4 := hi
    have hx : x.natAbs < 2 ^ 96 := Nat.lt_of_lt_of_le x1 (Nat.pow_le_pow_right (by decide) (by omega))
    refine ⟨⟨by decide, by decide, by decide⟩, wide_mul hx (b := 25) (by decide) (by decide) (by decide) (by decide), ⟨by decide, by decide, by decide⟩, c, hS2, by decide, by decide, fun d H3 d0 d1 hS3 t3 => ⟨?_, ?_, hS3, t2.trans t3⟩⟩
    · omega
    · rw [Nat.mul_succ, Nat.pow_add, show (2 : Nat) ^ 24 = 16777216 from rfl]
      generalize 2 ^ (24 * i) = B at *
      omega
  · rintro _ H2 ⟨x, t, rfl, x0, x1, hS2, t2⟩
    simp only [spDraw, exists_and_left, e29, tYes, calmS, rTupN, rIsB, LamX.tLam3, tSl, tPart, tNoPart, rSlTN, cx_K, Value.ref.injEq, HO.xd.injEq, lk0, tSeq, tPar3, tPar, tCons, tNil, tVar, tC, tAsg, gName, gCons, gNil, gTupN, gSub, tOp, rI, rI0, rU, tTest, rNe, rEq, rIxTN, rIxLN, rLenL, rLenT, rIntI, rIntB, rAbs, rSetLN, tTruL, tRaiseX, rIsTy, rIsOw, ixN0, ixN1, tRet, tIf, tIfS, tNext, tBreak, tCont, tDrop, tTupN, tLstN, tUn, tCB, tCall, tNot, tAnd, tOr, tB, tAndV, tOrV, tNotV, tChain, tApp, LamX.tLam, tRevLN, rCatN, rInTN, rInLN, flatV, inV, List.all_cons, List.all_nil, List.any_cons, List.any_nil, Bool.and_self, Bool.and_true, if_true, Bool.false_eq_true, if_false, tMt, tFldN, tSto, HO.ins.injEq, lkh, List.drop_zero, List.drop_succ_cons, List.drop_nil, rListS, wipe, L2.start, List.map_cons, List.map_nil, List.length_cons, List.length_nil, List.replicate, List.cons_append, List.nil_append, List.append_nil, Nat.reduceAdd, Nat.reduceSub, Nat.zero_add, List.replicate_succ, List.replicate_zero, List.getElem?_cons_zero, List.getElem?_cons_succ, List.set_cons_zero, List.set_cons_succ, Option.some.injEq, V.int.injEq, V.bl.injEq, V.ref.injEq, V.str.injEq, V.ty.injEq, List.cons.injEq, HO.tup.injEq, HO.lst.injEq, and_true, true_and, and_assoc, exists_eq_left, exists_eq_left', exists_and_left, exists_eq', atI0, atI1, atI2, atI3, Int.cast_ofNat_Int, Int.reduceToNat, scal_ii, scal_in, scal_ni, scal_nn, scal_bb, scal_ss, scal_sn, scal_ns, scal_bn, scal_nb, ite_iff, decide_eq_true_eq, decide_eq_false_iff_not, Bool.not_eq_true', Classical.not_not, ne_eq, not_false_eq_true, not_true_eq_false, forall_const, true_implies, false_implies, imp_self, sizeLine_eq, Nat.reduceLeDiff, reduceCtorEq, decide_true, decide_false]
    have hx : x.natAbs < 2 ^ 96 := x1
    refine ⟨⟨by decide, by decide, by decide⟩, c, hS2, by decide, by decide, fun d H3 d0 d1 hS3 t3 => ⟨.inl ⟨by decide, by decide⟩, wide_mul (a := 98) (b := 3) ?_ (by omega) (by decide) (by decide) (by decide), k _ H3 ?_ hS3 (t2.trans t3)⟩⟩
    · omega
    · have : d = 0 ∨ d = 1 := by omega
      rcases this with rfl | rfl <;> omega

/-! ### what the law tells of rows of stretches -/
def bndO (n : Nat) : Option Int → Prop
  | none => True
  | some i => i.natAbs < 2 ^ n
def spEnds : Sp := fun vs H Q _ => ∃ a c, vs = [.ref a] ∧ StA H a c ∧ ∀ p lo hi H', okO lo hi → bndO 102 lo → bndO 102 hi → StA H' a c → Stp a c H H' → H' p = some (.tup [ov lo, ov hi]) → Q (.ref p) H'
theorem o__law_ends (T : Txt K mg) : OkF P w K mg base CX0 3 "_law_ends" ["_law_state"] spEnds := by
  have o__law_draw := o__law_draw (P := P) (w := w) (base := base) T
  have o__law_number := o__law_number (P := P) (w := w) (base := base) T
  obtain ⟨f, fd, g, F⟩ := T.d__law_ends
  refine ⟨f, fd, g, F.kp, F.binds (fun _ _ _ _ _ _ us hl => match us, hl with | [_], _ => rfl), F.ok sc__law_ends (fun vs H Q E h => ?_) (fun cdv A outer s H vs Q E hr h => ?_)⟩
  · first | (obtain ⟨_, rfl, _⟩ := h; rfl) | (obtain ⟨_, _, rfl, _⟩ := h; rfl) | (obtain ⟨_, _, _, rfl, _⟩ := h; rfl) | (obtain ⟨_, _, _, _, rfl, _⟩ := h; rfl) | (obtain ⟨_, _, _, _, _, rfl, _⟩ := h; rfl) | (obtain ⟨_, _, _, _, _, _, rfl, _⟩ := h; rfl) | (obtain ⟨_, _, _, _, _, _, _, rfl, _⟩ := h; rfl)
  have hu64 := hr.units
  refine ⟨_, pss_cons (ps_set (i := 1) sc__law_ends.nd rfl (Or.inl rfl) (pcl o__law_number (hr.mono (by decide)) pass0 (pa_cons (pv 0) (pa_cons (pe_int) pa_nil))))
      (pss_cons (ps_set (i := 2) sc__law_ends.nd rfl (Or.inl rfl) (pe_op op_add (pe_op op_add (pv 1) (pe_int)) (pe_op op_mulW (pcl o__law_draw (hr.mono (by decide)) pass0 (pa_cons (pv 0) (pa_cons (pe_int) pa_nil))) (pe_op op_add (pe_int) (pcl o__law_draw (hr.mono (by decide)) pass0 (pa_cons (pv 0) (pa_cons (pe_int) pa_nil)))))))
      (pss_cons (ps_cut (ps_if (pt_cmpR op_eq (pcl o__law_draw (hr.mono (by decide)) pass0 (pa_cons (pv 0) (pa_cons (pe_int) pa_nil))) (pe_int) (nomark _)) (pss_one (ps_set (i := 2) sc__law_ends.nd rfl (Or.inl rfl) (pe_op op_add (pe_op op_add (pv 2) (pe_op op_pow (pe_int) (pe_int))) (pcl o__law_draw (hr.mono (by decide)) pass0 (pa_cons (pv 0) (pa_cons (pe_int) pa_nil)))))) (pss_nil)))
      (pss_cons (ps_set (i := 3) sc__law_ends.nd rfl (Or.inl rfl) (pcl o__law_draw (hr.mono (by decide)) pass0 (pa_cons (pv 0) (pa_cons (pe_int) pa_nil))))
      (pss_cons (ps_cut (ps_if (pt_cmpR op_eq (pv 3) (pe_int) (nomark _)) (pss_one (ps_set (i := 1) sc__law_ends.nd rfl (Or.inl rfl) (pe_non))) (pss_nil)))
      (pss_cons (ps_cut (ps_if (pt_cmpR op_eq (pv 3) (pe_int) (nomark _)) (pss_one (ps_set (i := 2) sc__law_ends.nd rfl (Or.inl rfl) (pe_non))) (pss_nil)))
      (pss_cons (ps_if (PW.pt (pw_and (pt_cmpR op_eq (pv 3) (pe_int) (nomark _)) (pw_and1 (pt_cmpR op_eq (pcl o__law_draw (hr.mono (by decide)) pass0 (pa_cons (pv 0) (pa_cons (pe_int) pa_nil))) (pe_int) (nomark _))))) (pss_one (ps_ret (pe_tupN (pa_cons (pe_non) (pa_cons (pe_non) pa_nil))))) (pss_nil))
      (pss_one (ps_ret (pe_tupN (pa_cons (pv 1) (pa_cons (pv 2) pa_nil))))))))))), ?_⟩
  obtain ⟨a, c, rfl, hS, k⟩ := h
  have e30 : (10 : Int) ^ (30 : Int).toNat = 1000000000000000000000000000000 := rfl
  simp only [spNum, exists_and_left, tYes, calmS, rTupN, rIsB, LamX.tLam3, tSl, tPart, tNoPart, rSlTN, cx_K, Value.ref.injEq, HO.xd.injEq, lk0, tSeq, tPar3, tPar, tCons, tNil, tVar, tC, tAsg, gName, gCons, gNil, gTupN, gSub, tOp, rI, rI0, rU, tTest, rNe, rEq, rIxTN, rIxLN, rLenL, rLenT, rIntI, rIntB, rAbs, rSetLN, tTruL, tRaiseX, rIsTy, rIsOw, ixN0, ixN1, tRet, tIf, tIfS, tNext, tBreak, tCont, tDrop, tTupN, tLstN, tUn, tCB, tCall, tNot, tAnd, tOr, tB, tAndV, tOrV, tNotV, tChain, tApp, LamX.tLam, tRevLN, rCatN, rInTN, rInLN, flatV, inV, List.all_cons, List.all_nil, List.any_cons, List.any_nil, Bool.and_self, Bool.and_true, if_true, Bool.false_eq_true, if_false, tMt, tFldN, tSto, HO.ins.injEq, lkh, List.drop_zero, List.drop_succ_cons, List.drop_nil, rListS, wipe, L2.start, List.map_cons, List.map_nil, List.length_cons, List.length_nil, List.replicate, List.cons_append, List.nil_append, List.append_nil, Nat.reduceAdd, Nat.reduceSub, Nat.zero_add, List.replicate_succ, List.replicate_zero, List.getElem?_cons_zero, List.getElem?_cons_succ, List.set_cons_zero, List.set_cons_succ, Option.some.injEq, V.int.injEq, V.bl.injEq, V.ref.injEq, V.str.injEq, V.ty.injEq, List.cons.injEq, HO.tup.injEq, HO.lst.injEq, and_true, true_and, and_assoc, exists_eq_left, exists_eq_left', exists_and_left, exists_eq', atI0, atI1, atI2, atI3, Int.cast_ofNat_Int, Int.reduceToNat, scal_ii, scal_in, scal_ni, scal_nn, scal_bb, scal_ss, scal_sn, scal_ns, scal_bn, scal_nb, ite_iff, decide_eq_true_eq, decide_eq_false_iff_not, Bool.not_eq_true', Classical.not_not, ne_eq, not_false_eq_true, not_true_eq_false, forall_const, true_implies, false_implies, imp_self, sizeLine_eq, Nat.reduceLeDiff, reduceCtorEq, decide_true, decide_false]
  refine ⟨c, hS, by decide, by decide, fun l H1 bl hS1 t1 => ?_⟩
  simp only [spDraw, exists_and_left, tYes, calmS, rTupN, rIsB, LamX.tLam3, tSl, tPart, tNoPart, rSlTN, cx_K, Value.ref.injEq, HO.xd.injEq, lk0, tSeq, tPar3, tPar, tCons, tNil, tVar, tC, tAsg, gName, gCons, gNil, gTupN, gSub, tOp, rI, rI0, rU, tTest, rNe, rEq, rIxTN, rIxLN, rLenL, rLenT, rIntI, rIntB, rAbs, rSetLN, tTruL, tRaiseX, rIsTy, rIsOw, ixN0, ixN1, tRet, tIf, tIfS, tNext, tBreak, tCont, tDrop, tTupN, tLstN, tUn, tCB, tCall, tNot, tAnd, tOr, tB, tAndV, tOrV, tNotV, tChain, tApp, LamX.tLam, tRevLN, rCatN, rInTN, rInLN, flatV, inV, List.all_cons, List.all_nil, List.any_cons, List.any_nil, Bool.and_self, Bool.and_true, if_true, Bool.false_eq_true, if_false, tMt, tFldN, tSto, HO.ins.injEq, lkh, List.drop_zero, List.drop_succ_cons, List.drop_nil, rListS, wipe, L2.start, List.map_cons, List.map_nil, List.length_cons, List.length_nil, List.replicate, List.cons_append, List.nil_append, List.append_nil, Nat.reduceAdd, Nat.reduceSub, Nat.zero_add, List.replicate_succ, List.replicate_zero, List.getElem?_cons_zero, List.getElem?_cons_succ, List.set_cons_zero, List.set_cons_succ, Option.some.injEq, V.int.injEq, V.bl.injEq, V.ref.injEq, V.str.injEq, V.ty.injEq, List.cons.injEq, HO.tup.injEq, HO.lst.injEq, and_true, true_and, and_assoc, exists_eq_left, exists_eq_left', exists_and_left, exists_eq', atI0, atI1, atI2, atI3, Int.cast_ofNat_Int, Int.reduceToNat, scal_ii, scal_in, scal_ni, scal_nn, scal_bb, scal_ss, scal_sn, scal_ns, scal_bn, scal_nb, ite_iff, decide_eq_true_eq, decide_eq_false_iff_not, Bool.not_eq_true', Classical.not_not, ne_eq, not_false_eq_true, not_true_eq_false, forall_const, true_implies, false_implies, imp_self, sizeLine_eq, Nat.reduceLeDiff, reduceCtorEq, decide_true, decide_false]
  refine ⟨c, hS1, by decide, by decide, fun d1 H2 d10 d11 hS2 t2 => ⟨c, hS2, by decide, by decide, fun d2 H3 d20 d21 hS3 t3 => ?_⟩⟩
  have hm : 0 ≤ d1 * (1 + d2) ∧ d1 * (1 + d2) ≤ 18 := by
    have : d2 = 0 ∨ d2 = 1 := by omega
    rcases this with rfl | rfl <;> omega
  refine ⟨wide_mul (a := 4) (b := 2) (by omega) (by omega) (by decide) (by decide) (by decide), ?_⟩
  generalize d1 * (1 + d2) = m at *
  have u3 := (t1.trans t2).trans t3
  refine ⟨fun σ' H' => ∃ h, σ' = [some (.ref a), some (.int l), some (.int h), none] ∧ l < h ∧ h.natAbs < 2 ^ 102 ∧ StA H' a c ∧ Stp a c H H', ?_, ?_⟩
  · simp only [spDraw, exists_and_left, e30, tYes, calmS, rTupN, rIsB, LamX.tLam3, tSl, tPart, tNoPart, rSlTN, cx_K, Value.ref.injEq, HO.xd.injEq, lk0, tSeq, tPar3, tPar, tCons, tNil, tVar, tC, tAsg, gName, gCons, gNil, gTupN, gSub, tOp, rI, rI0, rU, tTest, rNe, rEq, rIxTN, rIxLN, rLenL, rLenT, rIntI, rIntB, rAbs, rSetLN, tTruL, tRaiseX, rIsTy, rIsOw, ixN0, ixN1, tRet, tIf, tIfS, tNext, tBreak, tCont, tDrop, tTupN, tLstN, tUn, tCB, tCall, tNot, tAnd, tOr, tB, tAndV, tOrV, tNotV, tChain, tApp, LamX.tLam, tRevLN, rCatN, rInTN, rInLN, flatV, inV, List.all_cons, List.all_nil, List.any_cons, List.any_nil, Bool.and_self, Bool.and_true, if_true, Bool.false_eq_true, if_false, tMt, tFldN, tSto, HO.ins.injEq, lkh, List.drop_zero, List.drop_succ_cons, List.drop_nil, rListS, wipe, L2.start, List.map_cons, List.map_nil, List.length_cons, List.length_nil, List.replicate, List.cons_append, List.nil_append, List.append_nil, Nat.reduceAdd, Nat.reduceSub, Nat.zero_add, List.replicate_succ, List.replicate_zero, List.getElem?_cons_zero, List.getElem?_cons_succ, List.set_cons_zero, List.set_cons_succ, Option.some.injEq, V.int.injEq, V.bl.injEq, V.ref.injEq, V.str.injEq, V.ty.injEq, List.cons.injEq, HO.tup.injEq, HO.lst.injEq, and_true, true_and, and_assoc, exists_eq_left, exists_eq_left', exists_and_left, exists_eq', atI0, atI1, atI2, atI3, Int.cast_ofNat_Int, Int.reduceToNat, scal_ii, scal_in, scal_ni, scal_nn, scal_bb, scal_ss, scal_sn, scal_ns, scal_bn, scal_nb, ite_iff, decide_eq_true_eq, decide_eq_false_iff_not, Bool.not_eq_true', Classical.not_not, ne_eq, not_false_eq_true, not_true_eq_false, forall_const, true_implies, false_implies, imp_self, sizeLine_eq, Nat.reduceLeDiff, reduceCtorEq, decide_true, decide_false]
    refine ⟨c, hS3, by decide, by decide, fun d3 H4 d30 d31 hS4 t4 => ⟨fun _ => ⟨⟨by decide, by decide, by decide⟩, c, hS4, by decide, by decide, fun d4 H5 d40 d41 hS5 t5 => ⟨by omega, by omega, hS5, (u3.trans t4).trans t5⟩⟩, fun _ => ⟨by omega, by omega, hS4, u3.trans t4⟩⟩⟩
  · rintro σ' H4 ⟨h, rfl, hlh, bh, hS4, u4⟩
    simp only [spDraw, exists_and_left, tYes, calmS, rTupN, rIsB, LamX.tLam3, tSl, tPart, tNoPart, rSlTN, cx_K, Value.ref.injEq, HO.xd.injEq, lk0, tSeq, tPar3, tPar, tCons, tNil, tVar, tC, tAsg, gName, gCons, gNil, gTupN, gSub, tOp, rI, rI0, rU, tTest, rNe, rEq, rIxTN, rIxLN, rLenL, rLenT, rIntI, rIntB, rAbs, rSetLN, tTruL, tRaiseX, rIsTy, rIsOw, ixN0, ixN1, tRet, tIf, tIfS, tNext, tBreak, tCont, tDrop, tTupN, tLstN, tUn, tCB, tCall, tNot, tAnd, tOr, tB, tAndV, tOrV, tNotV, tChain, tApp, LamX.tLam, tRevLN, rCatN, rInTN, rInLN, flatV, inV, List.all_cons, List.all_nil, List.any_cons, List.any_nil, Bool.and_self, Bool.and_true, if_true, Bool.false_eq_true, if_false, tMt, tFldN, tSto, HO.ins.injEq, lkh, List.drop_zero, List.drop_succ_cons, List.drop_nil, rListS, wipe, L2.start, List.map_cons, List.map_nil, List.length_cons, List.length_nil, List.replicate, List.cons_append, List.nil_append, List.append_nil, Nat.reduceAdd, Nat.reduceSub, Nat.zero_add, List.replicate_succ, List.replicate_zero, List.getElem?_cons_zero, List.getElem?_cons_succ, List.set_cons_zero, List.set_cons_succ, Option.some.injEq, V.int.injEq, V.bl.injEq, V.ref.injEq, V.str.injEq, V.ty.injEq, List.cons.injEq, HO.tup.injEq, HO.lst.injEq, and_true, true_and, and_assoc, exists_eq_left, exists_eq_left', exists_and_left, exists_eq', atI0, atI1, atI2, atI3, Int.cast_ofNat_Int, Int.reduceToNat, scal_ii, scal_in, scal_ni, scal_nn, scal_bb, scal_ss, scal_sn, scal_ns, scal_bn, scal_nb, ite_iff, decide_eq_true_eq, decide_eq_false_iff_not, Bool.not_eq_true', Classical.not_not, ne_eq, not_false_eq_true, not_true_eq_false, forall_const, true_implies, false_implies, imp_self, sizeLine_eq, Nat.reduceLeDiff, reduceCtorEq, decide_true, decide_false]
    refine ⟨c, hS4, by decide, by decide, fun d3 H5 d30 d31 hS5 t5 => ?_⟩
    have u5 := u4.trans t5
    refine ⟨fun σ' H' => ∃ lo, σ' = [some (.ref a), some (ov lo), some (.int h), some (.int d3)] ∧ (lo = some l ∨ lo = none ∧ d3 = 7) ∧ H' = H5, ?_, ?_⟩
    · simp only [spDraw, exists_and_left, tYes, calmS, rTupN, rIsB, LamX.tLam3, tSl, tPart, tNoPart, rSlTN, cx_K, Value.ref.injEq, HO.xd.injEq, lk0, tSeq, tPar3, tPar, tCons, tNil, tVar, tC, tAsg, gName, gCons, gNil, gTupN, gSub, tOp, rI, rI0, rU, tTest, rNe, rEq, rIxTN, rIxLN, rLenL, rLenT, rIntI, rIntB, rAbs, rSetLN, tTruL, tRaiseX, rIsTy, rIsOw, ixN0, ixN1, tRet, tIf, tIfS, tNext, tBreak, tCont, tDrop, tTupN, tLstN, tUn, tCB, tCall, tNot, tAnd, tOr, tB, tAndV, tOrV, tNotV, tChain, tApp, LamX.tLam, tRevLN, rCatN, rInTN, rInLN, flatV, inV, List.all_cons, List.all_nil, List.any_cons, List.any_nil, Bool.and_self, Bool.and_true, if_true, Bool.false_eq_true, if_false, tMt, tFldN, tSto, HO.ins.injEq, lkh, List.drop_zero, List.drop_succ_cons, List.drop_nil, rListS, wipe, L2.start, List.map_cons, List.map_nil, List.length_cons, List.length_nil, List.replicate, List.cons_append, List.nil_append, List.append_nil, Nat.reduceAdd, Nat.reduceSub, Nat.zero_add, List.replicate_succ, List.replicate_zero, List.getElem?_cons_zero, List.getElem?_cons_succ, List.set_cons_zero, List.set_cons_succ, Option.some.injEq, V.int.injEq, V.bl.injEq, V.ref.injEq, V.str.injEq, V.ty.injEq, List.cons.injEq, HO.tup.injEq, HO.lst.injEq, and_true, true_and, and_assoc, exists_eq_left, exists_eq_left', exists_and_left, exists_eq', atI0, atI1, atI2, atI3, Int.cast_ofNat_Int, Int.reduceToNat, scal_ii, scal_in, scal_ni, scal_nn, scal_bb, scal_ss, scal_sn, scal_ns, scal_bn, scal_nb, ite_iff, decide_eq_true_eq, decide_eq_false_iff_not, Bool.not_eq_true', Classical.not_not, ne_eq, not_false_eq_true, not_true_eq_false, forall_const, true_implies, false_implies, imp_self, sizeLine_eq, Nat.reduceLeDiff, reduceCtorEq, decide_true, decide_false]
      exact ⟨fun e => ⟨none, rfl, .inr ⟨rfl, e⟩⟩, fun e => ⟨some l, rfl, .inl rfl⟩⟩
    · rintro σ' H6 ⟨lo, rfl, hlo, rfl⟩
      refine ⟨fun σ' H' => ∃ hi, σ' = [some (.ref a), some (ov lo), some (ov hi), some (.int d3)] ∧ (hi = some h ∨ hi = none) ∧ H' = H6, ?_, ?_⟩
      · simp only [spDraw, exists_and_left, tYes, calmS, rTupN, rIsB, LamX.tLam3, tSl, tPart, tNoPart, rSlTN, cx_K, Value.ref.injEq, HO.xd.injEq, lk0, tSeq, tPar3, tPar, tCons, tNil, tVar, tC, tAsg, gName, gCons, gNil, gTupN, gSub, tOp, rI, rI0, rU, tTest, rNe, rEq, rIxTN, rIxLN, rLenL, rLenT, rIntI, rIntB, rAbs, rSetLN, tTruL, tRaiseX, rIsTy, rIsOw, ixN0, ixN1, tRet, tIf, tIfS, tNext, tBreak, tCont, tDrop, tTupN, tLstN, tUn, tCB, tCall, tNot, tAnd, tOr, tB, tAndV, tOrV, tNotV, tChain, tApp, LamX.tLam, tRevLN, rCatN, rInTN, rInLN, flatV, inV, List.all_cons, List.all_nil, List.any_cons, List.any_nil, Bool.and_self, Bool.and_true, if_true, Bool.false_eq_true, if_false, tMt, tFldN, tSto, HO.ins.injEq, lkh, List.drop_zero, List.drop_succ_cons, List.drop_nil, rListS, wipe, L2.start, List.map_cons, List.map_nil, List.length_cons, List.length_nil, List.replicate, List.cons_append, List.nil_append, List.append_nil, Nat.reduceAdd, Nat.reduceSub, Nat.zero_add, List.replicate_succ, List.replicate_zero, List.getElem?_cons_zero, List.getElem?_cons_succ, List.set_cons_zero, List.set_cons_succ, Option.some.injEq, V.int.injEq, V.bl.injEq, V.ref.injEq, V.str.injEq, V.ty.injEq, List.cons.injEq, HO.tup.injEq, HO.lst.injEq, and_true, true_and, and_assoc, exists_eq_left, exists_eq_left', exists_and_left, exists_eq', atI0, atI1, atI2, atI3, Int.cast_ofNat_Int, Int.reduceToNat, scal_ii, scal_in, scal_ni, scal_nn, scal_bb, scal_ss, scal_sn, scal_ns, scal_bn, scal_nb, ite_iff, decide_eq_true_eq, decide_eq_false_iff_not, Bool.not_eq_true', Classical.not_not, ne_eq, not_false_eq_true, not_true_eq_false, forall_const, true_implies, false_implies, imp_self, sizeLine_eq, Nat.reduceLeDiff, reduceCtorEq, decide_true, decide_false]
        exact ⟨fun e => ⟨none, rfl, .inr rfl⟩, fun e => ⟨some h, rfl, .inl rfl⟩⟩
      · rintro σ' H7 ⟨hi, rfl, hhi, rfl⟩
        simp only [spDraw, exists_and_left, tYes, calmS, rTupN, rIsB, LamX.tLam3, tSl, tPart, tNoPart, rSlTN, cx_K, Value.ref.injEq, HO.xd.injEq, lk0, tSeq, tPar3, tPar, tCons, tNil, tVar, tC, tAsg, gName, gCons, gNil, gTupN, gSub, tOp, rI, rI0, rU, tTest, rNe, rEq, rIxTN, rIxLN, rLenL, rLenT, rIntI, rIntB, rAbs, rSetLN, tTruL, tRaiseX, rIsTy, rIsOw, ixN0, ixN1, tRet, tIf, tIfS, tNext, tBreak, tCont, tDrop, tTupN, tLstN, tUn, tCB, tCall, tNot, tAnd, tOr, tB, tAndV, tOrV, tNotV, tChain, tApp, LamX.tLam, tRevLN, rCatN, rInTN, rInLN, flatV, inV, List.all_cons, List.all_nil, List.any_cons, List.any_nil, Bool.and_self, Bool.and_true, if_true, Bool.false_eq_true, if_false, tMt, tFldN, tSto, HO.ins.injEq, lkh, List.drop_zero, List.drop_succ_cons, List.drop_nil, rListS, wipe, L2.start, List.map_cons, List.map_nil, List.length_cons, List.length_nil, List.replicate, List.cons_append, List.nil_append, List.append_nil, Nat.reduceAdd, Nat.reduceSub, Nat.zero_add, List.replicate_succ, List.replicate_zero, List.getElem?_cons_zero, List.getElem?_cons_succ, List.set_cons_zero, List.set_cons_succ, Option.some.injEq, V.int.injEq, V.bl.injEq, V.ref.injEq, V.str.injEq, V.ty.injEq, List.cons.injEq, HO.tup.injEq, HO.lst.injEq, and_true, true_and, and_assoc, exists_eq_left, exists_eq_left', exists_and_left, exists_eq', atI0, atI1, atI2, atI3, Int.cast_ofNat_Int, Int.reduceToNat, scal_ii, scal_in, scal_ni, scal_nn, scal_bb, scal_ss, scal_sn, scal_ns, scal_bn, scal_nb, ite_iff, decide_eq_true_eq, decide_eq_false_iff_not, Bool.not_eq_true', Classical.not_not, ne_eq, not_false_eq_true, not_true_eq_false, forall_const, true_implies, false_implies, imp_self, sizeLine_eq, Nat.reduceLeDiff, reduceCtorEq, decide_true, decide_false]
        have fin : ∀ H', StA H' a c → Stp a c H H' → News H' (.tup [ov lo, ov hi]) Q := fun H' hS' u' p H2 hp s h2 => k p lo hi H2 (by
            rcases hlo with rfl | ⟨rfl, _⟩ <;> rcases hhi with rfl | rfl <;> simp [okO, hlh]) (by
            rcases hlo with rfl | ⟨rfl, _⟩ <;> simp [bndO]; omega) (by
            rcases hhi with rfl | rfl <;> simp [bndO]; omega) (hS'.same s) (u'.trans (Stp.of s)) h2
        have fin2 : ∀ H', StA H' a c → Stp a c H H' → News H' (.tup [.non, .non]) Q := fun H' hS' u' p H2 hp s h2 => k p none none H2 trivial trivial trivial (hS'.same s) (u'.trans (Stp.of s)) h2
        exact ⟨fun _ => ⟨c, hS5, by decide, by decide, fun d H' _ _ hS' t' => ⟨fun _ => fin2 H' hS' (u5.trans t'), fun _ => fin H' hS' (u5.trans t')⟩⟩, fun _ => fin _ hS5 u5⟩

/-! ### whether a number is in pairs -/
theorem inS_B {lo hi : Option Int} {i : Int} : inS lo hi i = inB lo hi i := rfl
def spHas : Sp := fun vs H Q _ => ∃ a n ps, vs = [.ref a, .int n] ∧ PairsAt H a ps ∧ Q (.bl (has ps n)) H
theorem o__law_has (T : Txt K mg) : OkF P w K mg base CX0 1 "_law_has" ["_law_pairs", "_law_number_here"] spHas := by
  obtain ⟨f, fd, g, F⟩ := T.d__law_has
  refine ⟨f, fd, g, F.kp, F.binds (fun _ _ _ _ _ _ us hl => match us, hl with | [_, _], _ => rfl), F.ok sc__law_has (fun vs H Q E h => ?_) (fun cdv A outer s H vs Q E hr h => ?_)⟩
  · first | (obtain ⟨_, rfl, _⟩ := h; rfl) | (obtain ⟨_, _, rfl, _⟩ := h; rfl) | (obtain ⟨_, _, _, rfl, _⟩ := h; rfl) | (obtain ⟨_, _, _, _, rfl, _⟩ := h; rfl) | (obtain ⟨_, _, _, _, _, rfl, _⟩ := h; rfl) | (obtain ⟨_, _, _, _, _, _, rfl, _⟩ := h; rfl) | (obtain ⟨_, _, _, _, _, _, _, rfl, _⟩ := h; rfl)
  have hu64 := hr.units
  refine ⟨_, pss_cons (ps_for PassesOwn.never rfl (pi_list (pv 0)) (pg_tupN (n := 2) (by rfl) (pgs_cons (pg_name (i := 2) sc__law_has.nd rfl (Or.inl rfl)) (pgs_cons (pg_name (i := 3) sc__law_has.nd rfl (Or.inl rfl)) pgs_nil))) (pss_one (ps_if (PW.pt (pw_and (PW.pt (pw_or (pt_cmpR op_isN (pv 2) (pe_non) (nomark _)) (pw_or1 (pt_cmpR op_le (pv 2) (pv 1) (nomark _))))) (pw_and1 (PW.pt (pw_or (pt_cmpR op_isN (pv 3) (pe_non) (nomark _)) (pw_or1 (pt_cmpR op_lt (pv 1) (pv 3) (nomark _)))))))) (pss_one (ps_ret (pe_bl))) (pss_nil))))
      (pss_one (ps_ret (pe_bl))), ?_⟩
  obtain ⟨a, n, ps, rfl, ⟨xs, hx, hp⟩, k⟩ := h
  simp only [exists_and_left, tYes, calmS, rTupN, rIsB, LamX.tLam3, tSl, tPart, tNoPart, rSlTN, cx_K, Value.ref.injEq, HO.xd.injEq, lk0, tSeq, tPar3, tPar, tCons, tNil, tVar, tC, tAsg, gName, gCons, gNil, gTupN, gSub, tOp, rI, rI0, rU, tTest, rNe, rEq, rIxTN, rIxLN, rLenL, rLenT, rIntI, rIntB, rAbs, rSetLN, tTruL, tRaiseX, rIsTy, rIsOw, ixN0, ixN1, tRet, tIf, tIfS, tNext, tBreak, tCont, tDrop, tTupN, tLstN, tUn, tCB, tCall, tNot, tAnd, tOr, tB, tAndV, tOrV, tNotV, tChain, tApp, LamX.tLam, tRevLN, rCatN, rInTN, rInLN, flatV, inV, List.all_cons, List.all_nil, List.any_cons, List.any_nil, Bool.and_self, Bool.and_true, if_true, Bool.false_eq_true, if_false, tMt, tFldN, tSto, HO.ins.injEq, lkh, List.drop_zero, List.drop_succ_cons, List.drop_nil, rListS, wipe, L2.start, List.map_cons, List.map_nil, List.length_cons, List.length_nil, List.replicate, List.cons_append, List.nil_append, List.append_nil, Nat.reduceAdd, Nat.reduceSub, Nat.zero_add, List.replicate_succ, List.replicate_zero, List.getElem?_cons_zero, List.getElem?_cons_succ, List.set_cons_zero, List.set_cons_succ, Option.some.injEq, V.int.injEq, V.bl.injEq, V.ref.injEq, V.str.injEq, V.ty.injEq, List.cons.injEq, HO.tup.injEq, HO.lst.injEq, and_true, true_and, and_assoc, exists_eq_left, exists_eq_left', exists_and_left, exists_eq', atI0, atI1, atI2, atI3, Int.cast_ofNat_Int, Int.reduceToNat, scal_ii, scal_in, scal_ni, scal_nn, scal_bb, scal_ss, scal_sn, scal_ns, scal_bn, scal_nb, ite_iff, decide_eq_true_eq, decide_eq_false_iff_not, Bool.not_eq_true', Classical.not_not, ne_eq, not_false_eq_true, not_true_eq_false, forall_const, true_implies, false_implies, imp_self, sizeLine_eq, Nat.reduceLeDiff, reduceCtorEq, decide_true, decide_false]
  refine st_forL (a := a) (fun R r => ⟨_, rfl, r⟩) hx (fun i σ' H' => ∃ x2 x3, σ' = [some (V.ref a), some (V.int n), x2, x3] ∧ H' = H ∧ has (ps.take i) n = false) ⟨none, none, rfl, rfl, rfl⟩ (fun i σ' H' h => by obtain ⟨_, _, _, rfl, _⟩ := h; exact hx) ?_ ?_
  · rintro i x _ H' hi ⟨x2, x3, rfl, rfl, hf⟩
    obtain ⟨b, q, rfl, hq, hb⟩ := hp.get hi
    have ht : inB q.1 q.2 n = true → has ps n = true := fun h => has_iff.mpr ⟨q, List.mem_of_getElem? hq, h⟩
    have hn : inB q.1 q.2 n = false → has (ps.take (i + 1)) n = false := fun h => by rw [has_take hq, hf, h]; rfl
    obtain ⟨lo, hi'⟩ := q
    cases lo <;> cases hi' <;> simp only [hb, exists_and_left, ov, tYes, calmS, rTupN, rIsB, LamX.tLam3, tSl, tPart, tNoPart, rSlTN, cx_K, Value.ref.injEq, HO.xd.injEq, lk0, tSeq, tPar3, tPar, tCons, tNil, tVar, tC, tAsg, gName, gCons, gNil, gTupN, gSub, tOp, rI, rI0, rU, tTest, rNe, rEq, rIxTN, rIxLN, rLenL, rLenT, rIntI, rIntB, rAbs, rSetLN, tTruL, tRaiseX, rIsTy, rIsOw, ixN0, ixN1, tRet, tIf, tIfS, tNext, tBreak, tCont, tDrop, tTupN, tLstN, tUn, tCB, tCall, tNot, tAnd, tOr, tB, tAndV, tOrV, tNotV, tChain, tApp, LamX.tLam, tRevLN, rCatN, rInTN, rInLN, flatV, inV, List.all_cons, List.all_nil, List.any_cons, List.any_nil, Bool.and_self, Bool.and_true, if_true, Bool.false_eq_true, if_false, tMt, tFldN, tSto, HO.ins.injEq, lkh, List.drop_zero, List.drop_succ_cons, List.drop_nil, rListS, wipe, L2.start, List.map_cons, List.map_nil, List.length_cons, List.length_nil, List.replicate, List.cons_append, List.nil_append, List.append_nil, Nat.reduceAdd, Nat.reduceSub, Nat.zero_add, List.replicate_succ, List.replicate_zero, List.getElem?_cons_zero, List.getElem?_cons_succ, List.set_cons_zero, List.set_cons_succ, Option.some.injEq, V.int.injEq, V.bl.injEq, V.ref.injEq, V.str.injEq, V.ty.injEq, List.cons.injEq, HO.tup.injEq, HO.lst.injEq, and_true, true_and, and_assoc, exists_eq_left, exists_eq_left', exists_and_left, exists_eq', atI0, atI1, atI2, atI3, Int.cast_ofNat_Int, Int.reduceToNat, scal_ii, scal_in, scal_ni, scal_nn, scal_bb, scal_ss, scal_sn, scal_ns, scal_bn, scal_nb, ite_iff, decide_eq_true_eq, decide_eq_false_iff_not, Bool.not_eq_true', Classical.not_not, ne_eq, not_false_eq_true, not_true_eq_false, forall_const, true_implies, false_implies, imp_self, sizeLine_eq, Nat.reduceLeDiff, reduceCtorEq, decide_true, decide_false] <;> simp_all [inB]
    all_goals first
      | (intro h1; rw [ht h1] at k; exact k)
      | (intro h1 h2; rw [ht h1 h2] at k; exact k)
      | (refine ⟨fun h1 h2 => ?_, fun h1 => ?_⟩ <;> first | (rw [ht h1 h2] at k; exact k) | (apply hn; intro h3; omega))
      | trace_state
  · rintro _ H' ⟨x2, x3, rfl, rfl, hf⟩
    rw [hp.length, List.take_length] at hf
    rw [hf] at k
    simp only [exists_and_left, tYes, calmS, rTupN, rIsB, LamX.tLam3, tSl, tPart, tNoPart, rSlTN, cx_K, Value.ref.injEq, HO.xd.injEq, lk0, tSeq, tPar3, tPar, tCons, tNil, tVar, tC, tAsg, gName, gCons, gNil, gTupN, gSub, tOp, rI, rI0, rU, tTest, rNe, rEq, rIxTN, rIxLN, rLenL, rLenT, rIntI, rIntB, rAbs, rSetLN, tTruL, tRaiseX, rIsTy, rIsOw, ixN0, ixN1, tRet, tIf, tIfS, tNext, tBreak, tCont, tDrop, tTupN, tLstN, tUn, tCB, tCall, tNot, tAnd, tOr, tB, tAndV, tOrV, tNotV, tChain, tApp, LamX.tLam, tRevLN, rCatN, rInTN, rInLN, flatV, inV, List.all_cons, List.all_nil, List.any_cons, List.any_nil, Bool.and_self, Bool.and_true, if_true, Bool.false_eq_true, if_false, tMt, tFldN, tSto, HO.ins.injEq, lkh, List.drop_zero, List.drop_succ_cons, List.drop_nil, rListS, wipe, L2.start, List.map_cons, List.map_nil, List.length_cons, List.length_nil, List.replicate, List.cons_append, List.nil_append, List.append_nil, Nat.reduceAdd, Nat.reduceSub, Nat.zero_add, List.replicate_succ, List.replicate_zero, List.getElem?_cons_zero, List.getElem?_cons_succ, List.set_cons_zero, List.set_cons_succ, Option.some.injEq, V.int.injEq, V.bl.injEq, V.ref.injEq, V.str.injEq, V.ty.injEq, List.cons.injEq, HO.tup.injEq, HO.lst.injEq, and_true, true_and, and_assoc, exists_eq_left, exists_eq_left', exists_and_left, exists_eq', atI0, atI1, atI2, atI3, Int.cast_ofNat_Int, Int.reduceToNat, scal_ii, scal_in, scal_ni, scal_nn, scal_bb, scal_ss, scal_sn, scal_ns, scal_bn, scal_nb, ite_iff, decide_eq_true_eq, decide_eq_false_iff_not, Bool.not_eq_true', Classical.not_not, ne_eq, not_false_eq_true, not_true_eq_false, forall_const, true_implies, false_implies, imp_self, sizeLine_eq, Nat.reduceLeDiff, reduceCtorEq, decide_true, decide_false]
    exact k

theorem Stp.nl {a c b : Addr} {H H' : Hp} {o : HO} (e : Stp a c H H') (hS : StA H a c) (h : H b = some o) (hn : ∀ xs, o ≠ .lst xs) : H' b = some o := by
  obtain ⟨hac, n, cs, ha, hc, _⟩ := hS
  exact e b o h (fun z => by subst z; rw [ha] at h; exact hn _ (Option.some.inj h).symm) (fun z => by subst z; rw [hc] at h; exact hn _ (Option.some.inj h).symm)

end
end Iz
/-! k06_f -/
set_option Elab.async false
set_option linter.all false
set_option maxRecDepth 100000
set_option maxHeartbeats 4000000
namespace Iz
open PySem PySem.Spec PyProof.Rows L2
open He (ga)
local macro_rules | `(tactic| walk_at "wp") => `(tactic| simp only [tYes, calmS, rTupN, rIsB, LamX.tLam3, tSl, tPart, tNoPart, rSlTN, cx_K, Value.ref.injEq, HO.xd.injEq, lk0, tSeq, tPar3, tPar, tCons, tNil, tVar, tC, tAsg, gName, gCons, gNil, gTupN, gSub, tOp, rI, rI0, rU, tTest, rNe, rEq, rIxTN, rIxLN, rLenL, rLenT, rIntI, rIntB, rAbs, rSetLN, tTruL, tRaiseX, rIsTy, rIsOw, ixN0, ixN1, tRet, tIf, tIfS, tNext, tBreak, tCont, tDrop, tTupN, tLstN, tUn, tCB, tCall, tNot, tAnd, tOr, tB, tAndV, tOrV, tNotV, tChain, tApp, LamX.tLam, tRevLN, rCatN, rInTN, rInLN, flatV, inV, List.all_cons, List.all_nil, List.any_cons, List.any_nil, Bool.and_self, Bool.and_true, if_true, Bool.false_eq_true, if_false, tMt, tFldN, tSto, HO.ins.injEq, lkh, List.drop_zero, List.drop_succ_cons, List.drop_nil, rListS, wipe, L2.start, List.map_cons, List.map_nil, List.length_cons, List.length_nil, List.replicate, List.cons_append, List.nil_append, List.append_nil, Nat.reduceAdd, Nat.reduceSub, Nat.zero_add, List.replicate_succ, List.replicate_zero, List.getElem?_cons_zero, List.getElem?_cons_succ, List.set_cons_zero, List.set_cons_succ, Option.some.injEq, V.int.injEq, V.bl.injEq, V.ref.injEq, V.str.injEq, V.ty.injEq, List.cons.injEq, HO.tup.injEq, HO.lst.injEq, and_true, true_and, and_assoc, exists_eq_left, exists_eq_left', exists_and_left, exists_eq', atI0, atI1, atI2, atI3, Int.cast_ofNat_Int, Int.reduceToNat, scal_ii, scal_in, scal_ni, scal_nn, scal_bb, scal_ss, scal_sn, scal_ns, scal_bn, scal_nb, ite_iff, decide_eq_true_eq, decide_eq_false_iff_not, Bool.not_eq_true', Classical.not_not, ne_eq, not_false_eq_true, not_true_eq_false, forall_const, true_implies, false_implies, imp_self, sizeLine_eq, Nat.reduceLeDiff, reduceCtorEq, decide_true, decide_false])
section
variable {P : Program} {w : World} {K : PySem.W.Frag} {mg : Str → Option Value} {base : Heap}
/-! ### the law's own defs -/
def spBox : Sp := fun vs H Q _ => ∃ a c, vs = [.ref a] ∧ StA H a c ∧ ∀ p x0 x1 y0 y1 H', okO x0 x1 → okO y0 y1 → bndO 102 x0 → bndO 102 x1 → bndO 102 y0 → bndO 102 y1 → StA H' a c → Stp a c H H' → H' p = some (.tup [ov x0, ov x1, ov y0, ov y1]) → Q (.ref p) H'
theorem o__law_box (T : Txt K mg) : OkF P w K mg base CX0 4 "_law_box" ["_law_state"] spBox := by
  have o__law_ends := o__law_ends (P := P) (w := w) (base := base) T
  obtain ⟨f, fd, g, F⟩ := T.d__law_box
  refine ⟨f, fd, g, F.kp, F.binds (fun _ _ _ _ _ _ us hl => match us, hl with | [_], _ => rfl), F.ok sc__law_box (fun vs H Q E h => ?_) (fun cdv A outer s H vs Q E hr h => ?_)⟩
  · first | (obtain ⟨_, rfl, _⟩ := h; rfl) | (obtain ⟨_, _, rfl, _⟩ := h; rfl) | (obtain ⟨_, _, _, rfl, _⟩ := h; rfl) | (obtain ⟨_, _, _, _, rfl, _⟩ := h; rfl) | (obtain ⟨_, _, _, _, _, rfl, _⟩ := h; rfl) | (obtain ⟨_, _, _, _, _, _, rfl, _⟩ := h; rfl) | (obtain ⟨_, _, _, _, _, _, _, rfl, _⟩ := h; rfl)
  have hu64 := hr.units
  refine ⟨_, pss_cons (ps_par (i := 1) (j := 2) (by rfl) sc__law_box.nd rfl rfl (by decide) rfl rfl (pa_cons (pcl o__law_ends (hr.mono (by decide)) pass0 (pa_cons (pv 0) pa_nil)) (pa_cons (pcl o__law_ends (hr.mono (by decide)) pass0 (pa_cons (pv 0) pa_nil)) pa_nil)) (by rfl))
      (pss_one (ps_ret (pe_op op_catTN (pv 1) (pv 2)))), ?_⟩
  obtain ⟨a, c, rfl, hS, k⟩ := h
  simp only [spEnds, rCatTN, exists_and_left, tYes, calmS, rTupN, rIsB, LamX.tLam3, tSl, tPart, tNoPart, rSlTN, cx_K, Value.ref.injEq, HO.xd.injEq, lk0, tSeq, tPar3, tPar, tCons, tNil, tVar, tC, tAsg, gName, gCons, gNil, gTupN, gSub, tOp, rI, rI0, rU, tTest, rNe, rEq, rIxTN, rIxLN, rLenL, rLenT, rIntI, rIntB, rAbs, rSetLN, tTruL, tRaiseX, rIsTy, rIsOw, ixN0, ixN1, tRet, tIf, tIfS, tNext, tBreak, tCont, tDrop, tTupN, tLstN, tUn, tCB, tCall, tNot, tAnd, tOr, tB, tAndV, tOrV, tNotV, tChain, tApp, LamX.tLam, tRevLN, rCatN, rInTN, rInLN, flatV, inV, List.all_cons, List.all_nil, List.any_cons, List.any_nil, Bool.and_self, Bool.and_true, if_true, Bool.false_eq_true, if_false, tMt, tFldN, tSto, HO.ins.injEq, lkh, List.drop_zero, List.drop_succ_cons, List.drop_nil, rListS, wipe, L2.start, List.map_cons, List.map_nil, List.length_cons, List.length_nil, List.replicate, List.cons_append, List.nil_append, List.append_nil, Nat.reduceAdd, Nat.reduceSub, Nat.zero_add, List.replicate_succ, List.replicate_zero, List.getElem?_cons_zero, List.getElem?_cons_succ, List.set_cons_zero, List.set_cons_succ, Option.some.injEq, V.int.injEq, V.bl.injEq, V.ref.injEq, V.str.injEq, V.ty.injEq, List.cons.injEq, HO.tup.injEq, HO.lst.injEq, and_true, true_and, and_assoc, exists_eq_left, exists_eq_left', exists_and_left, exists_eq', atI0, atI1, atI2, atI3, Int.cast_ofNat_Int, Int.reduceToNat, scal_ii, scal_in, scal_ni, scal_nn, scal_bb, scal_ss, scal_sn, scal_ns, scal_bn, scal_nb, ite_iff, decide_eq_true_eq, decide_eq_false_iff_not, Bool.not_eq_true', Classical.not_not, ne_eq, not_false_eq_true, not_true_eq_false, forall_const, true_implies, false_implies, imp_self, sizeLine_eq, Nat.reduceLeDiff, reduceCtorEq, decide_true, decide_false]
  refine ⟨c, hS, fun p x0 x1 H1 o1 b1 b2 hS1 t1 h1 => ⟨c, hS1, fun q y0 y1 H2 o2 b3 b4 hS2 t2 h2 => ⟨_, t2.nl hS1 h1 (fun _ z => by cases z), _, h2, by simp, by simp, by simp, fun r H3 _ s3 h3 => k r x0 x1 y0 y1 H3 o1 o2 b1 b2 b3 b4 (hS2.same s3) ((t1.trans t2).trans (Stp.of s3)) h3⟩⟩⟩
def spWay : Sp := fun vs H Q _ => ∃ c s, ∃ n : Int, vs = [.ref c, .ref s, .int n] ∧ ∃ c1 c2 s1 s2, P2 H c c1 c2 ∧ P2 H s s1 s2 ∧ s1.natAbs < 2 ^ 300 ∧ s2.natAbs < 2 ^ 300 ∧ n.natAbs < 2 ^ 300 ∧ ∀ p H', Same H H' → P2 H' p (c1 + s1 * n) (c2 + s2 * n) → Q (.ref p) H'
theorem o__law_on_way (T : Txt K mg) : OkF P w K mg base CX0 1 "_law_on_way" ["_law_cell", "_law_step", "_law_i"] spWay := by
  obtain ⟨f, fd, g, F⟩ := T.d__law_on_way
  refine ⟨f, fd, g, F.kp, F.binds (fun _ _ _ _ _ _ us hl => match us, hl with | [_, _, _], _ => rfl), F.ok sc__law_on_way (fun vs H Q E h => ?_) (fun cdv A outer s H vs Q E hr h => ?_)⟩
  · first | (obtain ⟨_, rfl, _⟩ := h; rfl) | (obtain ⟨_, _, rfl, _⟩ := h; rfl) | (obtain ⟨_, _, _, rfl, _⟩ := h; rfl) | (obtain ⟨_, _, _, _, rfl, _⟩ := h; rfl) | (obtain ⟨_, _, _, _, _, rfl, _⟩ := h; rfl) | (obtain ⟨_, _, _, _, _, _, rfl, _⟩ := h; rfl) | (obtain ⟨_, _, _, _, _, _, _, rfl, _⟩ := h; rfl)
  have hu64 := hr.units
  refine ⟨_, pss_one (ps_ret (pe_tupN (pa_cons (pe_op op_add (pe_ix ix_tupN (pv 0) (pe_int) (fun _ _ => rfl)) (pe_op op_mulW (pe_ix ix_tupN (pv 1) (pe_int) (fun _ _ => rfl)) (pv 2))) (pa_cons (pe_op op_add (pe_ix ix_tupN (pv 0) (pe_int) (fun _ _ => rfl)) (pe_op op_mulW (pe_ix ix_tupN (pv 1) (pe_int) (fun _ _ => rfl)) (pv 2))) pa_nil)))), ?_⟩
  obtain ⟨c, s, n, rfl, c1, c2, s1, s2, hc, hs, b1, b2, b3, k⟩ := h
  simp only [hc, hs, exists_and_left, tYes, calmS, rTupN, rIsB, LamX.tLam3, tSl, tPart, tNoPart, rSlTN, cx_K, Value.ref.injEq, HO.xd.injEq, lk0, tSeq, tPar3, tPar, tCons, tNil, tVar, tC, tAsg, gName, gCons, gNil, gTupN, gSub, tOp, rI, rI0, rU, tTest, rNe, rEq, rIxTN, rIxLN, rLenL, rLenT, rIntI, rIntB, rAbs, rSetLN, tTruL, tRaiseX, rIsTy, rIsOw, ixN0, ixN1, tRet, tIf, tIfS, tNext, tBreak, tCont, tDrop, tTupN, tLstN, tUn, tCB, tCall, tNot, tAnd, tOr, tB, tAndV, tOrV, tNotV, tChain, tApp, LamX.tLam, tRevLN, rCatN, rInTN, rInLN, flatV, inV, List.all_cons, List.all_nil, List.any_cons, List.any_nil, Bool.and_self, Bool.and_true, if_true, Bool.false_eq_true, if_false, tMt, tFldN, tSto, HO.ins.injEq, lkh, List.drop_zero, List.drop_succ_cons, List.drop_nil, rListS, wipe, L2.start, List.map_cons, List.map_nil, List.length_cons, List.length_nil, List.replicate, List.cons_append, List.nil_append, List.append_nil, Nat.reduceAdd, Nat.reduceSub, Nat.zero_add, List.replicate_succ, List.replicate_zero, List.getElem?_cons_zero, List.getElem?_cons_succ, List.set_cons_zero, List.set_cons_succ, Option.some.injEq, V.int.injEq, V.bl.injEq, V.ref.injEq, V.str.injEq, V.ty.injEq, List.cons.injEq, HO.tup.injEq, HO.lst.injEq, and_true, true_and, and_assoc, exists_eq_left, exists_eq_left', exists_and_left, exists_eq', atI0, atI1, atI2, atI3, Int.cast_ofNat_Int, Int.reduceToNat, scal_ii, scal_in, scal_ni, scal_nn, scal_bb, scal_ss, scal_sn, scal_ns, scal_bn, scal_nb, ite_iff, decide_eq_true_eq, decide_eq_false_iff_not, Bool.not_eq_true', Classical.not_not, ne_eq, not_false_eq_true, not_true_eq_false, forall_const, true_implies, false_implies, imp_self, sizeLine_eq, Nat.reduceLeDiff, reduceCtorEq, decide_true, decide_false]
  exact ⟨wide_mul b1 b3 (by decide) (by decide) (by decide), wide_mul b2 b3 (by decide) (by decide) (by decide), fun p H' _ s' h' => k p H' s' h'⟩
def spInBx : Sp := fun vs H Q _ => ∃ b c, vs = [.ref b, .ref c] ∧ ∃ x0 x1 y0 y1 c1 c2, H b = some (.tup [ov x0, ov x1, ov y0, ov y1]) ∧ P2 H c c1 c2 ∧ ∀ H', Same H H' → Q (.bl (inS x0 x1 c1 && inS y0 y1 c2)) H'
theorem o__law_in (T : Txt K mg) : OkF P w K mg base CX0 2 "_law_in" ["_law_box_here", "_law_cell"] spInBx := by
  have o__law_has := o__law_has (P := P) (w := w) (base := base) T
  obtain ⟨f, fd, g, F⟩ := T.d__law_in
  refine ⟨f, fd, g, F.kp, F.binds (fun _ _ _ _ _ _ us hl => match us, hl with | [_, _], _ => rfl), F.ok sc__law_in (fun vs H Q E h => ?_) (fun cdv A outer s H vs Q E hr h => ?_)⟩
  · first | (obtain ⟨_, rfl, _⟩ := h; rfl) | (obtain ⟨_, _, rfl, _⟩ := h; rfl) | (obtain ⟨_, _, _, rfl, _⟩ := h; rfl) | (obtain ⟨_, _, _, _, rfl, _⟩ := h; rfl) | (obtain ⟨_, _, _, _, _, rfl, _⟩ := h; rfl) | (obtain ⟨_, _, _, _, _, _, rfl, _⟩ := h; rfl) | (obtain ⟨_, _, _, _, _, _, _, rfl, _⟩ := h; rfl)
  have hu64 := hr.units
  refine ⟨_, pss_one (ps_ret (pe_and (pcl o__law_has (hr.mono (by decide)) pass0 (pa_cons (pe_lstN (pa_cons (pe_slice sl_tupN (pv 0) (po_none) (po_some (pe_int))) pa_nil)) (pa_cons (pe_ix ix_tupN (pv 1) (pe_int) (fun _ _ => rfl)) pa_nil))) (pe_one (pcl o__law_has (hr.mono (by decide)) pass0 (pa_cons (pe_lstN (pa_cons (pe_slice sl_tupN (pv 0) (po_some (pe_int)) (po_none)) pa_nil)) (pa_cons (pe_ix ix_tupN (pv 1) (pe_int) (fun _ _ => rfl)) pa_nil)))))), ?_⟩
  obtain ⟨b, c, rfl, x0, x1, y0, y1, c1, c2, hb, hc, k⟩ := h
  simp only [hb, spHas, exists_and_left, tYes, calmS, rTupN, rIsB, LamX.tLam3, tSl, tPart, tNoPart, rSlTN, cx_K, Value.ref.injEq, HO.xd.injEq, lk0, tSeq, tPar3, tPar, tCons, tNil, tVar, tC, tAsg, gName, gCons, gNil, gTupN, gSub, tOp, rI, rI0, rU, tTest, rNe, rEq, rIxTN, rIxLN, rLenL, rLenT, rIntI, rIntB, rAbs, rSetLN, tTruL, tRaiseX, rIsTy, rIsOw, ixN0, ixN1, tRet, tIf, tIfS, tNext, tBreak, tCont, tDrop, tTupN, tLstN, tUn, tCB, tCall, tNot, tAnd, tOr, tB, tAndV, tOrV, tNotV, tChain, tApp, LamX.tLam, tRevLN, rCatN, rInTN, rInLN, flatV, inV, List.all_cons, List.all_nil, List.any_cons, List.any_nil, Bool.and_self, Bool.and_true, if_true, Bool.false_eq_true, if_false, tMt, tFldN, tSto, HO.ins.injEq, lkh, List.drop_zero, List.drop_succ_cons, List.drop_nil, rListS, wipe, L2.start, List.map_cons, List.map_nil, List.length_cons, List.length_nil, List.replicate, List.cons_append, List.nil_append, List.append_nil, Nat.reduceAdd, Nat.reduceSub, Nat.zero_add, List.replicate_succ, List.replicate_zero, List.getElem?_cons_zero, List.getElem?_cons_succ, List.set_cons_zero, List.set_cons_succ, Option.some.injEq, V.int.injEq, V.bl.injEq, V.ref.injEq, V.str.injEq, V.ty.injEq, List.cons.injEq, HO.tup.injEq, HO.lst.injEq, and_true, true_and, and_assoc, exists_eq_left, exists_eq_left', exists_and_left, exists_eq', atI0, atI1, atI2, atI3, Int.cast_ofNat_Int, Int.reduceToNat, scal_ii, scal_in, scal_ni, scal_nn, scal_bb, scal_ss, scal_sn, scal_ns, scal_bn, scal_nb, ite_iff, decide_eq_true_eq, decide_eq_false_iff_not, Bool.not_eq_true', Classical.not_not, ne_eq, not_false_eq_true, not_true_eq_false, forall_const, true_implies, false_implies, imp_self, sizeLine_eq, Nat.reduceLeDiff, reduceCtorEq, decide_true, decide_false]
  refine ⟨by decide, fun p H1 _ s1 h1 l H2 _ s2 h2 => ⟨_, s2 _ _ (s1 _ _ hc), _, atI0, l, rfl, c1, rfl, [(x0, x1)], ⟨_, h2, .cons (s2 _ _ h1) .nil⟩, fun e => ⟨_, s2 _ _ (s1 _ _ hb), (show ¬(HT.sIx 4 0 (some 2) = 0 ∧ HT.sIx 4 4 none = 4) by decide), fun q H3 _ s3 h3 m H4 _ s4 h4 => ⟨_, s4 _ _ (s3 _ _ (s2 _ _ (s1 _ _ hc))), _, atI1, m, rfl, c2, rfl, [(y0, y1)], ⟨_, h4, .cons (s4 _ _ h3) .nil⟩, ?_⟩⟩, fun e => ?_⟩⟩
  · have e : inS x0 x1 c1 = true := by rw [has_one] at e; exact e
    have := k H4 (((s1.trans s2).trans s3).trans s4)
    rw [e, Bool.true_and] at this
    rw [has_one]
    exact this
  · have e : inS x0 x1 c1 = false := by
      rw [has_one] at e
      exact (by simpa using e : inB x0 x1 c1 = false)
    have := k H2 (s1.trans s2)
    rw [e] at this
    exact this
open LamX
def bndV : Option PP → Prop
  | none => True
  | some (x, y) => bndO 200 x ∧ bndO 200 y
/-- what _law_is_row makes of the function that it gets -/
def TTw (K : PySem.W.Frag) : (V → Hp → VK → Prop) → V → V → Hp → VK → Prop := fun tl v1 v3 H Q => ∃ o : Option PP, SV K H v1 o ∧ bndV o ∧ ∃ b ns, v3 = .ref b ∧ H b = some (.lst ((ns : List Int).map V.int)) ∧ ns.length ≤ 100 ∧ (∀ n ∈ ns, n.natAbs < 2 ^ 201) ∧
  (∀ (n : Int) H1 (Q1 : VK), Same H H1 → n.natAbs < 2 ^ 201 → (∀ H2, Same H1 H2 → Q1 (.bl (fhas o n)) H2) → tl (.int n) H1 Q1) ∧ ∀ H2, Same H H2 → Q (.bl true) H2
theorem is_row_gives {X : Cx} {g : Addr} {cdg : Value} {q : Str} (T : Txt X.K X.mg) : GivesP X N__law_is_row "_law_is_row" (defScope s__law_is_row) g cdg (defBody s__law_is_row) "_law_wanted" q (TTw X.K) := by
  intro f c' s H v1 v3 Q tl act hc hr h
  have o_Stretch_holds := o_Stretch_holds (P := X.prog) (w := X.w) (base := X.base) T
  refine ⟨_, pss_cons (ps_set (i := 3) sc__law_is_row.nd rfl (Or.inl rfl) (pe_callTy call_listS (by rfl) T.m_list (by decide +kernel) (pa_cons (pv 2) pa_nil)))
      (pss_cons (ps_cut (ps_if (pt_cmpR op_notN (pv 0) (pe_non) (nomark _)) (pss_one (ps_for PassesOwn.never rfl (pi_tup (pe_tupN (pa_cons (pe_fldN T.c_Stretch T.na_Stretch_low (pv 0)) (pa_cons (pe_fldN T.c_Stretch T.na_Stretch_high (pv 0)) pa_nil)))) (pg_name (i := 4) sc__law_is_row.nd rfl (Or.inl rfl)) (pss_one (ps_if (pt_cmpR op_notN (pv 4) (pe_non) (nomark _)) (pss_one (ps_set (i := 3) sc__law_is_row.nd rfl (Or.inl rfl) (pe_op op_catN (pv 3) (pe_lstN (pa_cons (pe_op op_sub (pv 4) (pe_int)) (pa_cons (pe_op op_sub (pv 4) (pe_int)) (pa_cons (pv 4) (pa_cons (pe_op op_add (pv 4) (pe_int)) pa_nil)))))))) (pss_nil))))) (pss_nil)))
      (pss_cons (ps_for PassesOwn.never rfl (pi_list (pv 3)) (pg_name (i := 5) sc__law_is_row.nd rfl (Or.inl rfl)) (pss_one (ps_if (pt_cmpR op_ne ((act _ _ _ _ (pa_cons (pv 5) pa_nil) rfl)) (pe_and (pe_cmpR op_notN (pv 0) (pe_non) (nomark _)) (pe_one (pmt (j := 0) o_Stretch_holds T.c_Stretch (pv 0) (by decide) (hr.mono (by decide)) pass0 (pa_cons (pv 5) pa_nil)))) (nomark _)) (pss_one (ps_ret (pe_bl))) (pss_nil))))
      (pss_one (ps_ret (pe_bl))))), ?_⟩
  obtain ⟨o, hv, bo, b, ns, rfl, hb, ln, bn, hw, k⟩ := h
  simp only [exists_and_left, tYes, calmS, rTupN, rIsB, LamX.tLam3, tSl, tPart, tNoPart, rSlTN, cx_K, Value.ref.injEq, HO.xd.injEq, lk0, tSeq, tPar3, tPar, tCons, tNil, tVar, tC, tAsg, gName, gCons, gNil, gTupN, gSub, tOp, rI, rI0, rU, tTest, rNe, rEq, rIxTN, rIxLN, rLenL, rLenT, rIntI, rIntB, rAbs, rSetLN, tTruL, tRaiseX, rIsTy, rIsOw, ixN0, ixN1, tRet, tIf, tIfS, tNext, tBreak, tCont, tDrop, tTupN, tLstN, tUn, tCB, tCall, tNot, tAnd, tOr, tB, tAndV, tOrV, tNotV, tChain, tApp, LamX.tLam, tRevLN, rCatN, rInTN, rInLN, flatV, inV, List.all_cons, List.all_nil, List.any_cons, List.any_nil, Bool.and_self, Bool.and_true, if_true, Bool.false_eq_true, if_false, tMt, tFldN, tSto, HO.ins.injEq, lkh, List.drop_zero, List.drop_succ_cons, List.drop_nil, rListS, wipe, L2.start, List.map_cons, List.map_nil, List.length_cons, List.length_nil, List.replicate, List.cons_append, List.nil_append, List.append_nil, Nat.reduceAdd, Nat.reduceSub, Nat.zero_add, List.replicate_succ, List.replicate_zero, List.getElem?_cons_zero, List.getElem?_cons_succ, List.set_cons_zero, List.set_cons_succ, Option.some.injEq, V.int.injEq, V.bl.injEq, V.ref.injEq, V.str.injEq, V.ty.injEq, List.cons.injEq, HO.tup.injEq, HO.lst.injEq, and_true, true_and, and_assoc, exists_eq_left, exists_eq_left', exists_and_left, exists_eq', atI0, atI1, atI2, atI3, Int.cast_ofNat_Int, Int.reduceToNat, scal_ii, scal_in, scal_ni, scal_nn, scal_bb, scal_ss, scal_sn, scal_ns, scal_bn, scal_nb, ite_iff, decide_eq_true_eq, decide_eq_false_iff_not, Bool.not_eq_true', Classical.not_not, ne_eq, not_false_eq_true, not_true_eq_false, forall_const, true_implies, false_implies, imp_self, sizeLine_eq, Nat.reduceLeDiff, reduceCtorEq, decide_true, decide_false]
  refine ⟨_, SqL.of hb, fun l H1 n1 s1 h1 => ?_⟩
  refine ⟨fun σ' H' => ∃ l ms x4, σ' = [some v1, some (.ref f), some (.ref b), some (.ref l), x4, none] ∧ Same H H' ∧ H' l = some (.lst ((ms : List Int).map V.int)) ∧ ms.length ≤ 108 ∧ ∀ n ∈ ms, n.natAbs < 2 ^ 201, ?_, ?_⟩
  · cases o with
    | none =>
      cases hv
      simp only [exists_and_left, tYes, calmS, rTupN, rIsB, LamX.tLam3, tSl, tPart, tNoPart, rSlTN, cx_K, Value.ref.injEq, HO.xd.injEq, lk0, tSeq, tPar3, tPar, tCons, tNil, tVar, tC, tAsg, gName, gCons, gNil, gTupN, gSub, tOp, rI, rI0, rU, tTest, rNe, rEq, rIxTN, rIxLN, rLenL, rLenT, rIntI, rIntB, rAbs, rSetLN, tTruL, tRaiseX, rIsTy, rIsOw, ixN0, ixN1, tRet, tIf, tIfS, tNext, tBreak, tCont, tDrop, tTupN, tLstN, tUn, tCB, tCall, tNot, tAnd, tOr, tB, tAndV, tOrV, tNotV, tChain, tApp, LamX.tLam, tRevLN, rCatN, rInTN, rInLN, flatV, inV, List.all_cons, List.all_nil, List.any_cons, List.any_nil, Bool.and_self, Bool.and_true, if_true, Bool.false_eq_true, if_false, tMt, tFldN, tSto, HO.ins.injEq, lkh, List.drop_zero, List.drop_succ_cons, List.drop_nil, rListS, wipe, L2.start, List.map_cons, List.map_nil, List.length_cons, List.length_nil, List.replicate, List.cons_append, List.nil_append, List.append_nil, Nat.reduceAdd, Nat.reduceSub, Nat.zero_add, List.replicate_succ, List.replicate_zero, List.getElem?_cons_zero, List.getElem?_cons_succ, List.set_cons_zero, List.set_cons_succ, Option.some.injEq, V.int.injEq, V.bl.injEq, V.ref.injEq, V.str.injEq, V.ty.injEq, List.cons.injEq, HO.tup.injEq, HO.lst.injEq, and_true, true_and, and_assoc, exists_eq_left, exists_eq_left', exists_and_left, exists_eq', atI0, atI1, atI2, atI3, Int.cast_ofNat_Int, Int.reduceToNat, scal_ii, scal_in, scal_ni, scal_nn, scal_bb, scal_ss, scal_sn, scal_ns, scal_bn, scal_nb, ite_iff, decide_eq_true_eq, decide_eq_false_iff_not, Bool.not_eq_true', Classical.not_not, ne_eq, not_false_eq_true, not_true_eq_false, forall_const, true_implies, false_implies, imp_self, sizeLine_eq, Nat.reduceLeDiff, reduceCtorEq, decide_true, decide_false]
      exact ⟨s1, ns, h1, by omega, bn⟩
    | some p =>
      obtain ⟨x, y⟩ := p
      obtain ⟨st, dx, rfl, hst⟩ := hv
      have hst1 := s1 _ _ hst
      simp only [exists_and_left, hst1, lkLow, lkHigh, lkN_holds, lkN_turned, lkN_common, lkN_count, lkN_first, lkN_final, lkN_nth, lkN_below, tYes, calmS, rTupN, rIsB, LamX.tLam3, tSl, tPart, tNoPart, rSlTN, cx_K, Value.ref.injEq, HO.xd.injEq, lk0, tSeq, tPar3, tPar, tCons, tNil, tVar, tC, tAsg, gName, gCons, gNil, gTupN, gSub, tOp, rI, rI0, rU, tTest, rNe, rEq, rIxTN, rIxLN, rLenL, rLenT, rIntI, rIntB, rAbs, rSetLN, tTruL, tRaiseX, rIsTy, rIsOw, ixN0, ixN1, tRet, tIf, tIfS, tNext, tBreak, tCont, tDrop, tTupN, tLstN, tUn, tCB, tCall, tNot, tAnd, tOr, tB, tAndV, tOrV, tNotV, tChain, tApp, LamX.tLam, tRevLN, rCatN, rInTN, rInLN, flatV, inV, List.all_cons, List.all_nil, List.any_cons, List.any_nil, Bool.and_self, Bool.and_true, if_true, Bool.false_eq_true, if_false, tMt, tFldN, tSto, HO.ins.injEq, lkh, List.drop_zero, List.drop_succ_cons, List.drop_nil, rListS, wipe, L2.start, List.map_cons, List.map_nil, List.length_cons, List.length_nil, List.replicate, List.cons_append, List.nil_append, List.append_nil, Nat.reduceAdd, Nat.reduceSub, Nat.zero_add, List.replicate_succ, List.replicate_zero, List.getElem?_cons_zero, List.getElem?_cons_succ, List.set_cons_zero, List.set_cons_succ, Option.some.injEq, V.int.injEq, V.bl.injEq, V.ref.injEq, V.str.injEq, V.ty.injEq, List.cons.injEq, HO.tup.injEq, HO.lst.injEq, and_true, true_and, and_assoc, exists_eq_left, exists_eq_left', exists_and_left, exists_eq', atI0, atI1, atI2, atI3, Int.cast_ofNat_Int, Int.reduceToNat, scal_ii, scal_in, scal_ni, scal_nn, scal_bb, scal_ss, scal_sn, scal_ns, scal_bn, scal_nb, ite_iff, decide_eq_true_eq, decide_eq_false_iff_not, Bool.not_eq_true', Classical.not_not, ne_eq, not_false_eq_true, not_true_eq_false, forall_const, true_implies, false_implies, imp_self, sizeLine_eq, Nat.reduceLeDiff, reduceCtorEq, decide_true, decide_false]
      refine for_inT ?_
      simp only [exists_and_left, hst1, lkLow, lkHigh, lkN_holds, lkN_turned, lkN_common, lkN_count, lkN_first, lkN_final, lkN_nth, lkN_below, tYes, calmS, rTupN, rIsB, LamX.tLam3, tSl, tPart, tNoPart, rSlTN, cx_K, Value.ref.injEq, HO.xd.injEq, lk0, tSeq, tPar3, tPar, tCons, tNil, tVar, tC, tAsg, gName, gCons, gNil, gTupN, gSub, tOp, rI, rI0, rU, tTest, rNe, rEq, rIxTN, rIxLN, rLenL, rLenT, rIntI, rIntB, rAbs, rSetLN, tTruL, tRaiseX, rIsTy, rIsOw, ixN0, ixN1, tRet, tIf, tIfS, tNext, tBreak, tCont, tDrop, tTupN, tLstN, tUn, tCB, tCall, tNot, tAnd, tOr, tB, tAndV, tOrV, tNotV, tChain, tApp, LamX.tLam, tRevLN, rCatN, rInTN, rInLN, flatV, inV, List.all_cons, List.all_nil, List.any_cons, List.any_nil, Bool.and_self, Bool.and_true, if_true, Bool.false_eq_true, if_false, tMt, tFldN, tSto, HO.ins.injEq, lkh, List.drop_zero, List.drop_succ_cons, List.drop_nil, rListS, wipe, L2.start, List.map_cons, List.map_nil, List.length_cons, List.length_nil, List.replicate, List.cons_append, List.nil_append, List.append_nil, Nat.reduceAdd, Nat.reduceSub, Nat.zero_add, List.replicate_succ, List.replicate_zero, List.getElem?_cons_zero, List.getElem?_cons_succ, List.set_cons_zero, List.set_cons_succ, Option.some.injEq, V.int.injEq, V.bl.injEq, V.ref.injEq, V.str.injEq, V.ty.injEq, List.cons.injEq, HO.tup.injEq, HO.lst.injEq, and_true, true_and, and_assoc, exists_eq_left, exists_eq_left', exists_and_left, exists_eq', atI0, atI1, atI2, atI3, Int.cast_ofNat_Int, Int.reduceToNat, scal_ii, scal_in, scal_ni, scal_nn, scal_bb, scal_ss, scal_sn, scal_ns, scal_bn, scal_nb, ite_iff, decide_eq_true_eq, decide_eq_false_iff_not, Bool.not_eq_true', Classical.not_not, ne_eq, not_false_eq_true, not_true_eq_false, forall_const, true_implies, false_implies, imp_self, sizeLine_eq, Nat.reduceLeDiff, reduceCtorEq, decide_true, decide_false]
      intro t2 H2 _ s2 h2
      refine st_forT (fun R r => r) h2 (fun j σ' H' => ∃ l ms x4, σ' = [some (V.ref st), some (.ref f), some (.ref b), some (.ref l), x4, none] ∧ Same H2 H' ∧ H' l = some (.lst ((ms : List Int).map V.int)) ∧ ms.length ≤ 100 + 4 * j ∧ ∀ n ∈ ms, n.natAbs < 2 ^ 201) ⟨l, ns, none, rfl, fun _ _ h => h, s2 _ _ h1, by omega, bn⟩ (fun _ _ _ h => by obtain ⟨_, _, _, _, h, _⟩ := h; exact h _ _ h2) ?_ ?_
      · rintro j z _ H3 hj ⟨l, ms, x4, rfl, s3, h3, l3, b3⟩
        have hz : ∃ e, z = ov e ∧ bndO 200 e := by
          have := List.mem_of_getElem? hj
          simp only [List.mem_cons, List.not_mem_nil, or_false] at this
          rcases this with rfl | rfl
          · exact ⟨x, rfl, bo.1⟩
          · exact ⟨y, rfl, bo.2⟩
        have hj2 := (List.getElem?_eq_some_iff.mp hj).1
        simp at hj2
        obtain ⟨e, rfl, be⟩ := hz
        cases e with
        | none =>
          simp only [exists_and_left, ov, tYes, calmS, rTupN, rIsB, LamX.tLam3, tSl, tPart, tNoPart, rSlTN, cx_K, Value.ref.injEq, HO.xd.injEq, lk0, tSeq, tPar3, tPar, tCons, tNil, tVar, tC, tAsg, gName, gCons, gNil, gTupN, gSub, tOp, rI, rI0, rU, tTest, rNe, rEq, rIxTN, rIxLN, rLenL, rLenT, rIntI, rIntB, rAbs, rSetLN, tTruL, tRaiseX, rIsTy, rIsOw, ixN0, ixN1, tRet, tIf, tIfS, tNext, tBreak, tCont, tDrop, tTupN, tLstN, tUn, tCB, tCall, tNot, tAnd, tOr, tB, tAndV, tOrV, tNotV, tChain, tApp, LamX.tLam, tRevLN, rCatN, rInTN, rInLN, flatV, inV, List.all_cons, List.all_nil, List.any_cons, List.any_nil, Bool.and_self, Bool.and_true, if_true, Bool.false_eq_true, if_false, tMt, tFldN, tSto, HO.ins.injEq, lkh, List.drop_zero, List.drop_succ_cons, List.drop_nil, rListS, wipe, L2.start, List.map_cons, List.map_nil, List.length_cons, List.length_nil, List.replicate, List.cons_append, List.nil_append, List.append_nil, Nat.reduceAdd, Nat.reduceSub, Nat.zero_add, List.replicate_succ, List.replicate_zero, List.getElem?_cons_zero, List.getElem?_cons_succ, List.set_cons_zero, List.set_cons_succ, Option.some.injEq, V.int.injEq, V.bl.injEq, V.ref.injEq, V.str.injEq, V.ty.injEq, List.cons.injEq, HO.tup.injEq, HO.lst.injEq, and_true, true_and, and_assoc, exists_eq_left, exists_eq_left', exists_and_left, exists_eq', atI0, atI1, atI2, atI3, Int.cast_ofNat_Int, Int.reduceToNat, scal_ii, scal_in, scal_ni, scal_nn, scal_bb, scal_ss, scal_sn, scal_ns, scal_bn, scal_nb, ite_iff, decide_eq_true_eq, decide_eq_false_iff_not, Bool.not_eq_true', Classical.not_not, ne_eq, not_false_eq_true, not_true_eq_false, forall_const, true_implies, false_implies, imp_self, sizeLine_eq, Nat.reduceLeDiff, reduceCtorEq, decide_true, decide_false]
          exact ⟨s3, ms, h3, by omega, b3⟩
        | some e =>
          simp only [exists_and_left, ov, tYes, calmS, rTupN, rIsB, LamX.tLam3, tSl, tPart, tNoPart, rSlTN, cx_K, Value.ref.injEq, HO.xd.injEq, lk0, tSeq, tPar3, tPar, tCons, tNil, tVar, tC, tAsg, gName, gCons, gNil, gTupN, gSub, tOp, rI, rI0, rU, tTest, rNe, rEq, rIxTN, rIxLN, rLenL, rLenT, rIntI, rIntB, rAbs, rSetLN, tTruL, tRaiseX, rIsTy, rIsOw, ixN0, ixN1, tRet, tIf, tIfS, tNext, tBreak, tCont, tDrop, tTupN, tLstN, tUn, tCB, tCall, tNot, tAnd, tOr, tB, tAndV, tOrV, tNotV, tChain, tApp, LamX.tLam, tRevLN, rCatN, rInTN, rInLN, flatV, inV, List.all_cons, List.all_nil, List.any_cons, List.any_nil, Bool.and_self, Bool.and_true, if_true, Bool.false_eq_true, if_false, tMt, tFldN, tSto, HO.ins.injEq, lkh, List.drop_zero, List.drop_succ_cons, List.drop_nil, rListS, wipe, L2.start, List.map_cons, List.map_nil, List.length_cons, List.length_nil, List.replicate, List.cons_append, List.nil_append, List.append_nil, Nat.reduceAdd, Nat.reduceSub, Nat.zero_add, List.replicate_succ, List.replicate_zero, List.getElem?_cons_zero, List.getElem?_cons_succ, List.set_cons_zero, List.set_cons_succ, Option.some.injEq, V.int.injEq, V.bl.injEq, V.ref.injEq, V.str.injEq, V.ty.injEq, List.cons.injEq, HO.tup.injEq, HO.lst.injEq, and_true, true_and, and_assoc, exists_eq_left, exists_eq_left', exists_and_left, exists_eq', atI0, atI1, atI2, atI3, Int.cast_ofNat_Int, Int.reduceToNat, scal_ii, scal_in, scal_ni, scal_nn, scal_bb, scal_ss, scal_sn, scal_ns, scal_bn, scal_nb, ite_iff, decide_eq_true_eq, decide_eq_false_iff_not, Bool.not_eq_true', Classical.not_not, ne_eq, not_false_eq_true, not_true_eq_false, forall_const, true_implies, false_implies, imp_self, sizeLine_eq, Nat.reduceLeDiff, reduceCtorEq, decide_true, decide_false]
          have be : e.natAbs < 2 ^ 200 := be
          refine fun u4 H4 _ s4 h4 => ⟨u4, rfl, _, s4 _ _ h3, _, h4, by simp; omega, fun r5 H5 _ s5 h5 => ⟨r5, rfl, (s3.trans s4).trans s5, ms ++ [e - 2, e - 1, e, e + 1], by rw [h5]; simp, by simp; omega, fun n hn => ?_⟩⟩
          rcases List.mem_append.mp hn with h | h
          · exact b3 n h
          · simp only [List.mem_cons, List.not_mem_nil, or_false] at h
            rcases h with rfl | rfl | rfl | rfl <;> omega
      · rintro _ H3 ⟨l, ms, x4, rfl, s3, h3, l3, b3⟩
        simp only [exists_and_left, tYes, calmS, rTupN, rIsB, LamX.tLam3, tSl, tPart, tNoPart, rSlTN, cx_K, Value.ref.injEq, HO.xd.injEq, lk0, tSeq, tPar3, tPar, tCons, tNil, tVar, tC, tAsg, gName, gCons, gNil, gTupN, gSub, tOp, rI, rI0, rU, tTest, rNe, rEq, rIxTN, rIxLN, rLenL, rLenT, rIntI, rIntB, rAbs, rSetLN, tTruL, tRaiseX, rIsTy, rIsOw, ixN0, ixN1, tRet, tIf, tIfS, tNext, tBreak, tCont, tDrop, tTupN, tLstN, tUn, tCB, tCall, tNot, tAnd, tOr, tB, tAndV, tOrV, tNotV, tChain, tApp, LamX.tLam, tRevLN, rCatN, rInTN, rInLN, flatV, inV, List.all_cons, List.all_nil, List.any_cons, List.any_nil, Bool.and_self, Bool.and_true, if_true, Bool.false_eq_true, if_false, tMt, tFldN, tSto, HO.ins.injEq, lkh, List.drop_zero, List.drop_succ_cons, List.drop_nil, rListS, wipe, L2.start, List.map_cons, List.map_nil, List.length_cons, List.length_nil, List.replicate, List.cons_append, List.nil_append, List.append_nil, Nat.reduceAdd, Nat.reduceSub, Nat.zero_add, List.replicate_succ, List.replicate_zero, List.getElem?_cons_zero, List.getElem?_cons_succ, List.set_cons_zero, List.set_cons_succ, Option.some.injEq, V.int.injEq, V.bl.injEq, V.ref.injEq, V.str.injEq, V.ty.injEq, List.cons.injEq, HO.tup.injEq, HO.lst.injEq, and_true, true_and, and_assoc, exists_eq_left, exists_eq_left', exists_and_left, exists_eq', atI0, atI1, atI2, atI3, Int.cast_ofNat_Int, Int.reduceToNat, scal_ii, scal_in, scal_ni, scal_nn, scal_bb, scal_ss, scal_sn, scal_ns, scal_bn, scal_nb, ite_iff, decide_eq_true_eq, decide_eq_false_iff_not, Bool.not_eq_true', Classical.not_not, ne_eq, not_false_eq_true, not_true_eq_false, forall_const, true_implies, false_implies, imp_self, sizeLine_eq, Nat.reduceLeDiff, reduceCtorEq, decide_true, decide_false]
        exact ⟨(s1.trans s2).trans s3, ms, h3, by simp at l3; omega, b3⟩
  · rintro _ H2 ⟨l, ms, x4, rfl, s2, h2, l2, b2⟩
    simp only [exists_and_left, tYes, calmS, rTupN, rIsB, LamX.tLam3, tSl, tPart, tNoPart, rSlTN, cx_K, Value.ref.injEq, HO.xd.injEq, lk0, tSeq, tPar3, tPar, tCons, tNil, tVar, tC, tAsg, gName, gCons, gNil, gTupN, gSub, tOp, rI, rI0, rU, tTest, rNe, rEq, rIxTN, rIxLN, rLenL, rLenT, rIntI, rIntB, rAbs, rSetLN, tTruL, tRaiseX, rIsTy, rIsOw, ixN0, ixN1, tRet, tIf, tIfS, tNext, tBreak, tCont, tDrop, tTupN, tLstN, tUn, tCB, tCall, tNot, tAnd, tOr, tB, tAndV, tOrV, tNotV, tChain, tApp, LamX.tLam, tRevLN, rCatN, rInTN, rInLN, flatV, inV, List.all_cons, List.all_nil, List.any_cons, List.any_nil, Bool.and_self, Bool.and_true, if_true, Bool.false_eq_true, if_false, tMt, tFldN, tSto, HO.ins.injEq, lkh, List.drop_zero, List.drop_succ_cons, List.drop_nil, rListS, wipe, L2.start, List.map_cons, List.map_nil, List.length_cons, List.length_nil, List.replicate, List.cons_append, List.nil_append, List.append_nil, Nat.reduceAdd, Nat.reduceSub, Nat.zero_add, List.replicate_succ, List.replicate_zero, List.getElem?_cons_zero, List.getElem?_cons_succ, List.set_cons_zero, List.set_cons_succ, Option.some.injEq, V.int.injEq, V.bl.injEq, V.ref.injEq, V.str.injEq, V.ty.injEq, List.cons.injEq, HO.tup.injEq, HO.lst.injEq, and_true, true_and, and_assoc, exists_eq_left, exists_eq_left', exists_and_left, exists_eq', atI0, atI1, atI2, atI3, Int.cast_ofNat_Int, Int.reduceToNat, scal_ii, scal_in, scal_ni, scal_nn, scal_bb, scal_ss, scal_sn, scal_ns, scal_bn, scal_nb, ite_iff, decide_eq_true_eq, decide_eq_false_iff_not, Bool.not_eq_true', Classical.not_not, ne_eq, not_false_eq_true, not_true_eq_false, forall_const, true_implies, false_implies, imp_self, sizeLine_eq, Nat.reduceLeDiff, reduceCtorEq, decide_true, decide_false]
    refine st_forL (fun R r => ⟨_, rfl, r⟩) h2 (fun j σ' H' => ∃ x5, σ' = [some v1, some (.ref f), some (.ref b), some (.ref l), x4, x5] ∧ Same H2 H') ⟨none, rfl, fun _ _ h => h⟩ (fun _ _ _ h => by obtain ⟨_, _, h⟩ := h; exact h _ _ h2) ?_ ?_
    · rintro j z _ H3 hj ⟨x5, rfl, s3⟩
      obtain ⟨n, hn, rfl⟩ := List.mem_map.mp (List.mem_of_getElem? hj)
      have S3 := s2.trans s3
      have hc3 := S3 _ _ hc
      cases o with
      | none =>
        cases hv
        simp only [exists_and_left, tYes, calmS, rTupN, rIsB, LamX.tLam3, tSl, tPart, tNoPart, rSlTN, cx_K, Value.ref.injEq, HO.xd.injEq, lk0, tSeq, tPar3, tPar, tCons, tNil, tVar, tC, tAsg, gName, gCons, gNil, gTupN, gSub, tOp, rI, rI0, rU, tTest, rNe, rEq, rIxTN, rIxLN, rLenL, rLenT, rIntI, rIntB, rAbs, rSetLN, tTruL, tRaiseX, rIsTy, rIsOw, ixN0, ixN1, tRet, tIf, tIfS, tNext, tBreak, tCont, tDrop, tTupN, tLstN, tUn, tCB, tCall, tNot, tAnd, tOr, tB, tAndV, tOrV, tNotV, tChain, tApp, LamX.tLam, tRevLN, rCatN, rInTN, rInLN, flatV, inV, List.all_cons, List.all_nil, List.any_cons, List.any_nil, Bool.and_self, Bool.and_true, if_true, Bool.false_eq_true, if_false, tMt, tFldN, tSto, HO.ins.injEq, lkh, List.drop_zero, List.drop_succ_cons, List.drop_nil, rListS, wipe, L2.start, List.map_cons, List.map_nil, List.length_cons, List.length_nil, List.replicate, List.cons_append, List.nil_append, List.append_nil, Nat.reduceAdd, Nat.reduceSub, Nat.zero_add, List.replicate_succ, List.replicate_zero, List.getElem?_cons_zero, List.getElem?_cons_succ, List.set_cons_zero, List.set_cons_succ, Option.some.injEq, V.int.injEq, V.bl.injEq, V.ref.injEq, V.str.injEq, V.ty.injEq, List.cons.injEq, HO.tup.injEq, HO.lst.injEq, and_true, true_and, and_assoc, exists_eq_left, exists_eq_left', exists_and_left, exists_eq', atI0, atI1, atI2, atI3, Int.cast_ofNat_Int, Int.reduceToNat, scal_ii, scal_in, scal_ni, scal_nn, scal_bb, scal_ss, scal_sn, scal_ns, scal_bn, scal_nb, ite_iff, decide_eq_true_eq, decide_eq_false_iff_not, Bool.not_eq_true', Classical.not_not, ne_eq, not_false_eq_true, not_true_eq_false, forall_const, true_implies, false_implies, imp_self, sizeLine_eq, Nat.reduceLeDiff, reduceCtorEq, decide_true, decide_false]
        refine ⟨hc3, hw n H3 _ S3 (b2 n hn) fun H4 s4 => ?_⟩
        exact ⟨rfl, fun e => absurd rfl e, fun _ => s3.trans s4⟩
      | some p =>
        obtain ⟨x, y⟩ := p
        obtain ⟨st, dx, rfl, hst⟩ := hv
        simp only [exists_and_left, tYes, calmS, rTupN, rIsB, LamX.tLam3, tSl, tPart, tNoPart, rSlTN, cx_K, Value.ref.injEq, HO.xd.injEq, lk0, tSeq, tPar3, tPar, tCons, tNil, tVar, tC, tAsg, gName, gCons, gNil, gTupN, gSub, tOp, rI, rI0, rU, tTest, rNe, rEq, rIxTN, rIxLN, rLenL, rLenT, rIntI, rIntB, rAbs, rSetLN, tTruL, tRaiseX, rIsTy, rIsOw, ixN0, ixN1, tRet, tIf, tIfS, tNext, tBreak, tCont, tDrop, tTupN, tLstN, tUn, tCB, tCall, tNot, tAnd, tOr, tB, tAndV, tOrV, tNotV, tChain, tApp, LamX.tLam, tRevLN, rCatN, rInTN, rInLN, flatV, inV, List.all_cons, List.all_nil, List.any_cons, List.any_nil, Bool.and_self, Bool.and_true, if_true, Bool.false_eq_true, if_false, tMt, tFldN, tSto, HO.ins.injEq, lkh, List.drop_zero, List.drop_succ_cons, List.drop_nil, rListS, wipe, L2.start, List.map_cons, List.map_nil, List.length_cons, List.length_nil, List.replicate, List.cons_append, List.nil_append, List.append_nil, Nat.reduceAdd, Nat.reduceSub, Nat.zero_add, List.replicate_succ, List.replicate_zero, List.getElem?_cons_zero, List.getElem?_cons_succ, List.set_cons_zero, List.set_cons_succ, Option.some.injEq, V.int.injEq, V.bl.injEq, V.ref.injEq, V.str.injEq, V.ty.injEq, List.cons.injEq, HO.tup.injEq, HO.lst.injEq, and_true, true_and, and_assoc, exists_eq_left, exists_eq_left', exists_and_left, exists_eq', atI0, atI1, atI2, atI3, Int.cast_ofNat_Int, Int.reduceToNat, scal_ii, scal_in, scal_ni, scal_nn, scal_bb, scal_ss, scal_sn, scal_ns, scal_bn, scal_nb, ite_iff, decide_eq_true_eq, decide_eq_false_iff_not, Bool.not_eq_true', Classical.not_not, ne_eq, not_false_eq_true, not_true_eq_false, forall_const, true_implies, false_implies, imp_self, sizeLine_eq, Nat.reduceLeDiff, reduceCtorEq, decide_true, decide_false]
        refine ⟨hc3, hw n H3 _ S3 (b2 n hn) fun H4 s4 => ?_⟩
        have hst4 := s4 _ _ (S3 _ _ hst)
        exact ⟨dx, _, hst4, lkN_holds, st, _, rfl, dx, x, y, hst4, wh_int, rfl, fun e => absurd rfl e, fun _ => s3.trans s4⟩
    · rintro _ H3 ⟨x5, rfl, s3⟩
      simp only [exists_and_left, tYes, calmS, rTupN, rIsB, LamX.tLam3, tSl, tPart, tNoPart, rSlTN, cx_K, Value.ref.injEq, HO.xd.injEq, lk0, tSeq, tPar3, tPar, tCons, tNil, tVar, tC, tAsg, gName, gCons, gNil, gTupN, gSub, tOp, rI, rI0, rU, tTest, rNe, rEq, rIxTN, rIxLN, rLenL, rLenT, rIntI, rIntB, rAbs, rSetLN, tTruL, tRaiseX, rIsTy, rIsOw, ixN0, ixN1, tRet, tIf, tIfS, tNext, tBreak, tCont, tDrop, tTupN, tLstN, tUn, tCB, tCall, tNot, tAnd, tOr, tB, tAndV, tOrV, tNotV, tChain, tApp, LamX.tLam, tRevLN, rCatN, rInTN, rInLN, flatV, inV, List.all_cons, List.all_nil, List.any_cons, List.any_nil, Bool.and_self, Bool.and_true, if_true, Bool.false_eq_true, if_false, tMt, tFldN, tSto, HO.ins.injEq, lkh, List.drop_zero, List.drop_succ_cons, List.drop_nil, rListS, wipe, L2.start, List.map_cons, List.map_nil, List.length_cons, List.length_nil, List.replicate, List.cons_append, List.nil_append, List.append_nil, Nat.reduceAdd, Nat.reduceSub, Nat.zero_add, List.replicate_succ, List.replicate_zero, List.getElem?_cons_zero, List.getElem?_cons_succ, List.set_cons_zero, List.set_cons_succ, Option.some.injEq, V.int.injEq, V.bl.injEq, V.ref.injEq, V.str.injEq, V.ty.injEq, List.cons.injEq, HO.tup.injEq, HO.lst.injEq, and_true, true_and, and_assoc, exists_eq_left, exists_eq_left', exists_and_left, exists_eq', atI0, atI1, atI2, atI3, Int.cast_ofNat_Int, Int.reduceToNat, scal_ii, scal_in, scal_ni, scal_nn, scal_bb, scal_ss, scal_sn, scal_ns, scal_bn, scal_nb, ite_iff, decide_eq_true_eq, decide_eq_false_iff_not, Bool.not_eq_true', Classical.not_not, ne_eq, not_false_eq_true, not_true_eq_false, forall_const, true_implies, false_implies, imp_self, sizeLine_eq, Nat.reduceLeDiff, reduceCtorEq, decide_true, decide_false]
      exact k H3 (s2.trans s3)

end
end Iz
/-! k06_g -/
set_option Elab.async false
set_option linter.all false
set_option maxRecDepth 100000
set_option maxHeartbeats 4000000
namespace Iz
open PySem PySem.Spec PyProof.Rows L2
open He (ga)
local macro_rules | `(tactic| walk_at "wp") => `(tactic| simp only [tYes, calmS, rTupN, rIsB, LamX.tLam3, tSl, tPart, tNoPart, rSlTN, cx_K, Value.ref.injEq, HO.xd.injEq, lk0, tSeq, tPar3, tPar, tCons, tNil, tVar, tC, tAsg, gName, gCons, gNil, gTupN, gSub, tOp, rI, rI0, rU, tTest, rNe, rEq, rIxTN, rIxLN, rLenL, rLenT, rIntI, rIntB, rAbs, rSetLN, tTruL, tRaiseX, rIsTy, rIsOw, ixN0, ixN1, tRet, tIf, tIfS, tNext, tBreak, tCont, tDrop, tTupN, tLstN, tUn, tCB, tCall, tNot, tAnd, tOr, tB, tAndV, tOrV, tNotV, tChain, tApp, LamX.tLam, tRevLN, rCatN, rInTN, rInLN, flatV, inV, List.all_cons, List.all_nil, List.any_cons, List.any_nil, Bool.and_self, Bool.and_true, if_true, Bool.false_eq_true, if_false, tMt, tFldN, tSto, HO.ins.injEq, lkh, List.drop_zero, List.drop_succ_cons, List.drop_nil, rListS, wipe, L2.start, List.map_cons, List.map_nil, List.length_cons, List.length_nil, List.replicate, List.cons_append, List.nil_append, List.append_nil, Nat.reduceAdd, Nat.reduceSub, Nat.zero_add, List.replicate_succ, List.replicate_zero, List.getElem?_cons_zero, List.getElem?_cons_succ, List.set_cons_zero, List.set_cons_succ, Option.some.injEq, V.int.injEq, V.bl.injEq, V.ref.injEq, V.str.injEq, V.ty.injEq, List.cons.injEq, HO.tup.injEq, HO.lst.injEq, and_true, true_and, and_assoc, exists_eq_left, exists_eq_left', exists_and_left, exists_eq', atI0, atI1, atI2, atI3, Int.cast_ofNat_Int, Int.reduceToNat, scal_ii, scal_in, scal_ni, scal_nn, scal_bb, scal_ss, scal_sn, scal_ns, scal_bn, scal_nb, ite_iff, decide_eq_true_eq, decide_eq_false_iff_not, Bool.not_eq_true', Classical.not_not, ne_eq, not_false_eq_true, not_true_eq_false, forall_const, true_implies, false_implies, imp_self, sizeLine_eq, Nat.reduceLeDiff, reduceCtorEq, decide_true, decide_false])
section
variable {P : Program} {w : World} {K : PySem.W.Frag} {mg : Str → Option Value} {base : Heap}
/-! ### what is refused -/
open LamX
def qn__law_odd_right : Str := (("_law_odd_right" : Str) ++ ".<locals>.") ++ "<lambda>"
def qn_law : Str := (("law" : Str) ++ ".<locals>.") ++ "<lambda>"
abbrev TbK (K : PySem.W.Frag) : List (Addr × Str) := [(pOf K "_law_odd_right", qn__law_odd_right), (pOf K "law", qn_law)]
theorem hu_odd (T : Txt K mg) : ∀ q ∈ TbK K, q.1 = pOf K "_law_odd_right" → q.2 = qn__law_odd_right := by
  intro q hq e
  simp only [List.mem_cons, List.not_mem_nil, or_false] at hq
  rcases hq with rfl | rfl
  · rfl
  · exact absurd e.symm T.pne
theorem hu_law (T : Txt K mg) : ∀ q ∈ TbK K, q.1 = pOf K "law" → q.2 = qn_law := by
  intro q hq e
  simp only [List.mem_cons, List.not_mem_nil, or_false] at hq
  rcases hq with rfl | rfl
  · exact absurd e T.pne
  · rfl
/-- what _law_heard makes of an error -/
def Heard (K : PySem.W.Frag) (g : List Code) (Q : VK) : XK := fun cls d H' => ∃ dd, d = some dd ∧ ((cls = .ref (ga K "BadNumber") ∧ ∃ v s, H' dd = some (.xd [("number", v)]) ∧ ReprG K g H' v s ∧ News H' (.tup [.str "number", .str s]) Q) ∨
  (cls = .ref (ga K "BadPart") ∧ ∃ v, H' dd = some (.xd [("part", v)]) ∧ News H' (.tup [.str "part", v]) Q))
def TTh (K : PySem.W.Frag) (g : List Code) : (XK → Hp → VK → Prop) → Hp → VK → Prop := fun tl H Q => tl (Heard K g Q) H fun _ H' => Q .non H'
theorem heard_gives {X : Cx} {g : Addr} {cdg : Value} {q : Str} {gl : List Code} (T : Txt X.K X.mg) (hgd : X.A.guards = some gl) (hu : X.A.units + 64 < cLine) : GivesTo X ["_law_call", "e"] "_law_heard" (defScope s__law_heard) g cdg (defBody s__law_heard) "_law_call" q (TTh X.K gl) := by
  intro f c' s H Q tl act hc h
  refine ⟨_, pss_cons (ps_try_as (X := (cxOf C8.CX0 X.prog X.w X.K X.mg X.base ["_law_call", "e"] "_law_heard" (defScope s__law_heard) g cdg X.A X.stack s H C8.E0).nox) (i := 1) (c := .ref (ga X.K "PlaneError"))
    (tb := fun W D σ H => ∃ Ech : XK, (∀ cls d σ' H', Ech cls d H' → W cls d σ' H') ∧ σ[0]? = some (some (.ref f)) ∧ H c' = some (CodeO c' q) ∧ tl Ech H fun _ H1 => D.nx σ H1)
    rfl rfl sc__law_heard.nd rfl rfl ⟨rfl, by decide, .inl T.pe⟩ L2.takes0 (fun W pn xe tk _ => ?_)
    (fun a oe cls d pn hz hf => pss_len (n := 2) (pss_cons (ps_if (pt_val (pe_callB (call_isX hz hf) (by rfl) T.m_isinstance (by decide +kernel) (pa_cons (pv 1) (pa_cons (pe_glob (v := .ref (ga X.K "BadNumber")) (by rfl) T.x_BadNumber.g rfl) pa_nil))))
        (pss_one (ps_ret (pe_tupN (pa_cons pe_str (pa_cons (pe_callB (call_reprG (K := X.K) (g := gl) rfl (show X.A.units + 3 + 1 < cLine by omega) (by exact hgd)) (by rfl) T.m_repr (by decide +kernel) (pa_cons (pe_xf T.x_BadNumber.xf T.x_BadNumber.no hz hf (pv 1)) pa_nil)) pa_nil))))) pss_nil)
      (pss_one (ps_if (pt_val (pe_callB (call_isX hz hf) (by rfl) T.m_isinstance (by decide +kernel) (pa_cons (pv 1) (pa_cons (pe_glob (v := .ref (ga X.K "BadPart")) (by rfl) T.x_BadPart.g rfl) pa_nil))))
        (pss_one (ps_ret (pe_tupN (pa_cons pe_str (pa_cons (pe_xf T.x_BadPart.xf T.x_BadPart.no hz hf (pv 1)) pa_nil))))) pss_nil))) rfl))
    (pss_one (ps_ret pe_non)), ?_⟩
  · refine ⟨fun pins s' σ H' D I h' => ?_⟩
    obtain ⟨Ech, hW, h1, h2, h3⟩ := h'
    exact (pss_one (ps_expr (act W pn xe Ech _ _ tk hW))).run pins s' σ H' D I ⟨h1, h2, h3⟩
  · refine ⟨Heard X.K gl Q, fun cls d σ' H' hh => ?_, rfl, hc, h⟩
    obtain ⟨dd, rfl, ⟨rfl, v, z, hd, hr, n⟩ | ⟨rfl, v, hd, n⟩⟩ := hh
    · refine ⟨true, T.mN, fun _ a ha hlen => ?_, fun z => nomatch z⟩
      rw [List.length_set] at hlen
      have hs1 : (σ'.set 1 (some (V.ref a)))[1]? = some (some (V.ref a)) := by simp [hlen]
      simp only [rIsX, tXf, rReprG, hs1, hd, exists_and_left, tYes, calmS, rTupN, rIsB, LamX.tLam3, tSl, tPart, tNoPart, rSlTN, cx_K, Value.ref.injEq, HO.xd.injEq, lk0, tSeq, tPar3, tPar, tCons, tNil, tVar, tC, tAsg, gName, gCons, gNil, gTupN, gSub, tOp, rI, rI0, rU, tTest, rNe, rEq, rIxTN, rIxLN, rLenL, rLenT, rIntI, rIntB, rAbs, rSetLN, tTruL, tRaiseX, rIsTy, rIsOw, ixN0, ixN1, tRet, tIf, tIfS, tNext, tBreak, tCont, tDrop, tTupN, tLstN, tUn, tCB, tCall, tNot, tAnd, tOr, tB, tAndV, tOrV, tNotV, tChain, tApp, LamX.tLam, tRevLN, rCatN, rInTN, rInLN, flatV, inV, List.all_cons, List.all_nil, List.any_cons, List.any_nil, Bool.and_self, Bool.and_true, if_true, Bool.false_eq_true, if_false, tMt, tFldN, tSto, HO.ins.injEq, lkh, List.drop_zero, List.drop_succ_cons, List.drop_nil, rListS, wipe, L2.start, List.map_cons, List.map_nil, List.length_cons, List.length_nil, List.replicate, List.cons_append, List.nil_append, List.append_nil, Nat.reduceAdd, Nat.reduceSub, Nat.zero_add, List.replicate_succ, List.replicate_zero, List.getElem?_cons_zero, List.getElem?_cons_succ, List.set_cons_zero, List.set_cons_succ, Option.some.injEq, V.int.injEq, V.bl.injEq, V.ref.injEq, V.str.injEq, V.ty.injEq, List.cons.injEq, HO.tup.injEq, HO.lst.injEq, and_true, true_and, and_assoc, exists_eq_left, exists_eq_left', exists_and_left, exists_eq', atI0, atI1, atI2, atI3, Int.cast_ofNat_Int, Int.reduceToNat, scal_ii, scal_in, scal_ni, scal_nn, scal_bb, scal_ss, scal_sn, scal_ns, scal_bn, scal_nb, ite_iff, decide_eq_true_eq, decide_eq_false_iff_not, Bool.not_eq_true', Classical.not_not, ne_eq, not_false_eq_true, not_true_eq_false, forall_const, true_implies, false_implies, imp_self, sizeLine_eq, Nat.reduceLeDiff, reduceCtorEq, decide_true, decide_false]
      exact ⟨T.x_BadNumber.xf, T.iN, true, T.kNN, fun _ => ⟨z, hr, n⟩, fun h => absurd rfl h⟩
    · refine ⟨true, T.mP, fun _ a ha hlen => ?_, fun z => nomatch z⟩
      rw [List.length_set] at hlen
      have hs1 : (σ'.set 1 (some (V.ref a)))[1]? = some (some (V.ref a)) := by simp [hlen]
      simp only [rIsX, tXf, rReprG, hs1, hd, exists_and_left, tYes, calmS, rTupN, rIsB, LamX.tLam3, tSl, tPart, tNoPart, rSlTN, cx_K, Value.ref.injEq, HO.xd.injEq, lk0, tSeq, tPar3, tPar, tCons, tNil, tVar, tC, tAsg, gName, gCons, gNil, gTupN, gSub, tOp, rI, rI0, rU, tTest, rNe, rEq, rIxTN, rIxLN, rLenL, rLenT, rIntI, rIntB, rAbs, rSetLN, tTruL, tRaiseX, rIsTy, rIsOw, ixN0, ixN1, tRet, tIf, tIfS, tNext, tBreak, tCont, tDrop, tTupN, tLstN, tUn, tCB, tCall, tNot, tAnd, tOr, tB, tAndV, tOrV, tNotV, tChain, tApp, LamX.tLam, tRevLN, rCatN, rInTN, rInLN, flatV, inV, List.all_cons, List.all_nil, List.any_cons, List.any_nil, Bool.and_self, Bool.and_true, if_true, Bool.false_eq_true, if_false, tMt, tFldN, tSto, HO.ins.injEq, lkh, List.drop_zero, List.drop_succ_cons, List.drop_nil, rListS, wipe, L2.start, List.map_cons, List.map_nil, List.length_cons, List.length_nil, List.replicate, List.cons_append, List.nil_append, List.append_nil, Nat.reduceAdd, Nat.reduceSub, Nat.zero_add, List.replicate_succ, List.replicate_zero, List.getElem?_cons_zero, List.getElem?_cons_succ, List.set_cons_zero, List.set_cons_succ, Option.some.injEq, V.int.injEq, V.bl.injEq, V.ref.injEq, V.str.injEq, V.ty.injEq, List.cons.injEq, HO.tup.injEq, HO.lst.injEq, and_true, true_and, and_assoc, exists_eq_left, exists_eq_left', exists_and_left, exists_eq', atI0, atI1, atI2, atI3, Int.cast_ofNat_Int, Int.reduceToNat, scal_ii, scal_in, scal_ni, scal_nn, scal_bb, scal_ss, scal_sn, scal_ns, scal_bn, scal_nb, ite_iff, decide_eq_true_eq, decide_eq_false_iff_not, Bool.not_eq_true', Classical.not_not, ne_eq, not_false_eq_true, not_true_eq_false, forall_const, true_implies, false_implies, imp_self, sizeLine_eq, Nat.reduceLeDiff, reduceCtorEq, decide_true, decide_false]
      exact ⟨T.x_BadPart.xf, T.iP, false, T.kPN, fun h => (by cases h), fun _ => ⟨T.x_BadPart.xf, T.iP, true, T.kPP, fun _ => n, fun h => absurd rfl h⟩⟩
theorem ReprG.ext {g : List Code} {H H' : Hp} {v : V} {z : Str} (h : ReprG K g H v z) (s : ExtN H H') : ReprG K g H' v z := by
  rcases h with h | ⟨a, i, e1, e2, e3⟩ | ⟨a, e1, e2, e3⟩
  · exact .inl h
  · exact .inr (.inl ⟨a, i, e1, extT s e2, e3⟩)
  · exact .inr (.inr ⟨a, e1, extL s e2, e3⟩)
theorem told_num {H : Hp} {v : V} {z : Str} {g : List Code} {T : List (Addr × Str)} {tl : XK → Hp → VK → Prop} {R : VK} (hT : Tabs T H) (hz : ReprG K g H v z) (hsp : ∀ H1 (Q : VK) (E : XK), ExtN H H1 → Rse K E H1 "BadNumber" "number" v → tl E H1 Q)
    (k : ∀ H2 t, ExtN H H2 → Tabs T H2 → H2 t = some (.tup [.str "number", .str z]) → R (.ref t) H2) : Tabs T H ∧ ∀ H1, ExtN H H1 → Tabs T H1 → TTh K g tl H1 R :=
  ⟨hT, fun H1 e1 hT1 => hsp H1 _ _ e1 (fun d H' hd hs h2 => ⟨d, rfl, .inl ⟨rfl, v, z, h2, (hz.ext e1).mono hs, fun t H3 ht s3 h3 => k H3 t (e1.trans (extS (hs.trans s3))) (hT1.ext (hs.trans s3)) h3⟩⟩)⟩
theorem told_part {H : Hp} {v : V} {g : List Code} {T : List (Addr × Str)} {tl : XK → Hp → VK → Prop} {R : VK} (hT : Tabs T H) (hsp : ∀ H1 (Q : VK) (E : XK), ExtN H H1 → Rse K E H1 "BadPart" "part" v → tl E H1 Q)
    (k : ∀ H2 t, ExtN H H2 → Tabs T H2 → H2 t = some (.tup [.str "part", v]) → R (.ref t) H2) : Tabs T H ∧ ∀ H1, ExtN H H1 → Tabs T H1 → TTh K g tl H1 R :=
  ⟨hT, fun H1 e1 hT1 => hsp H1 _ _ e1 (fun d H' hd hs h2 => ⟨d, rfl, .inr ⟨rfl, v, h2, fun t H3 ht s3 h3 => k H3 t (e1.trans (extS (hs.trans s3))) (hT1.ext (hs.trans s3)) h3⟩⟩)⟩
theorem Tabs.stpK {a c : Addr} {T : List (Addr × Str)} {H H' : Hp} (hT : Tabs T H) (hS : StA H a c) (e : Stp a c H H') : Tabs T H' := by
  obtain ⟨hac, n, cs, ha, hc, _⟩ := hS
  have key : ∀ b o, H b = some o → (∀ xs, o ≠ .lst xs) → H' b = some o := fun b o h hn => e b o h (fun z => by subst z; rw [ha] at h; exact hn _ (Option.some.inj h).symm) (fun z => by subst z; rw [hc] at h; exact hn _ (Option.some.inj h).symm)
  intro p hp
  obtain ⟨ps, h1, h2, h3⟩ := hT p hp
  refine ⟨ps, key _ _ h1 (fun xs z => by cases z), h2, fun pos cv hcv => ?_⟩
  obtain ⟨c0, e1, e2⟩ := h3 pos cv hcv
  exact ⟨c0, e1, key _ _ e2 (fun xs z => by unfold CodeO at z; cases z)⟩
theorem StA.ext {a c : Addr} {H H1 : Hp} (x : StA H a c) (h : ExtN H H1) : StA H1 a c := let ⟨n, m, cs, h1, h2, h3⟩ := x; ⟨n, m, cs, extL h h1, extL h h2, h3⟩
theorem Tabs.putK {T : List (Addr × Str)} {H H' : Hp} {L : Addr} {xs ys : List V} (hT : Tabs T H) (hL : H L = some (.lst xs)) (p : Put H H' L (.lst ys)) : Tabs T H' := by
  have key : ∀ b o, H b = some o → (∀ xs, o ≠ .lst xs) → H' b = some o := fun b o h hn => by
    rw [p.2 b (fun z => by subst z; rw [hL] at h; exact hn _ (Option.some.inj h).symm)]; exact h
  intro x hx
  obtain ⟨ps, h1, h2, h3⟩ := hT x hx
  refine ⟨ps, key _ _ h1 (fun xs z => by cases z), h2, fun pos cv hcv => ?_⟩
  obtain ⟨c0, e1, e2⟩ := h3 pos cv hcv
  exact ⟨c0, e1, key _ _ e2 (fun xs z => by unfold CodeO at z; cases z)⟩

end
end Iz
/-! k06_h -/
set_option Elab.async false
set_option linter.all false
set_option maxRecDepth 100000
set_option maxHeartbeats 4000000
namespace Iz
open PySem PySem.Spec PyProof.Rows L2
open He (ga)
local macro_rules | `(tactic| walk_at "wp") => `(tactic| simp only [tYes, calmS, rTupN, rIsB, LamX.tLam3, tSl, tPart, tNoPart, rSlTN, cx_K, Value.ref.injEq, HO.xd.injEq, lk0, tSeq, tPar3, tPar, tCons, tNil, tVar, tC, tAsg, gName, gCons, gNil, gTupN, gSub, tOp, rI, rI0, rU, tTest, rNe, rEq, rIxTN, rIxLN, rLenL, rLenT, rIntI, rIntB, rAbs, rSetLN, tTruL, tRaiseX, rIsTy, rIsOw, ixN0, ixN1, tRet, tIf, tIfS, tNext, tBreak, tCont, tDrop, tTupN, tLstN, tUn, tCB, tCall, tNot, tAnd, tOr, tB, tAndV, tOrV, tNotV, tChain, tApp, LamX.tLam, tRevLN, rCatN, rInTN, rInLN, flatV, inV, List.all_cons, List.all_nil, List.any_cons, List.any_nil, Bool.and_self, Bool.and_true, if_true, Bool.false_eq_true, if_false, tMt, tFldN, tSto, HO.ins.injEq, lkh, List.drop_zero, List.drop_succ_cons, List.drop_nil, rListS, wipe, L2.start, List.map_cons, List.map_nil, List.length_cons, List.length_nil, List.replicate, List.cons_append, List.nil_append, List.append_nil, Nat.reduceAdd, Nat.reduceSub, Nat.zero_add, List.replicate_succ, List.replicate_zero, List.getElem?_cons_zero, List.getElem?_cons_succ, List.set_cons_zero, List.set_cons_succ, Option.some.injEq, V.int.injEq, V.bl.injEq, V.ref.injEq, V.str.injEq, V.ty.injEq, List.cons.injEq, HO.tup.injEq, HO.lst.injEq, and_true, true_and, and_assoc, exists_eq_left, exists_eq_left', exists_and_left, exists_eq', atI0, atI1, atI2, atI3, Int.cast_ofNat_Int, Int.reduceToNat, scal_ii, scal_in, scal_ni, scal_nn, scal_bb, scal_ss, scal_sn, scal_ns, scal_bn, scal_nb, ite_iff, decide_eq_true_eq, decide_eq_false_iff_not, Bool.not_eq_true', Classical.not_not, ne_eq, not_false_eq_true, not_true_eq_false, forall_const, true_implies, false_implies, imp_self, sizeLine_eq, Nat.reduceLeDiff, reduceCtorEq, decide_true, decide_false])
section
variable {P : Program} {w : World} {K : PySem.W.Frag} {mg : Str → Option Value} {base : Heap}
/-! ### odd values -/
open LamX
structure OddN (K : PySem.W.Frag) (g : List Code) (H : Hp) (v : V) (z : Str) : Prop where
  wh : Wh K H v
  nI : isI v = false
  rp : ReprG K g H v z
  zk : PyData.strOk z = true
theorem OddN.ext {g : List Code} {H H' : Hp} {v : V} {z : Str} (h : OddN K g H v z) (s : ExtN H H') : OddN K g H' v z := ⟨wh_ext h.wh s, h.nI, h.rp.ext s, h.zk⟩
theorem oddN {g : List Code} {H : Hp} {t : Addr} {d : Int} (ht : H t = some (.tup [.int 1])) (h0 : 0 ≤ d) (h1 : d < 4) : ∃ v z, atI [V.non, V.bl true, V.str (Str.ofString "1"), .ref t] d = some v ∧ OddN K g H v z ∧ ∀ b, v = .ref b → b = t := by
  have : d = 0 ∨ d = 1 ∨ d = 2 ∨ d = 3 := by omega
  rcases this with rfl | rfl | rfl | rfl
  · exact ⟨_, "None", atI0, ⟨wh_non, rfl, .inl rfl, by decide +kernel⟩, fun b h => (by cases h)⟩
  · exact ⟨_, "True", atI1, ⟨wh_bl, rfl, .inl rfl, by decide +kernel⟩, fun b h => (by cases h)⟩
  · exact ⟨_, _, atI2, ⟨wh_str, rfl, .inl ⟨by decide +kernel, rfl⟩, by decide +kernel⟩, fun b h => (by cases h)⟩
  · refine ⟨_, _, atI_ok (by decide) rfl, ⟨wh_tup ht, rfl, .inr (.inl ⟨t, 1, rfl, ht, by decide +kernel, by decide +kernel, rfl⟩), ?_⟩, fun b h => by cases h; rfl⟩
    unfold tupZ
    split
    · decide +kernel
    · decide +kernel
/-- what is no cell -/
def BadC (H : Hp) (v : V) : Prop := v = .non ∨ (∃ l, v = .ref l ∧ H l = some (.lst [.int 0, .int 0])) ∨ ∃ t xs, v = .ref t ∧ H t = some (.tup xs) ∧ (xs = [.int 0] ∨ xs = [.int 0, .bl true] ∨ xs = [.int 0, .non])
theorem BadC.at {H H' : Hp} {v : V} (h : BadC H v) (s : ∀ b o, v = .ref b → H b = some o → (∀ ps, o ≠ .tbl ps) → H' b = some o) : BadC H' v := by
  rcases h with h | ⟨l, e, h⟩ | ⟨t, xs, e, h, o⟩
  · exact .inl h
  · exact .inr (.inl ⟨l, e, s _ _ e h (fun _ z => by cases z)⟩)
  · exact .inr (.inr ⟨t, xs, e, s _ _ e h (fun _ z => by cases z), o⟩)
theorem BadC.ext {H H' : Hp} {v : V} (h : BadC H v) (s : ExtN H H') : BadC H' v := h.at fun b o _ h n => s b o h n
theorem BadC.k {H : Hp} {v : V} (h : BadC H v) : PairK K H v := by
  rcases h with rfl | ⟨l, rfl, h⟩ | ⟨t, xs, rfl, h, o⟩
  · exact .non
  · exact .lst h
  · refine .tup h fun z hz => ?_
    rcases o with rfl | rfl | rfl <;> simp only [List.mem_cons, List.not_mem_nil, or_false] at hz
    · subst hz; exact wh_int
    · rcases hz with rfl | rfl; exact wh_int; exact wh_bl
    · rcases hz with rfl | rfl; exact wh_int; exact wh_non
theorem BadC.n {H : Hp} {v : V} (h : BadC H v) : pairV H v = none := by
  rcases h with rfl | ⟨l, rfl, h⟩ | ⟨t, xs, rfl, h, o⟩
  · rfl
  · simp only [pairV, h]
  · rcases o with rfl | rfl | rfl <;> simp only [pairV, h, pairL]
theorem BadC.there {H : Hp} {v : V} (h : BadC H v) : ∀ b, v = .ref b → ∃ o, H b = some o := fun b e => by
  subst e
  rcases h with h | ⟨l, e, h⟩ | ⟨t, xs, e, h, o⟩
  · cases h
  · cases e; exact ⟨_, h⟩
  · cases e; exact ⟨_, h⟩
theorem badC {H : Hp} {l t1 t2 t3 : Addr} {d : Int} (hl : H l = some (.lst [.int 0, .int 0])) (h1 : H t1 = some (.tup [.int 0])) (h2 : H t2 = some (.tup [.int 0, .bl true])) (h3 : H t3 = some (.tup [.int 0, .non])) (d0 : 0 ≤ d) (d1 : d < 5) :
    ∃ v, atI [V.non, .ref l, .ref t1, .ref t2, .ref t3] d = some v ∧ BadC H v := by
  have : d = 0 ∨ d = 1 ∨ d = 2 ∨ d = 3 ∨ d = 4 := by omega
  rcases this with rfl | rfl | rfl | rfl | rfl
  · exact ⟨_, atI0, .inl rfl⟩
  · exact ⟨_, atI1, .inr (.inl ⟨_, rfl, hl⟩)⟩
  · exact ⟨_, atI2, .inr (.inr ⟨_, _, rfl, h1, .inl rfl⟩)⟩
  · exact ⟨_, atI_ok (by decide) rfl, .inr (.inr ⟨_, _, rfl, h2, .inr (.inl rfl)⟩)⟩
  · exact ⟨_, atI_ok (by decide) rfl, .inr (.inr ⟨_, _, rfl, h3, .inr (.inr rfl)⟩)⟩
/-- words that were told, each in a pair behind "part" -/
inductive WAll (H : Hp) : List V → List Str → Prop
  | nil : WAll H [] []
  | cons {t : Addr} {xs : List V} {w : Str} {ws : List Str} : H t = some (.tup [.str "part", .str w]) → WAll H xs ws → WAll H (.ref t :: xs) (w :: ws)
theorem WAll.monoT {H H' : Hp} {xs : List V} {ws : List Str} (h : WAll H xs ws) (s : ∀ b us, H b = some (.tup us) → H' b = some (.tup us)) : WAll H' xs ws := by
  induction h with
  | nil => exact .nil
  | cons e _ ih => exact .cons (s _ _ e) ih
theorem WAll.snoc {H : Hp} {t : Addr} {xs : List V} {w : Str} {ws : List Str} (h : WAll H xs ws) (e : H t = some (.tup [.str "part", .str w])) : WAll H (xs ++ [.ref t]) (ws ++ [w]) := by
  induction h with
  | nil => exact .cons e .nil
  | cons e0 _ ih => exact .cons e0 ih
theorem WAll.length {H : Hp} {xs : List V} {ws : List Str} (h : WAll H xs ws) : xs.length = ws.length := by induction h <;> simp_all
theorem WAll.dp {H : Hp} {L : Addr} {xs : List V} {ws : List Str} (hL : H L = some (.lst xs)) (h : WAll H xs ws) : Dp K H (.ref L) (.list (ws.map fun w => .tuple [.str "part", .str w])) := by
  refine .lst (SqL.of hL) ?_
  clear hL
  induction h with
  | nil => exact .nil
  | cons e _ ih => exact .cons (dp_ss e) ih
/-- what stands by -/
structure OK6 (K : PySem.W.Frag) (H : Hp) (a cc c s b : Addr) (c1 c2 s1 s2 : Int) (x0 x1 y0 y1 : Option Int) : Prop where
  hS : StA H a cc
  hT : Tabs (TbK K) H
  hc : P2 H c c1 c2
  hs : P2 H s s1 s2
  hb : H b = some (.tup [ov x0, ov x1, ov y0, ov y1])
section
variable {H H' : Hp} {a cc c s b : Addr} {c1 c2 s1 s2 : Int} {x0 x1 y0 y1 : Option Int}
theorem OK6.ext (x : OK6 K H a cc c s b c1 c2 s1 s2 x0 x1 y0 y1) (hT : Tabs (TbK K) H') (e : ExtN H H') : OK6 K H' a cc c s b c1 c2 s1 s2 x0 x1 y0 y1 := ⟨x.hS.ext e, hT, extT e x.hc, extT e x.hs, extT e x.hb⟩
theorem OK6.same (x : OK6 K H a cc c s b c1 c2 s1 s2 x0 x1 y0 y1) (e : Same H H') : OK6 K H' a cc c s b c1 c2 s1 s2 x0 x1 y0 y1 := x.ext (Tabs.ext x.hT e) (extS e)
theorem OK6.stp (x : OK6 K H a cc c s b c1 c2 s1 s2 x0 x1 y0 y1) (hS : StA H' a cc) (e : Stp a cc H H') : OK6 K H' a cc c s b c1 c2 s1 s2 x0 x1 y0 y1 :=
  ⟨hS, Tabs.stpK x.hT x.hS e, e.nl x.hS x.hc (fun _ z => by cases z), e.nl x.hS x.hs (fun _ z => by cases z), e.nl x.hS x.hb (fun _ z => by cases z)⟩
theorem OK6.put {L : Addr} {xs ys : List V} (x : OK6 K H a cc c s b c1 c2 s1 s2 x0 x1 y0 y1) (hL : H L = some (.lst xs)) (n : L ≠ a ∧ L ≠ cc) (p : Put H H' L (.lst ys)) : OK6 K H' a cc c s b c1 c2 s1 s2 x0 x1 y0 y1 := by
  have key : ∀ b us, H b = some (.tup us) → H' b = some (.tup us) := fun b us hb => by rw [p.2 b (ne_of hb hL (by intro z; cases z))]; exact hb
  obtain ⟨m, n1, cs, h1, h2, h3⟩ := x.hS
  exact ⟨⟨m, n1, cs, by rw [p.2 a n.1.symm]; exact h1, by rw [p.2 cc n.2.symm]; exact h2, h3⟩, Tabs.putK x.hT hL p, key _ _ x.hc, key _ _ x.hs, key _ _ x.hb⟩
end
/-- what is told so far -/
structure S6 (K : PySem.W.Frag) (H : Hp) (a cc c s b : Addr) (c1 c2 s1 s2 : Int) (x0 x1 y0 y1 : Option Int) (v : V) (L : Addr) (ws : List Str) : Prop where
  W : OK6 K H a cc c s b c1 c2 s1 s2 x0 x1 y0 y1
  B : BadC H v
  hL : ∃ xs, H L = some (.lst xs) ∧ WAll H xs ws
  nL : L ≠ a ∧ L ≠ cc
  nv : ∀ b, v = .ref b → b ≠ L
theorem app6 {H : Hp} {a cc c s b : Addr} {c1 c2 s1 s2 : Int} {x0 x1 y0 y1 : Option Int} {v : V} {L : Addr} {ws : List Str} {w : Str} {g : List Code} {tl : XK → Hp → VK → Prop} {R : Hp → Prop} (S : S6 K H a cc c s b c1 c2 s1 s2 x0 x1 y0 y1 v L ws) (hl : ws.length ≤ 20)
    (hsp : ∀ H1 (Q : VK) (E : XK), OK6 K H1 a cc c s b c1 c2 s1 s2 x0 x1 y0 y1 → BadC H1 v → Rse K E H1 "BadPart" "part" (.str w) → tl E H1 Q) (k : ∀ H3, S6 K H3 a cc c s b c1 c2 s1 s2 x0 x1 y0 y1 v L (ws ++ [w]) → R H3) :
    ∃ l, V.ref L = V.ref l ∧ (∃ xs, H l = some (.lst xs)) ∧ Tabs (TbK K) H ∧ ∀ H1, ExtN H H1 → Tabs (TbK K) H1 → TTh K g tl H1 fun y H1 => ∃ xs, H1 l = some (.lst xs) ∧ xs.length < 16777216 ∧ ∀ H3, Put H1 H3 l (.lst (xs ++ [y])) → R H3 := by
  obtain ⟨xs, hL, hw⟩ := S.hL
  refine ⟨L, rfl, ⟨_, hL⟩, S.W.hT, fun H1 e1 hT1 => hsp H1 _ _ (S.W.ext hT1 e1) (S.B.ext e1) (fun d H' hd hs h2 => ⟨d, rfl, .inr ⟨rfl, _, h2, fun t H3 ht s3 h3 => ?_⟩⟩)⟩
  have e3 : ExtN H H3 := e1.trans (extS (hs.trans s3))
  have hL3 := extL e3 hL
  have W3 := S.W.ext (hT1.ext (hs.trans s3)) e3
  refine ⟨xs, hL3, by rw [hw.length]; omega, fun H4 p4 => k H4 ⟨W3.put hL3 S.nL p4, (S.B.ext e3).at fun b o eb ho _ => by rw [p4.2 b (S.nv b eb)]; exact ho, ⟨_, p4.1, ?_⟩, S.nL, S.nv⟩⟩
  have key : ∀ b us, H3 b = some (.tup us) → H4 b = some (.tup us) := fun b us hb => by rw [p4.2 b (ne_of hb hL3 (by intro z; cases z))]; exact hb
  exact (hw.monoT fun b us hb => key _ _ (extT e3 hb)).snoc (key _ _ h3)
def spOdd (K : PySem.W.Frag) : Sp := fun vs H Q _ => ∃ a c s b, vs = [.ref a, .ref c, .ref s, .ref b] ∧ ∃ cc c1 c2 s1 s2 x0 x1 y0 y1, OK6 K H a cc c s b c1 c2 s1 s2 x0 x1 y0 y1 ∧ ∀ H', Q (.bl true) H'
theorem o__law_odd_right (T : Txt K mg) (TB : TabB base mg (cOf K "_law_odd_right") (pOf K "_law_odd_right")) : OkF P w K mg base (L2.CX P w) 15 "_law_odd_right" ["_law_state", "_law_cell", "_law_step", "_law_box_here"] (spOdd K) := by
  have o__law_draw := o__law_draw (P := P) (w := w) (base := base) T
  have o_in_stretch := o_in_stretch (P := P) (w := w) (base := base) T
  have o_on_number := o_on_number (P := P) (w := w) (base := base) T
  have o_in_box := o_in_box (P := P) (w := w) (base := base) T
  have o_on_cell := o_on_cell (P := P) (w := w) (base := base) T
  refine T.lam__law_odd_right.okFg sc__law_odd_right (fun _ _ _ _ _ _ us hl => match us, hl with | [_, _, _, _], _ => rfl) (fun vs H Q E h => ?_) (fun f A outer s H vs Q E gd hgd hr h => ?_)
  · first | (obtain ⟨_, rfl, _⟩ := h; rfl) | (obtain ⟨_, _, rfl, _⟩ := h; rfl) | (obtain ⟨_, _, _, rfl, _⟩ := h; rfl) | (obtain ⟨_, _, _, _, rfl, _⟩ := h; rfl) | (obtain ⟨_, _, _, _, _, rfl, _⟩ := h; rfl) | (obtain ⟨_, _, _, _, _, _, rfl, _⟩ := h; rfl) | (obtain ⟨_, _, _, _, _, _, _, rfl, _⟩ := h; rfl)
  have hu64 := hr.units
  refine ⟨_, pss_cons (ps_set (i := 6) sc__law_odd_right.nd rfl (Or.inr rfl) (pe_ix ix_tupN (pe_tupN (pa_cons (pe_non) (pa_cons (pe_bl) (pa_cons (pe_str) (pa_cons (pe_tupN (pa_cons (pe_int) pa_nil)) pa_nil))))) (pcl o__law_draw (hr.mono (by decide)) pass0 (pa_cons (pv 0) (pa_cons (pe_int) pa_nil))) (fun _ _ => rfl)))
      (pss_cons (ps_cut (ps_if (pt_cmpR (op_neDk (K := K) rfl hu64) (plamT (k := 12) (qn := qn__law_odd_right) (TS := (TbK K)) T.d__law_heard sc__law_heard (fun _ _ _ _ _ _ us hl => match us, hl with | [_], _ => rfl) (fun g cdg => (heard_gives T (by exact hgd) hu64)) (.head _) (hu_odd T) TB rfl rfl (hr.mono (by decide)) (by show lamSB (defScope s__law_odd_right) _ = true; decide +kernel) (fun A outer s H E f c hr2 => by exact (pcl o_in_stretch (hr2.mono (by decide)) passLam (pa_cons (pv 6) (pa_cons (pv 6) (pa_cons (pe_non) pa_nil)))))) (pe_tupN (pa_cons (pe_str) (pa_cons (pe_callB (call_reprG (K:=K) rfl (Nat.lt_of_le_of_lt (Nat.add_le_add_left (by decide) _) hu64) (by exact hgd)) (by rfl) T.m_repr (by decide +kernel) (pa_cons (pv 6) pa_nil)) pa_nil))) (nomark _)) (pss_one (ps_ret (pe_bl))) (pss_nil)))
      (pss_cons (ps_cut (ps_if (pt_cmpR (op_neDk (K := K) rfl hu64) (plamT (k := 12) (qn := qn__law_odd_right) (TS := (TbK K)) T.d__law_heard sc__law_heard (fun _ _ _ _ _ _ us hl => match us, hl with | [_], _ => rfl) (fun g cdg => (heard_gives T (by exact hgd) hu64)) (.head _) (hu_odd T) TB rfl rfl (hr.mono (by decide)) (by show lamSB (defScope s__law_odd_right) _ = true; decide +kernel) (fun A outer s H E f c hr2 => by exact (pcl o_in_stretch (hr2.mono (by decide)) passLam (pa_cons (pe_int) (pa_cons (pv 6) (pa_cons (pe_non) pa_nil)))))) (pe_tupN (pa_cons (pe_str) (pa_cons (pe_callB (call_reprG (K:=K) rfl (Nat.lt_of_le_of_lt (Nat.add_le_add_left (by decide) _) hu64) (by exact hgd)) (by rfl) T.m_repr (by decide +kernel) (pa_cons (pv 6) pa_nil)) pa_nil))) (nomark _)) (pss_one (ps_ret (pe_bl))) (pss_nil)))
      (pss_cons (ps_cut (ps_if (pt_cmpR (op_neDk (K := K) rfl hu64) (plamT (k := 12) (qn := qn__law_odd_right) (TS := (TbK K)) T.d__law_heard sc__law_heard (fun _ _ _ _ _ _ us hl => match us, hl with | [_], _ => rfl) (fun g cdg => (heard_gives T (by exact hgd) hu64)) (.head _) (hu_odd T) TB rfl rfl (hr.mono (by decide)) (by show lamSB (defScope s__law_odd_right) _ = true; decide +kernel) (fun A outer s H E f c hr2 => by exact (pcl o_in_stretch (hr2.mono (by decide)) passLam (pa_cons (pe_int) (pa_cons (pe_int) (pa_cons (pe_tupN (pa_cons (pe_int) (pa_cons (pe_int) pa_nil))) pa_nil)))))) (pe_tupN (pa_cons (pe_str) (pa_cons (pe_str) pa_nil))) (nomark _)) (pss_one (ps_ret (pe_bl))) (pss_nil)))
      (pss_cons (ps_cut (ps_if (pt_cmpR (op_neDk (K := K) rfl hu64) (plamT (k := 12) (qn := qn__law_odd_right) (TS := (TbK K)) T.d__law_heard sc__law_heard (fun _ _ _ _ _ _ us hl => match us, hl with | [_], _ => rfl) (fun g cdg => (heard_gives T (by exact hgd) hu64)) (.head _) (hu_odd T) TB rfl rfl (hr.mono (by decide)) (by show lamSB (defScope s__law_odd_right) _ = true; decide +kernel) (fun A outer s H E f c hr2 => by exact (pcl o_on_number (hr2.mono (by decide)) passLam (pa_cons (pe_int) (pa_cons (pe_int) (pa_cons (pv 6) pa_nil)))))) (pe_tupN (pa_cons (pe_str) (pa_cons (pe_callB (call_reprG (K:=K) rfl (Nat.lt_of_le_of_lt (Nat.add_le_add_left (by decide) _) hu64) (by exact hgd)) (by rfl) T.m_repr (by decide +kernel) (pa_cons (pv 6) pa_nil)) pa_nil))) (nomark _)) (pss_one (ps_ret (pe_bl))) (pss_nil)))
      (pss_cons (ps_set (i := 5) sc__law_odd_right.nd rfl (Or.inr rfl) (pe_ix ix_tupN (pe_tupN (pa_cons (pe_non) (pa_cons (pe_lstN (pa_cons (pe_int) (pa_cons (pe_int) pa_nil))) (pa_cons (pe_tupN (pa_cons (pe_int) pa_nil)) (pa_cons (pe_tupN (pa_cons (pe_int) (pa_cons (pe_bl) pa_nil))) (pa_cons (pe_tupN (pa_cons (pe_int) (pa_cons (pe_non) pa_nil))) pa_nil)))))) (pcl o__law_draw (hr.mono (by decide)) pass0 (pa_cons (pv 0) (pa_cons (pe_int) pa_nil))) (fun _ _ => rfl)))
      (pss_cons (ps_set (i := 4) sc__law_odd_right.nd rfl (Or.inl rfl) (pe_lstN (pa_cons (plamT (k := 12) (qn := qn__law_odd_right) (TS := (TbK K)) T.d__law_heard sc__law_heard (fun _ _ _ _ _ _ us hl => match us, hl with | [_], _ => rfl) (fun g cdg => (heard_gives T (by exact hgd) hu64)) (.head _) (hu_odd T) TB rfl rfl (hr.mono (by decide)) (by show lamSB (defScope s__law_odd_right) _ = true; decide +kernel) (fun A outer s H E f c hr2 => by exact (pcl o_in_box (hr2.mono (by decide)) passLam (pa_cons (pv 5) (pa_cons (pv 5) (pa_cons (pv 5) pa_nil)))))) pa_nil)))
      (pss_cons (ps_expr (pe_appN (pv 4) (pa_cons (plamT (k := 12) (qn := qn__law_odd_right) (TS := (TbK K)) T.d__law_heard sc__law_heard (fun _ _ _ _ _ _ us hl => match us, hl with | [_], _ => rfl) (fun g cdg => (heard_gives T (by exact hgd) hu64)) (.head _) (hu_odd T) TB rfl rfl (hr.mono (by decide)) (by show lamSB (defScope s__law_odd_right) _ = true; decide +kernel) (fun A outer s H E f c hr2 => by exact (pcl o_in_box (hr2.mono (by decide)) passLam (pa_cons (pv 1) (pa_cons (pv 5) (pa_cons (pe_non) pa_nil)))))) pa_nil)))
      (pss_cons (ps_expr (pe_appN (pv 4) (pa_cons (plamT (k := 12) (qn := qn__law_odd_right) (TS := (TbK K)) T.d__law_heard sc__law_heard (fun _ _ _ _ _ _ us hl => match us, hl with | [_], _ => rfl) (fun g cdg => (heard_gives T (by exact hgd) hu64)) (.head _) (hu_odd T) TB rfl rfl (hr.mono (by decide)) (by show lamSB (defScope s__law_odd_right) _ = true; decide +kernel) (fun A outer s H E f c hr2 => by exact (pcl o_in_box (hr2.mono (by decide)) passLam (pa_cons (pv 1) (pa_cons (pv 2) (pa_cons (pe_slice sl_tupN (pv 3) (po_none) (po_some (pe_int))) pa_nil)))))) pa_nil)))
      (pss_cons (ps_expr (pe_appN (pv 4) (pa_cons (plamT (k := 12) (qn := qn__law_odd_right) (TS := (TbK K)) T.d__law_heard sc__law_heard (fun _ _ _ _ _ _ us hl => match us, hl with | [_], _ => rfl) (fun g cdg => (heard_gives T (by exact hgd) hu64)) (.head _) (hu_odd T) TB rfl rfl (hr.mono (by decide)) (by show lamSB (defScope s__law_odd_right) _ = true; decide +kernel) (fun A outer s H E f c hr2 => by exact (pcl o_in_box (hr2.mono (by decide)) passLam (pa_cons (pv 1) (pa_cons (pv 2) (pa_cons (pe_tupN (pa_cons (pe_int) (pa_cons (pe_int) (pa_cons (pe_int) (pa_cons (pe_int) pa_nil))))) pa_nil)))))) pa_nil)))
      (pss_cons (ps_expr (pe_appN (pv 4) (pa_cons (plamT (k := 12) (qn := qn__law_odd_right) (TS := (TbK K)) T.d__law_heard sc__law_heard (fun _ _ _ _ _ _ us hl => match us, hl with | [_], _ => rfl) (fun g cdg => (heard_gives T (by exact hgd) hu64)) (.head _) (hu_odd T) TB rfl rfl (hr.mono (by decide)) (by show lamSB (defScope s__law_odd_right) _ = true; decide +kernel) (fun A outer s H E f c hr2 => by exact (pcl o_on_cell (hr2.mono (by decide)) passLam (pa_cons (pv 1) (pa_cons (pv 2) (pa_cons (pv 5) pa_nil)))))) pa_nil)))
      (pss_cons (ps_expr (pe_appN (pv 4) (pa_cons (plamT (k := 12) (qn := qn__law_odd_right) (TS := (TbK K)) T.d__law_heard sc__law_heard (fun _ _ _ _ _ _ us hl => match us, hl with | [_], _ => rfl) (fun g cdg => (heard_gives T (by exact hgd) hu64)) (.head _) (hu_odd T) TB rfl rfl (hr.mono (by decide)) (by show lamSB (defScope s__law_odd_right) _ = true; decide +kernel) (fun A outer s H E f c hr2 => by exact (pcl o_on_cell (hr2.mono (by decide)) passLam (pa_cons (pv 1) (pa_cons (pv 5) (pa_cons (pe_non) pa_nil)))))) pa_nil)))
      (pss_one (ps_ret (pe_cmpR (op_eqDk (K := K) rfl hu64) (pv 4) (pe_lc (own := [("_law_word", 7)]) (g := gName 7) (by rfl) sc__law_odd_right.nd (pi_tup (pe_tupN (pa_cons (pe_str) (pa_cons (pe_str) (pa_cons (pe_str) (pa_cons (pe_str) (pa_cons (pe_str) (pa_cons (pe_str) pa_nil)))))))) (blkOk_by (N := ["_law_state", "_law_cell", "_law_step", "_law_box_here", "_law_told", "_law_bad", "_law_odd", "_law_word"]) (sc := defScope s__law_odd_right) (own := [("_law_word", 7)]) (by decide +kernel)) (fun _ _ _ _ _ => pg_name (i := 7) sc__law_odd_right.nd rfl (Or.inl rfl)) (fun _ _ _ _ _ => pts_nil) (fun _ _ _ _ _ => pe_tupN (pa_cons (pe_str) (pa_cons (pv 7) pa_nil)))) (nomark _))))))))))))))), ?_⟩
  obtain ⟨a, c, s, b, rfl, cc, c1, c2, s1, s2, x0, x1, y0, y1, W, k⟩ := h
  simp only [spDraw, exists_and_left, tYes, calmS, rTupN, rIsB, LamX.tLam3, tSl, tPart, tNoPart, rSlTN, cx_K, Value.ref.injEq, HO.xd.injEq, lk0, tSeq, tPar3, tPar, tCons, tNil, tVar, tC, tAsg, gName, gCons, gNil, gTupN, gSub, tOp, rI, rI0, rU, tTest, rNe, rEq, rIxTN, rIxLN, rLenL, rLenT, rIntI, rIntB, rAbs, rSetLN, tTruL, tRaiseX, rIsTy, rIsOw, ixN0, ixN1, tRet, tIf, tIfS, tNext, tBreak, tCont, tDrop, tTupN, tLstN, tUn, tCB, tCall, tNot, tAnd, tOr, tB, tAndV, tOrV, tNotV, tChain, tApp, LamX.tLam, tRevLN, rCatN, rInTN, rInLN, flatV, inV, List.all_cons, List.all_nil, List.any_cons, List.any_nil, Bool.and_self, Bool.and_true, if_true, Bool.false_eq_true, if_false, tMt, tFldN, tSto, HO.ins.injEq, lkh, List.drop_zero, List.drop_succ_cons, List.drop_nil, rListS, wipe, L2.start, List.map_cons, List.map_nil, List.length_cons, List.length_nil, List.replicate, List.cons_append, List.nil_append, List.append_nil, Nat.reduceAdd, Nat.reduceSub, Nat.zero_add, List.replicate_succ, List.replicate_zero, List.getElem?_cons_zero, List.getElem?_cons_succ, List.set_cons_zero, List.set_cons_succ, Option.some.injEq, V.int.injEq, V.bl.injEq, V.ref.injEq, V.str.injEq, V.ty.injEq, List.cons.injEq, HO.tup.injEq, HO.lst.injEq, and_true, true_and, and_assoc, exists_eq_left, exists_eq_left', exists_and_left, exists_eq', atI0, atI1, atI2, atI3, Int.cast_ofNat_Int, Int.reduceToNat, scal_ii, scal_in, scal_ni, scal_nn, scal_bb, scal_ss, scal_sn, scal_ns, scal_bn, scal_nb, ite_iff, decide_eq_true_eq, decide_eq_false_iff_not, Bool.not_eq_true', Classical.not_not, ne_eq, not_false_eq_true, not_true_eq_false, forall_const, true_implies, false_implies, imp_self, sizeLine_eq, Nat.reduceLeDiff, reduceCtorEq, decide_true, decide_false]
  intro t1 H1 n1 r1 h1
  intro p1 H2 n2 r2 h2
  have W2 := (W.same r1).same r2
  have ht2 := r2 _ _ h1
  refine ⟨cc, W2.hS, by decide, by decide, fun d H3 d0 d1 hS3 t3 => ?_⟩
  have W3 := W2.stp hS3 t3
  obtain ⟨v, z, hv, O, Ov⟩ := oddN (K := K) (g := gd) (t3.nl W2.hS ht2 (fun _ z => by cases z)) d0 d1
  refine ⟨p1, rfl, _, t3.nl W2.hS h2 (fun _ z => by cases z), v, hv, ?_⟩
  have nv : ∀ b, v = .ref b → b ≠ a ∧ b ≠ cc := fun b hb => by
    obtain rfl := Ov b hb
    obtain ⟨_, _, _, ha, hc, _⟩ := W.hS
    exact ⟨(ne_of_none ha n1).symm, (ne_of_none hc n1).symm⟩
  clear W n1 r1 h1 n2 r2 h2 W2 ht2 hS3 t3 hv Ov
  refine ⟨fun σ' H' => σ' = [some (V.ref a), some (V.ref c), some (V.ref s), some (V.ref b), none, none, some v, none] ∧ OK6 K H' a cc c s b c1 c2 s1 s2 x0 x1 y0 y1 ∧ OddN K gd H' v z, ?_, ?_⟩
  · simp only [exists_and_left, rReprG, tYes, calmS, rTupN, rIsB, LamX.tLam3, tSl, tPart, tNoPart, rSlTN, cx_K, Value.ref.injEq, HO.xd.injEq, lk0, tSeq, tPar3, tPar, tCons, tNil, tVar, tC, tAsg, gName, gCons, gNil, gTupN, gSub, tOp, rI, rI0, rU, tTest, rNe, rEq, rIxTN, rIxLN, rLenL, rLenT, rIntI, rIntB, rAbs, rSetLN, tTruL, tRaiseX, rIsTy, rIsOw, ixN0, ixN1, tRet, tIf, tIfS, tNext, tBreak, tCont, tDrop, tTupN, tLstN, tUn, tCB, tCall, tNot, tAnd, tOr, tB, tAndV, tOrV, tNotV, tChain, tApp, LamX.tLam, tRevLN, rCatN, rInTN, rInLN, flatV, inV, List.all_cons, List.all_nil, List.any_cons, List.any_nil, Bool.and_self, Bool.and_true, if_true, Bool.false_eq_true, if_false, tMt, tFldN, tSto, HO.ins.injEq, lkh, List.drop_zero, List.drop_succ_cons, List.drop_nil, rListS, wipe, L2.start, List.map_cons, List.map_nil, List.length_cons, List.length_nil, List.replicate, List.cons_append, List.nil_append, List.append_nil, Nat.reduceAdd, Nat.reduceSub, Nat.zero_add, List.replicate_succ, List.replicate_zero, List.getElem?_cons_zero, List.getElem?_cons_succ, List.set_cons_zero, List.set_cons_succ, Option.some.injEq, V.int.injEq, V.bl.injEq, V.ref.injEq, V.str.injEq, V.ty.injEq, List.cons.injEq, HO.tup.injEq, HO.lst.injEq, and_true, true_and, and_assoc, exists_eq_left, exists_eq_left', exists_and_left, exists_eq', atI0, atI1, atI2, atI3, Int.cast_ofNat_Int, Int.reduceToNat, scal_ii, scal_in, scal_ni, scal_nn, scal_bb, scal_ss, scal_sn, scal_ns, scal_bn, scal_nb, ite_iff, decide_eq_true_eq, decide_eq_false_iff_not, Bool.not_eq_true', Classical.not_not, ne_eq, not_false_eq_true, not_true_eq_false, forall_const, true_implies, false_implies, imp_self, sizeLine_eq, Nat.reduceLeDiff, reduceCtorEq, decide_true, decide_false]
    refine told_num W3.hT O.rp (fun H6 Q E e6 r => ⟨_, _, _, rfl, wh_ext O.wh e6, fun _ => r, fun h => (by rw [O.nI] at h; cases h)⟩) (fun H6 t6 e6 hT6 h6 => ?_)
    refine ⟨z, (O.ext e6).rp, fun u7 H7 _ r7 h7 => ?_⟩
    exact ne_same (dp_ss (r7 _ _ h6)) (dp_ss h7) (sh_ss (by decide +kernel) O.zk) ⟨false, rfl, fun h => (by cases h), fun _ => ⟨(W3.ext hT6 e6).same r7, (O.ext e6).ext (extS r7)⟩⟩
  clear W3 O
  rintro _ H3 ⟨rfl, W3, O⟩
  refine ⟨fun σ' H' => σ' = [some (V.ref a), some (V.ref c), some (V.ref s), some (V.ref b), none, none, some v, none] ∧ OK6 K H' a cc c s b c1 c2 s1 s2 x0 x1 y0 y1 ∧ OddN K gd H' v z, ?_, ?_⟩
  · simp only [exists_and_left, rReprG, tYes, calmS, rTupN, rIsB, LamX.tLam3, tSl, tPart, tNoPart, rSlTN, cx_K, Value.ref.injEq, HO.xd.injEq, lk0, tSeq, tPar3, tPar, tCons, tNil, tVar, tC, tAsg, gName, gCons, gNil, gTupN, gSub, tOp, rI, rI0, rU, tTest, rNe, rEq, rIxTN, rIxLN, rLenL, rLenT, rIntI, rIntB, rAbs, rSetLN, tTruL, tRaiseX, rIsTy, rIsOw, ixN0, ixN1, tRet, tIf, tIfS, tNext, tBreak, tCont, tDrop, tTupN, tLstN, tUn, tCB, tCall, tNot, tAnd, tOr, tB, tAndV, tOrV, tNotV, tChain, tApp, LamX.tLam, tRevLN, rCatN, rInTN, rInLN, flatV, inV, List.all_cons, List.all_nil, List.any_cons, List.any_nil, Bool.and_self, Bool.and_true, if_true, Bool.false_eq_true, if_false, tMt, tFldN, tSto, HO.ins.injEq, lkh, List.drop_zero, List.drop_succ_cons, List.drop_nil, rListS, wipe, L2.start, List.map_cons, List.map_nil, List.length_cons, List.length_nil, List.replicate, List.cons_append, List.nil_append, List.append_nil, Nat.reduceAdd, Nat.reduceSub, Nat.zero_add, List.replicate_succ, List.replicate_zero, List.getElem?_cons_zero, List.getElem?_cons_succ, List.set_cons_zero, List.set_cons_succ, Option.some.injEq, V.int.injEq, V.bl.injEq, V.ref.injEq, V.str.injEq, V.ty.injEq, List.cons.injEq, HO.tup.injEq, HO.lst.injEq, and_true, true_and, and_assoc, exists_eq_left, exists_eq_left', exists_and_left, exists_eq', atI0, atI1, atI2, atI3, Int.cast_ofNat_Int, Int.reduceToNat, scal_ii, scal_in, scal_ni, scal_nn, scal_bb, scal_ss, scal_sn, scal_ns, scal_bn, scal_nb, ite_iff, decide_eq_true_eq, decide_eq_false_iff_not, Bool.not_eq_true', Classical.not_not, ne_eq, not_false_eq_true, not_true_eq_false, forall_const, true_implies, false_implies, imp_self, sizeLine_eq, Nat.reduceLeDiff, reduceCtorEq, decide_true, decide_false]
    refine told_num W3.hT O.rp (fun H6 Q E e6 r => ⟨_, _, _, rfl, wh_int, fun h => (by cases h), fun _ => ⟨wh_ext O.wh e6, fun _ => r, fun h => (by rw [O.nI] at h; cases h)⟩⟩) (fun H6 t6 e6 hT6 h6 => ?_)
    refine ⟨z, (O.ext e6).rp, fun u7 H7 _ r7 h7 => ?_⟩
    exact ne_same (dp_ss (r7 _ _ h6)) (dp_ss h7) (sh_ss (by decide +kernel) O.zk) ⟨false, rfl, fun h => (by cases h), fun _ => ⟨(W3.ext hT6 e6).same r7, (O.ext e6).ext (extS r7)⟩⟩
  clear W3 O
  rintro _ H3 ⟨rfl, W3, O⟩
  refine ⟨fun σ' H' => σ' = [some (V.ref a), some (V.ref c), some (V.ref s), some (V.ref b), none, none, some v, none] ∧ OK6 K H' a cc c s b c1 c2 s1 s2 x0 x1 y0 y1 ∧ OddN K gd H' v z, ?_, ?_⟩
  · simp only [exists_and_left, rReprG, tYes, calmS, rTupN, rIsB, LamX.tLam3, tSl, tPart, tNoPart, rSlTN, cx_K, Value.ref.injEq, HO.xd.injEq, lk0, tSeq, tPar3, tPar, tCons, tNil, tVar, tC, tAsg, gName, gCons, gNil, gTupN, gSub, tOp, rI, rI0, rU, tTest, rNe, rEq, rIxTN, rIxLN, rLenL, rLenT, rIntI, rIntB, rAbs, rSetLN, tTruL, tRaiseX, rIsTy, rIsOw, ixN0, ixN1, tRet, tIf, tIfS, tNext, tBreak, tCont, tDrop, tTupN, tLstN, tUn, tCB, tCall, tNot, tAnd, tOr, tB, tAndV, tOrV, tNotV, tChain, tApp, LamX.tLam, tRevLN, rCatN, rInTN, rInLN, flatV, inV, List.all_cons, List.all_nil, List.any_cons, List.any_nil, Bool.and_self, Bool.and_true, if_true, Bool.false_eq_true, if_false, tMt, tFldN, tSto, HO.ins.injEq, lkh, List.drop_zero, List.drop_succ_cons, List.drop_nil, rListS, wipe, L2.start, List.map_cons, List.map_nil, List.length_cons, List.length_nil, List.replicate, List.cons_append, List.nil_append, List.append_nil, Nat.reduceAdd, Nat.reduceSub, Nat.zero_add, List.replicate_succ, List.replicate_zero, List.getElem?_cons_zero, List.getElem?_cons_succ, List.set_cons_zero, List.set_cons_succ, Option.some.injEq, V.int.injEq, V.bl.injEq, V.ref.injEq, V.str.injEq, V.ty.injEq, List.cons.injEq, HO.tup.injEq, HO.lst.injEq, and_true, true_and, and_assoc, exists_eq_left, exists_eq_left', exists_and_left, exists_eq', atI0, atI1, atI2, atI3, Int.cast_ofNat_Int, Int.reduceToNat, scal_ii, scal_in, scal_ni, scal_nn, scal_bb, scal_ss, scal_sn, scal_ns, scal_bn, scal_nb, ite_iff, decide_eq_true_eq, decide_eq_false_iff_not, Bool.not_eq_true', Classical.not_not, ne_eq, not_false_eq_true, not_true_eq_false, forall_const, true_implies, false_implies, imp_self, sizeLine_eq, Nat.reduceLeDiff, reduceCtorEq, decide_true, decide_false]
    refine told_part W3.hT (fun H6 Q E e6 r => fun p H7 _ r7 h7 => ⟨_, _, _, rfl, wh_int, fun h => (by cases h), fun _ => ⟨wh_int, fun h => (by cases h), fun _ => .inl ⟨⟨_, .base (.tup h7), T.kS_tuple⟩, r.mono r7⟩⟩⟩) (fun H6 t6 e6 hT6 h6 => ?_)
    intro u7 H7 _ r7 h7
    exact ne_same (dp_ss (r7 _ _ h6)) (dp_ss h7) (sh_ss (by decide +kernel) (by decide +kernel)) ⟨false, rfl, fun h => (by cases h), fun _ => ⟨(W3.ext hT6 e6).same r7, (O.ext e6).ext (extS r7)⟩⟩
  clear W3 O
  rintro _ H3 ⟨rfl, W3, O⟩
  refine ⟨fun σ' H' => σ' = [some (V.ref a), some (V.ref c), some (V.ref s), some (V.ref b), none, none, some v, none] ∧ OK6 K H' a cc c s b c1 c2 s1 s2 x0 x1 y0 y1, ?_, ?_⟩
  · simp only [exists_and_left, rReprG, tYes, calmS, rTupN, rIsB, LamX.tLam3, tSl, tPart, tNoPart, rSlTN, cx_K, Value.ref.injEq, HO.xd.injEq, lk0, tSeq, tPar3, tPar, tCons, tNil, tVar, tC, tAsg, gName, gCons, gNil, gTupN, gSub, tOp, rI, rI0, rU, tTest, rNe, rEq, rIxTN, rIxLN, rLenL, rLenT, rIntI, rIntB, rAbs, rSetLN, tTruL, tRaiseX, rIsTy, rIsOw, ixN0, ixN1, tRet, tIf, tIfS, tNext, tBreak, tCont, tDrop, tTupN, tLstN, tUn, tCB, tCall, tNot, tAnd, tOr, tB, tAndV, tOrV, tNotV, tChain, tApp, LamX.tLam, tRevLN, rCatN, rInTN, rInLN, flatV, inV, List.all_cons, List.all_nil, List.any_cons, List.any_nil, Bool.and_self, Bool.and_true, if_true, Bool.false_eq_true, if_false, tMt, tFldN, tSto, HO.ins.injEq, lkh, List.drop_zero, List.drop_succ_cons, List.drop_nil, rListS, wipe, L2.start, List.map_cons, List.map_nil, List.length_cons, List.length_nil, List.replicate, List.cons_append, List.nil_append, List.append_nil, Nat.reduceAdd, Nat.reduceSub, Nat.zero_add, List.replicate_succ, List.replicate_zero, List.getElem?_cons_zero, List.getElem?_cons_succ, List.set_cons_zero, List.set_cons_succ, Option.some.injEq, V.int.injEq, V.bl.injEq, V.ref.injEq, V.str.injEq, V.ty.injEq, List.cons.injEq, HO.tup.injEq, HO.lst.injEq, and_true, true_and, and_assoc, exists_eq_left, exists_eq_left', exists_and_left, exists_eq', atI0, atI1, atI2, atI3, Int.cast_ofNat_Int, Int.reduceToNat, scal_ii, scal_in, scal_ni, scal_nn, scal_bb, scal_ss, scal_sn, scal_ns, scal_bn, scal_nb, ite_iff, decide_eq_true_eq, decide_eq_false_iff_not, Bool.not_eq_true', Classical.not_not, ne_eq, not_false_eq_true, not_true_eq_false, forall_const, true_implies, false_implies, imp_self, sizeLine_eq, Nat.reduceLeDiff, reduceCtorEq, decide_true, decide_false]
    refine told_num W3.hT O.rp (fun H6 Q E e6 r => ⟨_, _, _, rfl, wh_int, fun h => (by cases h), fun _ => ⟨wh_int, fun h => (by cases h), fun _ => ⟨wh_ext O.wh e6, fun _ => r, fun a' b' n ea eb en => (by have := O.nI; rw [en] at this; cases this)⟩⟩⟩) (fun H6 t6 e6 hT6 h6 => ?_)
    refine ⟨z, (O.ext e6).rp, fun u7 H7 _ r7 h7 => ?_⟩
    exact ne_same (dp_ss (r7 _ _ h6)) (dp_ss h7) (sh_ss (by decide +kernel) O.zk) ⟨false, rfl, fun h => (by cases h), fun _ => (W3.ext hT6 e6).same r7⟩
  clear W3 O nv
  rintro _ H3 ⟨rfl, W3⟩
  simp only [exists_and_left, spDraw, tYes, calmS, rTupN, rIsB, LamX.tLam3, tSl, tPart, tNoPart, rSlTN, cx_K, Value.ref.injEq, HO.xd.injEq, lk0, tSeq, tPar3, tPar, tCons, tNil, tVar, tC, tAsg, gName, gCons, gNil, gTupN, gSub, tOp, rI, rI0, rU, tTest, rNe, rEq, rIxTN, rIxLN, rLenL, rLenT, rIntI, rIntB, rAbs, rSetLN, tTruL, tRaiseX, rIsTy, rIsOw, ixN0, ixN1, tRet, tIf, tIfS, tNext, tBreak, tCont, tDrop, tTupN, tLstN, tUn, tCB, tCall, tNot, tAnd, tOr, tB, tAndV, tOrV, tNotV, tChain, tApp, LamX.tLam, tRevLN, rCatN, rInTN, rInLN, flatV, inV, List.all_cons, List.all_nil, List.any_cons, List.any_nil, Bool.and_self, Bool.and_true, if_true, Bool.false_eq_true, if_false, tMt, tFldN, tSto, HO.ins.injEq, lkh, List.drop_zero, List.drop_succ_cons, List.drop_nil, rListS, wipe, L2.start, List.map_cons, List.map_nil, List.length_cons, List.length_nil, List.replicate, List.cons_append, List.nil_append, List.append_nil, Nat.reduceAdd, Nat.reduceSub, Nat.zero_add, List.replicate_succ, List.replicate_zero, List.getElem?_cons_zero, List.getElem?_cons_succ, List.set_cons_zero, List.set_cons_succ, Option.some.injEq, V.int.injEq, V.bl.injEq, V.ref.injEq, V.str.injEq, V.ty.injEq, List.cons.injEq, HO.tup.injEq, HO.lst.injEq, and_true, true_and, and_assoc, exists_eq_left, exists_eq_left', exists_and_left, exists_eq', atI0, atI1, atI2, atI3, Int.cast_ofNat_Int, Int.reduceToNat, scal_ii, scal_in, scal_ni, scal_nn, scal_bb, scal_ss, scal_sn, scal_ns, scal_bn, scal_nb, ite_iff, decide_eq_true_eq, decide_eq_false_iff_not, Bool.not_eq_true', Classical.not_not, ne_eq, not_false_eq_true, not_true_eq_false, forall_const, true_implies, false_implies, imp_self, sizeLine_eq, Nat.reduceLeDiff, reduceCtorEq, decide_true, decide_false]
  intro l1 H4 n4 r4 h4
  intro t1 H5 n5 r5 h5
  intro t2 H6 n6 r6 h6
  intro t3 H7 n7 r7 h7
  intro p1 H8 n8 r8 h8
  have W8 := ((((W3.same r4).same r5).same r6).same r7).same r8
  refine ⟨cc, W8.hS, by decide, by decide, fun d H9 d0 d1 hS9 t9 => ?_⟩
  have W9 := W8.stp hS9 t9
  have nl : l1 ≠ a ∧ l1 ≠ cc := by
    obtain ⟨_, _, _, ha, hc, _⟩ := W3.hS
    exact ⟨(ne_of_none ha n4).symm, (ne_of_none hc n4).symm⟩
  obtain ⟨u, hu, B⟩ := badC (t9 _ _ (r8 _ _ (r7 _ _ (r6 _ _ (r5 _ _ h4)))) nl.1 nl.2) (t9.nl W8.hS (r8 _ _ (r7 _ _ (r6 _ _ h5))) (fun _ z => by cases z)) (t9.nl W8.hS (r8 _ _ (r7 _ _ h6)) (fun _ z => by cases z)) (t9.nl W8.hS (r8 _ _ h7) (fun _ z => by cases z)) d0 d1
  have h9 := t9.nl W8.hS h8 (fun _ z => by cases z)
  clear W3 n4 r4 h4 n5 r5 h5 n6 r6 h6 n7 r7 h7 n8 r8 h8 W8 hS9 t9 nl
  refine ⟨p1, rfl, _, h9, u, hu, ?_⟩
  clear h9 hu
  refine told_part W9.hT (fun H1 Q E e r => ⟨u, u, u, rfl, (B.ext e).k, fun _ => r, fun h => (by rw [(B.ext e).n] at h; cases h)⟩) (fun H10 t10 e10 hT10 h10 => ?_)
  intro L H11 nL r11 h11
  have S : S6 K H11 a cc c s b c1 c2 s1 s2 x0 x1 y0 y1 u L ["cell"] := by
    have W10 := W9.ext hT10 e10
    obtain ⟨_, _, _, ha, hc, _⟩ := W10.hS
    exact ⟨W10.same r11, (B.ext e10).ext (extS r11), ⟨_, h11, .cons (r11 _ _ h10) .nil⟩, ⟨(ne_of_none ha nL).symm, (ne_of_none hc nL).symm⟩, fun b hb => let ⟨o, ho⟩ := (B.ext e10).there b hb; ne_of_none ho nL⟩
  clear W9 B e10 hT10 h10 nL r11 h11
  refine app6 S (by simp) (fun H1 Q E W B r => ⟨_, _, _, rfl, P2.k W.hc, fun h => (by rw [pairV_of W.hc] at h; cases h), fun _ => ⟨B.k, fun _ => r, fun h => (by rw [B.n] at h; cases h)⟩⟩) (fun H12 S => ?_)
  refine app6 S (by simp) (fun H1 Q E W B r => ⟨_, W.hb, (show ¬(HT.sIx 4 0 none = 0 ∧ HT.sIx 4 4 (some 3) = 4) by decide), fun p H2 _ s2 h2 => ⟨_, _, _, rfl, P2.k (s2 _ _ W.hc), fun h => (by rw [pairV_of (s2 _ _ W.hc)] at h; cases h), fun _ => ⟨P2.k (s2 _ _ W.hs), fun h => (by rw [pairV_of (s2 _ _ W.hs)] at h; cases h), fun _ =>
    ⟨.tup h2 ?_, fun _ => r.mono s2, fun _ _ _ _ _ _ _ _ _ _ _ ex hx _ _ => ?_⟩⟩⟩⟩) (fun H13 S => ?_)
  · intro q hq
    have hq : q ∈ [ov x0, ov x1, ov y0] := hq
    simp only [List.mem_cons, List.not_mem_nil, or_false] at hq
    rcases hq with rfl | rfl | rfl <;> exact wh_ov
  · cases ex
    rw [h2] at hx
    have hx := congrArg (fun o : Option HO => match o with | some (.tup xs) => xs.length | _ => 0) hx
    exact absurd hx (show ¬ (3 : Nat) = 4 by decide)
  refine app6 S (by simp) (fun H1 Q E W B r => fun p H2 _ s2 h2 => ⟨_, _, _, rfl, P2.k (s2 _ _ W.hc), fun h => (by rw [pairV_of (s2 _ _ W.hc)] at h; cases h), fun _ => ⟨P2.k (s2 _ _ W.hs), fun h => (by rw [pairV_of (s2 _ _ W.hs)] at h; cases h), fun _ =>
    ⟨.tup h2 ?_, fun _ => r.mono s2, fun _ _ _ _ _ z0 z1 _ _ _ _ ex hx oz _ => ?_⟩⟩⟩) (fun H14 S => ?_)
  · intro q hq
    simp only [List.mem_cons, List.not_mem_nil, or_false] at hq
    rcases hq with rfl | rfl | rfl | rfl <;> exact wh_int
  · cases ex
    rw [h2] at hx
    cases z0 <;> cases z1 <;> simp [ov] at hx
    obtain ⟨rfl, rfl, _⟩ := hx
    exact absurd oz (show ¬ (2 : Int) < 2 by decide)
  refine app6 S (by simp) (fun H1 Q E W B r => ⟨_, _, _, rfl, P2.k W.hc, fun h => (by rw [pairV_of W.hc] at h; cases h), fun _ => ⟨P2.k W.hs, fun h => (by rw [pairV_of W.hs] at h; cases h), fun _ => ⟨B.k, fun _ => r, fun _ _ _ _ _ _ _ _ h => (by rw [B.n] at h; cases h)⟩⟩⟩) (fun H15 S => ?_)
  refine app6 S (by simp) (fun H1 Q E W B r => ⟨_, _, _, rfl, P2.k W.hc, fun h => (by rw [pairV_of W.hc] at h; cases h), fun _ => ⟨B.k, fun _ => r, fun h => (by rw [B.n] at h; cases h)⟩⟩) (fun H16 S => ?_)
  refine lc_inT ?_
  simp only [exists_and_left, tYes, calmS, rTupN, rIsB, LamX.tLam3, tSl, tPart, tNoPart, rSlTN, cx_K, Value.ref.injEq, HO.xd.injEq, lk0, tSeq, tPar3, tPar, tCons, tNil, tVar, tC, tAsg, gName, gCons, gNil, gTupN, gSub, tOp, rI, rI0, rU, tTest, rNe, rEq, rIxTN, rIxLN, rLenL, rLenT, rIntI, rIntB, rAbs, rSetLN, tTruL, tRaiseX, rIsTy, rIsOw, ixN0, ixN1, tRet, tIf, tIfS, tNext, tBreak, tCont, tDrop, tTupN, tLstN, tUn, tCB, tCall, tNot, tAnd, tOr, tB, tAndV, tOrV, tNotV, tChain, tApp, LamX.tLam, tRevLN, rCatN, rInTN, rInLN, flatV, inV, List.all_cons, List.all_nil, List.any_cons, List.any_nil, Bool.and_self, Bool.and_true, if_true, Bool.false_eq_true, if_false, tMt, tFldN, tSto, HO.ins.injEq, lkh, List.drop_zero, List.drop_succ_cons, List.drop_nil, rListS, wipe, L2.start, List.map_cons, List.map_nil, List.length_cons, List.length_nil, List.replicate, List.cons_append, List.nil_append, List.append_nil, Nat.reduceAdd, Nat.reduceSub, Nat.zero_add, List.replicate_succ, List.replicate_zero, List.getElem?_cons_zero, List.getElem?_cons_succ, List.set_cons_zero, List.set_cons_succ, Option.some.injEq, V.int.injEq, V.bl.injEq, V.ref.injEq, V.str.injEq, V.ty.injEq, List.cons.injEq, HO.tup.injEq, HO.lst.injEq, and_true, true_and, and_assoc, exists_eq_left, exists_eq_left', exists_and_left, exists_eq', atI0, atI1, atI2, atI3, Int.cast_ofNat_Int, Int.reduceToNat, scal_ii, scal_in, scal_ni, scal_nn, scal_bb, scal_ss, scal_sn, scal_ns, scal_bn, scal_nb, ite_iff, decide_eq_true_eq, decide_eq_false_iff_not, Bool.not_eq_true', Classical.not_not, ne_eq, not_false_eq_true, not_true_eq_false, forall_const, true_implies, false_implies, imp_self, sizeLine_eq, Nat.reduceLeDiff, reduceCtorEq, decide_true, decide_false]
  intro tp H17 _ r17 h17
  obtain ⟨xs, hL, hw⟩ := S.hL
  have hL17 := r17 _ _ hL
  have hw17 := hw.monoT fun b us hb => r17 _ _ hb
  clear S hL hw
  refine st_lcT (fun R r => r) h17 (fun D i H' => H17 D = none ∧ Same H17 H' ∧ ∃ ys, H' D = some (.lst ys) ∧ WAll H' ys ((["cell", "step", "box", "box", "cell", "step"] : List Str).take i)) (fun D H6 n6 s6 h6 => ⟨n6, s6, [], h6, .nil⟩) (fun D i H' q => q.2.1 _ _ h17) ?_ ?_
  · rintro D i x H6 hi ⟨n6, s6, ys, hy, wy⟩
    have hi2 := (List.getElem?_eq_some_iff.mp hi).1
    obtain ⟨wd, hwd, rfl⟩ : ∃ wd, (["cell", "step", "box", "box", "cell", "step"] : List Str)[i]? = some wd ∧ x = .str wd := by
      have e : ([V.str (Str.ofString "cell"), V.str (Str.ofString "step"), V.str (Str.ofString "box"), V.str (Str.ofString "box"), V.str (Str.ofString "cell"), V.str (Str.ofString "step")] : List V) = (["cell", "step", "box", "box", "cell", "step"] : List Str).map V.str := rfl
      rw [e, List.getElem?_map] at hi
      obtain ⟨wd, h1, h2⟩ := Option.map_eq_some_iff.mp hi
      exact ⟨wd, h1, h2.symm⟩
    simp only [exists_and_left, tYes, calmS, rTupN, rIsB, LamX.tLam3, tSl, tPart, tNoPart, rSlTN, cx_K, Value.ref.injEq, HO.xd.injEq, lk0, tSeq, tPar3, tPar, tCons, tNil, tVar, tC, tAsg, gName, gCons, gNil, gTupN, gSub, tOp, rI, rI0, rU, tTest, rNe, rEq, rIxTN, rIxLN, rLenL, rLenT, rIntI, rIntB, rAbs, rSetLN, tTruL, tRaiseX, rIsTy, rIsOw, ixN0, ixN1, tRet, tIf, tIfS, tNext, tBreak, tCont, tDrop, tTupN, tLstN, tUn, tCB, tCall, tNot, tAnd, tOr, tB, tAndV, tOrV, tNotV, tChain, tApp, LamX.tLam, tRevLN, rCatN, rInTN, rInLN, flatV, inV, List.all_cons, List.all_nil, List.any_cons, List.any_nil, Bool.and_self, Bool.and_true, if_true, Bool.false_eq_true, if_false, tMt, tFldN, tSto, HO.ins.injEq, lkh, List.drop_zero, List.drop_succ_cons, List.drop_nil, rListS, wipe, L2.start, List.map_cons, List.map_nil, List.length_cons, List.length_nil, List.replicate, List.cons_append, List.nil_append, List.append_nil, Nat.reduceAdd, Nat.reduceSub, Nat.zero_add, List.replicate_succ, List.replicate_zero, List.getElem?_cons_zero, List.getElem?_cons_succ, List.set_cons_zero, List.set_cons_succ, Option.some.injEq, V.int.injEq, V.bl.injEq, V.ref.injEq, V.str.injEq, V.ty.injEq, List.cons.injEq, HO.tup.injEq, HO.lst.injEq, and_true, true_and, and_assoc, exists_eq_left, exists_eq_left', exists_and_left, exists_eq', atI0, atI1, atI2, atI3, Int.cast_ofNat_Int, Int.reduceToNat, scal_ii, scal_in, scal_ni, scal_nn, scal_bb, scal_ss, scal_sn, scal_ns, scal_bn, scal_nb, ite_iff, decide_eq_true_eq, decide_eq_false_iff_not, Bool.not_eq_true', Classical.not_not, ne_eq, not_false_eq_true, not_true_eq_false, forall_const, true_implies, false_implies, imp_self, sizeLine_eq, Nat.reduceLeDiff, reduceCtorEq, decide_true, decide_false]
    intro t7 H7 _ r7 h7
    have key : ∀ b us, H7 b = some (.tup us) → (upd H7 D (.lst (ys ++ [.ref t7]))) b = some (.tup us) := fun b us hb => by rw [upd_ne (ne_of hb (r7 _ _ hy) (by intro z; cases z))]; exact hb
    refine ⟨ys, r7 _ _ hy, by have := wy.length; simp at this; omega, n6, fun b o hb => by rw [upd_ne (ne_of_none hb n6)]; exact r7 _ _ (s6 _ _ hb), _, upd_same, ?_⟩
    rw [List.take_succ, hwd]
    exact (wy.monoT fun b us hb => key _ _ (r7 _ _ hb)).snoc (key _ _ h7)
  · rintro D H6 ⟨n6, s6, ys, hy, wy⟩
    have hL6 := s6 _ _ hL17
    have hw6 := hw17.monoT fun b us hb => s6 _ _ hb
    exact eq_same (d := .list ((["cell", "step", "box", "box", "cell", "step"] : List Str).map fun w => .tuple [.str "part", .str w])) (WAll.dp hL6 hw6) (WAll.dp hy wy) (by decide +kernel) (k H6)

end
end Iz
/-! k06_i -/
set_option Elab.async false
set_option linter.all false
set_option maxRecDepth 100000
set_option maxHeartbeats 4000000
namespace Iz
open PySem PySem.Spec PyProof.Rows L2
open He (ga)
local macro_rules | `(tactic| walk_at "wp") => `(tactic| simp only [tYes, calmS, rTupN, rIsB, LamX.tLam3, tSl, tPart, tNoPart, rSlTN, cx_K, Value.ref.injEq, HO.xd.injEq, lk0, tSeq, tPar3, tPar, tCons, tNil, tVar, tC, tAsg, gName, gCons, gNil, gTupN, gSub, tOp, rI, rI0, rU, tTest, rNe, rEq, rIxTN, rIxLN, rLenL, rLenT, rIntI, rIntB, rAbs, rSetLN, tTruL, tRaiseX, rIsTy, rIsOw, ixN0, ixN1, tRet, tIf, tIfS, tNext, tBreak, tCont, tDrop, tTupN, tLstN, tUn, tCB, tCall, tNot, tAnd, tOr, tB, tAndV, tOrV, tNotV, tChain, tApp, LamX.tLam, tRevLN, rCatN, rInTN, rInLN, flatV, inV, List.all_cons, List.all_nil, List.any_cons, List.any_nil, Bool.and_self, Bool.and_true, if_true, Bool.false_eq_true, if_false, tMt, tFldN, tSto, HO.ins.injEq, lkh, List.drop_zero, List.drop_succ_cons, List.drop_nil, rListS, wipe, L2.start, List.map_cons, List.map_nil, List.length_cons, List.length_nil, List.replicate, List.cons_append, List.nil_append, List.append_nil, Nat.reduceAdd, Nat.reduceSub, Nat.zero_add, List.replicate_succ, List.replicate_zero, List.getElem?_cons_zero, List.getElem?_cons_succ, List.set_cons_zero, List.set_cons_succ, Option.some.injEq, V.int.injEq, V.bl.injEq, V.ref.injEq, V.str.injEq, V.ty.injEq, List.cons.injEq, HO.tup.injEq, HO.lst.injEq, and_true, true_and, and_assoc, exists_eq_left, exists_eq_left', exists_and_left, exists_eq', atI0, atI1, atI2, atI3, Int.cast_ofNat_Int, Int.reduceToNat, scal_ii, scal_in, scal_ni, scal_nn, scal_bb, scal_ss, scal_sn, scal_ns, scal_bn, scal_nb, ite_iff, decide_eq_true_eq, decide_eq_false_iff_not, Bool.not_eq_true', Classical.not_not, ne_eq, not_false_eq_true, not_true_eq_false, forall_const, true_implies, false_implies, imp_self, sizeLine_eq, Nat.reduceLeDiff, reduceCtorEq, decide_true, decide_false])
section
variable {P : Program} {w : World} {K : PySem.W.Frag} {mg : Str → Option Value} {base : Heap}
open LamX
theorem SV.ext {H H' : Hp} {v : V} {o : Option PP} (h : SV K H v o) (e : ExtN H H') : SV K H' v o := by
  cases o with
  | none => exact h
  | some p => obtain ⟨s, dx, e1, h1⟩ := h; exact ⟨s, dx, e1, extI e h1⟩
theorem bnd_up {a b : Int} {o : Option Int} (ha : a.natAbs < 2 ^ 197) (ho : bndO 197 o) : bndO 198 (upO a b o) := by
  cases o with
  | none => trivial
  | some l =>
    have ho : l.natAbs < 2 ^ 197 := ho
    show (-((a - l) / b)).natAbs < 2 ^ 198
    have := Int.natAbs_ediv_le_natAbs (a - l) b
    omega
theorem bndO_up {n m : Nat} {o : Option Int} (h : bndO n o) (k : n ≤ m) : bndO m o := by
  cases o with
  | none => trivial
  | some l => exact Nat.lt_of_lt_of_le h (Nat.pow_le_pow_right (by decide) k)
theorem bnd_turn {o : Option Int} (h : bndO 198 o) : bndO 199 (turnO o) := by
  cases o with
  | none => trivial
  | some l =>
    have h : l.natAbs < 2 ^ 198 := h
    show (1 - l).natAbs < 2 ^ 199
    omega
theorem bnd_inP {a b : Int} {lo hi : Option Int} (ha : a.natAbs < 2 ^ 197) (h1 : bndO 197 lo) (h2 : bndO 197 hi) : ∀ x y, inP a b lo hi = some (x, y) → bndO 198 x ∧ bndO 198 y := fun x y e => by
  unfold inP at e
  split at e
  · cases e; exact ⟨bnd_up ha h1, bnd_up ha h2⟩
  · cases e
theorem bnd_in {a b : Int} {lo hi : Option Int} (ha : a.natAbs < 2 ^ 197) (h1 : bndO 197 lo) (h2 : bndO 197 hi) : bndV (inO a b lo hi) := by
  unfold inO
  split
  · split <;> trivial
  · split
    · cases e : inP a (-b) lo hi with
      | none => trivial
      | some q =>
        obtain ⟨x, y⟩ := q
        obtain ⟨b1, b2⟩ := bnd_inP ha h1 h2 x y e
        exact ⟨bndO_up (bnd_turn b2) (by decide), bndO_up (bnd_turn b1) (by decide)⟩
    · cases e : inP a b lo hi with
      | none => trivial
      | some q =>
        obtain ⟨x, y⟩ := q
        obtain ⟨b1, b2⟩ := bnd_inP ha h1 h2 x y e
        exact ⟨bndO_up b1 (by decide), bndO_up b2 (by decide)⟩
theorem bnd_glow {n : Nat} {x y : Option Int} (h1 : bndO n x) (h2 : bndO n y) : bndO n (glow x y) := by
  cases x <;> cases y <;> simp only [glow] <;> first | exact h1 | exact h2 | (split; exact h1; exact h2)
theorem bnd_lhigh {n : Nat} {x y : Option Int} (h1 : bndO n x) (h2 : bndO n y) : bndO n (lhigh x y) := by
  cases x <;> cases y <;> simp only [lhigh] <;> first | exact h1 | exact h2 | (split; exact h1; exact h2)
theorem bnd_both {o o' : Option PP} (h1 : bndV o) (h2 : bndV o') : bndV (bothO o o') := by
  cases o with
  | none => trivial
  | some p => cases o' with
    | none => obtain ⟨x, y⟩ := p; trivial
    | some q =>
      obtain ⟨x, y⟩ := p
      obtain ⟨z, u⟩ := q
      simp only [bothO]
      split
      · exact ⟨bnd_glow h1.1 h2.1, bnd_lhigh h1.2 h2.2⟩
      · trivial
theorem in_one {z m : Int} : inS (some z) (some (z + 1)) m = decide (m = z) := by
  simp only [inS]
  by_cases h : m = z
  · subst h; simp; omega
  · have : ¬ (z ≤ m ∧ m < z + 1) := by omega
    simp only [h, decide_false, ← Bool.decide_and, this]
abbrev NS : List Int := [-10 ^ 50, -40, -9, -3, -2, -1, 0, 1, 2, 3, 4, 9, 40, 10 ^ 50]
theorem NS_b : ∀ n ∈ NS, n.natAbs < 2 ^ 201 := by decide +kernel
structure Q6 (K : PySem.W.Frag) (H : Hp) (a c nm : Addr) : Prop where
  hS : StA H a c
  hT : Tabs (TbK K) H
  hN : H nm = some (.lst (NS.map V.int))
  nn : nm ≠ a ∧ nm ≠ c
section
variable {H H' : Hp} {a c nm : Addr}
theorem Q6.ext (x : Q6 K H a c nm) (hT : Tabs (TbK K) H') (e : ExtN H H') : Q6 K H' a c nm := ⟨x.hS.ext e, hT, extL e x.hN, x.nn⟩
theorem Q6.same (x : Q6 K H a c nm) (e : Same H H') : Q6 K H' a c nm := x.ext (Tabs.ext x.hT e) (extS e)
theorem Q6.stp (x : Q6 K H a c nm) (hS : StA H' a c) (e : Stp a c H H') : Q6 K H' a c nm := ⟨hS, Tabs.stpK x.hT x.hS e, e _ _ x.hN x.nn.1 x.nn.2, x.nn⟩
end
theorem row_of {tl : V → Hp → VK → Prop} {v1 : V} {H : Hp} {R : VK} {a c nm : Addr} {o : Option PP} (W : Q6 K H a c nm) (hv : SV K H v1 o) (bo : bndV o) (hw : ∀ (n : Int) H1 (Q1 : VK), Same H H1 → n.natAbs < 2 ^ 201 → (∀ H2, Same H1 H2 → Q1 (.bl (fhas o n)) H2) → tl (.int n) H1 Q1)
    (k : ∀ H2, Same H H2 → R (.bl true) H2) : TTw K tl v1 (.ref nm) H R := ⟨o, hv, bo, nm, NS, rfl, W.hN, by decide, NS_b, hw, k⟩
def spLaw (K : PySem.W.Frag) : Sp := fun vs H Q _ => ∃ sc, vs = [.ref sc] ∧ ∃ ns : List Int, SqL K H sc (ns.map V.int) ∧ ns.length ≤ 63 ∧ Tabs (TbK K) H ∧ ∀ H', Q (.bl true) H'
theorem o_law (T : Txt K mg) (TB : TabB base mg (cOf K "law") (pOf K "law")) (TB1 : TabB base mg (cOf K "_law_odd_right") (pOf K "_law_odd_right")) (f : Addr) (A : Around) (outer : List Env) (s : Shared) (H : Hp) (vs : List V) (Q : VK) (E : XK) (hr : Room 16 (A.deeper (envOfC "law" (defScope s_law) s.heap.objs.size f (.ref (cOf K "law"))))) (h : (spLaw K) vs H Q E) : ∃ t, PSs (cxOf (L2.CX P w) P w K mg base ["_law_script", "_law_state", "_law_numbers", "_law_stretch", "_law_far", "_law_on", "_law_a", "_law_b", "_law_box_here", "_law_cell", "_law_goal", "_law_number_here", "_law_pair", "_law_step"] "law" (defScope s_law) f (.ref (cOf K "law")) A outer s H E) (defBody s_law) t ∧ t { nx := fun _ H' => Q .non H', rt := Q } (L2.start ["_law_script", "_law_state", "_law_numbers", "_law_stretch", "_law_far", "_law_on", "_law_a", "_law_b", "_law_box_here", "_law_cell", "_law_goal", "_law_number_here", "_law_pair", "_law_step"] vs) H := by
  have o__law_draw := o__law_draw (P := P) (w := w) (base := base) T
  have o__law_number := o__law_number (P := P) (w := w) (base := base) T
  have o__law_ends := o__law_ends (P := P) (w := w) (base := base) T
  have o__law_has := o__law_has (P := P) (w := w) (base := base) T
  have o__law_box := o__law_box (P := P) (w := w) (base := base) T
  have o__law_on_way := o__law_on_way (P := P) (w := w) (base := base) T
  have o__law_in := o__law_in (P := P) (w := w) (base := base) T
  have o_Stretch := o_Stretch (P := P) (w := w) (base := base) T
  have o_in_stretch := o_in_stretch (P := P) (w := w) (base := base) T
  have o_on_number := o_on_number (P := P) (w := w) (base := base) T
  have o_in_box := o_in_box (P := P) (w := w) (base := base) T
  have o_on_cell := o_on_cell (P := P) (w := w) (base := base) T
  have o__law_odd_right := o__law_odd_right (P := P) (w := w) (base := base) T TB1
  have hu64 := hr.units
  refine ⟨_, pss_cons (ps_set (i := 1) sc_law.nd rfl (Or.inl rfl) (pe_lstN (pa_cons (pe_callTy call_listS (by rfl) T.m_list (by decide +kernel) (pa_cons (pv 0) pa_nil)) (pa_cons (pe_int) pa_nil))))
      (pss_cons (ps_set (i := 2) sc_law.nd rfl (Or.inl rfl) (pe_lstN (pa_cons (pe_un un_neg (pe_op op_pow (pe_int) (pe_int))) (pa_cons (pe_un un_neg (pe_int)) (pa_cons (pe_un un_neg (pe_int)) (pa_cons (pe_un un_neg (pe_int)) (pa_cons (pe_un un_neg (pe_int)) (pa_cons (pe_un un_neg (pe_int)) (pa_cons (pe_int) (pa_cons (pe_int) (pa_cons (pe_int) (pa_cons (pe_int) (pa_cons (pe_int) (pa_cons (pe_int) (pa_cons (pe_int) (pa_cons (pe_op op_pow (pe_int) (pe_int)) pa_nil))))))))))))))))
      (pss_cons (ps_asg (pe_tupN (pa_cons (pcl o__law_number (hr.mono (by decide)) pass0 (pa_cons (pv 1) (pa_cons (pe_int) pa_nil))) (pa_cons (pcl o__law_number (hr.mono (by decide)) pass0 (pa_cons (pv 1) (pa_cons (pe_int) pa_nil))) pa_nil))) (pg_tupN (n := 2) (by rfl) (pgs_cons (pg_name (i := 6) sc_law.nd rfl (Or.inr rfl)) (pgs_cons (pg_name (i := 7) sc_law.nd rfl (Or.inr rfl)) pgs_nil))))
      (pss_cons (ps_set (i := 12) sc_law.nd rfl (Or.inr rfl) (pcl o__law_ends (hr.mono (by decide)) pass0 (pa_cons (pv 1) pa_nil)))
      (pss_cons (ps_set (i := 3) sc_law.nd rfl (Or.inl rfl) (pmk (j := 2) o_Stretch (by decide) (hr.mono (by decide)) passE (pa_cons (pe_ix ix_tupN (pv 12) (pe_int) (fun _ _ => rfl)) (pa_cons (pe_ix ix_tupN (pv 12) (pe_int) (fun _ _ => rfl)) pa_nil))))
      (pss_cons (ps_cut (ps_if (pt_not (pt_val (plam3 (p0 := "_law_i") (qn := qn_law) (TS := (TbK K)) T.d__law_is_row sc__law_is_row (fun _ _ _ _ _ _ us hl => match us, hl with | [_, _, _], _ => rfl) (fun g cdg => (is_row_gives T)) (.tail _ (.head _)) (hu_law T) TB rfl rfl (hr.mono (by decide)) (by show lamPB (defScope s_law) _ _ = true; decide +kernel) (by show _ ∉ N_law; decide) (pcl o_in_stretch (hr.mono (by decide)) passE (pa_cons (pv 6) (pa_cons (pv 7) (pa_cons (pv 3) pa_nil)))) (pv 2) (fun A outer s H f c hr2 => by exact (pcl o__law_has (hr2.mono (by decide)) pass0 (pa_cons (pe_lstN (pa_cons (pv 12) pa_nil)) (pa_cons (pe_op op_add (pv 6) (pe_op op_mulW (pv 7) (pv 14))) pa_nil))))))) (pss_one (ps_ret (pe_bl))) (pss_nil)))
      (pss_cons (ps_set (i := 11) sc_law.nd rfl (Or.inr rfl) (pe_ix ix_tupN (pe_tupN (pa_cons (pe_op op_add (pv 6) (pe_op op_mulW (pv 7) (pcl o__law_number (hr.mono (by decide)) pass0 (pa_cons (pv 1) (pa_cons (pe_int) pa_nil))))) (pa_cons (pcl o__law_number (hr.mono (by decide)) pass0 (pa_cons (pv 1) (pa_cons (pe_int) pa_nil))) pa_nil))) (pcl o__law_draw (hr.mono (by decide)) pass0 (pa_cons (pv 1) (pa_cons (pe_int) pa_nil))) (fun _ _ => rfl)))
      (pss_cons (ps_cut (ps_if (pt_not (pt_val (plam3 (p0 := "_law_i") (qn := qn_law) (TS := (TbK K)) T.d__law_is_row sc__law_is_row (fun _ _ _ _ _ _ us hl => match us, hl with | [_, _, _], _ => rfl) (fun g cdg => (is_row_gives T)) (.tail _ (.head _)) (hu_law T) TB rfl rfl (hr.mono (by decide)) (by show lamPB (defScope s_law) _ _ = true; decide +kernel) (by show _ ∉ N_law; decide) (pcl o_on_number (hr.mono (by decide)) passE (pa_cons (pv 6) (pa_cons (pv 7) (pa_cons (pv 11) pa_nil)))) (pv 2) (fun A outer s H f c hr2 => by exact (pe_cmpR op_eq (pe_op op_add (pv 6) (pe_op op_mulW (pv 7) (pv 14))) (pv 11) (nomark _)))))) (pss_one (ps_ret (pe_bl))) (pss_nil)))
      (pss_cons (ps_asg (pe_tupN (pa_cons (pe_tupN (pa_cons (pv 6) (pa_cons (pcl o__law_number (hr.mono (by decide)) pass0 (pa_cons (pv 1) (pa_cons (pe_int) pa_nil))) pa_nil))) (pa_cons (pe_tupN (pa_cons (pv 7) (pa_cons (pcl o__law_number (hr.mono (by decide)) pass0 (pa_cons (pv 1) (pa_cons (pe_int) pa_nil))) pa_nil))) pa_nil))) (pg_tupN (n := 2) (by rfl) (pgs_cons (pg_name (i := 9) sc_law.nd rfl (Or.inr rfl)) (pgs_cons (pg_name (i := 13) sc_law.nd rfl (Or.inr rfl)) pgs_nil))))
      (pss_cons (ps_set (i := 8) sc_law.nd rfl (Or.inr rfl) (pcl o__law_box (hr.mono (by decide)) pass0 (pa_cons (pv 1) pa_nil)))
      (pss_cons (ps_cut (ps_if (pt_not (pt_val (plam3 (p0 := "_law_i") (qn := qn_law) (TS := (TbK K)) T.d__law_is_row sc__law_is_row (fun _ _ _ _ _ _ us hl => match us, hl with | [_, _, _], _ => rfl) (fun g cdg => (is_row_gives T)) (.tail _ (.head _)) (hu_law T) TB rfl rfl (hr.mono (by decide)) (by show lamPB (defScope s_law) _ _ = true; decide +kernel) (by show _ ∉ N_law; decide) (pcl o_in_box (hr.mono (by decide)) passE (pa_cons (pv 9) (pa_cons (pv 13) (pa_cons (pv 8) pa_nil)))) (pv 2) (fun A outer s H f c hr2 => by exact (pcl o__law_in (hr2.mono (by decide)) pass0 (pa_cons (pv 8) (pa_cons (pcl o__law_on_way (hr2.mono (by decide)) pass0 (pa_cons (pv 9) (pa_cons (pv 13) (pa_cons (pv 14) pa_nil)))) pa_nil))))))) (pss_one (ps_ret (pe_bl))) (pss_nil)))
      (pss_cons (ps_set (i := 4) sc_law.nd rfl (Or.inl rfl) (pcl o__law_number (hr.mono (by decide)) pass0 (pa_cons (pv 1) (pa_cons (pe_int) pa_nil))))
      (pss_cons (ps_set (i := 10) sc_law.nd rfl (Or.inr rfl) (pe_tupN (pa_cons (pe_op op_add (pe_ix ix_tupN (pv 9) (pe_int) (fun _ _ => rfl)) (pe_op op_mulW (pe_ix ix_tupN (pv 13) (pe_int) (fun _ _ => rfl)) (pv 4))) (pa_cons (pe_op op_add (pe_op op_add (pe_ix ix_tupN (pv 9) (pe_int) (fun _ _ => rfl)) (pe_op op_mulW (pe_ix ix_tupN (pv 13) (pe_int) (fun _ _ => rfl)) (pv 4))) (pe_callTy call_intB (by rfl) T.m_int (by decide +kernel) (pa_cons (pe_cmpR op_eq (pcl o__law_draw (hr.mono (by decide)) pass0 (pa_cons (pv 1) (pa_cons (pe_int) pa_nil))) (pe_int) (nomark _)) pa_nil))) pa_nil))))
      (pss_cons (ps_set (i := 5) sc_law.nd rfl (Or.inl rfl) (pcl o_on_cell (hr.mono (by decide)) passE (pa_cons (pv 9) (pa_cons (pv 13) (pa_cons (pv 10) pa_nil)))))
      (pss_cons (ps_cut (ps_if (pt_not (pt_val (plam3 (p0 := "_law_i") (qn := qn_law) (TS := (TbK K)) T.d__law_is_row sc__law_is_row (fun _ _ _ _ _ _ us hl => match us, hl with | [_, _, _], _ => rfl) (fun g cdg => (is_row_gives T)) (.tail _ (.head _)) (hu_law T) TB rfl rfl (hr.mono (by decide)) (by show lamPB (defScope s_law) _ _ = true; decide +kernel) (by show _ ∉ N_law; decide) (pv 5) (pe_op op_catN (pv 2) (pe_lstN (pa_cons (pv 4) pa_nil))) (fun A outer s H f c hr2 => by exact (pe_cmpR (op_eqDk (K := K) rfl hr2.units) (pcl o__law_on_way (hr2.mono (by decide)) pass0 (pa_cons (pv 9) (pa_cons (pv 13) (pa_cons (pv 14) pa_nil)))) (pv 10) (nomark _)))))) (pss_one (ps_ret (pe_bl))) (pss_nil)))
      (pss_one (ps_ret (pcl o__law_odd_right (hr.mono (by decide)) passE (pa_cons (pv 1) (pa_cons (pv 9) (pa_cons (pv 13) (pa_cons (pv 8) pa_nil))))))))))))))))))))), ?_⟩
  obtain ⟨sc, rfl, ns, hsc, hns, hT, k⟩ := h
  simp only [exists_and_left, tYes, calmS, rTupN, rIsB, LamX.tLam3, tSl, tPart, tNoPart, rSlTN, cx_K, Value.ref.injEq, HO.xd.injEq, lk0, tSeq, tPar3, tPar, tCons, tNil, tVar, tC, tAsg, gName, gCons, gNil, gTupN, gSub, tOp, rI, rI0, rU, tTest, rNe, rEq, rIxTN, rIxLN, rLenL, rLenT, rIntI, rIntB, rAbs, rSetLN, tTruL, tRaiseX, rIsTy, rIsOw, ixN0, ixN1, tRet, tIf, tIfS, tNext, tBreak, tCont, tDrop, tTupN, tLstN, tUn, tCB, tCall, tNot, tAnd, tOr, tB, tAndV, tOrV, tNotV, tChain, tApp, LamX.tLam, tRevLN, rCatN, rInTN, rInLN, flatV, inV, List.all_cons, List.all_nil, List.any_cons, List.any_nil, Bool.and_self, Bool.and_true, if_true, Bool.false_eq_true, if_false, tMt, tFldN, tSto, HO.ins.injEq, lkh, List.drop_zero, List.drop_succ_cons, List.drop_nil, rListS, wipe, L2.start, List.map_cons, List.map_nil, List.length_cons, List.length_nil, List.replicate, List.cons_append, List.nil_append, List.append_nil, Nat.reduceAdd, Nat.reduceSub, Nat.zero_add, List.replicate_succ, List.replicate_zero, List.getElem?_cons_zero, List.getElem?_cons_succ, List.set_cons_zero, List.set_cons_succ, Option.some.injEq, V.int.injEq, V.bl.injEq, V.ref.injEq, V.str.injEq, V.ty.injEq, List.cons.injEq, HO.tup.injEq, HO.lst.injEq, and_true, true_and, and_assoc, exists_eq_left, exists_eq_left', exists_and_left, exists_eq', atI0, atI1, atI2, atI3, Int.cast_ofNat_Int, Int.reduceToNat, scal_ii, scal_in, scal_ni, scal_nn, scal_bb, scal_ss, scal_sn, scal_ns, scal_bn, scal_nb, ite_iff, decide_eq_true_eq, decide_eq_false_iff_not, Bool.not_eq_true', Classical.not_not, ne_eq, not_false_eq_true, not_true_eq_false, forall_const, true_implies, false_implies, imp_self, sizeLine_eq, Nat.reduceLeDiff, reduceCtorEq, decide_true, decide_false]
  refine ⟨_, hsc, fun c H1 n1 s1 h1 => fun a H2 n2 s2 h2 => ⟨⟨by decide, by decide, by decide⟩, ⟨by decide, by decide, by decide⟩, fun nm H3 n3 s3 h3 => ?_⟩⟩
  have hS2 : StA H2 a c := ⟨ne_of_none (show H1 c = _ from h1) n2 |>.symm, 0, ns, h2, s2 _ _ h1, hns⟩
  have W3 : Q6 K H3 a c nm := ⟨hS2.same s3, Tabs.ext (Tabs.ext (Tabs.ext hT s1) s2) s3, h3, (ne_of_none h2 n3).symm, (ne_of_none (s2 _ _ h1) n3).symm⟩
  clear hT h1 h2 s1 s2 n1 n2 hsc n3 s3 h3 hS2
  simp only [exists_and_left, spNum, tYes, calmS, rTupN, rIsB, LamX.tLam3, tSl, tPart, tNoPart, rSlTN, cx_K, Value.ref.injEq, HO.xd.injEq, lk0, tSeq, tPar3, tPar, tCons, tNil, tVar, tC, tAsg, gName, gCons, gNil, gTupN, gSub, tOp, rI, rI0, rU, tTest, rNe, rEq, rIxTN, rIxLN, rLenL, rLenT, rIntI, rIntB, rAbs, rSetLN, tTruL, tRaiseX, rIsTy, rIsOw, ixN0, ixN1, tRet, tIf, tIfS, tNext, tBreak, tCont, tDrop, tTupN, tLstN, tUn, tCB, tCall, tNot, tAnd, tOr, tB, tAndV, tOrV, tNotV, tChain, tApp, LamX.tLam, tRevLN, rCatN, rInTN, rInLN, flatV, inV, List.all_cons, List.all_nil, List.any_cons, List.any_nil, Bool.and_self, Bool.and_true, if_true, Bool.false_eq_true, if_false, tMt, tFldN, tSto, HO.ins.injEq, lkh, List.drop_zero, List.drop_succ_cons, List.drop_nil, rListS, wipe, L2.start, List.map_cons, List.map_nil, List.length_cons, List.length_nil, List.replicate, List.cons_append, List.nil_append, List.append_nil, Nat.reduceAdd, Nat.reduceSub, Nat.zero_add, List.replicate_succ, List.replicate_zero, List.getElem?_cons_zero, List.getElem?_cons_succ, List.set_cons_zero, List.set_cons_succ, Option.some.injEq, V.int.injEq, V.bl.injEq, V.ref.injEq, V.str.injEq, V.ty.injEq, List.cons.injEq, HO.tup.injEq, HO.lst.injEq, and_true, true_and, and_assoc, exists_eq_left, exists_eq_left', exists_and_left, exists_eq', atI0, atI1, atI2, atI3, Int.cast_ofNat_Int, Int.reduceToNat, scal_ii, scal_in, scal_ni, scal_nn, scal_bb, scal_ss, scal_sn, scal_ns, scal_bn, scal_nb, ite_iff, decide_eq_true_eq, decide_eq_false_iff_not, Bool.not_eq_true', Classical.not_not, ne_eq, not_false_eq_true, not_true_eq_false, forall_const, true_implies, false_implies, imp_self, sizeLine_eq, Nat.reduceLeDiff, reduceCtorEq, decide_true, decide_false]
  refine ⟨c, W3.hS, by decide, by decide, fun A H4 bA hS4 t4 => ⟨c, hS4, by decide, by decide, fun B H5 bB hS5 t5 => ?_⟩⟩
  have W5 := (W3.stp hS4 t4).stp hS5 t5
  clear W3 hS4 t4 hS5 t5
  intro u6 H6 _ s6 h6
  have W6 := W5.same s6
  simp only [exists_and_left, h6, spEnds, tYes, calmS, rTupN, rIsB, LamX.tLam3, tSl, tPart, tNoPart, rSlTN, cx_K, Value.ref.injEq, HO.xd.injEq, lk0, tSeq, tPar3, tPar, tCons, tNil, tVar, tC, tAsg, gName, gCons, gNil, gTupN, gSub, tOp, rI, rI0, rU, tTest, rNe, rEq, rIxTN, rIxLN, rLenL, rLenT, rIntI, rIntB, rAbs, rSetLN, tTruL, tRaiseX, rIsTy, rIsOw, ixN0, ixN1, tRet, tIf, tIfS, tNext, tBreak, tCont, tDrop, tTupN, tLstN, tUn, tCB, tCall, tNot, tAnd, tOr, tB, tAndV, tOrV, tNotV, tChain, tApp, LamX.tLam, tRevLN, rCatN, rInTN, rInLN, flatV, inV, List.all_cons, List.all_nil, List.any_cons, List.any_nil, Bool.and_self, Bool.and_true, if_true, Bool.false_eq_true, if_false, tMt, tFldN, tSto, HO.ins.injEq, lkh, List.drop_zero, List.drop_succ_cons, List.drop_nil, rListS, wipe, L2.start, List.map_cons, List.map_nil, List.length_cons, List.length_nil, List.replicate, List.cons_append, List.nil_append, List.append_nil, Nat.reduceAdd, Nat.reduceSub, Nat.zero_add, List.replicate_succ, List.replicate_zero, List.getElem?_cons_zero, List.getElem?_cons_succ, List.set_cons_zero, List.set_cons_succ, Option.some.injEq, V.int.injEq, V.bl.injEq, V.ref.injEq, V.str.injEq, V.ty.injEq, List.cons.injEq, HO.tup.injEq, HO.lst.injEq, and_true, true_and, and_assoc, exists_eq_left, exists_eq_left', exists_and_left, exists_eq', atI0, atI1, atI2, atI3, Int.cast_ofNat_Int, Int.reduceToNat, scal_ii, scal_in, scal_ni, scal_nn, scal_bb, scal_ss, scal_sn, scal_ns, scal_bn, scal_nb, ite_iff, decide_eq_true_eq, decide_eq_false_iff_not, Bool.not_eq_true', Classical.not_not, ne_eq, not_false_eq_true, not_true_eq_false, forall_const, true_implies, false_implies, imp_self, sizeLine_eq, Nat.reduceLeDiff, reduceCtorEq, decide_true, decide_false]
  refine ⟨c, W6.hS, fun p lo hi H7 ho blo bhi hS7 t7 hp7 => ?_⟩
  have W7 := W6.stp hS7 t7
  clear W5 s6 h6 W6 hS7 t7
  simp only [exists_and_left, hp7, spSt, wh_ov, tYes, calmS, rTupN, rIsB, LamX.tLam3, tSl, tPart, tNoPart, rSlTN, cx_K, Value.ref.injEq, HO.xd.injEq, lk0, tSeq, tPar3, tPar, tCons, tNil, tVar, tC, tAsg, gName, gCons, gNil, gTupN, gSub, tOp, rI, rI0, rU, tTest, rNe, rEq, rIxTN, rIxLN, rLenL, rLenT, rIntI, rIntB, rAbs, rSetLN, tTruL, tRaiseX, rIsTy, rIsOw, ixN0, ixN1, tRet, tIf, tIfS, tNext, tBreak, tCont, tDrop, tTupN, tLstN, tUn, tCB, tCall, tNot, tAnd, tOr, tB, tAndV, tOrV, tNotV, tChain, tApp, LamX.tLam, tRevLN, rCatN, rInTN, rInLN, flatV, inV, List.all_cons, List.all_nil, List.any_cons, List.any_nil, Bool.and_self, Bool.and_true, if_true, Bool.false_eq_true, if_false, tMt, tFldN, tSto, HO.ins.injEq, lkh, List.drop_zero, List.drop_succ_cons, List.drop_nil, rListS, wipe, L2.start, List.map_cons, List.map_nil, List.length_cons, List.length_nil, List.replicate, List.cons_append, List.nil_append, List.append_nil, Nat.reduceAdd, Nat.reduceSub, Nat.zero_add, List.replicate_succ, List.replicate_zero, List.getElem?_cons_zero, List.getElem?_cons_succ, List.set_cons_zero, List.set_cons_succ, Option.some.injEq, V.int.injEq, V.bl.injEq, V.ref.injEq, V.str.injEq, V.ty.injEq, List.cons.injEq, HO.tup.injEq, HO.lst.injEq, and_true, true_and, and_assoc, exists_eq_left, exists_eq_left', exists_and_left, exists_eq', atI0, atI1, atI2, atI3, Int.cast_ofNat_Int, Int.reduceToNat, scal_ii, scal_in, scal_ni, scal_nn, scal_bb, scal_ss, scal_sn, scal_ns, scal_bn, scal_nb, ite_iff, decide_eq_true_eq, decide_eq_false_iff_not, Bool.not_eq_true', Classical.not_not, ne_eq, not_false_eq_true, not_true_eq_false, forall_const, true_implies, false_implies, imp_self, sizeLine_eq, Nat.reduceLeDiff, reduceCtorEq, decide_true, decide_false]
  refine ⟨fun _ => fun st dx H8 _ s8 hst => ?_, fun e => by rw [okS_ov.mpr ho] at e; cases e⟩
  have W8 := W7.same s8
  have hp8 := s8 _ _ hp7
  clear W7 s8 hp7
  refine ⟨fun σ' H' => σ' = [some (V.ref sc), some (V.ref a), some (V.ref nm), some (V.ref st), none, none, some (V.int A), some (V.int B), none, none, none, none, some (V.ref p), none] ∧ Q6 K H' a c nm, ?_, ?_⟩
  · simp only [exists_and_left, tYes, calmS, rTupN, rIsB, LamX.tLam3, tSl, tPart, tNoPart, rSlTN, cx_K, Value.ref.injEq, HO.xd.injEq, lk0, tSeq, tPar3, tPar, tCons, tNil, tVar, tC, tAsg, gName, gCons, gNil, gTupN, gSub, tOp, rI, rI0, rU, tTest, rNe, rEq, rIxTN, rIxLN, rLenL, rLenT, rIntI, rIntB, rAbs, rSetLN, tTruL, tRaiseX, rIsTy, rIsOw, ixN0, ixN1, tRet, tIf, tIfS, tNext, tBreak, tCont, tDrop, tTupN, tLstN, tUn, tCB, tCall, tNot, tAnd, tOr, tB, tAndV, tOrV, tNotV, tChain, tApp, LamX.tLam, tRevLN, rCatN, rInTN, rInLN, flatV, inV, List.all_cons, List.all_nil, List.any_cons, List.any_nil, Bool.and_self, Bool.and_true, if_true, Bool.false_eq_true, if_false, tMt, tFldN, tSto, HO.ins.injEq, lkh, List.drop_zero, List.drop_succ_cons, List.drop_nil, rListS, wipe, L2.start, List.map_cons, List.map_nil, List.length_cons, List.length_nil, List.replicate, List.cons_append, List.nil_append, List.append_nil, Nat.reduceAdd, Nat.reduceSub, Nat.zero_add, List.replicate_succ, List.replicate_zero, List.getElem?_cons_zero, List.getElem?_cons_succ, List.set_cons_zero, List.set_cons_succ, Option.some.injEq, V.int.injEq, V.bl.injEq, V.ref.injEq, V.str.injEq, V.ty.injEq, List.cons.injEq, HO.tup.injEq, HO.lst.injEq, and_true, true_and, and_assoc, exists_eq_left, exists_eq_left', exists_and_left, exists_eq', atI0, atI1, atI2, atI3, Int.cast_ofNat_Int, Int.reduceToNat, scal_ii, scal_in, scal_ni, scal_nn, scal_bb, scal_ss, scal_sn, scal_ns, scal_bn, scal_nb, ite_iff, decide_eq_true_eq, decide_eq_false_iff_not, Bool.not_eq_true', Classical.not_not, ne_eq, not_false_eq_true, not_true_eq_false, forall_const, true_implies, false_implies, imp_self, sizeLine_eq, Nat.reduceLeDiff, reduceCtorEq, decide_true, decide_false]
    refine ⟨_, _, _, rfl, wh_int, fun h => (by cases h), fun _ => ⟨wh_int, fun h => (by cases h), fun _ => .inr ⟨st, dx, lo, hi, rfl, hst, ho, fun a' b' ea eb => ?_⟩⟩⟩
    cases ea
    cases eb
    refine ⟨pow_small bB (by decide), trivial, fun v1 H9 s9 hv => ⟨(W8.same s9).hT, fun H10 c' e10 hT10 hc' => ⟨hc', ?_⟩⟩⟩
    have W10 := (W8.same s9).ext hT10 e10
    have hp10 := extT e10 (s9 _ _ hp8)
    refine row_of W10 (hv.ext e10) (bnd_in (pow_small bA (by decide)) (bndO_up blo (by decide)) (bndO_up bhi (by decide))) (fun n H11 Q1 s11 bn hq => ?_) (fun H11 s11 => ⟨_, rfl, fun h => (by cases h), fun _ => W10.same s11⟩)
    intro l12 H12 _ s12 h12
    refine ⟨n, rfl, wide_mul bB bn (by decide) (by decide) (by decide), l12, _, [(lo, hi)], rfl, ⟨_, h12, .cons (s12 _ _ (s11 _ _ hp10)) .nil⟩, ?_⟩
    have := hq H12 s12
    rw [fhas_in] at this
    rw [has_one]
    exact this
  clear W8 hp8 hst
  rintro _ H8 ⟨rfl, W8⟩
  simp only [exists_and_left, spNum, spDraw, tYes, calmS, rTupN, rIsB, LamX.tLam3, tSl, tPart, tNoPart, rSlTN, cx_K, Value.ref.injEq, HO.xd.injEq, lk0, tSeq, tPar3, tPar, tCons, tNil, tVar, tC, tAsg, gName, gCons, gNil, gTupN, gSub, tOp, rI, rI0, rU, tTest, rNe, rEq, rIxTN, rIxLN, rLenL, rLenT, rIntI, rIntB, rAbs, rSetLN, tTruL, tRaiseX, rIsTy, rIsOw, ixN0, ixN1, tRet, tIf, tIfS, tNext, tBreak, tCont, tDrop, tTupN, tLstN, tUn, tCB, tCall, tNot, tAnd, tOr, tB, tAndV, tOrV, tNotV, tChain, tApp, LamX.tLam, tRevLN, rCatN, rInTN, rInLN, flatV, inV, List.all_cons, List.all_nil, List.any_cons, List.any_nil, Bool.and_self, Bool.and_true, if_true, Bool.false_eq_true, if_false, tMt, tFldN, tSto, HO.ins.injEq, lkh, List.drop_zero, List.drop_succ_cons, List.drop_nil, rListS, wipe, L2.start, List.map_cons, List.map_nil, List.length_cons, List.length_nil, List.replicate, List.cons_append, List.nil_append, List.append_nil, Nat.reduceAdd, Nat.reduceSub, Nat.zero_add, List.replicate_succ, List.replicate_zero, List.getElem?_cons_zero, List.getElem?_cons_succ, List.set_cons_zero, List.set_cons_succ, Option.some.injEq, V.int.injEq, V.bl.injEq, V.ref.injEq, V.str.injEq, V.ty.injEq, List.cons.injEq, HO.tup.injEq, HO.lst.injEq, and_true, true_and, and_assoc, exists_eq_left, exists_eq_left', exists_and_left, exists_eq', atI0, atI1, atI2, atI3, Int.cast_ofNat_Int, Int.reduceToNat, scal_ii, scal_in, scal_ni, scal_nn, scal_bb, scal_ss, scal_sn, scal_ns, scal_bn, scal_nb, ite_iff, decide_eq_true_eq, decide_eq_false_iff_not, Bool.not_eq_true', Classical.not_not, ne_eq, not_false_eq_true, not_true_eq_false, forall_const, true_implies, false_implies, imp_self, sizeLine_eq, Nat.reduceLeDiff, reduceCtorEq, decide_true, decide_false]
  refine ⟨c, W8.hS, by decide, by decide, fun X9 H9 b9 hS9 t9 => ⟨wide_mul bB b9 (by decide) (by decide) (by decide), c, hS9, by decide, by decide, fun Y9 H10 b10 hS10 t10 => ?_⟩⟩
  have W10 := (W8.stp hS9 t9).stp hS10 t10
  intro u11 H11 _ s11 h11
  have W11 := W10.same s11
  refine ⟨c, W11.hS, by decide, by decide, fun d H12 d0 d1 hS12 t12 => ?_⟩
  have W12 := W11.stp hS12 t12
  have hz : ∃ z : Int, atI [V.int (A + B * X9), .int Y9] d = some (.int z) := by
    have : d = 0 ∨ d = 1 := by omega
    rcases this with rfl | rfl
    · exact ⟨_, atI0⟩
    · exact ⟨_, atI1⟩
  obtain ⟨z, hz⟩ := hz
  have bz : z.natAbs + 1 < 2 ^ 197 := by
    have e : z = A + B * X9 ∨ z = Y9 := by
      have : d = 0 ∨ d = 1 := by omega
      rcases this with rfl | rfl
      · rw [atI0] at hz; cases hz; exact .inl rfl
      · rw [atI1] at hz; cases hz; exact .inr rfl
    rcases e with rfl | rfl
    · have h1 : (B * X9).natAbs < 2 ^ 196 := by
        rw [Int.natAbs_mul]
        calc B.natAbs * X9.natAbs ≤ B.natAbs * 2 ^ 98 := Nat.mul_le_mul_left _ (Nat.le_of_lt b9)
          _ < 2 ^ 98 * 2 ^ 98 := Nat.mul_lt_mul_of_pos_right bB (by decide)
          _ = 2 ^ 196 := by decide +kernel
      omega
    · omega
  refine ⟨u11, rfl, _, t12.nl W11.hS h11 (fun _ z => by cases z), .int z, hz, ?_⟩
  clear W8 hS9 t9 hS10 t10 W10 s11 h11 W11 hS12 t12 hz
  refine ⟨fun σ' H' => σ' = [some (V.ref sc), some (V.ref a), some (V.ref nm), some (V.ref st), none, none, some (V.int A), some (V.int B), none, none, none, some (V.int z), some (V.ref p), none] ∧ Q6 K H' a c nm, ?_, ?_⟩
  · simp only [exists_and_left, tYes, calmS, rTupN, rIsB, LamX.tLam3, tSl, tPart, tNoPart, rSlTN, cx_K, Value.ref.injEq, HO.xd.injEq, lk0, tSeq, tPar3, tPar, tCons, tNil, tVar, tC, tAsg, gName, gCons, gNil, gTupN, gSub, tOp, rI, rI0, rU, tTest, rNe, rEq, rIxTN, rIxLN, rLenL, rLenT, rIntI, rIntB, rAbs, rSetLN, tTruL, tRaiseX, rIsTy, rIsOw, ixN0, ixN1, tRet, tIf, tIfS, tNext, tBreak, tCont, tDrop, tTupN, tLstN, tUn, tCB, tCall, tNot, tAnd, tOr, tB, tAndV, tOrV, tNotV, tChain, tApp, LamX.tLam, tRevLN, rCatN, rInTN, rInLN, flatV, inV, List.all_cons, List.all_nil, List.any_cons, List.any_nil, Bool.and_self, Bool.and_true, if_true, Bool.false_eq_true, if_false, tMt, tFldN, tSto, HO.ins.injEq, lkh, List.drop_zero, List.drop_succ_cons, List.drop_nil, rListS, wipe, L2.start, List.map_cons, List.map_nil, List.length_cons, List.length_nil, List.replicate, List.cons_append, List.nil_append, List.append_nil, Nat.reduceAdd, Nat.reduceSub, Nat.zero_add, List.replicate_succ, List.replicate_zero, List.getElem?_cons_zero, List.getElem?_cons_succ, List.set_cons_zero, List.set_cons_succ, Option.some.injEq, V.int.injEq, V.bl.injEq, V.ref.injEq, V.str.injEq, V.ty.injEq, List.cons.injEq, HO.tup.injEq, HO.lst.injEq, and_true, true_and, and_assoc, exists_eq_left, exists_eq_left', exists_and_left, exists_eq', atI0, atI1, atI2, atI3, Int.cast_ofNat_Int, Int.reduceToNat, scal_ii, scal_in, scal_ni, scal_nn, scal_bb, scal_ss, scal_sn, scal_ns, scal_bn, scal_nb, ite_iff, decide_eq_true_eq, decide_eq_false_iff_not, Bool.not_eq_true', Classical.not_not, ne_eq, not_false_eq_true, not_true_eq_false, forall_const, true_implies, false_implies, imp_self, sizeLine_eq, Nat.reduceLeDiff, reduceCtorEq, decide_true, decide_false]
    refine ⟨_, _, _, rfl, wh_int, fun h => (by cases h), fun _ => ⟨wh_int, fun h => (by cases h), fun _ => ⟨wh_int, fun h => (by cases h), fun a' b' n' ea eb en => ?_⟩⟩⟩
    cases ea
    cases eb
    cases en
    refine ⟨pow_small bB (by decide), fun v1 H13 s13 hv => ⟨(W12.same s13).hT, fun H14 c' e14 hT14 hc' => ⟨hc', ?_⟩⟩⟩
    have W14 := (W12.same s13).ext hT14 e14
    refine row_of W14 (hv.ext e14) (bnd_in (pow_small bA (by decide)) (show z.natAbs < 2 ^ 197 by omega) (show (z + 1).natAbs < 2 ^ 197 by omega)) (fun n H15 Q1 s15 bn hq => ?_) (fun H15 s15 => ⟨_, rfl, fun h => (by cases h), fun _ => W14.same s15⟩)
    refine ⟨n, rfl, wide_mul bB bn (by decide) (by decide) (by decide), ?_⟩
    have := hq H15 (fun _ _ h => h)
    rw [fhas_in, in_one] at this
    exact this
  clear W12
  rintro _ H12 ⟨rfl, W12⟩
  simp only [exists_and_left, spNum, tYes, calmS, rTupN, rIsB, LamX.tLam3, tSl, tPart, tNoPart, rSlTN, cx_K, Value.ref.injEq, HO.xd.injEq, lk0, tSeq, tPar3, tPar, tCons, tNil, tVar, tC, tAsg, gName, gCons, gNil, gTupN, gSub, tOp, rI, rI0, rU, tTest, rNe, rEq, rIxTN, rIxLN, rLenL, rLenT, rIntI, rIntB, rAbs, rSetLN, tTruL, tRaiseX, rIsTy, rIsOw, ixN0, ixN1, tRet, tIf, tIfS, tNext, tBreak, tCont, tDrop, tTupN, tLstN, tUn, tCB, tCall, tNot, tAnd, tOr, tB, tAndV, tOrV, tNotV, tChain, tApp, LamX.tLam, tRevLN, rCatN, rInTN, rInLN, flatV, inV, List.all_cons, List.all_nil, List.any_cons, List.any_nil, Bool.and_self, Bool.and_true, if_true, Bool.false_eq_true, if_false, tMt, tFldN, tSto, HO.ins.injEq, lkh, List.drop_zero, List.drop_succ_cons, List.drop_nil, rListS, wipe, L2.start, List.map_cons, List.map_nil, List.length_cons, List.length_nil, List.replicate, List.cons_append, List.nil_append, List.append_nil, Nat.reduceAdd, Nat.reduceSub, Nat.zero_add, List.replicate_succ, List.replicate_zero, List.getElem?_cons_zero, List.getElem?_cons_succ, List.set_cons_zero, List.set_cons_succ, Option.some.injEq, V.int.injEq, V.bl.injEq, V.ref.injEq, V.str.injEq, V.ty.injEq, List.cons.injEq, HO.tup.injEq, HO.lst.injEq, and_true, true_and, and_assoc, exists_eq_left, exists_eq_left', exists_and_left, exists_eq', atI0, atI1, atI2, atI3, Int.cast_ofNat_Int, Int.reduceToNat, scal_ii, scal_in, scal_ni, scal_nn, scal_bb, scal_ss, scal_sn, scal_ns, scal_bn, scal_nb, ite_iff, decide_eq_true_eq, decide_eq_false_iff_not, Bool.not_eq_true', Classical.not_not, ne_eq, not_false_eq_true, not_true_eq_false, forall_const, true_implies, false_implies, imp_self, sizeLine_eq, Nat.reduceLeDiff, reduceCtorEq, decide_true, decide_false]
  refine ⟨c, W12.hS, by decide, by decide, fun C2 H13 bC hS13 t13 => fun cl H14 _ s14 hcl => ?_⟩
  have W14 := (W12.stp hS13 t13).same s14
  refine ⟨c, W14.hS, by decide, by decide, fun S2 H15 bS hS15 t15 => fun sl H16 _ s16 hsl => ?_⟩
  have W16 := (W14.stp hS15 t15).same s16
  have hcl16 := s16 _ _ (t15.nl W14.hS hcl (fun _ z => by cases z))
  intro u17 H17 _ s17 h17
  have W17 := W16.same s17
  have hcl17 : P2 H17 cl A C2 := s17 _ _ hcl16
  have hsl17 : P2 H17 sl B S2 := s17 _ _ hsl
  clear W12 hS13 t13 s14 hcl W14 hS15 t15 s16 hsl hcl16 W16 s17
  refine ⟨u17, rfl, _, h17, rfl, _, _, rfl, _, _, rfl, rfl, ?_⟩
  refine ⟨a, c, rfl, W17.hS, fun bx x0 x1 y0 y1 H18 ox oy bx0 bx1 by0 by1 hS18 t18 hbx => ?_⟩
  have W18 := W17.stp hS18 t18
  have hc18 : P2 H18 cl A C2 := t18.nl W17.hS hcl17 (fun _ z => by cases z)
  have hs18 : P2 H18 sl B S2 := t18.nl W17.hS hsl17 (fun _ z => by cases z)
  clear W17 hcl17 hsl17 h17 hS18 t18
  simp only [exists_and_left, tYes, calmS, rTupN, rIsB, LamX.tLam3, tSl, tPart, tNoPart, rSlTN, cx_K, Value.ref.injEq, HO.xd.injEq, lk0, tSeq, tPar3, tPar, tCons, tNil, tVar, tC, tAsg, gName, gCons, gNil, gTupN, gSub, tOp, rI, rI0, rU, tTest, rNe, rEq, rIxTN, rIxLN, rLenL, rLenT, rIntI, rIntB, rAbs, rSetLN, tTruL, tRaiseX, rIsTy, rIsOw, ixN0, ixN1, tRet, tIf, tIfS, tNext, tBreak, tCont, tDrop, tTupN, tLstN, tUn, tCB, tCall, tNot, tAnd, tOr, tB, tAndV, tOrV, tNotV, tChain, tApp, LamX.tLam, tRevLN, rCatN, rInTN, rInLN, flatV, inV, List.all_cons, List.all_nil, List.any_cons, List.any_nil, Bool.and_self, Bool.and_true, if_true, Bool.false_eq_true, if_false, tMt, tFldN, tSto, HO.ins.injEq, lkh, List.drop_zero, List.drop_succ_cons, List.drop_nil, rListS, wipe, L2.start, List.map_cons, List.map_nil, List.length_cons, List.length_nil, List.replicate, List.cons_append, List.nil_append, List.append_nil, Nat.reduceAdd, Nat.reduceSub, Nat.zero_add, List.replicate_succ, List.replicate_zero, List.getElem?_cons_zero, List.getElem?_cons_succ, List.set_cons_zero, List.set_cons_succ, Option.some.injEq, V.int.injEq, V.bl.injEq, V.ref.injEq, V.str.injEq, V.ty.injEq, List.cons.injEq, HO.tup.injEq, HO.lst.injEq, and_true, true_and, and_assoc, exists_eq_left, exists_eq_left', exists_and_left, exists_eq', atI0, atI1, atI2, atI3, Int.cast_ofNat_Int, Int.reduceToNat, scal_ii, scal_in, scal_ni, scal_nn, scal_bb, scal_ss, scal_sn, scal_ns, scal_bn, scal_nb, ite_iff, decide_eq_true_eq, decide_eq_false_iff_not, Bool.not_eq_true', Classical.not_not, ne_eq, not_false_eq_true, not_true_eq_false, forall_const, true_implies, false_implies, imp_self, sizeLine_eq, Nat.reduceLeDiff, reduceCtorEq, decide_true, decide_false]
  refine ⟨fun σ' H' => σ' = [some (V.ref sc), some (V.ref a), some (V.ref nm), some (V.ref st), none, none, some (V.int A), some (V.int B), some (V.ref bx), some (V.ref cl), none, some (V.int z), some (V.ref p), some (V.ref sl)] ∧ Q6 K H' a c nm ∧ P2 H' cl A C2 ∧ P2 H' sl B S2 ∧ H' bx = some (.tup [ov x0, ov x1, ov y0, ov y1]), ?_, ?_⟩
  · simp only [exists_and_left, tYes, calmS, rTupN, rIsB, LamX.tLam3, tSl, tPart, tNoPart, rSlTN, cx_K, Value.ref.injEq, HO.xd.injEq, lk0, tSeq, tPar3, tPar, tCons, tNil, tVar, tC, tAsg, gName, gCons, gNil, gTupN, gSub, tOp, rI, rI0, rU, tTest, rNe, rEq, rIxTN, rIxLN, rLenL, rLenT, rIntI, rIntB, rAbs, rSetLN, tTruL, tRaiseX, rIsTy, rIsOw, ixN0, ixN1, tRet, tIf, tIfS, tNext, tBreak, tCont, tDrop, tTupN, tLstN, tUn, tCB, tCall, tNot, tAnd, tOr, tB, tAndV, tOrV, tNotV, tChain, tApp, LamX.tLam, tRevLN, rCatN, rInTN, rInLN, flatV, inV, List.all_cons, List.all_nil, List.any_cons, List.any_nil, Bool.and_self, Bool.and_true, if_true, Bool.false_eq_true, if_false, tMt, tFldN, tSto, HO.ins.injEq, lkh, List.drop_zero, List.drop_succ_cons, List.drop_nil, rListS, wipe, L2.start, List.map_cons, List.map_nil, List.length_cons, List.length_nil, List.replicate, List.cons_append, List.nil_append, List.append_nil, Nat.reduceAdd, Nat.reduceSub, Nat.zero_add, List.replicate_succ, List.replicate_zero, List.getElem?_cons_zero, List.getElem?_cons_succ, List.set_cons_zero, List.set_cons_succ, Option.some.injEq, V.int.injEq, V.bl.injEq, V.ref.injEq, V.str.injEq, V.ty.injEq, List.cons.injEq, HO.tup.injEq, HO.lst.injEq, and_true, true_and, and_assoc, exists_eq_left, exists_eq_left', exists_and_left, exists_eq', atI0, atI1, atI2, atI3, Int.cast_ofNat_Int, Int.reduceToNat, scal_ii, scal_in, scal_ni, scal_nn, scal_bb, scal_ss, scal_sn, scal_ns, scal_bn, scal_nb, ite_iff, decide_eq_true_eq, decide_eq_false_iff_not, Bool.not_eq_true', Classical.not_not, ne_eq, not_false_eq_true, not_true_eq_false, forall_const, true_implies, false_implies, imp_self, sizeLine_eq, Nat.reduceLeDiff, reduceCtorEq, decide_true, decide_false]
    refine ⟨_, _, _, rfl, P2.k hc18, fun h => (by rw [pairV_of hc18] at h; cases h), fun _ => ⟨P2.k hs18, fun h => (by rw [pairV_of hs18] at h; cases h), fun _ => ⟨.tup hbx ?_, fun h => ?_, fun c1 c2 s1 s2 p' z0 z1 u0 u1 ec es ex hx oz ou => ?_⟩⟩⟩
    · intro q hq
      simp only [List.mem_cons, List.not_mem_nil, or_false] at hq
      rcases hq with rfl | rfl | rfl | rfl <;> exact wh_ov
    · have e : boxV H18 (.ref bx) = true := by simp only [boxV, hbx, boxL, okS_ov.mpr ox, okS_ov.mpr oy, Bool.and_self]
      rw [e] at h; cases h
    rw [pairV_of hc18] at ec
    rw [pairV_of hs18] at es
    cases ec
    cases es
    cases ex
    rw [hbx] at hx
    simp only [Option.some.injEq, HO.tup.injEq, List.cons.injEq, and_true] at hx
    obtain rfl := ov_inj hx.1
    obtain rfl := ov_inj hx.2.1
    obtain rfl := ov_inj hx.2.2.1
    obtain rfl := ov_inj hx.2.2.2
    refine ⟨pow_small bB (by decide), pow_small bS (by decide), fun v1 H19 s19 hv => ⟨(W18.same s19).hT, fun H20 c' e20 hT20 hc' => ⟨hc', ?_⟩⟩⟩
    have W20 := (W18.same s19).ext hT20 e20
    have hc20 : P2 H20 cl A C2 := extT e20 (s19 _ _ hc18)
    have hs20 : P2 H20 sl B S2 := extT e20 (s19 _ _ hs18)
    have hb20 := extT e20 (s19 _ _ hbx)
    refine row_of W20 (hv.ext e20) (bnd_both (bnd_in (pow_small bA (by decide)) (bndO_up bx0 (by decide)) (bndO_up bx1 (by decide))) (bnd_in (pow_small bC (by decide)) (bndO_up by0 (by decide)) (bndO_up by1 (by decide)))) (fun n H21 Q1 s21 bn hq => ?_) (fun H21 s21 => ⟨_, rfl, fun h => (by cases h), fun _ => ⟨W20.same s21, s21 _ _ hc20, s21 _ _ hs20, s21 _ _ hb20⟩⟩)
    refine ⟨cl, sl, n, rfl, A, C2, B, S2, s21 _ _ hc20, s21 _ _ hs20, pow_small bB (by decide), pow_small bS (by decide), pow_small bn (by decide), fun q H22 s22 hq22 => ⟨bx, q, rfl, _, _, _, _, _, _, s22 _ _ (s21 _ _ hb20), hq22, fun H23 s23 => ?_⟩⟩
    have := hq H23 (s22.trans s23)
    rw [fhas_both, fhas_in, fhas_in] at this
    exact this
  clear W18 hc18 hs18 hbx
  rintro _ H18 ⟨rfl, W18, hc18, hs18, hbx⟩
  simp only [exists_and_left, spNum, tYes, calmS, rTupN, rIsB, LamX.tLam3, tSl, tPart, tNoPart, rSlTN, cx_K, Value.ref.injEq, HO.xd.injEq, lk0, tSeq, tPar3, tPar, tCons, tNil, tVar, tC, tAsg, gName, gCons, gNil, gTupN, gSub, tOp, rI, rI0, rU, tTest, rNe, rEq, rIxTN, rIxLN, rLenL, rLenT, rIntI, rIntB, rAbs, rSetLN, tTruL, tRaiseX, rIsTy, rIsOw, ixN0, ixN1, tRet, tIf, tIfS, tNext, tBreak, tCont, tDrop, tTupN, tLstN, tUn, tCB, tCall, tNot, tAnd, tOr, tB, tAndV, tOrV, tNotV, tChain, tApp, LamX.tLam, tRevLN, rCatN, rInTN, rInLN, flatV, inV, List.all_cons, List.all_nil, List.any_cons, List.any_nil, Bool.and_self, Bool.and_true, if_true, Bool.false_eq_true, if_false, tMt, tFldN, tSto, HO.ins.injEq, lkh, List.drop_zero, List.drop_succ_cons, List.drop_nil, rListS, wipe, L2.start, List.map_cons, List.map_nil, List.length_cons, List.length_nil, List.replicate, List.cons_append, List.nil_append, List.append_nil, Nat.reduceAdd, Nat.reduceSub, Nat.zero_add, List.replicate_succ, List.replicate_zero, List.getElem?_cons_zero, List.getElem?_cons_succ, List.set_cons_zero, List.set_cons_succ, Option.some.injEq, V.int.injEq, V.bl.injEq, V.ref.injEq, V.str.injEq, V.ty.injEq, List.cons.injEq, HO.tup.injEq, HO.lst.injEq, and_true, true_and, and_assoc, exists_eq_left, exists_eq_left', exists_and_left, exists_eq', atI0, atI1, atI2, atI3, Int.cast_ofNat_Int, Int.reduceToNat, scal_ii, scal_in, scal_ni, scal_nn, scal_bb, scal_ss, scal_sn, scal_ns, scal_bn, scal_nb, ite_iff, decide_eq_true_eq, decide_eq_false_iff_not, Bool.not_eq_true', Classical.not_not, ne_eq, not_false_eq_true, not_true_eq_false, forall_const, true_implies, false_implies, imp_self, sizeLine_eq, Nat.reduceLeDiff, reduceCtorEq, decide_true, decide_false]
  refine ⟨c, W18.hS, by decide, by decide, fun F H19 bF hS19 t19 => ?_⟩
  have W19 := W18.stp hS19 t19
  have hc19 : H19 cl = some (.tup [.int A, .int C2]) := t19.nl W18.hS hc18 (fun _ z => by cases z)
  have hs19 : H19 sl = some (.tup [.int B, .int S2]) := t19.nl W18.hS hs18 (fun _ z => by cases z)
  have hb19 := t19.nl W18.hS hbx (fun _ z => by cases z)
  clear W18 hc18 hs18 hbx hS19 t19
  simp only [hc19, hs19, exists_and_left, spDraw, tYes, calmS, rTupN, rIsB, LamX.tLam3, tSl, tPart, tNoPart, rSlTN, cx_K, Value.ref.injEq, HO.xd.injEq, lk0, tSeq, tPar3, tPar, tCons, tNil, tVar, tC, tAsg, gName, gCons, gNil, gTupN, gSub, tOp, rI, rI0, rU, tTest, rNe, rEq, rIxTN, rIxLN, rLenL, rLenT, rIntI, rIntB, rAbs, rSetLN, tTruL, tRaiseX, rIsTy, rIsOw, ixN0, ixN1, tRet, tIf, tIfS, tNext, tBreak, tCont, tDrop, tTupN, tLstN, tUn, tCB, tCall, tNot, tAnd, tOr, tB, tAndV, tOrV, tNotV, tChain, tApp, LamX.tLam, tRevLN, rCatN, rInTN, rInLN, flatV, inV, List.all_cons, List.all_nil, List.any_cons, List.any_nil, Bool.and_self, Bool.and_true, if_true, Bool.false_eq_true, if_false, tMt, tFldN, tSto, HO.ins.injEq, lkh, List.drop_zero, List.drop_succ_cons, List.drop_nil, rListS, wipe, L2.start, List.map_cons, List.map_nil, List.length_cons, List.length_nil, List.replicate, List.cons_append, List.nil_append, List.append_nil, Nat.reduceAdd, Nat.reduceSub, Nat.zero_add, List.replicate_succ, List.replicate_zero, List.getElem?_cons_zero, List.getElem?_cons_succ, List.set_cons_zero, List.set_cons_succ, Option.some.injEq, V.int.injEq, V.bl.injEq, V.ref.injEq, V.str.injEq, V.ty.injEq, List.cons.injEq, HO.tup.injEq, HO.lst.injEq, and_true, true_and, and_assoc, exists_eq_left, exists_eq_left', exists_and_left, exists_eq', atI0, atI1, atI2, atI3, Int.cast_ofNat_Int, Int.reduceToNat, scal_ii, scal_in, scal_ni, scal_nn, scal_bb, scal_ss, scal_sn, scal_ns, scal_bn, scal_nb, ite_iff, decide_eq_true_eq, decide_eq_false_iff_not, Bool.not_eq_true', Classical.not_not, ne_eq, not_false_eq_true, not_true_eq_false, forall_const, true_implies, false_implies, imp_self, sizeLine_eq, Nat.reduceLeDiff, reduceCtorEq, decide_true, decide_false]
  refine ⟨wide_mul bB bF (by decide) (by decide) (by decide), wide_mul bS bF (by decide) (by decide) (by decide), c, W19.hS, by decide, by decide, fun d H20 d0 d1 hS20 t20 => ?_⟩
  have W20 := W19.stp hS20 t20
  have hc20 : P2 H20 cl A C2 := t20.nl W19.hS hc19 (fun _ z => by cases z)
  have hs20 : P2 H20 sl B S2 := t20.nl W19.hS hs19 (fun _ z => by cases z)
  have hb20 := t20.nl W19.hS hb19 (fun _ z => by cases z)
  clear W19 hc19 hs19 hb19 hS20 t20
  generalize hg2 : C2 + S2 * F + (if d = 2 then 1 else 0) = g2
  generalize hg1 : A + B * F = g1
  have b1 : g1.natAbs + 1 < 2 ^ 197 := by
    have h1 : (B * F).natAbs < 2 ^ 196 := by
      rw [Int.natAbs_mul]
      calc B.natAbs * F.natAbs ≤ B.natAbs * 2 ^ 98 := Nat.mul_le_mul_left _ (Nat.le_of_lt bF)
        _ < 2 ^ 98 * 2 ^ 98 := Nat.mul_lt_mul_of_pos_right bB (by decide)
        _ = 2 ^ 196 := by decide +kernel
    omega
  have b2 : g2.natAbs + 1 < 2 ^ 197 := by
    have h1 : (S2 * F).natAbs < 2 ^ 196 := by
      rw [Int.natAbs_mul]
      calc S2.natAbs * F.natAbs ≤ S2.natAbs * 2 ^ 98 := Nat.mul_le_mul_left _ (Nat.le_of_lt bF)
        _ < 2 ^ 98 * 2 ^ 98 := Nat.mul_lt_mul_of_pos_right bS (by decide)
        _ = 2 ^ 196 := by decide +kernel
    split at hg2 <;> omega
  clear hg1 hg2 d0 d1
  intro gl H21 _ s21 hgl
  have W21 := W20.same s21
  have hc21 : P2 H21 cl A C2 := s21 _ _ hc20
  have hs21 : P2 H21 sl B S2 := s21 _ _ hs20
  have hb21 := s21 _ _ hb20
  have hgl : P2 H21 gl g1 g2 := hgl
  clear W20 hc20 hs20 hb20 s21
  refine ⟨_, _, _, rfl, P2.k hc21, fun h => (by rw [pairV_of hc21] at h; cases h), fun _ => ⟨P2.k hs21, fun h => (by rw [pairV_of hs21] at h; cases h), fun _ => ⟨P2.k hgl, fun h => (by rw [pairV_of hgl] at h; cases h), fun c1 c2 s1 s2 y1 y2 ec es eg => ?_⟩⟩⟩
  rw [pairV_of hc21] at ec
  rw [pairV_of hs21] at es
  rw [pairV_of hgl] at eg
  cases ec
  cases es
  cases eg
  refine ⟨pow_small bB (by decide), pow_small bS (by decide), fun v1 H22 s22 hv => ?_⟩
  refine ⟨fun σ' H' => σ' = [some (V.ref sc), some (V.ref a), some (V.ref nm), some (V.ref st), some (V.int F), some v1, some (V.int A), some (V.int B), some (V.ref bx), some (V.ref cl), some (V.ref gl), some (V.int z), some (V.ref p), some (V.ref sl)] ∧ Q6 K H' a c nm ∧ P2 H' cl A C2 ∧ P2 H' sl B S2 ∧ H' bx = some (.tup [ov x0, ov x1, ov y0, ov y1]), ?_, ?_⟩
  · simp only [exists_and_left, tYes, calmS, rTupN, rIsB, LamX.tLam3, tSl, tPart, tNoPart, rSlTN, cx_K, Value.ref.injEq, HO.xd.injEq, lk0, tSeq, tPar3, tPar, tCons, tNil, tVar, tC, tAsg, gName, gCons, gNil, gTupN, gSub, tOp, rI, rI0, rU, tTest, rNe, rEq, rIxTN, rIxLN, rLenL, rLenT, rIntI, rIntB, rAbs, rSetLN, tTruL, tRaiseX, rIsTy, rIsOw, ixN0, ixN1, tRet, tIf, tIfS, tNext, tBreak, tCont, tDrop, tTupN, tLstN, tUn, tCB, tCall, tNot, tAnd, tOr, tB, tAndV, tOrV, tNotV, tChain, tApp, LamX.tLam, tRevLN, rCatN, rInTN, rInLN, flatV, inV, List.all_cons, List.all_nil, List.any_cons, List.any_nil, Bool.and_self, Bool.and_true, if_true, Bool.false_eq_true, if_false, tMt, tFldN, tSto, HO.ins.injEq, lkh, List.drop_zero, List.drop_succ_cons, List.drop_nil, rListS, wipe, L2.start, List.map_cons, List.map_nil, List.length_cons, List.length_nil, List.replicate, List.cons_append, List.nil_append, List.append_nil, Nat.reduceAdd, Nat.reduceSub, Nat.zero_add, List.replicate_succ, List.replicate_zero, List.getElem?_cons_zero, List.getElem?_cons_succ, List.set_cons_zero, List.set_cons_succ, Option.some.injEq, V.int.injEq, V.bl.injEq, V.ref.injEq, V.str.injEq, V.ty.injEq, List.cons.injEq, HO.tup.injEq, HO.lst.injEq, and_true, true_and, and_assoc, exists_eq_left, exists_eq_left', exists_and_left, exists_eq', atI0, atI1, atI2, atI3, Int.cast_ofNat_Int, Int.reduceToNat, scal_ii, scal_in, scal_ni, scal_nn, scal_bb, scal_ss, scal_sn, scal_ns, scal_bn, scal_nb, ite_iff, decide_eq_true_eq, decide_eq_false_iff_not, Bool.not_eq_true', Classical.not_not, ne_eq, not_false_eq_true, not_true_eq_false, forall_const, true_implies, false_implies, imp_self, sizeLine_eq, Nat.reduceLeDiff, reduceCtorEq, decide_true, decide_false]
    refine ⟨(W21.same s22).hT, fun H23 c' e23 hT23 hc' => ?_⟩
    have W23 := (W21.same s22).ext hT23 e23
    have hc23 : P2 H23 cl A C2 := extT e23 (s22 _ _ hc21)
    have hs23 : P2 H23 sl B S2 := extT e23 (s22 _ _ hs21)
    have hb23 := extT e23 (s22 _ _ hb21)
    have hg23 : P2 H23 gl g1 g2 := extT e23 (s22 _ _ hgl)
    intro fl H24 _ s24 hfl
    have W24 := W23.same s24
    refine ⟨fl, rfl, _, W24.hN, _, hfl, (show (14 : Nat) + 1 ≤ 16777216 by decide), fun nl H25 _ s25 hnl => ⟨(s24.trans s25) _ _ hc', ?_⟩⟩
    have hv25 : SV K H25 v1 _ := (hv.ext e23).ext (extS (s24.trans s25))
    have W25 := W24.same s25
    refine ⟨_, hv25, bnd_both (bnd_in (pow_small bA (by decide)) (show g1.natAbs < 2 ^ 197 by omega) (show (g1 + 1).natAbs < 2 ^ 197 by omega)) (bnd_in (pow_small bC (by decide)) (show g2.natAbs < 2 ^ 197 by omega) (show (g2 + 1).natAbs < 2 ^ 197 by omega)), nl, NS ++ [F], rfl, ?_, by simp [NS], ?_, ?_, ?_⟩
    · rw [hnl, List.map_append]
      rfl
    · intro n hn
      rcases List.mem_append.mp hn with h | h
      · exact NS_b n h
      · rw [List.mem_singleton.mp h]
        exact pow_small bF (by decide)
    · intro n H26 Q1 s26 bn hq
      have s26' := (s24.trans s25).trans s26
      refine ⟨cl, sl, n, rfl, A, C2, B, S2, s26' _ _ hc23, s26' _ _ hs23, pow_small bB (by decide), pow_small bS (by decide), pow_small bn (by decide), fun q H27 s27 hq27 => ?_⟩
      refine eq_P2 hq27 ((s26'.trans s27) _ _ hg23) ?_
      have := hq H27 s27
      rw [fhas_both, fhas_in, fhas_in, in_one, in_one, ← Bool.decide_and] at this
      exact this
    · exact fun H26 s26 => ⟨_, rfl, fun h => (by cases h), fun _ => ⟨W25.same s26, ((s24.trans s25).trans s26) _ _ hc23, ((s24.trans s25).trans s26) _ _ hs23, ((s24.trans s25).trans s26) _ _ hb23⟩⟩
  clear W21 hc21 hs21 hb21 hgl hv s22
  rintro _ H22 ⟨rfl, W22, hc22, hs22, hb22⟩
  simp only [exists_and_left, tYes, calmS, rTupN, rIsB, LamX.tLam3, tSl, tPart, tNoPart, rSlTN, cx_K, Value.ref.injEq, HO.xd.injEq, lk0, tSeq, tPar3, tPar, tCons, tNil, tVar, tC, tAsg, gName, gCons, gNil, gTupN, gSub, tOp, rI, rI0, rU, tTest, rNe, rEq, rIxTN, rIxLN, rLenL, rLenT, rIntI, rIntB, rAbs, rSetLN, tTruL, tRaiseX, rIsTy, rIsOw, ixN0, ixN1, tRet, tIf, tIfS, tNext, tBreak, tCont, tDrop, tTupN, tLstN, tUn, tCB, tCall, tNot, tAnd, tOr, tB, tAndV, tOrV, tNotV, tChain, tApp, LamX.tLam, tRevLN, rCatN, rInTN, rInLN, flatV, inV, List.all_cons, List.all_nil, List.any_cons, List.any_nil, Bool.and_self, Bool.and_true, if_true, Bool.false_eq_true, if_false, tMt, tFldN, tSto, HO.ins.injEq, lkh, List.drop_zero, List.drop_succ_cons, List.drop_nil, rListS, wipe, L2.start, List.map_cons, List.map_nil, List.length_cons, List.length_nil, List.replicate, List.cons_append, List.nil_append, List.append_nil, Nat.reduceAdd, Nat.reduceSub, Nat.zero_add, List.replicate_succ, List.replicate_zero, List.getElem?_cons_zero, List.getElem?_cons_succ, List.set_cons_zero, List.set_cons_succ, Option.some.injEq, V.int.injEq, V.bl.injEq, V.ref.injEq, V.str.injEq, V.ty.injEq, List.cons.injEq, HO.tup.injEq, HO.lst.injEq, and_true, true_and, and_assoc, exists_eq_left, exists_eq_left', exists_and_left, exists_eq', atI0, atI1, atI2, atI3, Int.cast_ofNat_Int, Int.reduceToNat, scal_ii, scal_in, scal_ni, scal_nn, scal_bb, scal_ss, scal_sn, scal_ns, scal_bn, scal_nb, ite_iff, decide_eq_true_eq, decide_eq_false_iff_not, Bool.not_eq_true', Classical.not_not, ne_eq, not_false_eq_true, not_true_eq_false, forall_const, true_implies, false_implies, imp_self, sizeLine_eq, Nat.reduceLeDiff, reduceCtorEq, decide_true, decide_false]
  exact ⟨a, cl, sl, bx, rfl, c, A, C2, B, S2, x0, x1, y0, y1, ⟨W22.hS, W22.hT, hc22, hs22, hb22⟩, k⟩

end
end Iz
/-! k06_j -/
set_option Elab.async false
set_option linter.all false
set_option maxRecDepth 100000
set_option maxHeartbeats 4000000
namespace Iz
open PySem PySem.Spec PyProof.Rows L2
open He (ga)
local macro_rules | `(tactic| walk_at "wp") => `(tactic| simp only [tYes, calmS, rTupN, rIsB, LamX.tLam3, tSl, tPart, tNoPart, rSlTN, cx_K, Value.ref.injEq, HO.xd.injEq, lk0, tSeq, tPar3, tPar, tCons, tNil, tVar, tC, tAsg, gName, gCons, gNil, gTupN, gSub, tOp, rI, rI0, rU, tTest, rNe, rEq, rIxTN, rIxLN, rLenL, rLenT, rIntI, rIntB, rAbs, rSetLN, tTruL, tRaiseX, rIsTy, rIsOw, ixN0, ixN1, tRet, tIf, tIfS, tNext, tBreak, tCont, tDrop, tTupN, tLstN, tUn, tCB, tCall, tNot, tAnd, tOr, tB, tAndV, tOrV, tNotV, tChain, tApp, LamX.tLam, tRevLN, rCatN, rInTN, rInLN, flatV, inV, List.all_cons, List.all_nil, List.any_cons, List.any_nil, Bool.and_self, Bool.and_true, if_true, Bool.false_eq_true, if_false, tMt, tFldN, tSto, HO.ins.injEq, lkh, List.drop_zero, List.drop_succ_cons, List.drop_nil, rListS, wipe, L2.start, List.map_cons, List.map_nil, List.length_cons, List.length_nil, List.replicate, List.cons_append, List.nil_append, List.append_nil, Nat.reduceAdd, Nat.reduceSub, Nat.zero_add, List.replicate_succ, List.replicate_zero, List.getElem?_cons_zero, List.getElem?_cons_succ, List.set_cons_zero, List.set_cons_succ, Option.some.injEq, V.int.injEq, V.bl.injEq, V.ref.injEq, V.str.injEq, V.ty.injEq, List.cons.injEq, HO.tup.injEq, HO.lst.injEq, and_true, true_and, and_assoc, exists_eq_left, exists_eq_left', exists_and_left, exists_eq', atI0, atI1, atI2, atI3, Int.cast_ofNat_Int, Int.reduceToNat, scal_ii, scal_in, scal_ni, scal_nn, scal_bb, scal_ss, scal_sn, scal_ns, scal_bn, scal_nb, ite_iff, decide_eq_true_eq, decide_eq_false_iff_not, Bool.not_eq_true', Classical.not_not, ne_eq, not_false_eq_true, not_true_eq_false, forall_const, true_implies, false_implies, imp_self, sizeLine_eq, Nat.reduceLeDiff, reduceCtorEq, decide_true, decide_false])
section
variable {P : Program} {w : World} {K : PySem.W.Frag} {mg : Str → Option Value} {base : Heap}
theorem txt_mk {h : Heap} (X : K.In h) (G : h.Ns mainGlobals mg) {f_is_whole f_is_from f_is_pair f_is_span f_is_box f_require_whole f_require_from f_require_pair f_Stretch___init__ f_Stretch_holds f_Stretch_turned f_Stretch_common f__greater_low f__lesser_high f_in_stretch f_in_box f_on_number f_on_cell f__in_both f__law_draw f__law_number f__law_ends f__law_has f__law_box f__law_on_way f__law_in f__law_is_row f__law_heard f__law_odd_right f_law c__law_odd_right P__law_odd_right c_law P_law C_BadNumber N_BadNumber fi_BadNumber C_BadPart N_BadPart fi_BadPart C_PlaneError : Addr} {od_is_whole an_is_whole od_is_from an_is_from od_is_pair an_is_pair od_is_span an_is_span od_is_box an_is_box od_require_whole an_require_whole od_require_from an_require_from od_require_pair an_require_pair od_Stretch___init__ an_Stretch___init__ od_Stretch_holds an_Stretch_holds od_Stretch_turned an_Stretch_turned od_Stretch_common an_Stretch_common od__greater_low an__greater_low od__lesser_high an__lesser_high od_in_stretch an_in_stretch od_in_box an_in_box od_on_number an_on_number od_on_cell an_on_cell od__in_both an__in_both od__law_draw an__law_draw od__law_number an__law_number od__law_ends an__law_ends od__law_has an__law_has od__law_box an__law_box od__law_on_way an__law_on_way od__law_in an__law_in od__law_is_row an__law_is_row od__law_heard an__law_heard od__law_odd_right an__law_odd_right od_law an_law : Option Addr} {sl_is_whole sl_is_from sl_is_pair sl_is_span sl_is_box sl_require_whole sl_require_from sl_require_pair sl_Stretch___init__ sl_Stretch_holds sl_Stretch_turned sl_Stretch_common sl__greater_low sl__lesser_high sl_in_stretch sl_in_box sl_on_number sl_on_cell sl__in_both sl__law_draw sl__law_number sl__law_ends sl__law_has sl__law_box sl__law_on_way sl__law_in sl__law_is_row sl__law_heard sl__law_odd_right sl_law : Array (Option Value)} {oc_is_whole kV_is_whole dc_is_whole pm_is_whole ct_is_whole oc_is_from kV_is_from dc_is_from pm_is_from ct_is_from oc_is_pair kV_is_pair dc_is_pair pm_is_pair ct_is_pair oc_is_span kV_is_span dc_is_span pm_is_span ct_is_span oc_is_box kV_is_box dc_is_box pm_is_box ct_is_box oc_require_whole kV_require_whole dc_require_whole pm_require_whole ct_require_whole oc_require_from kV_require_from dc_require_from pm_require_from ct_require_from oc_require_pair kV_require_pair dc_require_pair pm_require_pair ct_require_pair oc_Stretch___init__ kV_Stretch___init__ dc_Stretch___init__ pm_Stretch___init__ ct_Stretch___init__ oc_Stretch_holds kV_Stretch_holds dc_Stretch_holds pm_Stretch_holds ct_Stretch_holds oc_Stretch_turned kV_Stretch_turned dc_Stretch_turned pm_Stretch_turned ct_Stretch_turned oc_Stretch_common kV_Stretch_common dc_Stretch_common pm_Stretch_common ct_Stretch_common oc__greater_low kV__greater_low dc__greater_low pm__greater_low ct__greater_low oc__lesser_high kV__lesser_high dc__lesser_high pm__lesser_high ct__lesser_high oc_in_stretch kV_in_stretch dc_in_stretch pm_in_stretch ct_in_stretch oc_in_box kV_in_box dc_in_box pm_in_box ct_in_box oc_on_number kV_on_number dc_on_number pm_on_number ct_on_number oc_on_cell kV_on_cell dc_on_cell pm_on_cell ct_on_cell oc__in_both kV__in_both dc__in_both pm__in_both ct__in_both oc__law_draw kV__law_draw dc__law_draw pm__law_draw ct__law_draw oc__law_number kV__law_number dc__law_number pm__law_number ct__law_number oc__law_ends kV__law_ends dc__law_ends pm__law_ends ct__law_ends oc__law_has kV__law_has dc__law_has pm__law_has ct__law_has oc__law_box kV__law_box dc__law_box pm__law_box ct__law_box oc__law_on_way kV__law_on_way dc__law_on_way pm__law_on_way ct__law_on_way oc__law_in kV__law_in dc__law_in pm__law_in ct__law_in oc__law_is_row kV__law_is_row dc__law_is_row pm__law_is_row ct__law_is_row oc__law_heard kV__law_heard dc__law_heard pm__law_heard ct__law_heard oc__law_odd_right kV__law_odd_right dc__law_odd_right pm__law_odd_right ct__law_odd_right oc_law kV_law dc_law pm_law ct_law cd_is_whole cd_is_from cd_is_pair cd_is_span cd_is_box cd_require_whole cd_require_from cd_require_pair cd_Stretch___init__ cd_Stretch_holds cd_Stretch_turned cd_Stretch_common cd__greater_low cd__lesser_high cd_in_stretch cd_in_box cd_on_number cd_on_cell cd__in_both cd__law_draw cd__law_number cd__law_ends cd__law_has cd__law_box cd__law_on_way cd__law_in cd__law_is_row cd__law_heard : Value} {C_Stretch : Addr} {T_Stretch___init__ : Addr} {ocT_Stretch___init__ : Value} {odT_Stretch___init__ : Option Addr} {nT_Stretch___init__ : Nat} {slT_Stretch___init__ : Array (Option Value)} {dd_BadNumber odx_BadNumber anx_BadNumber dd_BadPart odx_BadPart anx_BadPart : Option Addr} {nm_BadNumber q_BadNumber nm_BadPart q_BadPart : Str} {bs_BadNumber bm_BadNumber sub_BadNumber bs_BadPart bm_BadPart sub_BadPart : List Value} {sn_BadNumber sn_BadPart : List Str} {ab_BadNumber ab_BadPart : Bool} {col_BadNumber col_BadPart : Option Bool} {m0_BadNumber m1_BadNumber m2_BadNumber m3_BadNumber m5_BadNumber m0_BadPart m1_BadPart m2_BadPart m3_BadPart m5_BadPart : Option Value} {ocx_BadNumber kVx_BadNumber dcx_BadNumber pmx_BadNumber cdx_BadNumber ctx_BadNumber ocx_BadPart kVx_BadPart dcx_BadPart pmx_BadPart cdx_BadPart ctx_BadPart : Value} {slx_BadNumber slx_BadPart : Array (Option Value)}
    (a_is_whole : PySem.W.nsIn K mainGlobals "is_whole" = some (some (.ref f_is_whole)))
    (l_is_whole : K.lookup f_is_whole = some ⟨oc_is_whole, od_is_whole, .func (PySem.W.fnOf "is_whole" "is_whole" (defArgs s_is_whole) (defBody s_is_whole) (defScope s_is_whole) .none kV_is_whole dc_is_whole pm_is_whole an_is_whole cd_is_whole ct_is_whole), sl_is_whole⟩)
    (d_is_whole : PySem.W.codeIn K cd_is_whole "is_whole" = true)
    (k_is_whole : PySem.W.keepIn K (.ref f_is_whole) = true)
    (a_is_from : PySem.W.nsIn K mainGlobals "is_from" = some (some (.ref f_is_from)))
    (l_is_from : K.lookup f_is_from = some ⟨oc_is_from, od_is_from, .func (PySem.W.fnOf "is_from" "is_from" (defArgs s_is_from) (defBody s_is_from) (defScope s_is_from) .none kV_is_from dc_is_from pm_is_from an_is_from cd_is_from ct_is_from), sl_is_from⟩)
    (d_is_from : PySem.W.codeIn K cd_is_from "is_from" = true)
    (k_is_from : PySem.W.keepIn K (.ref f_is_from) = true)
    (a_is_pair : PySem.W.nsIn K mainGlobals "is_pair" = some (some (.ref f_is_pair)))
    (l_is_pair : K.lookup f_is_pair = some ⟨oc_is_pair, od_is_pair, .func (PySem.W.fnOf "is_pair" "is_pair" (defArgs s_is_pair) (defBody s_is_pair) (defScope s_is_pair) .none kV_is_pair dc_is_pair pm_is_pair an_is_pair cd_is_pair ct_is_pair), sl_is_pair⟩)
    (d_is_pair : PySem.W.codeIn K cd_is_pair "is_pair" = true)
    (k_is_pair : PySem.W.keepIn K (.ref f_is_pair) = true)
    (a_is_span : PySem.W.nsIn K mainGlobals "is_span" = some (some (.ref f_is_span)))
    (l_is_span : K.lookup f_is_span = some ⟨oc_is_span, od_is_span, .func (PySem.W.fnOf "is_span" "is_span" (defArgs s_is_span) (defBody s_is_span) (defScope s_is_span) .none kV_is_span dc_is_span pm_is_span an_is_span cd_is_span ct_is_span), sl_is_span⟩)
    (d_is_span : PySem.W.codeIn K cd_is_span "is_span" = true)
    (k_is_span : PySem.W.keepIn K (.ref f_is_span) = true)
    (a_is_box : PySem.W.nsIn K mainGlobals "is_box" = some (some (.ref f_is_box)))
    (l_is_box : K.lookup f_is_box = some ⟨oc_is_box, od_is_box, .func (PySem.W.fnOf "is_box" "is_box" (defArgs s_is_box) (defBody s_is_box) (defScope s_is_box) .none kV_is_box dc_is_box pm_is_box an_is_box cd_is_box ct_is_box), sl_is_box⟩)
    (d_is_box : PySem.W.codeIn K cd_is_box "is_box" = true)
    (k_is_box : PySem.W.keepIn K (.ref f_is_box) = true)
    (a_require_whole : PySem.W.nsIn K mainGlobals "require_whole" = some (some (.ref f_require_whole)))
    (l_require_whole : K.lookup f_require_whole = some ⟨oc_require_whole, od_require_whole, .func (PySem.W.fnOf "require_whole" "require_whole" (defArgs s_require_whole) (defBody s_require_whole) (defScope s_require_whole) .none kV_require_whole dc_require_whole pm_require_whole an_require_whole cd_require_whole ct_require_whole), sl_require_whole⟩)
    (d_require_whole : PySem.W.codeIn K cd_require_whole "require_whole" = true)
    (k_require_whole : PySem.W.keepIn K (.ref f_require_whole) = true)
    (a_require_from : PySem.W.nsIn K mainGlobals "require_from" = some (some (.ref f_require_from)))
    (l_require_from : K.lookup f_require_from = some ⟨oc_require_from, od_require_from, .func (PySem.W.fnOf "require_from" "require_from" (defArgs s_require_from) (defBody s_require_from) (defScope s_require_from) .none kV_require_from dc_require_from pm_require_from an_require_from cd_require_from ct_require_from), sl_require_from⟩)
    (d_require_from : PySem.W.codeIn K cd_require_from "require_from" = true)
    (k_require_from : PySem.W.keepIn K (.ref f_require_from) = true)
    (a_require_pair : PySem.W.nsIn K mainGlobals "require_pair" = some (some (.ref f_require_pair)))
    (l_require_pair : K.lookup f_require_pair = some ⟨oc_require_pair, od_require_pair, .func (PySem.W.fnOf "require_pair" "require_pair" (defArgs s_require_pair) (defBody s_require_pair) (defScope s_require_pair) .none kV_require_pair dc_require_pair pm_require_pair an_require_pair cd_require_pair ct_require_pair), sl_require_pair⟩)
    (d_require_pair : PySem.W.codeIn K cd_require_pair "require_pair" = true)
    (k_require_pair : PySem.W.keepIn K (.ref f_require_pair) = true)
    (a__greater_low : PySem.W.nsIn K mainGlobals "_greater_low" = some (some (.ref f__greater_low)))
    (l__greater_low : K.lookup f__greater_low = some ⟨oc__greater_low, od__greater_low, .func (PySem.W.fnOf "_greater_low" "_greater_low" (defArgs s__greater_low) (defBody s__greater_low) (defScope s__greater_low) .none kV__greater_low dc__greater_low pm__greater_low an__greater_low cd__greater_low ct__greater_low), sl__greater_low⟩)
    (d__greater_low : PySem.W.codeIn K cd__greater_low "_greater_low" = true)
    (k__greater_low : PySem.W.keepIn K (.ref f__greater_low) = true)
    (a__lesser_high : PySem.W.nsIn K mainGlobals "_lesser_high" = some (some (.ref f__lesser_high)))
    (l__lesser_high : K.lookup f__lesser_high = some ⟨oc__lesser_high, od__lesser_high, .func (PySem.W.fnOf "_lesser_high" "_lesser_high" (defArgs s__lesser_high) (defBody s__lesser_high) (defScope s__lesser_high) .none kV__lesser_high dc__lesser_high pm__lesser_high an__lesser_high cd__lesser_high ct__lesser_high), sl__lesser_high⟩)
    (d__lesser_high : PySem.W.codeIn K cd__lesser_high "_lesser_high" = true)
    (k__lesser_high : PySem.W.keepIn K (.ref f__lesser_high) = true)
    (a_in_stretch : PySem.W.nsIn K mainGlobals "in_stretch" = some (some (.ref f_in_stretch)))
    (l_in_stretch : K.lookup f_in_stretch = some ⟨oc_in_stretch, od_in_stretch, .func (PySem.W.fnOf "in_stretch" "in_stretch" (defArgs s_in_stretch) (defBody s_in_stretch) (defScope s_in_stretch) .none kV_in_stretch dc_in_stretch pm_in_stretch an_in_stretch cd_in_stretch ct_in_stretch), sl_in_stretch⟩)
    (d_in_stretch : PySem.W.codeIn K cd_in_stretch "in_stretch" = true)
    (k_in_stretch : PySem.W.keepIn K (.ref f_in_stretch) = true)
    (a_in_box : PySem.W.nsIn K mainGlobals "in_box" = some (some (.ref f_in_box)))
    (l_in_box : K.lookup f_in_box = some ⟨oc_in_box, od_in_box, .func (PySem.W.fnOf "in_box" "in_box" (defArgs s_in_box) (defBody s_in_box) (defScope s_in_box) .none kV_in_box dc_in_box pm_in_box an_in_box cd_in_box ct_in_box), sl_in_box⟩)
    (d_in_box : PySem.W.codeIn K cd_in_box "in_box" = true)
    (k_in_box : PySem.W.keepIn K (.ref f_in_box) = true)
    (a_on_number : PySem.W.nsIn K mainGlobals "on_number" = some (some (.ref f_on_number)))
    (l_on_number : K.lookup f_on_number = some ⟨oc_on_number, od_on_number, .func (PySem.W.fnOf "on_number" "on_number" (defArgs s_on_number) (defBody s_on_number) (defScope s_on_number) .none kV_on_number dc_on_number pm_on_number an_on_number cd_on_number ct_on_number), sl_on_number⟩)
    (d_on_number : PySem.W.codeIn K cd_on_number "on_number" = true)
    (k_on_number : PySem.W.keepIn K (.ref f_on_number) = true)
    (a_on_cell : PySem.W.nsIn K mainGlobals "on_cell" = some (some (.ref f_on_cell)))
    (l_on_cell : K.lookup f_on_cell = some ⟨oc_on_cell, od_on_cell, .func (PySem.W.fnOf "on_cell" "on_cell" (defArgs s_on_cell) (defBody s_on_cell) (defScope s_on_cell) .none kV_on_cell dc_on_cell pm_on_cell an_on_cell cd_on_cell ct_on_cell), sl_on_cell⟩)
    (d_on_cell : PySem.W.codeIn K cd_on_cell "on_cell" = true)
    (k_on_cell : PySem.W.keepIn K (.ref f_on_cell) = true)
    (a__in_both : PySem.W.nsIn K mainGlobals "_in_both" = some (some (.ref f__in_both)))
    (l__in_both : K.lookup f__in_both = some ⟨oc__in_both, od__in_both, .func (PySem.W.fnOf "_in_both" "_in_both" (defArgs s__in_both) (defBody s__in_both) (defScope s__in_both) .none kV__in_both dc__in_both pm__in_both an__in_both cd__in_both ct__in_both), sl__in_both⟩)
    (d__in_both : PySem.W.codeIn K cd__in_both "_in_both" = true)
    (k__in_both : PySem.W.keepIn K (.ref f__in_both) = true)
    (a__law_draw : PySem.W.nsIn K mainGlobals "_law_draw" = some (some (.ref f__law_draw)))
    (l__law_draw : K.lookup f__law_draw = some ⟨oc__law_draw, od__law_draw, .func (PySem.W.fnOf "_law_draw" "_law_draw" (defArgs s__law_draw) (defBody s__law_draw) (defScope s__law_draw) .none kV__law_draw dc__law_draw pm__law_draw an__law_draw cd__law_draw ct__law_draw), sl__law_draw⟩)
    (d__law_draw : PySem.W.codeIn K cd__law_draw "_law_draw" = true)
    (k__law_draw : PySem.W.keepIn K (.ref f__law_draw) = true)
    (a__law_number : PySem.W.nsIn K mainGlobals "_law_number" = some (some (.ref f__law_number)))
    (l__law_number : K.lookup f__law_number = some ⟨oc__law_number, od__law_number, .func (PySem.W.fnOf "_law_number" "_law_number" (defArgs s__law_number) (defBody s__law_number) (defScope s__law_number) .none kV__law_number dc__law_number pm__law_number an__law_number cd__law_number ct__law_number), sl__law_number⟩)
    (d__law_number : PySem.W.codeIn K cd__law_number "_law_number" = true)
    (k__law_number : PySem.W.keepIn K (.ref f__law_number) = true)
    (a__law_ends : PySem.W.nsIn K mainGlobals "_law_ends" = some (some (.ref f__law_ends)))
    (l__law_ends : K.lookup f__law_ends = some ⟨oc__law_ends, od__law_ends, .func (PySem.W.fnOf "_law_ends" "_law_ends" (defArgs s__law_ends) (defBody s__law_ends) (defScope s__law_ends) .none kV__law_ends dc__law_ends pm__law_ends an__law_ends cd__law_ends ct__law_ends), sl__law_ends⟩)
    (d__law_ends : PySem.W.codeIn K cd__law_ends "_law_ends" = true)
    (k__law_ends : PySem.W.keepIn K (.ref f__law_ends) = true)
    (a__law_has : PySem.W.nsIn K mainGlobals "_law_has" = some (some (.ref f__law_has)))
    (l__law_has : K.lookup f__law_has = some ⟨oc__law_has, od__law_has, .func (PySem.W.fnOf "_law_has" "_law_has" (defArgs s__law_has) (defBody s__law_has) (defScope s__law_has) .none kV__law_has dc__law_has pm__law_has an__law_has cd__law_has ct__law_has), sl__law_has⟩)
    (d__law_has : PySem.W.codeIn K cd__law_has "_law_has" = true)
    (k__law_has : PySem.W.keepIn K (.ref f__law_has) = true)
    (a__law_box : PySem.W.nsIn K mainGlobals "_law_box" = some (some (.ref f__law_box)))
    (l__law_box : K.lookup f__law_box = some ⟨oc__law_box, od__law_box, .func (PySem.W.fnOf "_law_box" "_law_box" (defArgs s__law_box) (defBody s__law_box) (defScope s__law_box) .none kV__law_box dc__law_box pm__law_box an__law_box cd__law_box ct__law_box), sl__law_box⟩)
    (d__law_box : PySem.W.codeIn K cd__law_box "_law_box" = true)
    (k__law_box : PySem.W.keepIn K (.ref f__law_box) = true)
    (a__law_on_way : PySem.W.nsIn K mainGlobals "_law_on_way" = some (some (.ref f__law_on_way)))
    (l__law_on_way : K.lookup f__law_on_way = some ⟨oc__law_on_way, od__law_on_way, .func (PySem.W.fnOf "_law_on_way" "_law_on_way" (defArgs s__law_on_way) (defBody s__law_on_way) (defScope s__law_on_way) .none kV__law_on_way dc__law_on_way pm__law_on_way an__law_on_way cd__law_on_way ct__law_on_way), sl__law_on_way⟩)
    (d__law_on_way : PySem.W.codeIn K cd__law_on_way "_law_on_way" = true)
    (k__law_on_way : PySem.W.keepIn K (.ref f__law_on_way) = true)
    (a__law_in : PySem.W.nsIn K mainGlobals "_law_in" = some (some (.ref f__law_in)))
    (l__law_in : K.lookup f__law_in = some ⟨oc__law_in, od__law_in, .func (PySem.W.fnOf "_law_in" "_law_in" (defArgs s__law_in) (defBody s__law_in) (defScope s__law_in) .none kV__law_in dc__law_in pm__law_in an__law_in cd__law_in ct__law_in), sl__law_in⟩)
    (d__law_in : PySem.W.codeIn K cd__law_in "_law_in" = true)
    (k__law_in : PySem.W.keepIn K (.ref f__law_in) = true)
    (a__law_is_row : PySem.W.nsIn K mainGlobals "_law_is_row" = some (some (.ref f__law_is_row)))
    (l__law_is_row : K.lookup f__law_is_row = some ⟨oc__law_is_row, od__law_is_row, .func (PySem.W.fnOf "_law_is_row" "_law_is_row" (defArgs s__law_is_row) (defBody s__law_is_row) (defScope s__law_is_row) .none kV__law_is_row dc__law_is_row pm__law_is_row an__law_is_row cd__law_is_row ct__law_is_row), sl__law_is_row⟩)
    (d__law_is_row : PySem.W.codeIn K cd__law_is_row "_law_is_row" = true)
    (k__law_is_row : PySem.W.keepIn K (.ref f__law_is_row) = true)
    (a__law_heard : PySem.W.nsIn K mainGlobals "_law_heard" = some (some (.ref f__law_heard)))
    (l__law_heard : K.lookup f__law_heard = some ⟨oc__law_heard, od__law_heard, .func (PySem.W.fnOf "_law_heard" "_law_heard" (defArgs s__law_heard) (defBody s__law_heard) (defScope s__law_heard) .none kV__law_heard dc__law_heard pm__law_heard an__law_heard cd__law_heard ct__law_heard), sl__law_heard⟩)
    (d__law_heard : PySem.W.codeIn K cd__law_heard "_law_heard" = true)
    (k__law_heard : PySem.W.keepIn K (.ref f__law_heard) = true)
    (a__law_odd_right : PySem.W.nsIn K mainGlobals "_law_odd_right" = some (some (.ref f__law_odd_right)))
    (l__law_odd_right : K.lookup f__law_odd_right = some ⟨oc__law_odd_right, od__law_odd_right, .func (PySem.W.fnOf "_law_odd_right" "_law_odd_right" (defArgs s__law_odd_right) (defBody s__law_odd_right) (defScope s__law_odd_right) .none kV__law_odd_right dc__law_odd_right pm__law_odd_right an__law_odd_right (.ref c__law_odd_right) ct__law_odd_right), sl__law_odd_right⟩)
    (d__law_odd_right : PySem.W.codeIn K (.ref c__law_odd_right) "_law_odd_right" = true)
    (k__law_odd_right : PySem.W.keepIn K (.ref f__law_odd_right) = true)
    (t__law_odd_right : PySem.W.tabIn K "_law_odd_right" = some (c__law_odd_right, P__law_odd_right))
    (a_law : PySem.W.nsIn K mainGlobals "law" = some (some (.ref f_law)))
    (l_law : K.lookup f_law = some ⟨oc_law, od_law, .func (PySem.W.fnOf "law" "law" (defArgs s_law) (defBody s_law) (defScope s_law) .none kV_law dc_law pm_law an_law (.ref c_law) ct_law), sl_law⟩)
    (d_law : PySem.W.codeIn K (.ref c_law) "law" = true)
    (k_law : PySem.W.keepIn K (.ref f_law) = true)
    (t_law : PySem.W.tabIn K "law" = some (c_law, P_law))
    (xa_Stretch : PySem.W.nsIn K mainGlobals "Stretch" = some (some (.ref C_Stretch)))
    (pg_Stretch : PySem.W.plainGet K C_Stretch Str.empty = true)
    (hd_Stretch : PySem.W.hasDictIn K C_Stretch = true)
    (po_Stretch : PySem.W.plainOver K C_Stretch = true)
    (sa_Stretch : PySem.W.findIn K (.ref C_Stretch) "__setattr__" = some (some (.builtin "object.__setattr__")))
    (mm_Stretch : PySem.W.makesIn K C_Stretch = true)
    (kc_Stretch : PySem.W.keepIn K (.ref C_Stretch) = true)
    (ya_Stretch : PySem.W.findIn K (.ref C_Stretch) "__class__" = some (some (.builtin "object.__class__")))
    (ym_Stretch : PySem.W.mroIn K C_Stretch (.type "object") = some true)
    (na_Stretch_low : PySem.W.findIn K (.ref C_Stretch) "low" = some none)
    (na_Stretch_high : PySem.W.findIn K (.ref C_Stretch) "high" = some none)
    (ma_Stretch___init__ : PySem.W.findIn K (.ref C_Stretch) "__init__" = some (some (.ref f_Stretch___init__)))
    (mi_Stretch___init__ : PySem.W.isFn K (.ref f_Stretch___init__) = true)
    (mk_Stretch___init__ : PySem.W.keepIn K (.ref f_Stretch___init__) = true)
    (l_Stretch___init__ : K.lookup f_Stretch___init__ = some ⟨oc_Stretch___init__, od_Stretch___init__, .func (PySem.W.fnOf "__init__" "Stretch.__init__" (defArgs s_Stretch___init__) (defBody s_Stretch___init__) (defScope s_Stretch___init__) (.ref T_Stretch___init__) kV_Stretch___init__ dc_Stretch___init__ pm_Stretch___init__ an_Stretch___init__ cd_Stretch___init__ ct_Stretch___init__), sl_Stretch___init__⟩)
    (d_Stretch___init__ : PySem.W.codeIn K cd_Stretch___init__ "Stretch.__init__" = true)
    (t_Stretch___init__ : K.lookup T_Stretch___init__ = some ⟨ocT_Stretch___init__, odT_Stretch___init__, .seq [Value.none, Value.none].toArray nT_Stretch___init__, slT_Stretch___init__⟩)
    (ma_Stretch_holds : PySem.W.findIn K (.ref C_Stretch) "holds" = some (some (.ref f_Stretch_holds)))
    (mi_Stretch_holds : PySem.W.isFn K (.ref f_Stretch_holds) = true)
    (mk_Stretch_holds : PySem.W.keepIn K (.ref f_Stretch_holds) = true)
    (l_Stretch_holds : K.lookup f_Stretch_holds = some ⟨oc_Stretch_holds, od_Stretch_holds, .func (PySem.W.fnOf "holds" "Stretch.holds" (defArgs s_Stretch_holds) (defBody s_Stretch_holds) (defScope s_Stretch_holds) .none kV_Stretch_holds dc_Stretch_holds pm_Stretch_holds an_Stretch_holds cd_Stretch_holds ct_Stretch_holds), sl_Stretch_holds⟩)
    (d_Stretch_holds : PySem.W.codeIn K cd_Stretch_holds "Stretch.holds" = true)
    (ma_Stretch_turned : PySem.W.findIn K (.ref C_Stretch) "turned" = some (some (.ref f_Stretch_turned)))
    (mi_Stretch_turned : PySem.W.isFn K (.ref f_Stretch_turned) = true)
    (mk_Stretch_turned : PySem.W.keepIn K (.ref f_Stretch_turned) = true)
    (l_Stretch_turned : K.lookup f_Stretch_turned = some ⟨oc_Stretch_turned, od_Stretch_turned, .func (PySem.W.fnOf "turned" "Stretch.turned" (defArgs s_Stretch_turned) (defBody s_Stretch_turned) (defScope s_Stretch_turned) .none kV_Stretch_turned dc_Stretch_turned pm_Stretch_turned an_Stretch_turned cd_Stretch_turned ct_Stretch_turned), sl_Stretch_turned⟩)
    (d_Stretch_turned : PySem.W.codeIn K cd_Stretch_turned "Stretch.turned" = true)
    (ma_Stretch_common : PySem.W.findIn K (.ref C_Stretch) "common" = some (some (.ref f_Stretch_common)))
    (mi_Stretch_common : PySem.W.isFn K (.ref f_Stretch_common) = true)
    (mk_Stretch_common : PySem.W.keepIn K (.ref f_Stretch_common) = true)
    (l_Stretch_common : K.lookup f_Stretch_common = some ⟨oc_Stretch_common, od_Stretch_common, .func (PySem.W.fnOf "common" "Stretch.common" (defArgs s_Stretch_common) (defBody s_Stretch_common) (defScope s_Stretch_common) .none kV_Stretch_common dc_Stretch_common pm_Stretch_common an_Stretch_common cd_Stretch_common ct_Stretch_common), sl_Stretch_common⟩)
    (d_Stretch_common : PySem.W.codeIn K cd_Stretch_common "Stretch.common" = true)
    (xa_BadNumber : PySem.W.nsIn K mainGlobals "BadNumber" = some (some (.ref C_BadNumber)))
    (xl_BadNumber : K.lookup C_BadNumber = some (excClassObj nm_BadNumber q_BadNumber C_BadNumber N_BadNumber bs_BadNumber bm_BadNumber true sn_BadNumber sub_BadNumber ab_BadNumber col_BadNumber dd_BadNumber m0_BadNumber m1_BadNumber m2_BadNumber m3_BadNumber m5_BadNumber "ValueError.__new__"))
    (xr_BadNumber : PySem.HandSPX.refsVE bm_BadNumber = true)
    (xs_BadNumber : PySem.W.findIn K (.ref C_BadNumber) "__setattr__" = some (some (.builtin "object.__setattr__")))
    (xe_BadNumber : PySem.W.subIn K (.ref C_BadNumber) (.type "BaseException") = some true)
    (xt_BadNumber : PySem.W.typeIn K (.ref C_BadNumber) = some (.type "type"))
    (xk_BadNumber : PySem.W.keepIn K (.ref C_BadNumber) = true)
    (xg_BadNumber : PySem.W.findIn K (.ref C_BadNumber) "__getattribute__" = some (some (.builtin "BaseException.__getattribute__")))
    (xG_BadNumber : PySem.W.findIn K (.ref C_BadNumber) "__getattr__" = some none)
    (xd_BadNumber : PySem.W.hasDictIn K C_BadNumber = true)
    (xn_BadNumber : PySem.W.findIn K (.ref C_BadNumber) "number" = some none)
    (xi_BadNumber : PySem.W.findIn K (.ref C_BadNumber) "__init__" = some (some (.ref fi_BadNumber)))
    (xf_BadNumber : PySem.W.typeIn K (.ref fi_BadNumber) = some (.type "function"))
    (xL_BadNumber : K.lookup fi_BadNumber = some ⟨ocx_BadNumber, odx_BadNumber, .func (PySem.W.fnOf "__init__" "BadNumber.__init__" (defArgs s_BadNumber___init__) (defBody s_BadNumber___init__) (defScope s_BadNumber___init__) .none kVx_BadNumber dcx_BadNumber pmx_BadNumber anx_BadNumber cdx_BadNumber ctx_BadNumber), slx_BadNumber⟩)
    (xc_BadNumber : PySem.W.codeIn K cdx_BadNumber "BadNumber.__init__" = true)
    (xK_BadNumber : PySem.W.keepIn K (.ref fi_BadNumber) = true)
    (yc_BadNumber : (PySem.W.clsIn K C_BadNumber).isSome = true)
    (ya_BadNumber : PySem.W.findIn K (.ref C_BadNumber) "__class__" = some (some (.builtin "object.__class__")))
    (ym_BadNumber : PySem.W.mroIn K C_BadNumber (.type "object") = some true)
    (xa_BadPart : PySem.W.nsIn K mainGlobals "BadPart" = some (some (.ref C_BadPart)))
    (xl_BadPart : K.lookup C_BadPart = some (excClassObj nm_BadPart q_BadPart C_BadPart N_BadPart bs_BadPart bm_BadPart true sn_BadPart sub_BadPart ab_BadPart col_BadPart dd_BadPart m0_BadPart m1_BadPart m2_BadPart m3_BadPart m5_BadPart "ValueError.__new__"))
    (xr_BadPart : PySem.HandSPX.refsVE bm_BadPart = true)
    (xs_BadPart : PySem.W.findIn K (.ref C_BadPart) "__setattr__" = some (some (.builtin "object.__setattr__")))
    (xe_BadPart : PySem.W.subIn K (.ref C_BadPart) (.type "BaseException") = some true)
    (xt_BadPart : PySem.W.typeIn K (.ref C_BadPart) = some (.type "type"))
    (xk_BadPart : PySem.W.keepIn K (.ref C_BadPart) = true)
    (xg_BadPart : PySem.W.findIn K (.ref C_BadPart) "__getattribute__" = some (some (.builtin "BaseException.__getattribute__")))
    (xG_BadPart : PySem.W.findIn K (.ref C_BadPart) "__getattr__" = some none)
    (xd_BadPart : PySem.W.hasDictIn K C_BadPart = true)
    (xn_BadPart : PySem.W.findIn K (.ref C_BadPart) "part" = some none)
    (xi_BadPart : PySem.W.findIn K (.ref C_BadPart) "__init__" = some (some (.ref fi_BadPart)))
    (xf_BadPart : PySem.W.typeIn K (.ref fi_BadPart) = some (.type "function"))
    (xL_BadPart : K.lookup fi_BadPart = some ⟨ocx_BadPart, odx_BadPart, .func (PySem.W.fnOf "__init__" "BadPart.__init__" (defArgs s_BadPart___init__) (defBody s_BadPart___init__) (defScope s_BadPart___init__) .none kVx_BadPart dcx_BadPart pmx_BadPart anx_BadPart cdx_BadPart ctx_BadPart), slx_BadPart⟩)
    (xc_BadPart : PySem.W.codeIn K cdx_BadPart "BadPart.__init__" = true)
    (xK_BadPart : PySem.W.keepIn K (.ref fi_BadPart) = true)
    (yc_BadPart : (PySem.W.clsIn K C_BadPart).isSome = true)
    (ya_BadPart : PySem.W.findIn K (.ref C_BadPart) "__class__" = some (some (.builtin "object.__class__")))
    (ym_BadPart : PySem.W.mroIn K C_BadPart (.type "object") = some true)
    (yn : PySem.W.specialIn K (.builtin "object.__class__") "__get__" = some (some (.builtin "getset_descriptor.__get__")))
    (yt : PySem.W.takesIn K (.builtin "object.__class__") = some true)
    (xa_PlaneError : PySem.W.nsIn K mainGlobals "PlaneError" = some (some (.ref C_PlaneError)))
    (eN : PySem.W.exmOne K (.ref C_BadNumber) (.ref C_PlaneError) = some true)
    (eP : PySem.W.exmOne K (.ref C_BadPart) (.ref C_PlaneError) = some true)
    (kNN : PySem.W.kitOne K (.ref C_BadNumber) (.ref C_BadNumber) = some true)
    (kPN : PySem.W.kitOne K (.ref C_BadPart) (.ref C_BadNumber) = some false)
    (kPP : PySem.W.kitOne K (.ref C_BadPart) (.ref C_BadPart) = some true)
    (pne : P__law_odd_right ≠ P_law)
    (kS_tuple : PySem.W.kitOne K (.type "tuple") (.ref C_Stretch) = some false)
    (z_isinstance : PySem.W.nsIn K mainGlobals "isinstance" = some none)
    (z_int : PySem.W.nsIn K mainGlobals "int" = some none)
    (z_bool : PySem.W.nsIn K mainGlobals "bool" = some none)
    (z_tuple : PySem.W.nsIn K mainGlobals "tuple" = some none)
    (z_len : PySem.W.nsIn K mainGlobals "len" = some none)
    (z_list : PySem.W.nsIn K mainGlobals "list" = some none)
    (z_range : PySem.W.nsIn K mainGlobals "range" = some none)
    (z_repr : PySem.W.nsIn K mainGlobals "repr" = some none) : Txt K mg :=
  { d_is_whole := ⟨_, _, PySem.W.mg_of X G a_is_whole, fun_mk (st := s_is_whole) l_is_whole d_is_whole k_is_whole⟩,
    d_is_from := ⟨_, _, PySem.W.mg_of X G a_is_from, fun_mk (st := s_is_from) l_is_from d_is_from k_is_from⟩,
    d_is_pair := ⟨_, _, PySem.W.mg_of X G a_is_pair, fun_mk (st := s_is_pair) l_is_pair d_is_pair k_is_pair⟩,
    d_is_span := ⟨_, _, PySem.W.mg_of X G a_is_span, fun_mk (st := s_is_span) l_is_span d_is_span k_is_span⟩,
    d_is_box := ⟨_, _, PySem.W.mg_of X G a_is_box, fun_mk (st := s_is_box) l_is_box d_is_box k_is_box⟩,
    d_require_whole := ⟨_, _, PySem.W.mg_of X G a_require_whole, fun_mk (st := s_require_whole) l_require_whole d_require_whole k_require_whole⟩,
    d_require_from := ⟨_, _, PySem.W.mg_of X G a_require_from, fun_mk (st := s_require_from) l_require_from d_require_from k_require_from⟩,
    d_require_pair := ⟨_, _, PySem.W.mg_of X G a_require_pair, fun_mk (st := s_require_pair) l_require_pair d_require_pair k_require_pair⟩,
    d__greater_low := ⟨_, _, PySem.W.mg_of X G a__greater_low, fun_mk (st := s__greater_low) l__greater_low d__greater_low k__greater_low⟩,
    d__lesser_high := ⟨_, _, PySem.W.mg_of X G a__lesser_high, fun_mk (st := s__lesser_high) l__lesser_high d__lesser_high k__lesser_high⟩,
    d_in_stretch := ⟨_, _, PySem.W.mg_of X G a_in_stretch, fun_mk (st := s_in_stretch) l_in_stretch d_in_stretch k_in_stretch⟩,
    d_in_box := ⟨_, _, PySem.W.mg_of X G a_in_box, fun_mk (st := s_in_box) l_in_box d_in_box k_in_box⟩,
    d_on_number := ⟨_, _, PySem.W.mg_of X G a_on_number, fun_mk (st := s_on_number) l_on_number d_on_number k_on_number⟩,
    d_on_cell := ⟨_, _, PySem.W.mg_of X G a_on_cell, fun_mk (st := s_on_cell) l_on_cell d_on_cell k_on_cell⟩,
    d__in_both := ⟨_, _, PySem.W.mg_of X G a__in_both, fun_mk (st := s__in_both) l__in_both d__in_both k__in_both⟩,
    d__law_draw := ⟨_, _, PySem.W.mg_of X G a__law_draw, fun_mk (st := s__law_draw) l__law_draw d__law_draw k__law_draw⟩,
    d__law_number := ⟨_, _, PySem.W.mg_of X G a__law_number, fun_mk (st := s__law_number) l__law_number d__law_number k__law_number⟩,
    d__law_ends := ⟨_, _, PySem.W.mg_of X G a__law_ends, fun_mk (st := s__law_ends) l__law_ends d__law_ends k__law_ends⟩,
    d__law_has := ⟨_, _, PySem.W.mg_of X G a__law_has, fun_mk (st := s__law_has) l__law_has d__law_has k__law_has⟩,
    d__law_box := ⟨_, _, PySem.W.mg_of X G a__law_box, fun_mk (st := s__law_box) l__law_box d__law_box k__law_box⟩,
    d__law_on_way := ⟨_, _, PySem.W.mg_of X G a__law_on_way, fun_mk (st := s__law_on_way) l__law_on_way d__law_on_way k__law_on_way⟩,
    d__law_in := ⟨_, _, PySem.W.mg_of X G a__law_in, fun_mk (st := s__law_in) l__law_in d__law_in k__law_in⟩,
    d__law_is_row := ⟨_, _, PySem.W.mg_of X G a__law_is_row, fun_mk (st := s__law_is_row) l__law_is_row d__law_is_row k__law_is_row⟩,
    d__law_heard := ⟨_, _, PySem.W.mg_of X G a__law_heard, fun_mk (st := s__law_heard) l__law_heard d__law_heard k__law_heard⟩,
    lam__law_odd_right := lamf_mk X G a__law_odd_right l__law_odd_right d__law_odd_right k__law_odd_right t__law_odd_right,
    lam_law := lamf_mk X G a_law l_law d_law k_law t_law,
    ci_Stretch := by rw [ga_of xa_Stretch]; exact ⟨⟨pg_Stretch, hd_Stretch, po_Stretch, sa_Stretch⟩, ya_Stretch, yn, yt, ym_Stretch⟩,
    c_Stretch := by rw [ga_of xa_Stretch]; exact ⟨pg_Stretch, hd_Stretch, po_Stretch, sa_Stretch⟩,
    g_Stretch := by rw [ga_of xa_Stretch]; exact PySem.W.mg_of X G xa_Stretch,
    na_Stretch_low := by rw [ga_of xa_Stretch]; exact na_Stretch_low,
    na_Stretch_high := by rw [ga_of xa_Stretch]; exact na_Stretch_high,
    d_Stretch___init__ := by rw [ga_of xa_Stretch]; exact ⟨_, _, ⟨mm_Stretch, ma_Stretch___init__, mi_Stretch___init__, kc_Stretch⟩, ⟨⟨_, _, _, _, _, _, _, _, _, _, rfl, l_Stretch___init__, d_Stretch___init__, .inr ⟨by simp, _, _, _, _, rfl, t_Stretch___init__, rfl, .cons (rfl) (.cons (rfl) (.nil))⟩, .inl rfl⟩, mk_Stretch___init__⟩⟩,
    d_Stretch_holds := by rw [ga_of xa_Stretch]; exact ⟨_, _, ⟨ma_Stretch_holds, mi_Stretch_holds, mk_Stretch_holds⟩, ⟨⟨_, _, _, _, _, _, _, _, _, _, rfl, l_Stretch_holds, d_Stretch_holds, .inl ⟨rfl, rfl⟩, .inl rfl⟩, mk_Stretch_holds⟩⟩,
    d_Stretch_turned := by rw [ga_of xa_Stretch]; exact ⟨_, _, ⟨ma_Stretch_turned, mi_Stretch_turned, mk_Stretch_turned⟩, ⟨⟨_, _, _, _, _, _, _, _, _, _, rfl, l_Stretch_turned, d_Stretch_turned, .inl ⟨rfl, rfl⟩, .inl rfl⟩, mk_Stretch_turned⟩⟩,
    d_Stretch_common := by rw [ga_of xa_Stretch]; exact ⟨_, _, ⟨ma_Stretch_common, mi_Stretch_common, mk_Stretch_common⟩, ⟨⟨_, _, _, _, _, _, _, _, _, _, rfl, l_Stretch_common, d_Stretch_common, .inl ⟨rfl, rfl⟩, .inl rfl⟩, mk_Stretch_common⟩⟩,
    x_BadNumber := ext_mk (st := s_BadNumber___init__) X G xa_BadNumber xl_BadNumber xr_BadNumber xs_BadNumber xe_BadNumber xt_BadNumber xk_BadNumber xg_BadNumber xG_BadNumber xd_BadNumber xn_BadNumber xi_BadNumber xf_BadNumber xL_BadNumber xc_BadNumber xK_BadNumber sc_BadNumber___init__ rfl (fun _ _ _ _ _ _ us hl => match us, hl with | [_, _], _ => rfl),
    x_BadPart := ext_mk (st := s_BadPart___init__) X G xa_BadPart xl_BadPart xr_BadPart xs_BadPart xe_BadPart xt_BadPart xk_BadPart xg_BadPart xG_BadPart xd_BadPart xn_BadPart xi_BadPart xf_BadPart xL_BadPart xc_BadPart xK_BadPart sc_BadPart___init__ rfl (fun _ _ _ _ _ _ us hl => match us, hl with | [_, _], _ => rfl),
    pne := by unfold pOf; rw [t__law_odd_right, t_law]; exact pne,
    pe := by rw [ga_of xa_PlaneError]; exact PySem.W.mg_of X G xa_PlaneError,
    mN := by rw [ga_of xa_BadNumber, ga_of xa_PlaneError]; exact eN,
    mP := by rw [ga_of xa_BadPart, ga_of xa_PlaneError]; exact eP,
    iN := exi_mk xa_BadNumber yc_BadNumber ya_BadNumber yn yt ym_BadNumber,
    iP := exi_mk xa_BadPart yc_BadPart ya_BadPart yn yt ym_BadPart,
    kNN := by rw [ga_of xa_BadNumber]; exact kNN,
    kPN := by rw [ga_of xa_BadPart, ga_of xa_BadNumber]; exact kPN,
    kPP := by rw [ga_of xa_BadPart]; exact kPP,
    kS_tuple := by rw [ga_of xa_Stretch]; exact kS_tuple,
    m_isinstance := PySem.W.mg_none_of X G z_isinstance,
    m_int := PySem.W.mg_none_of X G z_int,
    m_bool := PySem.W.mg_none_of X G z_bool,
    m_tuple := PySem.W.mg_none_of X G z_tuple,
    m_len := PySem.W.mg_none_of X G z_len,
    m_list := PySem.W.mg_none_of X G z_list,
    m_range := PySem.W.mg_none_of X G z_range,
    m_repr := PySem.W.mg_none_of X G z_repr }
open LamX
theorem law_at {l : PySem.W.OpenLaw} {h : Heap} {fa c P0 c1 P1 : Addr} (X : K.In h) (hmg : mg "law" = some (.ref fa)) (T : Txt K mg) (ht : PySem.W.tabIn K "law" = some (c, P0)) (hc : PySem.W.codeHdIn K c P0 = true) (hP : h.get? P0 = some (PySem.W.tabObj #[])) (hn : K.lookup P0 = none)
    (ht1 : PySem.W.tabIn K "_law_odd_right" = some (c1, P1)) (hc1 : PySem.W.codeHdIn K c1 P1 = true) (hP1 : h.get? P1 = some (PySem.W.tabObj #[])) (hn1 : K.lookup P1 = none) : LawAtS l w K (L2.CX l.prog w) 17 63 "_law_script" mg fa h := by
  obtain ⟨f, oc, od, kV, doc, pm, an, ct, osl, g, kp, lk, hcd⟩ := T.lam_law.ex
  have e : f = fa := by
    have h1 : some (Value.ref f) = some (Value.ref fa) := g.symm.trans hmg
    injection h1 with h2
    injection h2
  subst e
  have e1 : cOf K "law" = c := by unfold cOf; rw [ht]; rfl
  have e2 : pOf K "law" = P0 := by unfold pOf; rw [ht]; rfl
  have e3 : cOf K "_law_odd_right" = c1 := by unfold cOf; rw [ht1]; rfl
  have e4 : pOf K "_law_odd_right" = P1 := by unfold pOf; rw [ht1]; rfl
  have two : ∀ {R : Addr × Addr → Prop}, R (c, P0) → R (c1, P1) → ∀ p ∈ [(c, P0), (c1, P1)], R p := fun r0 r1 p hp => by
    simp only [List.mem_cons, List.not_mem_nil, or_false] at hp
    rcases hp with rfl | rfl
    · exact r0
    · exact r1
  refine ⟨PySem.W.fnOf "law" "law" (defArgs s_law) (defBody s_law) (defScope s_law) .none kV doc pm an (.ref (cOf K "law")) ct, [(c, P0), (c1, P1)], spLaw K, two hP hP1, two hn hn1, two (PySem.W.codeHd_of_K X hc) (PySem.W.codeHd_of_K X hc1), fun s u => .of_eq rfl, ?_, ?_⟩
  · intro H a ns hl _ hT hS
    refine ⟨a, rfl, ns, hS, hl, ?_, fun _ => rfl⟩
    intro p hp
    simp only [List.mem_cons, List.not_mem_nil, or_false] at hp
    rcases hp with rfl | rfl
    · rw [e4]; exact TabS.nil (hT _ (List.mem_cons_of_mem _ List.mem_cons_self))
    · rw [e2]; exact TabS.nil (hT _ List.mem_cons_self)
  · intro base kb nb hTB
    refine fn_of lk hcd sc_law (fun vs H Q E h => by obtain ⟨_, rfl, _⟩ := h; rfl) fun A outer s H vs Q E hr hsp => o_law T ?_ ?_ f A outer s H vs Q E hr hsp
    · rw [e1, e2]; exact hTB _ List.mem_cons_self
    · rw [e3, e4]; exact hTB _ (List.mem_cons_of_mem _ List.mem_cons_self)
end
end Iz
/-! k06_end -/
set_option Elab.async false
set_option linter.all false
open PySem PySem.W PyProof.Rows
set_option maxRecDepth 100000 in
set_option maxHeartbeats 0 in
theorem PySem.Challenge.cw_endlessplane_k06_lines_in_stretches_and_holds : PySem.Challenge.rw_endlessplane_k06_lines_in_stretches_and.Holds := by
  w_on; o_law; k_head; (case hw => w_witness2)
  k_fill
  refine LamX.walk_ofTs (l := PySem.Challenge.rw_endlessplane_k06_lines_in_stretches_and) (n := 63) (k := 17) (x := "_law_script") (CX := fun w => L2.CX PySem.Challenge.rw_endlessplane_k06_lines_in_stretches_and.prog w) rfl (by decide) rfl ⟨rfl, by decide, by decide⟩ (fun w h Y => PySem.W.km_in_of Y) ?F ?X
  case X =>
    intro w H s e s' hx
    obtain ⟨_, _, _, _, _, _, _, _, _, _, _, _, z⟩ := hx
    exact z.elim
  case F =>
    intro w mg fa h Y KX G hmg
    refine' Iz.law_at KX hmg (Iz.txt_mk KX G ?a_is_whole ?l_is_whole ?d_is_whole ?k_is_whole ?a_is_from ?l_is_from ?d_is_from ?k_is_from ?a_is_pair ?l_is_pair ?d_is_pair ?k_is_pair ?a_is_span ?l_is_span ?d_is_span ?k_is_span ?a_is_box ?l_is_box ?d_is_box ?k_is_box ?a_require_whole ?l_require_whole ?d_require_whole ?k_require_whole ?a_require_from ?l_require_from ?d_require_from ?k_require_from ?a_require_pair ?l_require_pair ?d_require_pair ?k_require_pair ?a__greater_low ?l__greater_low ?d__greater_low ?k__greater_low ?a__lesser_high ?l__lesser_high ?d__lesser_high ?k__lesser_high ?a_in_stretch ?l_in_stretch ?d_in_stretch ?k_in_stretch ?a_in_box ?l_in_box ?d_in_box ?k_in_box ?a_on_number ?l_on_number ?d_on_number ?k_on_number ?a_on_cell ?l_on_cell ?d_on_cell ?k_on_cell ?a__in_both ?l__in_both ?d__in_both ?k__in_both ?a__law_draw ?l__law_draw ?d__law_draw ?k__law_draw ?a__law_number ?l__law_number ?d__law_number ?k__law_number ?a__law_ends ?l__law_ends ?d__law_ends ?k__law_ends ?a__law_has ?l__law_has ?d__law_has ?k__law_has ?a__law_box ?l__law_box ?d__law_box ?k__law_box ?a__law_on_way ?l__law_on_way ?d__law_on_way ?k__law_on_way ?a__law_in ?l__law_in ?d__law_in ?k__law_in ?a__law_is_row ?l__law_is_row ?d__law_is_row ?k__law_is_row ?a__law_heard ?l__law_heard ?d__law_heard ?k__law_heard ?a__law_odd_right ?l__law_odd_right ?d__law_odd_right ?k__law_odd_right ?t__law_odd_right ?a_law ?l_law ?d_law ?k_law ?t_law ?xa_Stretch ?pg_Stretch ?hd_Stretch ?po_Stretch ?sa_Stretch ?mm_Stretch ?kc_Stretch ?ya_Stretch ?ym_Stretch ?na_Stretch_low ?na_Stretch_high ?ma_Stretch___init__ ?mi_Stretch___init__ ?mk_Stretch___init__ ?l_Stretch___init__ ?d_Stretch___init__ ?t_Stretch___init__ ?ma_Stretch_holds ?mi_Stretch_holds ?mk_Stretch_holds ?l_Stretch_holds ?d_Stretch_holds ?ma_Stretch_turned ?mi_Stretch_turned ?mk_Stretch_turned ?l_Stretch_turned ?d_Stretch_turned ?ma_Stretch_common ?mi_Stretch_common ?mk_Stretch_common ?l_Stretch_common ?d_Stretch_common ?xa_BadNumber ?xl_BadNumber ?xr_BadNumber ?xs_BadNumber ?xe_BadNumber ?xt_BadNumber ?xk_BadNumber ?xg_BadNumber ?xG_BadNumber ?xd_BadNumber ?xn_BadNumber ?xi_BadNumber ?xf_BadNumber ?xL_BadNumber ?xc_BadNumber ?xK_BadNumber ?yc_BadNumber ?ya_BadNumber ?ym_BadNumber ?xa_BadPart ?xl_BadPart ?xr_BadPart ?xs_BadPart ?xe_BadPart ?xt_BadPart ?xk_BadPart ?xg_BadPart ?xG_BadPart ?xd_BadPart ?xn_BadPart ?xi_BadPart ?xf_BadPart ?xL_BadPart ?xc_BadPart ?xK_BadPart ?yc_BadPart ?ya_BadPart ?ym_BadPart ?yn ?yt ?xa_PlaneError ?eN ?eP ?kNN ?kPN ?kPP ?pne ?kS_tuple ?z_isinstance ?z_int ?z_bool ?z_tuple ?z_len ?z_list ?z_range ?z_repr) ?T1 ?T2 (PySem.W.km_tabs_of Y _ ?T3) ?T4 ?U1 ?U2 (PySem.W.km_tabs_of Y _ ?U3) ?U4
    (case a_is_whole => k_is)
    (case l_is_whole => k_is)
    (case d_is_whole => k_is)
    (case k_is_whole => k_is)
    (case a_is_from => k_is)
    (case l_is_from => k_is)
    (case d_is_from => k_is)
    (case k_is_from => k_is)
    (case a_is_pair => k_is)
    (case l_is_pair => k_is)
    (case d_is_pair => k_is)
    (case k_is_pair => k_is)
    (case a_is_span => k_is)
    (case l_is_span => k_is)
    (case d_is_span => k_is)
    (case k_is_span => k_is)
    (case a_is_box => k_is)
    (case l_is_box => k_is)
    (case d_is_box => k_is)
    (case k_is_box => k_is)
    (case a_require_whole => k_is)
    (case l_require_whole => k_is)
    (case d_require_whole => k_is)
    (case k_require_whole => k_is)
    (case a_require_from => k_is)
    (case l_require_from => k_is)
    (case d_require_from => k_is)
    (case k_require_from => k_is)
    (case a_require_pair => k_is)
    (case l_require_pair => k_is)
    (case d_require_pair => k_is)
    (case k_require_pair => k_is)
    (case a__greater_low => k_is)
    (case l__greater_low => k_is)
    (case d__greater_low => k_is)
    (case k__greater_low => k_is)
    (case a__lesser_high => k_is)
    (case l__lesser_high => k_is)
    (case d__lesser_high => k_is)
    (case k__lesser_high => k_is)
    (case a_in_stretch => k_is)
    (case l_in_stretch => k_is)
    (case d_in_stretch => k_is)
    (case k_in_stretch => k_is)
    (case a_in_box => k_is)
    (case l_in_box => k_is)
    (case d_in_box => k_is)
    (case k_in_box => k_is)
    (case a_on_number => k_is)
    (case l_on_number => k_is)
    (case d_on_number => k_is)
    (case k_on_number => k_is)
    (case a_on_cell => k_is)
    (case l_on_cell => k_is)
    (case d_on_cell => k_is)
    (case k_on_cell => k_is)
    (case a__in_both => k_is)
    (case l__in_both => k_is)
    (case d__in_both => k_is)
    (case k__in_both => k_is)
    (case a__law_draw => k_is)
    (case l__law_draw => k_is)
    (case d__law_draw => k_is)
    (case k__law_draw => k_is)
    (case a__law_number => k_is)
    (case l__law_number => k_is)
    (case d__law_number => k_is)
    (case k__law_number => k_is)
    (case a__law_ends => k_is)
    (case l__law_ends => k_is)
    (case d__law_ends => k_is)
    (case k__law_ends => k_is)
    (case a__law_has => k_is)
    (case l__law_has => k_is)
    (case d__law_has => k_is)
    (case k__law_has => k_is)
    (case a__law_box => k_is)
    (case l__law_box => k_is)
    (case d__law_box => k_is)
    (case k__law_box => k_is)
    (case a__law_on_way => k_is)
    (case l__law_on_way => k_is)
    (case d__law_on_way => k_is)
    (case k__law_on_way => k_is)
    (case a__law_in => k_is)
    (case l__law_in => k_is)
    (case d__law_in => k_is)
    (case k__law_in => k_is)
    (case a__law_is_row => k_is)
    (case l__law_is_row => k_is)
    (case d__law_is_row => k_is)
    (case k__law_is_row => k_is)
    (case a__law_heard => k_is)
    (case l__law_heard => k_is)
    (case d__law_heard => k_is)
    (case k__law_heard => k_is)
    (case a__law_odd_right => k_is)
    (case l__law_odd_right => k_is)
    (case d__law_odd_right => k_is)
    (case k__law_odd_right => k_is)
    (case t__law_odd_right => first | rfl | (with_unfolding_all rfl) | kernel_rfl | decide | k_is)
    (case a_law => k_is)
    (case l_law => k_is)
    (case d_law => k_is)
    (case k_law => k_is)
    (case t_law => first | rfl | (with_unfolding_all rfl) | kernel_rfl | decide | k_is)
    (case xa_Stretch => k_is)
    (case pg_Stretch => k_is)
    (case hd_Stretch => k_is)
    (case po_Stretch => k_is)
    (case sa_Stretch => k_is)
    (case mm_Stretch => k_is)
    (case kc_Stretch => k_is)
    (case ya_Stretch => k_is)
    (case ym_Stretch => k_is)
    (case na_Stretch_low => k_is)
    (case na_Stretch_high => k_is)
    (case ma_Stretch___init__ => k_is)
    (case mi_Stretch___init__ => k_is)
    (case mk_Stretch___init__ => k_is)
    (case l_Stretch___init__ => k_is)
    (case d_Stretch___init__ => k_is)
    (case t_Stretch___init__ => k_is)
    (case ma_Stretch_holds => k_is)
    (case mi_Stretch_holds => k_is)
    (case mk_Stretch_holds => k_is)
    (case l_Stretch_holds => k_is)
    (case d_Stretch_holds => k_is)
    (case ma_Stretch_turned => k_is)
    (case mi_Stretch_turned => k_is)
    (case mk_Stretch_turned => k_is)
    (case l_Stretch_turned => k_is)
    (case d_Stretch_turned => k_is)
    (case ma_Stretch_common => k_is)
    (case mi_Stretch_common => k_is)
    (case mk_Stretch_common => k_is)
    (case l_Stretch_common => k_is)
    (case d_Stretch_common => k_is)
    (case xa_BadNumber => k_is)
    (case xl_BadNumber => k_is)
    (case xr_BadNumber => first | rfl | (with_unfolding_all rfl) | kernel_rfl | decide | k_is)
    (case xs_BadNumber => k_is)
    (case xe_BadNumber => k_is)
    (case xt_BadNumber => k_is)
    (case xk_BadNumber => k_is)
    (case xg_BadNumber => k_is)
    (case xG_BadNumber => k_is)
    (case xd_BadNumber => k_is)
    (case xn_BadNumber => k_is)
    (case xi_BadNumber => k_is)
    (case xf_BadNumber => k_is)
    (case xL_BadNumber => k_is)
    (case xc_BadNumber => k_is)
    (case xK_BadNumber => k_is)
    (case yc_BadNumber => first | rfl | (with_unfolding_all rfl) | kernel_rfl | decide | k_is)
    (case ya_BadNumber => k_is)
    (case ym_BadNumber => k_is)
    (case xa_BadPart => k_is)
    (case xl_BadPart => k_is)
    (case xr_BadPart => first | rfl | (with_unfolding_all rfl) | kernel_rfl | decide | k_is)
    (case xs_BadPart => k_is)
    (case xe_BadPart => k_is)
    (case xt_BadPart => k_is)
    (case xk_BadPart => k_is)
    (case xg_BadPart => k_is)
    (case xG_BadPart => k_is)
    (case xd_BadPart => k_is)
    (case xn_BadPart => k_is)
    (case xi_BadPart => k_is)
    (case xf_BadPart => k_is)
    (case xL_BadPart => k_is)
    (case xc_BadPart => k_is)
    (case xK_BadPart => k_is)
    (case yc_BadPart => first | rfl | (with_unfolding_all rfl) | kernel_rfl | decide | k_is)
    (case ya_BadPart => k_is)
    (case ym_BadPart => k_is)
    (case yn => k_is)
    (case yt => k_is)
    (case xa_PlaneError => k_is)
    (case eN => first | rfl | (with_unfolding_all rfl) | kernel_rfl | decide | k_is)
    (case eP => first | rfl | (with_unfolding_all rfl) | kernel_rfl | decide | k_is)
    (case kNN => first | rfl | (with_unfolding_all rfl) | kernel_rfl | decide | k_is)
    (case kPN => first | rfl | (with_unfolding_all rfl) | kernel_rfl | decide | k_is)
    (case kPP => first | rfl | (with_unfolding_all rfl) | kernel_rfl | decide | k_is)
    (case pne => first | rfl | (with_unfolding_all rfl) | kernel_rfl | decide | k_is)
    (case kS_tuple => first | rfl | (with_unfolding_all rfl) | kernel_rfl | decide | k_is)
    (case z_isinstance => k_is)
    (case z_int => k_is)
    (case z_bool => k_is)
    (case z_tuple => k_is)
    (case z_len => k_is)
    (case z_list => k_is)
    (case z_range => k_is)
    (case z_repr => k_is)
    (case T1 => first | rfl | with_unfolding_all rfl); (case T2 => first | rfl | with_unfolding_all rfl); (case T3 => decide); (case T4 => first | k_is | rfl | with_unfolding_all rfl)
    (case U1 => first | rfl | with_unfolding_all rfl); (case U2 => first | rfl | with_unfolding_all rfl); (case U3 => decide); (case U4 => first | k_is | rfl | with_unfolding_all rfl)
