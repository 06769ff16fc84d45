import PyProof.Rows.All
import Wide.All
import OpenK.AllK
import Wide.FinOn
import HandS.ForMost
import HandS.ForExc
import HandS.ExcInit
import HandS.ExcField
import HandS.ExcIs
import HandS.IsInst
import HandS.Lambda
import HandS.EndTab
import HandS.Wide
import HandS.Style
import HandS.RaiseMore
import HandS.Flow
import HandS.HeadHook1
import KE.KExcIs
import PyProof.CallFns
import PySem.Challenge.RW_endlessplane_k07_whole_remainders_met
/-! Bs -/
set_option Elab.async false
set_option linter.all false
set_option maxRecDepth 100000
set_option maxHeartbeats 4000000
namespace Iz
open PySem PySem.Spec PyProof.Rows L2
theorem cx_K {CX : CXT} {P : Program} {w : World} {K : PySem.W.Frag} {mg : Str → Option Value} {base : Heap} {N : List Str} {q : Str} {sc : Scope} {f : Addr} {cd : Value} {A : Around} {outer : List Env} {s : Shared} {H : Hp} {E : XK} : (cxOf CX P w K mg base N q sc f cd A outer s H E).K = K := rfl
/-! ### defs by name, calls -/
/-- the global x is a def that keeps sp -/
structure OkF (P : Program) (w : World) (K : PySem.W.Frag) (mg : Str → Option Value) (base : Heap) (CX : CXT) (k : Nat) (x : Str) (ps : List Str) (sp : Sp) : Prop where
  ex : ∃ (f : Addr) (fd : FuncData), mg x = some (.ref f) ∧ PySem.W.keepIn K (.ref f) = true ∧ Binds K fd ps [] ∧ FnOk P w K mg base CX k f fd ps sp
theorem OkF.imp {P : Program} {w : World} {K : PySem.W.Frag} {mg : Str → Option Value} {base : Heap} {CX : CXT} {k : Nat} {x : Str} {ps : List Str} {sp sp' : Sp} (F : OkF P w K mg base CX k x ps sp) (h : ∀ vs H Q E, sp' vs H Q E → sp vs H Q E) : OkF P w K mg base CX k x ps sp' :=
  let ⟨f, fd, g, kp, b, G⟩ := F.ex
  ⟨f, fd, g, kp, b, G.imp h⟩
/-- inside a def that may raise: what is raised goes on out -/
theorem passE {P : Program} {w : World} {K : PySem.W.Frag} {mg : Str → Option Value} {base : Heap} {N : List Str} {q : Str} {sc : Scope} {f : Addr} {cd : Value} {A : Around} {outer : List Env} {s : Shared} {H : Hp} {E : XK} :
    Passes (L2.CX P w) (cxOf (L2.CX P w) P w K mg base N q sc f cd A outer s H E) E := passes_call (W := fun cls d _ H => E cls d H) (takes_of rfl rfl rfl rfl) fun _ _ _ _ h => h
theorem takesE {P : Program} {w : World} {K : PySem.W.Frag} {mg : Str → Option Value} {base : Heap} {N : List Str} {q : Str} {sc : Scope} {f : Addr} {cd : Value} {A : Around} {outer : List Env} {s : Shared} {H : Hp} {E : XK} :
    Takes (cxOf (L2.CX P w) P w K mg base N q sc f cd A outer s H E) (fun cls d _ H => E cls d H) := takes_of rfl rfl rfl rfl
section
variable {X : Cx} {k : Nat} {x : Str} {ps : List Str} {sp : Sp} {E : XK} {e : Expr} {es : List Expr} {t : TA} {p pos : Pos}
/-- f(e, ..) -/
theorem pcl {CX : CXT} (O : OkF X.prog X.w X.K X.mg X.base CX k x ps sp) (hr : Room k X.A) (hx : Passes CX X E) (ha : PA X (e :: es) t) (hg : Gl X x := by rfl) (hdb : (x == ("__debug__" : Str)) = false := by decide)
    (he : starEach (e :: es) X.env = (false, eval e X.env) :: starEach es X.env := by rfl) (hpl : (backTo pos (starEach es X.env)).any (·.1) = false := by rfl) : PE X (.Call (.Name x p) (e :: es) [] pos) (tCall sp [] E t) := by
  obtain ⟨f, fd, g, kp, b, G⟩ := O.ex
  exact pe_call G hr hg g kp b .nil hx ha hdb he hpl
end
theorem op_fdivF {X : Cx} : OpR X (binaryOp .FloorDiv) (rI (fun _ j => j ≠ 0 ∧ j.natAbs.log2 < 9000) fun i j => .int (i.fdiv j)) := opI fun i j _ _ _ _ _ hc q => floordiv_int hc.1 q (.inl (PyProof.noPylong_of_log2 hc.2))
theorem log_lt {x : Int} {n m : Nat} (h : x.natAbs < 2 ^ n) (hm : n ≤ m) (h0 : 0 < m) : x.natAbs.log2 < m := PySem.Flt.log2_lt_of h0 (Nat.lt_of_lt_of_le h (Nat.pow_le_pow_right (by decide) hm))
/-! ### readings in a form that simp reads: an object is named by what stands at it -/
section
variable {X : Cx} {e a b : Expr} {es : List Expr} {t t' ta tb : TE}
theorem PE.imp (h : PE X e t) (k : ∀ σ H Q, t' σ H Q → t σ H Q) : PE X e t' := ⟨fun pins s σ H Q I q => h.run pins s σ H Q I (k σ H Q q)⟩
theorem PS.imp {st : Stmt} {t t' : TS} (h : PS X st t) (k : ∀ D σ H, t' D σ H → t D σ H) : PS X st t' := ⟨fun pins s σ H D I q => h.run pins s σ H D I (k D σ H q)⟩
theorem PG.imp {tg : Expr} {t t' : TG} (h : PG X tg t) (k : ∀ v σ H Q, t' v σ H Q → t v σ H Q) : PG X tg t' := ⟨fun pins s σ H v u Q I r q => h.run pins s σ H v u Q I r (k v σ H Q q)⟩
theorem CallR.imp {f : Value} {r r' : List V → Hp → VK → Prop} (h : CallR X f r) (k : ∀ xs H Q, r' xs H Q → r xs H Q) : CallR X f r' := fun pins s σ H xs us Q I rv q => h pins s σ H xs us Q I rv (k xs H Q q)
theorem Same.upd {H : Hp} {p : Addr} {o : HO} (h : H p = none) : Same H (L2.upd H p o) := fun b u e => by rw [upd_ne (ne_of_none e h)]; exact e
/-- a new object: from then on some heap that has it and all else -/
def News (H : Hp) (o : HO) (Q : V → Hp → Prop) : Prop := ∀ p H2, H p = none → Same H H2 → H2 p = some o → Q (.ref p) H2
theorem News.all {H : Hp} {o : HO} {Q : V → Hp → Prop} (n : News H o Q) : ∀ p, H p = none → Q (.ref p) (upd H p o) := fun p hp => n p _ hp (Same.upd hp) upd_same
def tTupN (t : TA) : TE := fun σ H Q => t σ H fun xs H1 => xs.length ≤ sizeLine ∧ News H1 (.tup xs) Q
def tLstN (t : TA) : TE := fun σ H Q => t σ H fun xs H1 => xs.length ≤ sizeLine ∧ News H1 (.lst xs) Q
/-- what a reading gives, weakened -/
def mcl {α : Type} (t : L2.St → Hp → (α → Hp → Prop) → Prop) : L2.St → Hp → (α → Hp → Prop) → Prop := fun σ H Q => ∃ Q0, t σ H Q0 ∧ ∀ v H1, Q0 v H1 → Q v H1
theorem PA.mcl {t : TA} (h : PA X es t) : PA X es (mcl t) := ⟨fun pos pins s σ H Q I ⟨Q0, q, k⟩ => thn (h.run pos pins s σ H Q0 I q) fun us s1 ⟨vs, H1, I1, r, q1⟩ => ⟨vs, H1, I1, r, k vs H1 q1⟩⟩
theorem PE.mcl {t : TE} (h : PE X e t) : PE X e (mcl t) := ⟨fun pins s σ H Q I ⟨Q0, q, k⟩ => thn (h.run pins s σ H Q0 I q) fun u s1 ⟨v, H1, I1, r, q1⟩ => ⟨v, H1, I1, r, k v H1 q1⟩⟩
theorem pe_tupN {t : TA} {x1 : Nat} {pos : Pos} (h : PA X es t) : PE X (.Tuple es x1 pos) (tTupN t) := PE.imp (pe_tup (PA.mcl h)) fun σ H Q q => ⟨_, q, fun vs H1 ⟨z, n⟩ => ⟨z, n.all⟩⟩
theorem pe_lstN {t : TA} {pos : Pos} (h : PA X es t) : PE X (.List es pos) (tLstN t) := PE.imp (pe_lst (PA.mcl h)) fun σ H Q q => ⟨_, q, fun vs H1 ⟨z, n⟩ => ⟨z, n.all⟩⟩
def rIxTN : R2 := fun x y H Q => ∃ p xs i v, x = .ref p ∧ y = .int i ∧ H p = some (.tup xs) ∧ atI xs i = some v ∧ Q v H
theorem ix_tupN : IxR X rIxTN := fun v0 sl pins s σ H x y v u Q I rx ry q hs => ix_tup v0 sl pins s σ H x y v u Q I rx ry (let ⟨p, xs, i, z, a, b, c, d, q⟩ := q; ⟨p, xs, i, z, a, b, SqT.of c, d, q⟩) hs
def rIxLN : R2 := fun x y H Q => ∃ p xs i v, x = .ref p ∧ y = .int i ∧ H p = some (.lst xs) ∧ atI xs i = some v ∧ Q v H
theorem ix_listN : IxR X rIxLN := fun v0 sl pins s σ H x y v u Q I rx ry q hs => ix_list v0 sl pins s σ H x y v u Q I rx ry (let ⟨p, xs, i, z, a, b, c, d, q⟩ := q; ⟨p, xs, i, z, a, b, SqL.of c, d, q⟩) hs
def gTupN (n : Nat) (t : TGs) : TG := fun v σ H Q => ∃ a xs, v = .ref a ∧ H a = some (.tup xs) ∧ xs.length = n ∧ t xs σ H Q
theorem pg_tupN {k : Nat} {pos : Pos} {t : TGs} {n : Nat} (hc : X.calm = true) (h : PGs X es t) (hn : (assignEach es X.env).length = n := by rfl) (hst : (assignEach es X.env).findIdx? (·.1) = none := by rfl) : PG X (.Tuple es k pos) (gTupN n t) :=
  PG.imp (pg_tup hc h hn hst) fun v σ H Q ⟨p, xs, a, c, d, q⟩ => ⟨p, xs, a, SqT.of c, d, q⟩
def rLenL : List V → Hp → VK → Prop := fun xs H Q => ∃ p ys, xs = [.ref p] ∧ H p = some (.lst ys) ∧ Q (.int ys.length) H
theorem call_lenL : CallR X (.builtin "len") rLenL := CallR.imp call_len_seq fun xs H Q ⟨p, ys, a, b, q⟩ => ⟨p, ys, a, .inl (SqL.of b), q⟩
def rLenT : List V → Hp → VK → Prop := fun xs H Q => ∃ p ys, xs = [.ref p] ∧ H p = some (.tup ys) ∧ Q (.int ys.length) H
theorem call_lenT : CallR X (.builtin "len") rLenT := CallR.imp call_len_seq fun xs H Q ⟨p, ys, a, b, q⟩ => ⟨p, ys, a, .inr (SqT.of b), q⟩
def rIntI : List V → Hp → VK → Prop := fun xs H Q => ∃ i, xs = [.int i] ∧ Q (.int i) H
theorem call_intI : CallR X (.type "int") rIntI := CallR.imp call_int1 fun xs H Q q => .inl q
def rIntB : List V → Hp → VK → Prop := fun xs H Q => ∃ k, xs = [.bl k] ∧ Q (.int (if k then 1 else 0)) H
theorem call_intB : CallR X (.type "int") rIntB := CallR.imp call_int1 fun xs H Q q => .inr q
def rAbs : List V → Hp → VK → Prop := fun xs H Q => ∃ i, xs = [.int i] ∧ Q (.int (i.natAbs : Int)) H
theorem call_absN : CallR X (.builtin "abs") rAbs := CallR.imp call_abs fun xs H Q ⟨i, a, q⟩ => ⟨i, a, by rw [show (if i < 0 then -i else i) = (i.natAbs : Int) by split <;> omega]; exact q⟩
def rListS (K : PySem.W.Frag) : List V → Hp → VK → Prop := fun xs H Q => ∃ p ys, xs = [.ref p] ∧ SqL K H p ys ∧ News H (.lst ys) Q
theorem call_listS : CallR X (.type "list") (rListS X.K) := CallR.imp call_list_of fun xs H Q ⟨p, ys, a, b, n⟩ => ⟨p, ys, a, .inl b, n.all⟩
/-- a truth: what the test says -/
theorem atI0 {α : Type} {a : α} {l : List α} : atI (a :: l) 0 = some a := by simp [atI, ixN]
theorem ixN_ok {n : Nat} {i : Int} (h : 0 ≤ i) (h2 : i < n) : ixN n i = some i.toNat := by simp [ixN, h, h2]
theorem atI_ok {α : Type} {l : List α} {i : Int} {v : α} (h : 0 ≤ i) (h2 : l[i.toNat]? = some v) : atI l i = some v := by
  have h3 := (List.getElem?_eq_some_iff.mp h2).1
  unfold atI
  rw [ixN_ok h (by omega)]
  exact h2
theorem atI1 {α : Type} {a b : α} {l : List α} : atI (a :: b :: l) 1 = some b := atI_ok (by decide) rfl
theorem atI2 {α : Type} {a b c : α} {l : List α} : atI (a :: b :: c :: l) 2 = some c := atI_ok (by decide) rfl
theorem atI3 {α : Type} {a b c d : α} {l : List α} : atI (a :: b :: c :: d :: l) 3 = some d := atI_ok (by decide) rfl
theorem ite_iff {c A B : Prop} [Decidable c] : (if c then A else B) ↔ ((c → A) ∧ (¬ c → B)) := by
  by_cases h : c <;> simp [h]
/-- a while's test may be asked for less -/
theorem mono_eq {r : R2} {i : Nat} {v : V} (hr : ∀ x y H Q Q', (∀ z H1, Q z H1 → Q' z H1) → r x y H Q → r x y H Q') : ∀ (σ : L2.St) (H : Hp) (Q Q' : Bool → Hp → Prop), (∀ b H1, Q b H1 → Q' b H1) → tTest (tOp r (tVar i) (tC v)) σ H Q → tTest (tOp r (tVar i) (tC v)) σ H Q' :=
  fun _ _ _ _ k ⟨x, h, q⟩ => ⟨x, h, hr _ _ _ _ _ (fun _ _ ⟨b, e, q⟩ => ⟨b, e, k _ _ q⟩) q⟩
theorem mono_ne {i : Nat} {v : V} : ∀ (σ : L2.St) (H : Hp) (Q Q' : Bool → Hp → Prop), (∀ b H1, Q b H1 → Q' b H1) → tTest (tOp rNe (tVar i) (tC v)) σ H Q → tTest (tOp rNe (tVar i) (tC v)) σ H Q' := mono_eq fun _ _ _ _ _ k ⟨a, q⟩ => ⟨a, k _ _ q⟩
end
/-- H2 is H with o at p -/
def Put (H H2 : Hp) (p : Addr) (o : HO) : Prop := H2 p = some o ∧ ∀ b, b ≠ p → H2 b = H b
def rSetLN : V → V → V → Hp → (Hp → Prop) → Prop := fun o i v H Q => ∃ p xs k j, o = .ref p ∧ i = .int k ∧ H p = some (.lst xs) ∧ ixN xs.length k = some j ∧ ∀ H2, Put H H2 p (.lst (xs.set j v)) → Q H2
theorem set_listN {X : Cx} : PSet X rSetLN := fun pins s σ H o i v ov iv u Q I ro ri rv ⟨p, xs, k, j, a, b, c, d, q⟩ => set_list pins s σ H o i v ov iv u Q I ro ri rv ⟨p, xs, k, j, a, b, c, d, q _ ⟨upd_same, fun _ h => upd_ne h⟩⟩
theorem PT.imp {X : Cx} {e : Expr} {t t' : TT} (h : PT X e t) (k : ∀ σ H Q, t' σ H Q → t σ H Q) : PT X e t' := ⟨fun pins s σ H Q I q => h.run pins s σ H Q I (k σ H Q q)⟩
/-- a list's truth -/
def tTruL (te : TE) : TT := fun σ H Q => te σ H fun x H1 => ∃ p xs, x = .ref p ∧ H1 p = some (.lst xs) ∧ Q (!xs.isEmpty) H1
theorem pt_truL {X : Cx} {e : Expr} {te : TE} (h : PE X e te) (hw : ∀ t : Sem Value, isTrue e X.env t = (t >>= fun v => standAt e.pos >>= fun _ => holding [v] (truthy v)) := by intro _; rfl) : PT X e (tTruL te) :=
  PT.imp (pt_truth (PE.mcl h) hw) fun σ H Q q => ⟨_, q, fun v H1 ⟨p, xs, a, b, q⟩ => ⟨_, by subst a; exact .inl ⟨xs, SqL.of b, rfl⟩, q⟩⟩
theorem ixN0 {n : Nat} : ixN (n + 1) 0 = some 0 := ixN_ok (by decide) (by omega)
theorem ixN1 {n : Nat} : ixN (n + 1 + 1) 1 = some 1 := ixN_ok (by decide) (by omega)
theorem scal_ii {i j : Int} : scal (.int i) (.int j) = true := rfl
theorem scal_in {i : Int} : scal (.int i) .non = true := rfl
theorem scal_ni {i : Int} : scal .non (.int i) = true := rfl
theorem scal_nn : scal .non .non = true := rfl
theorem scal_bb {i j : Bool} : scal (.bl i) (.bl j) = true := rfl
theorem scal_ss {i j : Str} : scal (.str i) (.str j) = true := rfl
theorem scal_sn {i : Str} : scal (.str i) .non = true := rfl
theorem scal_ns {i : Str} : scal .non (.str i) = true := rfl
theorem scal_bn {i : Bool} : scal (.bl i) .non = true := rfl
theorem scal_nb {i : Bool} : scal .non (.bl i) = true := rfl
/-- xs.append(e) -/
def tApp (to : TE) (ta : TA) : TE := fun σ H Q => to σ H fun x H1 => ∃ l, x = .ref l ∧ (∃ xs, H1 l = some (.lst xs)) ∧ ta σ H1 fun vs H2 => ∃ y xs, vs = [y] ∧ H2 l = some (.lst xs) ∧ xs.length < sizeLine ∧ ∀ H3, Put H2 H3 l (.lst (xs ++ [y])) → Q .non H3
theorem pe_appN {X : Cx} {o e : Expr} {to : TE} {ta : TA} {apos cpos : Pos} (ho : PE X o to) (ha : PA X [e] ta)
    (hbase : attributeBase o "append" X.env (eval o X.env) = eval o X.env := by rfl)
    (hfew : ((backTo cpos (starEach [e] X.env)).all (fun x => !x.1) && (backToKw cpos (keywordEach [] X.env)).all (fun x => x.1.isSome) && decide ([e].length + ([] : List Keyword).length + (if ([] : List Keyword).isEmpty then 0 else 1) < 30)) = true := by rfl)
    (hline : (apos.endLine == cpos.line) = true := by rfl) (hs : starEach [e] X.env = (false, eval e X.env) :: starEach [] X.env := by rfl) (hplain : (backTo cpos (starEach [] X.env)).any (·.1) = false := by rfl) :
    PE X (.Call (.Attribute o "append" apos) [e] [] cpos) (tApp to ta) :=
  PE.imp (pe_bm PySem.F.plainAttrs_list PySem.F.slot_list_append PySem.F.type_list_append mt_append (PE.mcl ho) (PA.mcl ha) hbase hfew hline hs hplain) fun σ H Q q =>
    ⟨_, q, fun x H1 ⟨l, hx, ⟨xs, hl⟩, q⟩ => by subst hx; exact ⟨.inl ⟨rfl, xs, SqL.of hl⟩, _, q, fun vs H2 ⟨y, xs, a, b, c, q⟩ => ⟨l, xs, y, rfl, a, b, c, q _ ⟨upd_same, fun _ h => upd_ne h⟩⟩⟩⟩
/-- a statement whose ways join behind it: M holds there -/
def tCut (t : TS) : TS := fun D σ H => ∃ M : L2.St → Hp → Prop, t { D with nx := M } σ H ∧ ∀ σ' H', M σ' H' → D.nx σ' H'
theorem ps_cut {X : Cx} {st : Stmt} {t : TS} (h : PS X st t) : PS X st (tCut t) := ⟨fun pins s σ H D I ⟨M, q, k⟩ => thn (h.run pins s σ H { D with nx := M } I q) fun f s1 r => by
  cases f with
  | next => obtain ⟨σ', H', J, m⟩ := r; exact ⟨σ', H', J, k σ' H' m⟩
  | brk => exact r
  | cont => exact r
  | ret u => exact r⟩
/-! ### loops -/
section
variable {g : TG} {tb : TS} {D : Ends} {σ : L2.St} {H : Hp} {ta : TA} {tl : TE}
theorem st_forR1 (j : Int) (hj : -(2 ^ 62) ≤ j ∧ j < 2 ^ 62) (ha : ∀ Q : List V → Hp → Prop, Q [.int j] H → ta σ H Q) (Pv : Nat → L2.St → Hp → Prop) (h0 : Pv 0 σ H)
    (hs : ∀ i σ H, i < j.toNat → Pv i σ H → g (.int i) σ H fun σ2 H2 => tb { D with nx := Pv (i + 1), ct := Pv (i + 1), bk := D.nx } σ2 H2) (hd : ∀ σ H, Pv j.toNat σ H → D.nx σ H) : tFor (iRng1 ta) g tb D σ H :=
  ha _ ⟨j, rfl, hj.1, hj.2, for_range Pv h0 (fun i σ H hi p => by rw [Int.zero_add]; exact hs i σ H hi p) hd⟩
theorem st_forR2 (lo j : Int) (hl : -(2 ^ 62) ≤ lo ∧ lo < 2 ^ 62) (hj : -(2 ^ 62) ≤ j ∧ j < 2 ^ 62) (ha : ∀ Q : List V → Hp → Prop, Q [.int lo, .int j] H → ta σ H Q) (Pv : Nat → L2.St → Hp → Prop) (h0 : Pv 0 σ H)
    (hs : ∀ i σ H, i < (j - lo).toNat → Pv i σ H → g (.int (lo + i)) σ H fun σ2 H2 => tb { D with nx := Pv (i + 1), ct := Pv (i + 1), bk := D.nx } σ2 H2) (hd : ∀ σ H, Pv (j - lo).toNat σ H → D.nx σ H) : tFor (iRng2 ta) g tb D σ H :=
  ha _ ⟨lo, j, rfl, ⟨hl.1, hl.2, hj.1, hj.2⟩, for_range Pv h0 hs hd⟩
end
/-! ### values of any kind -/
/-- a plain int -/
def isI : V → Bool
  | .int _ => true
  | _ => false
theorem isI_int {x : V} (h : isI x = true) : ∃ i, x = .int i := by cases x <;> simp_all [isI]
/-- is_whole tells rightly of x -/
def Wh (K : PySem.W.Frag) (H : Hp) (x : V) : Prop := ∃ t b1 b2, TyX K H x t ∧ PySem.W.kitOne K t (.type "int") = some b1 ∧ PySem.W.kitOne K t (.type "bool") = some b2 ∧ (b1 && !b2) = isI x
section
variable {K : PySem.W.Frag} {H : Hp}
theorem wh_int {i : Int} : Wh K H (.int i) := ⟨_, true, false, .base (.int i), kit_ty (by decide +kernel), kit_ty (by decide +kernel), rfl⟩
theorem wh_bl {b : Bool} : Wh K H (.bl b) := ⟨_, true, true, .base (.bl b), kit_ty (by decide +kernel), kit_ty (by decide +kernel), rfl⟩
theorem wh_non : Wh K H .non := ⟨_, false, false, .base .non, kit_ty (by decide +kernel), kit_ty (by decide +kernel), rfl⟩
theorem wh_str {x : Str} : Wh K H (.str x) := ⟨_, false, false, .base (.str x), kit_ty (by decide +kernel), kit_ty (by decide +kernel), rfl⟩
theorem wh_tup {p : Addr} {xs : List V} (h : H p = some (.tup xs)) : Wh K H (.ref p) := ⟨_, false, false, .base (.tup h), kit_ty (by decide +kernel), kit_ty (by decide +kernel), rfl⟩
theorem wh_lst {p : Addr} {xs : List V} (h : H p = some (.lst xs)) : Wh K H (.ref p) := ⟨_, false, false, .base (.lst h), kit_ty (by decide +kernel), kit_ty (by decide +kernel), rfl⟩
end
/-- isinstance with a built-in class, with an own one -/
def rIsTy (K : PySem.W.Frag) : List V → Hp → VK → Prop := fun xs H Q => ∃ x n t b, xs = [x, .ty n] ∧ TyX K H x t ∧ PySem.W.kitOne K t (.type n) = some b ∧ Q (.bl b) H
theorem call_isTy {X : Cx} : CallR X (.builtin "isinstance") (rIsTy X.K) := CallR.imp call_isi fun xs H Q ⟨x, n, t, b, a, ty, k, q⟩ => ⟨x, .ty n, t, .type n, b, a, .ty n, ty, k, q⟩
/-! ### own errors with one field -/
open He (ga)
def spXI (K : PySem.W.Frag) (fld : Str) : Sp := fun vs H Q _ => ∃ (a C : Addr) (v : V), vs = [.ref a, v] ∧ OexC K C ∧ PySem.W.findIn K (.ref C) fld = some none ∧ H a = some (exo a C none) ∧
  ∀ dx, H dx = none → dx ≠ a → Q .non (upd (upd H dx (exd dx [(fld, v)])) a (exo a C (some dx)))
section
variable {P : Program} {w : World} {K : PySem.W.Frag} {mg : Str → Option Value} {base : Heap}
theorem vis_of {N ps : List Str} {sc : Scope} (S : FnScope N ps sc) {x : Str} (h : x ∈ ps) : Vis sc x := (S.par x h).elim .inl fun e => .inr (.inl e)
theorem ok_xi {qual fld : Str} {st : Stmt} {f : Addr} {fd : FuncData} {p1 p2 p3 p4 : Pos} (F : Fun K "__init__" qual st f fd) (S : FnScope ["self", fld] ["self", fld] (defScope st))
    (hb : defBody st = [.Assign [.Attribute (.Name "self" p1) fld p2] (.Name fld p3) p4]) (h1 : (fld == ("__debug__" : Str)) = false) (h2 : (fld == ("__classdict__" : Str)) = false) : FnOk P w K mg base CX0 1 f fd ["self", fld] (spXI K fld) := by
  refine F.ok S (fun vs H Q E h => ?_) (fun cdv A outer s H vs Q E hr h => ?_)
  · obtain ⟨a, C, v, rfl, _⟩ := h; rfl
  · obtain ⟨a, C, v, rfl, T, hn, ha, k⟩ := h
    rw [hb]
    refine ⟨_, pss_one (ps_ost (pe_var (i := 0) rfl (vis_of S (by simp))) (pe_var (i := 1) rfl (vis_of S (by simp)) h1 h2)), ?_⟩
    exact ⟨v, rfl, .ref a, rfl, a, C, rfl, T, hn, .inl ⟨ha, k⟩⟩
/-- what the top has made of the class x, whose __init__ keeps its one argument in fld -/
structure ExT (K : PySem.W.Frag) (mg : Str → Option Value) (x fld : Str) : Prop where
  g : mg x = some (.ref (ga K x))
  ox : OexC K (ga K x)
  xf : XfC K (ga K x)
  no : PySem.W.findIn K (.ref (ga K x)) fld = some none
  ini : ∃ (qual : Str) (st : Stmt) (f : Addr) (fd : FuncData) (p1 p2 p3 p4 : Pos), PySem.W.findIn K (.ref (ga K x)) "__init__" = some (some (.ref f)) ∧ PySem.W.typeIn K (.ref f) = some (.type "function") ∧ Fun K "__init__" qual st f fd ∧ FnScope ["self", fld] ["self", fld] (defScope st) ∧
    defBody st = [.Assign [.Attribute (.Name "self" p1) fld p2] (.Name fld p3) p4] ∧ Binds K fd ["self", fld] []
/-- an error of the class x with fld = v is let out -/
def Rse (K : PySem.W.Frag) (E : XK) (H : Hp) (x fld : Str) (v : V) : Prop := ∀ d H', H d = none → Same H H' → H' d = some (.xd [(fld, v)]) → E (.ref (ga K x)) (some d) H'
def tRaiseX (K : PySem.W.Frag) (x fld : Str) (W : WX) (te : TE) : TS := fun _ σ H => te σ H fun v H1 => Rse K (fun cls d H' => W cls d σ H') H1 x fld v
theorem ps_raiseX {X : Cx} {x fld : Str} {W : WX} {e : Expr} {te : TE} {p pos pos2 : Pos} (T : ExT X.K X.mg x fld) (hr : Room 2 X.A) (tk : Takes X W) (he : PE X e te) (hc : X.calm = true := by rfl) (hg : Gl X x := by rfl) (hdb : (x == ("__debug__" : Str)) = false := by decide)
    (hd1 : (fld == ("__debug__" : Str)) = false := by decide) (hd2 : (fld == ("__classdict__" : Str)) = false := by decide)
    (hs : starEach [e] X.env = (false, eval e X.env) :: starEach [] X.env := by rfl) (hpl : (backTo pos (starEach [] X.env)).any (·.1) = false := by rfl) : PS X (.Raise (some (.Call (.Name x p) [e] [] pos)) none pos2) (tRaiseX X.K x fld W te) := by
  obtain ⟨qual, st, f, fd, p1, p2, p3, p4, hi, ht, F, S, hb, B⟩ := T.ini
  have G : FnOk X.prog X.w X.K X.mg X.base CX0 1 f fd ["self", fld] (spXI X.K fld) := ok_xi F S hb hd1 hd2
  refine PS.imp (ps_raise hc tk (pmk_oex (k := 1) T.ox hi ht G hr B .nil (pass0) hg T.g (pa_cons (PE.mcl he) pa_nil hs) hdb hs hpl)) fun D σ H q => ?_
  refine ⟨_, q, fun v H1 k => ?_⟩
  refine ⟨by show 1 ≤ 1000; decide, fun a ha => ⟨a, _, v, rfl, T.ox, T.no, upd_same, fun dx hdx hne => ⟨rfl, dx, _, upd_same, by rw [upd_ne hne, upd_same], ?_, ?_⟩⟩⟩
  · rw [upd_ne hne] at hdx; exact hdx
  · have hdn : H1 dx = none := by rw [upd_ne hne] at hdx; exact hdx
    refine k dx _ hdn (fun b u e => ?_) upd_same
    have h1 := ne_of_none e hdn
    have h2 := ne_of_none e ha
    rw [upd_ne h1, del_ne h2, upd_ne h2, upd_ne h1, upd_ne h2]
    exact e
end
end Iz
/-! Bx -/
set_option Elab.async false
set_option linter.all false
set_option maxRecDepth 100000
set_option maxHeartbeats 4000000
namespace Iz
open PySem PySem.Spec PyProof.Rows L2 LamX
open He (ga)
/-! ### repr of plain values -/
def ReprV : V → Str → Prop
  | .non, s => s = "None"
  | .bl b, s => s = if b = true then Str.ofString "True" else Str.ofString "False"
  | .int i, s => i.natAbs.log2 < 1920 ∧ s = Str.ofString (toString i)
  | .str x, s => (reprText x).length ≤ sizeLine ∧ s = reprText x
  | _, _ => False
def rRepr : List V → Hp → VK → Prop := fun xs H Q => ∃ x s, xs = [x] ∧ ReprV x s ∧ Q (.str s) H
theorem call_reprN {X : Cx} : CallR X (.builtin "repr") rRepr := by
  intro pins s σ H xs us Q I r h
  obtain ⟨x, z, rfl, hz, q⟩ := h
  cases r with
  | cons rx rr =>
    cases rr
    cases x with
    | non => cases rx; cases hz; exact PySem.P.repr_of_none ⟨.str _, H, I.tok _, ⟨_, rfl⟩, q⟩
    | bl b => cases rx; cases hz; exact PySem.P.repr_of_bool ⟨.str _, H, I.tok _, ⟨_, rfl⟩, q⟩
    | int i => obtain ⟨t, rfl⟩ := rx; obtain ⟨hb, rfl⟩ := hz; exact PySem.P.repr_of_int hb ⟨.str _, H, I.tok _, ⟨_, rfl⟩, q⟩
    | str y => obtain ⟨t, rfl⟩ := rx; obtain ⟨hb, rfl⟩ := hz; exact PySem.P.repr_of_str ⟨.str _, H, I.tok _, ⟨_, rfl⟩, q⟩ hb
    | byt b => cases hz
    | flt b => cases hz
    | ref a => cases hz
    | ty n => cases hz
/-! ### isinstance of a caught error -/
structure ExI (K : PySem.W.Frag) (D : Addr) : Prop where
  hc : (PySem.W.clsIn K D).isSome = true
  ha : PySem.W.findIn K (.ref D) "__class__" = some (some (.builtin "object.__class__"))
  hn : PySem.W.specialIn K (.builtin "object.__class__") "__get__" = some (some (.builtin "getset_descriptor.__get__"))
  ht : PySem.W.takesIn K (.builtin "object.__class__") = some true
  hm : PySem.W.mroIn K D (.type "object") = some true
def rIsX (K : PySem.W.Frag) (a : Addr) (cls : Value) (d : Option Addr) : List V → Hp → VK → Prop := fun xs H Q => ∃ (c D dd : Addr) (fs : List (Str × V)) (b : Bool), xs = [.ref a, .ref c] ∧ cls = .ref D ∧ d = some dd ∧ H dd = some (.xd fs) ∧ XfC K D ∧ ExI K D ∧ PySem.W.kitOne K (.ref D) (.ref c) = some b ∧ Q (.bl b) H
theorem call_isX {X : Cx} {a : Addr} {oe : Obj} {cls : Value} {d : Option Addr} {pn : List (Addr × Obj)} (hz : Zc cls d oe) (hf : ∃ vs, oe.data = .fields vs) : CallR (X.suite a ((a, oe) :: pn)) (.builtin "isinstance") (rIsX X.K a cls d) := by
  intro pins s σ H xs us Q I r h
  obtain ⟨c, D, dd, fs, b, rfl, rfl, rfl, hd, T, U, hk, q⟩ := h
  cases r with
  | cons rx rr =>
    cases rr with
    | cons ry rr =>
      cases rr; cases rx; cases ry
      have hget := (I.pin (a, oe) (List.mem_append.mpr (.inl List.mem_cons_self))).1
      obtain ⟨vs, hv⟩ := hf
      have hx : ObjOk X.prog X.w H s.heap dd (.xd fs) := I.hok dd _ hd
      obtain ⟨mA, hns, _⟩ := hx
      obtain ⟨od, ho, _⟩ := lookIn_ns hns
      have J : PySem.W.InstAt s.heap a oe D (some od) := ⟨hget, hz.1, by unfold PySem.W.notCls; rw [hv], by rw [hz.2]; exact ho⟩
      refine PySem.W.kia_one (PySem.W.kitx_exc U.hc T.ga T.gg T.exC U.ha U.hn U.ht U.hm) I.kIn J hk (fun z => nomatch z) fun tk => ?_
      exact ⟨.bl b, H, I.kept (t' := tk) fun _ _ z => z, rfl, q⟩
/-! ### a suite knows how many slots there are -/
def tLen (n : Nat) (t : TS) : TS := fun D σ H => σ.length = n → t D σ H
theorem pss_len {X : Cx} {st : List Stmt} {t : TS} {n : Nat} (h : PSs X st t) (hn : X.N.length = n) : PSs X st (tLen n t) := ⟨fun pins s σ H D I q => h.run pins s σ H D I (q (I.len.trans hn))⟩
/-! ### defs that make lambdas: their code object is named -/
def cOf (K : PySem.W.Frag) (x : Str) : Addr := ((PySem.W.tabIn K x).getD (0, 0)).1
def pOf (K : PySem.W.Frag) (x : Str) : Addr := ((PySem.W.tabIn K x).getD (0, 0)).2
structure LamF (K : PySem.W.Frag) (mg : Str → Option Value) (x : Str) (st : Stmt) : Prop where
  ex : ∃ (f : Addr) (oc : Value) (od : Option Addr) (kV doc pm : Value) (an : Option Addr) (ct : Value) (osl : Array (Option Value)), mg x = some (.ref f) ∧ PySem.W.keepIn K (.ref f) = true ∧
    K.lookup f = some ⟨oc, od, .func (PySem.W.fnOf x x (defArgs st) (defBody st) (defScope st) .none kV doc pm an (.ref (cOf K x)) ct), osl⟩ ∧ PySem.W.codeIn K (.ref (cOf K x)) x = true
/-- as Fun.okX, the code object known -/
theorem LamF.okF {P : Program} {w : World} {K : PySem.W.Frag} {mg : Str → Option Value} {base : Heap} {x : Str} {st : Stmt} {N ps : List Str} {k : Nat} {sp : Sp} (F : LamF K mg x st) (S : FnScope N ps (defScope st))
    (hbind : ∀ (kV doc pm : Value) (an : Option Addr) (cdv ct : Value) (us : List Value), us.length = ps.length → bindArgs (PySem.W.fnOf x x (defArgs st) (defBody st) (defScope st) .none kV doc pm an cdv ct) ⟨us, []⟩ = pure (ps.zip us))
    (len : ∀ vs H Q E, sp vs H Q E → vs.length = ps.length)
    (hbody : ∀ (f : Addr) (A : Around) (outer : List Env) (s : Shared) (H : Hp) (vs : List V) (Q : VK) (E : XK), Room k (A.deeper (envOfC x (defScope st) s.heap.objs.size f (.ref (cOf K x)))) → sp vs H Q E →
      ∃ t, PSs (cxOf (L2.CX P w) P w K mg base N x (defScope st) f (.ref (cOf K x)) A outer s H E) (defBody st) t ∧ t { nx := fun _ H' => Q .non H', rt := Q } (L2.start N vs) H) : OkF P w K mg base (L2.CX P w) (k + 1) x ps sp := by
  obtain ⟨f, oc, od, kV, doc, pm, an, ct, osl, g, kp, lk, hcd⟩ := F.ex
  exact ⟨f, _, g, kp, .all (hbind kV doc pm an _ ct), fn_of lk hcd S len fun A outer s H vs Q E hr hsp => hbody f A outer s H vs Q E hr hsp⟩
theorem passLam {X : Cx} {A : Around} {outer : List Env} {s : Shared} {H : Hp} {E : XK} {scope : Scope} {f c : Addr} : Passes (L2.CX X.prog X.w) (lamCx X A outer s H E scope f c) E :=
  passes_call (W := fun cls d _ H => E cls d H) (takes_of rfl rfl rfl rfl) fun _ _ _ _ h => h
/-- told(lambda: body), told a def of the text -/
theorem plam {X : Cx} {x a : Str} {st : Stmt} {N : List Str} {TT : (XK → Hp → VK → Prop) → Hp → VK → Prop} {c P : Addr} {qn : Str} {k : Nat} {params : Arguments} {body : Expr} {scope : Scope} {t : XK → TE} {p lpos pos : Pos}
    (F : ∃ (f : Addr) (fd : FuncData), X.mg x = some (.ref f) ∧ Fun X.K x x st f fd) (S : FnScope N [a] (defScope st))
    (hb : ∀ (kV doc pm : Value) (an : Option Addr) (cdv ct : Value) (us : List Value), us.length = [a].length → bindArgs (PySem.W.fnOf x x (defArgs st) (defBody st) (defScope st) .none kV doc pm an cdv ct) ⟨us, []⟩ = pure ([a].zip us))
    (hG : ∀ (g : Addr) (cdg : Value), GivesTo X N x (defScope st) g cdg (defBody st) a qn TT)
    (TB : TabB X.base X.mg c P) (hcode : X.env.code = .ref c) (hq : X.env.qual ++ "<lambda>" = qn) (hr : Room (k + 2) X.A) (L : lamSB X.env.scope scope = true)
    (hbody : ∀ (A : Around) (outer : List Env) (s : Shared) (H : Hp) (E : XK) (f c' : Addr), Room k (A.deeper (lamEnv X scope s.heap.objs.size f c')) → PE (lamCx X A outer s H E scope f c') body (t E))
    (hdef : defaultsOf params X.env = ([], []) := by rfl) (hg : Gl X x := by rfl) (hv : Vis (defScope st) a := by first | exact Or.inl rfl | exact Or.inr (Or.inl rfl)) (hNa : N[0]? = some a := by rfl)
    (hbind : ∀ (q : Str) (cl : List (Str × Addr)) (pm cv ctv : Value), bindArgs (PySem.W.kla_fn "<lambda>" q params body scope cl pm cv ctv) ⟨[], []⟩ = pure [] := by intros; rfl)
    (hdb : (x == ("__debug__" : Str)) = false := by decide) (hd : (a == ("__debug__" : Str)) = false := by decide) (hcd : (a == ("__classdict__" : Str)) = false := by decide) :
    PE X (.Call (.Name x p) [.Lambda params body scope lpos] [] pos) (tLam [(P, qn)] TT t) := by
  subst hq
  obtain ⟨g, fd, hm, F⟩ := F
  obtain ⟨oc, od, kV, doc, pm, an, cdv, ct, osl, rfl, lk, hcg⟩ := F.ex
  exact pe_lamcall hg hm F.kp lk hcg (.all (hb kV doc pm an cdv ct)) S hNa hv (hG g cdv) TB hcode (List.mem_singleton.mpr rfl) (fun q hq _ => by rw [List.mem_singleton.mp hq]) hr (lamS_by L) hdef hbind hbody hdb hd hcd
theorem extL {H H' : Hp} {p : Addr} {xs : List V} (e : ExtN H H') (h : H p = some (.lst xs)) : H' p = some (.lst xs) := e p _ h fun ps z => by cases z
theorem extT {H H' : Hp} {p : Addr} {xs : List V} (e : ExtN H H') (h : H p = some (.tup xs)) : H' p = some (.tup xs) := e p _ h fun ps z => by cases z
theorem extS {H H' : Hp} (e : Same H H') : ExtN H H' := fun b o h _ => e b o h
/-! ### comprehensions -/
theorem st_lcL {K : PySem.W.Frag} {tl : TE} {g : TG} {tt : TT} {te : TE} {vs : List Nat} {σ : L2.St} {H : Hp} {Q : VK} {a : Addr} {xs : List V} (ha : ∀ R : V → Hp → Prop, R (.ref a) H → tl σ H R) (hx : H a = some (.lst xs)) (Pv : Addr → Nat → Hp → Prop)
    (h0 : ∀ D H1, H D = none → Same H H1 → H1 D = some (.lst []) → Pv D 0 H1) (hl : ∀ D i H, Pv D i H → H a = some (.lst xs))
    (hs : ∀ D i x H, xs[i]? = some x → Pv D i H → g x (wipe σ vs) H fun σ2 H2 => wipe σ2 vs = wipe σ vs ∧ tt σ2 H2 fun b H3 => if b = true then te σ2 H3 fun y H4 => ∃ acc, H4 D = some (.lst acc) ∧ acc.length < sizeLine ∧ Pv D (i + 1) (upd H4 D (.lst (acc ++ [y]))) else Pv D (i + 1) H3)
    (hd : ∀ D H, Pv D xs.length H → Q (.ref D) H) : tLc (iList K tl) g tt te vs σ H Q :=
  ha _ ⟨a, rfl, ⟨xs, SqL.of hx⟩, fun D hD => lc_list (Pv D) (h0 D _ hD (Same.upd hD) upd_same) (fun i H _ p => SqL.of (hl D i H p)) (hs D) (hd D)⟩
/-- deep == of what is alike -/
theorem dataEq {d : PyData} (h : SeqAt.shaped d = true) : PyData.eqv d d = true := SeqAt.eqv_refl d (SeqAt.canLay_of_shaped h)
theorem lk0 {f : Str} {v : V} : List.lookup f [(f, v)] = some v := by simp [List.lookup]
theorem ne_same {K : PySem.W.Frag} {x y : V} {H : Hp} {d : PyData} {R : VK} (hx : Dp K H x d) (hy : Dp K H y d) (h : SeqAt.shaped d = true) (r : R (.bl false) H) : rNeD K x y H R := ⟨d, d, hx, hy, h, h, by rw [dataEq h]; exact r⟩
theorem eq_same {K : PySem.W.Frag} {x y : V} {H : Hp} {d : PyData} {R : VK} (hx : Dp K H x d) (hy : Dp K H y d) (h : SeqAt.shaped d = true) (r : R (.bl true) H) : rEqD K x y H R := ⟨d, d, hx, hy, h, h, by rw [dataEq h]; exact r⟩
theorem dp_ss {K : PySem.W.Frag} {H : Hp} {p : Addr} {x y : Str} (h : H p = some (.tup [.str x, .str y])) : Dp K H (.ref p) (.tuple [.str x, .str y]) := .tup (SqT.of h) (.cons (.str x) (.cons (.str y) .nil))
theorem sh_ss {x y : Str} (hx : PyData.strOk x = true) (hy : PyData.strOk y = true) : SeqAt.shaped (.tuple [.str x, .str y]) = true := by simp [SeqAt.shaped, PyData.canLay0, PyData.canLayAll0, PyData.depth, PyData.depthAll, hx, hy]
theorem dp_nil {K : PySem.W.Frag} {H : Hp} {p : Addr} (h : H p = some (.lst [])) : Dp K H (.ref p) (.list []) := .lst (SqL.of h) .nil
/-- the rules that name the written part, within a comprehension -/
theorem op_neDk {X : Cx} {K : PySem.W.Frag} (e : X.K = K) (hu : X.A.units + 64 < cLine) : OpR X (compareOp .NotEq) (rNeD K) := e ▸ op_neD hu
theorem op_eqDk {X : Cx} {K : PySem.W.Frag} (e : X.K = K) (hu : X.A.units + 64 < cLine) : OpR X (compareOp .Eq) (rEqD K) := e ▸ op_eqD hu
/-! ### what the top has made, from facts -/
theorem ga_of {K : PySem.W.Frag} {x : Str} {a : Addr} (h : PySem.W.nsIn K mainGlobals x = some (some (.ref a))) : ga K x = a := by unfold ga; rw [h]
theorem ext_mk {K : PySem.W.Frag} {mg : Str → Option Value} {h : Heap} (X : K.In h) (G : h.Ns mainGlobals mg) {x fld qual nm q : Str} {st : Stmt} {C f N : Addr} {bs bm sub : List Value} {sn : List Str} {ab : Bool} {col : Option Bool} {dd od an : Option Addr} {m0 m1 m2 m3 m5 : Option Value} {oc kV dc pm cd ct : Value} {sl : Array (Option Value)} {p1 p2 p3 p4 : Pos}
    (aC : PySem.W.nsIn K mainGlobals x = some (some (.ref C))) (xL : K.lookup C = some (excClassObj nm q C N bs bm true sn sub ab col dd m0 m1 m2 m3 m5 "ValueError.__new__")) (hbm : PySem.HandSPX.refsVE bm = true)
    (sa : PySem.W.findIn K (.ref C) "__setattr__" = some (some (.builtin "object.__setattr__"))) (exC : PySem.W.subIn K (.ref C) (.type "BaseException") = some true) (tyC : PySem.W.typeIn K (.ref C) = some (.type "type")) (kC : PySem.W.keepIn K (.ref C) = true)
    (gA : PySem.W.findIn K (.ref C) "__getattribute__" = some (some (.builtin "BaseException.__getattribute__"))) (gG : PySem.W.findIn K (.ref C) "__getattr__" = some none) (hd : PySem.W.hasDictIn K C = true) (no : PySem.W.findIn K (.ref C) fld = some none)
    (iC : PySem.W.findIn K (.ref C) "__init__" = some (some (.ref f))) (tI : PySem.W.typeIn K (.ref f) = some (.type "function"))
    (lI : K.lookup f = some ⟨oc, od, .func (PySem.W.fnOf "__init__" qual (defArgs st) (defBody st) (defScope st) .none kV dc pm an cd ct), sl⟩) (cI : PySem.W.codeIn K cd qual = true) (kI : PySem.W.keepIn K (.ref f) = true)
    (S : FnScope ["self", fld] ["self", fld] (defScope st)) (hb : defBody st = [.Assign [.Attribute (.Name "self" p1) fld p2] (.Name fld p3) p4])
    (hB : ∀ (kV doc pm : Value) (an : Option Addr) (cdv ct : Value) (us : List Value), us.length = (["self", fld] : List Str).length → bindArgs (PySem.W.fnOf "__init__" qual (defArgs st) (defBody st) (defScope st) .none kV doc pm an cdv ct) ⟨us, []⟩ = pure ((["self", fld] : List Str).zip us)) : ExT K mg x fld := by
  have e := ga_of aC
  refine ⟨?_, ?_, ?_, ?_, ?_⟩
  · rw [e]; exact PySem.W.mg_of X G aC
  · rw [e]; exact ⟨⟨_, _, _, _, _, _, _, _, _, _, _, _, _, _, _, xL, hbm⟩, sa, exC, tyC, kC⟩
  · rw [e]; exact ⟨gA, gG, exC, hd⟩
  · rw [e]; exact no
  · rw [e]; exact ⟨qual, st, f, _, p1, p2, p3, p4, iC, tI, fun_mk lI cI kI, S, hb, (fun_mk (st := st) lI cI kI).binds hB⟩
theorem exi_mk {K : PySem.W.Frag} {x : Str} {C : Addr} (aC : PySem.W.nsIn K mainGlobals x = some (some (.ref C))) (hc : (PySem.W.clsIn K C).isSome = true) (ha : PySem.W.findIn K (.ref C) "__class__" = some (some (.builtin "object.__class__")))
    (hn : PySem.W.specialIn K (.builtin "object.__class__") "__get__" = some (some (.builtin "getset_descriptor.__get__"))) (ht : PySem.W.takesIn K (.builtin "object.__class__") = some true) (hm : PySem.W.mroIn K C (.type "object") = some true) : ExI K (ga K x) := by
  rw [ga_of aC]; exact ⟨hc, ha, hn, ht, hm⟩
theorem lamf_mk {K : PySem.W.Frag} {mg : Str → Option Value} {h : Heap} (X : K.In h) (G : h.Ns mainGlobals mg) {x : Str} {st : Stmt} {f c P : Addr} {od an : Option Addr} {oc kV dc pm ct : Value} {sl : Array (Option Value)}
    (a : PySem.W.nsIn K mainGlobals x = some (some (.ref f))) (l : K.lookup f = some ⟨oc, od, .func (PySem.W.fnOf x x (defArgs st) (defBody st) (defScope st) .none kV dc pm an (.ref c) ct), sl⟩) (cI : PySem.W.codeIn K (.ref c) x = true) (kI : PySem.W.keepIn K (.ref f) = true)
    (t : PySem.W.tabIn K x = some (c, P)) : LamF K mg x st := by
  have e : cOf K x = c := by unfold cOf; rw [t]; rfl
  refine ⟨f, oc, od, kV, dc, pm, an, ct, sl, PySem.W.mg_of X G a, kI, ?_, ?_⟩
  · rw [e]; exact l
  · rw [e]; exact cI
end Iz
/-! Mx -/
namespace Iz
/-! ### how great a number is -/
def lg (x : Int) : Nat := if x = 0 then 0 else x.natAbs.log2 + 1
theorem lg_lt {x : Int} {n : Nat} (h : x.natAbs < 2 ^ n) : lg x ≤ n := by
  unfold lg
  split
  · omega
  · rename_i hx
    have := (Nat.log2_lt (n := x.natAbs) (k := n) (by omega)).mpr h
    omega
theorem lg_self (x : Int) : x.natAbs < 2 ^ lg x := by
  unfold lg
  split
  · rename_i h; subst h; decide
  · exact Nat.lt_log2_self
theorem lg_mono {x y : Int} (h : x.natAbs ≤ y.natAbs) : lg x ≤ lg y := lg_lt (Nat.lt_of_le_of_lt h (lg_self y))
theorem lg_half {x y : Int} (h : 2 * x.natAbs < y.natAbs) : lg x + 1 ≤ lg y := by
  have h1 := lg_self y
  have hy : 0 < lg y := by unfold lg; split <;> omega
  obtain ⟨n, hn⟩ : ∃ n, lg y = n + 1 := ⟨lg y - 1, by omega⟩
  rw [hn] at h1 ⊢
  have h2 : x.natAbs < 2 ^ n := by rw [Nat.pow_succ] at h1; omega
  have := lg_lt h2
  omega
def same (d r : Int) : Prop := (0 ≤ d ∧ 0 ≤ r) ∨ (d ≤ 0 ∧ r ≤ 0)
instance (d r : Int) : Decidable (same d r) := by unfold same; infer_instance
def bud (d r : Int) : Nat := if same d r then lg d + lg r + (if d.natAbs < r.natAbs then 1 else 0) else 2 * lg r + 1
/-- the rest of a division by floors -/
theorem rest_pos {d r : Int} (h : 0 < r) : 0 ≤ d - d.fdiv r * r ∧ d - d.fdiv r * r < r := by
  rw [Int.fdiv_eq_ediv_of_nonneg d (by omega)]
  have h1 := Int.emod_nonneg d (b := r) (by omega)
  have h2 := Int.emod_lt_of_pos d h
  have h3 := Int.emod_add_mul_ediv d r
  rw [Int.mul_comm] at h3
  omega
theorem rest_neg {d r : Int} (h : r < 0) : r < d - d.fdiv r * r ∧ d - d.fdiv r * r ≤ 0 := by
  have h1 := rest_pos (d := -d) (r := -r) (by omega)
  rw [Int.neg_fdiv_neg, Int.mul_neg] at h1
  omega
theorem fdiv_le (d r : Int) : (d.fdiv r).natAbs ≤ d.natAbs := by
  by_cases h : 0 ≤ r
  · rw [Int.fdiv_eq_ediv_of_nonneg d h]; exact Int.natAbs_ediv_le_natAbs _ _
  · rw [← Int.neg_fdiv_neg, Int.fdiv_eq_ediv_of_nonneg _ (by omega), ← Int.natAbs_neg d]; exact Int.natAbs_ediv_le_natAbs _ _
theorem fdiv_same {d r : Int} (hr : r ≠ 0) (hs : same d r) (hl : r.natAbs ≤ d.natAbs) : 2 * (d - d.fdiv r * r).natAbs < d.natAbs := by
  rcases Int.lt_or_gt_of_ne hr with h | h
  · have hd : d < 0 := by rcases hs with hs | hs <;> omega
    have h1 := rest_neg (d := d) h
    have ht : 1 ≤ d.fdiv r := by
      rw [← Int.neg_fdiv_neg, Int.fdiv_eq_ediv_of_nonneg _ (by omega)]
      exact (Int.le_ediv_iff_mul_le (by omega)).mpr (by omega)
    have h2 : d.fdiv r * r ≤ 1 * r := Int.mul_le_mul_of_nonpos_right ht (by omega)
    omega
  · have hd : 0 < d := by rcases hs with hs | hs <;> omega
    have h1 := rest_pos (d := d) h
    have ht : 1 ≤ d.fdiv r := by
      rw [Int.fdiv_eq_ediv_of_nonneg _ (by omega)]
      exact (Int.le_ediv_iff_mul_le (by omega)).mpr (by omega)
    have h2 : 1 * r ≤ d.fdiv r * r := Int.mul_le_mul_of_nonneg_right ht (by omega)
    omega
theorem fdiv_small {d r : Int} (hr : r ≠ 0) (hs : same d r) (hl : d.natAbs < r.natAbs) : d - d.fdiv r * r = d := by
  have : d.fdiv r = 0 := by
    rcases Int.lt_or_gt_of_ne hr with h | h
    · rw [← Int.neg_fdiv_neg, Int.fdiv_eq_ediv_of_nonneg _ (by omega)]
      exact Int.ediv_eq_zero_of_lt (by rcases hs with hs | hs <;> omega) (by rcases hs with hs | hs <;> omega)
    · rw [Int.fdiv_eq_ediv_of_nonneg _ (by omega)]
      exact Int.ediv_eq_zero_of_lt (by rcases hs with hs | hs <;> omega) (by rcases hs with hs | hs <;> omega)
  rw [this]; omega
theorem bud_step {d r : Int} (hr : r ≠ 0) : bud r (d - d.fdiv r * r) < bud d r := by
  have hlt : (d - d.fdiv r * r).natAbs < r.natAbs := by
    rcases Int.lt_or_gt_of_ne hr with h | h
    · have := rest_neg (d := d) h; omega
    · have := rest_pos (d := d) h; omega
  have hs' : same r (d - d.fdiv r * r) := by
    rcases Int.lt_or_gt_of_ne hr with h | h
    · have := rest_neg (d := d) h; exact .inr ⟨by omega, by omega⟩
    · have := rest_pos (d := d) h; exact .inl ⟨by omega, by omega⟩
  unfold bud
  rw [if_pos hs', if_neg (by omega)]
  by_cases hs : same d r
  · rw [if_pos hs]
    by_cases hl : d.natAbs < r.natAbs
    · rw [if_pos hl, fdiv_small hr hs hl]; omega
    · rw [if_neg hl]
      have := lg_half (fdiv_same hr hs (by omega))
      omega
  · rw [if_neg hs]
    have := lg_mono (x := d - d.fdiv r * r) (y := r) (by omega)
    omega
theorem bud_le {d r : Int} {n : Nat} (hd : d.natAbs < 2 ^ n) (hr : r.natAbs < 2 ^ n) : bud d r ≤ 2 * n + 1 := by
  have h1 := lg_lt hd
  have h2 := lg_lt hr
  unfold bud
  split
  · split <;> omega
  · omega
/-! ### the weighed divisor's loop -/
structure EI (one other d u v r nu nv : Int) (k : Nat) : Prop where
  e1 : u * one + v * other = d
  e2 : nu * one + nv * other = r
  g : Int.gcd d r = Int.gcd one other
  hd : d.natAbs < 2 ^ 250
  hr : r.natAbs < 2 ^ 250
  bu : u.natAbs ≤ 2 ^ (251 * k)
  bv : v.natAbs ≤ 2 ^ (251 * k)
  bnu : nu.natAbs ≤ 2 ^ (251 * k)
  bnv : nv.natAbs ≤ 2 ^ (251 * k)
  kb : k + bud d r ≤ 501
theorem EI.start {one other : Int} (h1 : one.natAbs < 2 ^ 250) (h2 : other.natAbs < 2 ^ 250) : EI one other one 1 0 other 0 1 0 :=
  ⟨by omega, by omega, rfl, h1, h2, by decide, by decide, by decide, by decide, by have := bud_le h1 h2; omega⟩
theorem grow {u t nu : Int} {k : Nat} (hu : u.natAbs ≤ 2 ^ (251 * k)) (hn : nu.natAbs ≤ 2 ^ (251 * k)) (ht : t.natAbs < 2 ^ 250) : (u - t * nu).natAbs ≤ 2 ^ (251 * (k + 1)) := by
  have h1 : (t * nu).natAbs ≤ 2 ^ 250 * 2 ^ (251 * k) := by rw [Int.natAbs_mul]; exact Nat.mul_le_mul (Nat.le_of_lt ht) hn
  have h2 : (u - t * nu).natAbs ≤ u.natAbs + (t * nu).natAbs := by omega
  have h3 : 2 ^ (251 * (k + 1)) = 2 * 2 ^ 250 * 2 ^ (251 * k) := by rw [Nat.mul_succ, Nat.pow_add, show (251 : Nat) = 250 + 1 from rfl, Nat.pow_succ]; rw [Nat.mul_comm, Nat.mul_comm (2 ^ 250) 2]
  have h4 : (1 : Nat) * 2 ^ (251 * k) ≤ 2 ^ 250 * 2 ^ (251 * k) := Nat.mul_le_mul_right _ (Nat.one_le_two_pow)
  rw [h3, Nat.mul_assoc]
  generalize 2 ^ 250 * 2 ^ (251 * k) = A at *
  omega
theorem EI.next {one other d u v r nu nv : Int} {k : Nat} (I : EI one other d u v r nu nv k) (h : r ≠ 0) :
    EI one other r nu nv (d - d.fdiv r * r) (u - d.fdiv r * nu) (v - d.fdiv r * nv) (k + 1) := by
  have ht : (d.fdiv r).natAbs < 2 ^ 250 := Nat.lt_of_le_of_lt (fdiv_le d r) I.hd
  have hm : ∀ {z : Int}, z.natAbs ≤ 2 ^ (251 * k) → z.natAbs ≤ 2 ^ (251 * (k + 1)) := fun hz => Nat.le_trans hz (Nat.pow_le_pow_right (by decide) (by omega))
  refine ⟨I.e2, ?_, ?_, I.hr, ?_, hm I.bnu, hm I.bnv, grow I.bu I.bnu ht, grow I.bv I.bnv ht, ?_⟩
  · generalize d.fdiv r = t
    rw [← I.e1, ← I.e2, Int.sub_mul, Int.sub_mul, Int.mul_add, Int.mul_assoc, Int.mul_assoc]; omega
  · rw [← I.g, Int.gcd_comm d r, Int.mul_comm]; exact Int.gcd_sub_mul_left_right _ _ _
  · refine Nat.lt_trans (?_ : _ < r.natAbs) I.hr
    rcases Int.lt_or_gt_of_ne h with h | h
    · have := rest_neg (d := d) h; omega
    · have := rest_pos (d := d) h; omega
  · have := bud_step (d := d) h
    have := I.kb
    omega
theorem EI.done {one other d u v nu nv : Int} {k : Nat} (I : EI one other d u v 0 nu nv k) : d.natAbs = Int.gcd one other ∧ u * one + v * other = d ∧ u.natAbs ≤ 2 ^ 130000 := by
  refine ⟨?_, I.e1, Nat.le_trans I.bu (Nat.pow_le_pow_right (by decide) (by have := I.kb; omega))⟩
  have := I.g
  rw [Int.gcd_zero_right] at this
  exact this
theorem EI.quo {one other d u v r nu nv : Int} {k : Nat} (I : EI one other d u v r nu nv k) : (d.fdiv r).natAbs < 2 ^ 250 := Nat.lt_of_le_of_lt (fdiv_le d r) I.hd
theorem EI.big {one other d u v r nu nv z : Int} {k : Nat} (I : EI one other d u v r nu nv k) (h : z.natAbs ≤ 2 ^ (251 * k)) : z.natAbs < 2 ^ 130000 := Nat.lt_of_le_of_lt h (Nat.pow_lt_pow_right (by decide) (by have := I.kb; omega))
end Iz
/-! My -/
namespace Iz
theorem gpos {b p : Int} (hp : 1 ≤ p) : 0 < (Int.gcd b p : Int) := by have := Int.gcd_pos_of_ne_zero_right b (show p ≠ 0 by omega); omega
theorem qpos {b p : Int} (hp : 1 ≤ p) : 0 < p / (Int.gcd b p : Int) := Int.ediv_pos_of_pos_of_dvd (by omega) (by omega) (Int.gcd_dvd_right b p)
theorem line_sol {a b r p u v : Int} (hp : 1 ≤ p) (h : u * b + v * p = (Int.gcd b p : Int)) (hd : (r - a) % (Int.gcd b p : Int) = 0) :
    (a + b * ((r - a) / (Int.gcd b p : Int) * u % (p / (Int.gcd b p : Int))) - r) % p = 0 := by
  have hg := gpos (b := b) hp
  have e1 : (Int.gcd b p : Int) * (p / (Int.gcd b p : Int)) = p := Int.mul_ediv_cancel' (Int.gcd_dvd_right b p)
  have e2 : (Int.gcd b p : Int) * (b / (Int.gcd b p : Int)) = b := Int.mul_ediv_cancel' (Int.gcd_dvd_left b p)
  have e3 : (Int.gcd b p : Int) * ((r - a) / (Int.gcd b p : Int)) = r - a := Int.mul_ediv_cancel' (Int.dvd_of_emod_eq_zero hd)
  generalize (Int.gcd b p : Int) = g at *
  generalize hq : p / g = q at *
  generalize hk : (r - a) / g = k at *
  generalize hb : b / g = b' at *
  have e4 := Int.emod_add_mul_ediv (k * u) q
  generalize k * u % q = s at *
  generalize k * u / q = m at *
  refine Int.emod_eq_zero_of_dvd ⟨-(k * v + b' * m), ?_⟩
  have e5 : s = k * u - q * m := by omega
  have e6 : b * s = b * (k * u) - b * (q * m) := by rw [e5, Int.mul_sub]
  have e7 : b * (q * m) = p * (b' * m) := by rw [← e1, ← e2, Int.mul_assoc g b', Int.mul_assoc g q]; congr 1; rw [← Int.mul_assoc, ← Int.mul_assoc, Int.mul_comm b' q, Int.mul_assoc]
  have e8 : b * (k * u) = k * (u * b) := by rw [Int.mul_comm b, Int.mul_assoc]
  have e9 : k * (u * b) = k * g - k * (v * p) := by rw [← Int.mul_sub]; congr 1; omega
  have e10 : k * (v * p) = p * (k * v) := by rw [← Int.mul_assoc, Int.mul_comm]
  have e11 : k * g = r - a := by rw [Int.mul_comm]; exact e3
  rw [Int.mul_neg, Int.mul_add]
  omega
theorem dvd_line {b p k : Int} (hp : 1 ≤ p) : p ∣ b * k ↔ p / (Int.gcd b p : Int) ∣ k := by
  have hg := gpos (b := b) hp
  have e1 : (Int.gcd b p : Int) * (p / (Int.gcd b p : Int)) = p := Int.mul_ediv_cancel' (Int.gcd_dvd_right b p)
  have e2 : (Int.gcd b p : Int) * (b / (Int.gcd b p : Int)) = b := Int.mul_ediv_cancel' (Int.gcd_dvd_left b p)
  have co := Int.gcd_ediv_gcd_ediv_gcd (i := b) (j := p) (by omega)
  generalize (Int.gcd b p : Int) = g at *
  generalize p / g = q at *
  generalize b / g = b' at *
  rw [← e1, ← e2, Int.mul_assoc, Int.mul_dvd_mul_iff_left (by omega)]
  constructor
  · intro h
    have h2 : q.natAbs ∣ b'.natAbs * k.natAbs := by rw [← Int.natAbs_mul]; exact Int.natAbs_dvd_natAbs.mpr h
    have h3 : Nat.Coprime q.natAbs b'.natAbs := by
      rw [Int.gcd_eq_natAbs_gcd_natAbs, Nat.gcd_comm] at co; exact co
    exact Int.natAbs_dvd_natAbs.mp (h3.dvd_of_dvd_mul_left h2)
  · exact fun h => Int.dvd_mul_of_dvd_right h
/-- of which i a + b i is r modulo p -/
theorem line_iff {a b r p s i : Int} (hp : 1 ≤ p) (h : (a + b * s - r) % p = 0) : (a + b * i - r) % p = 0 ↔ (i - s) % (p / (Int.gcd b p : Int)) = 0 := by
  have h1 := Int.dvd_of_emod_eq_zero h
  have e : a + b * i - r = (a + b * s - r) + b * (i - s) := by rw [Int.mul_sub]; omega
  rw [← Int.dvd_iff_emod_eq_zero, ← Int.dvd_iff_emod_eq_zero, e, ← dvd_line hp]
  exact Int.dvd_add_right h1
theorem gcd_small {b p : Int} {n : Nat} (hp : 1 ≤ p) (h : p.natAbs < 2 ^ n) : (Int.gcd b p : Int).natAbs < 2 ^ n := by
  have := Int.le_of_dvd (by omega) (Int.gcd_dvd_right b p)
  have := gpos (b := b) hp
  omega
theorem ediv_small {x g : Int} {n : Nat} (h : x.natAbs < 2 ^ n) : (x / g).natAbs < 2 ^ n := Nat.lt_of_le_of_lt (Int.natAbs_ediv_le_natAbs _ _) h
theorem pow_small {x m n : Nat} (h : x < 2 ^ m) (hm : m ≤ n) : x < 2 ^ n := Nat.lt_of_lt_of_le h (Nat.pow_le_pow_right (by decide) hm)
theorem mod_sub {a m n r : Int} (h : n ∣ m) (hr : n ∣ a - r) : (a % m - r) % n = 0 := by
  refine Int.emod_eq_zero_of_dvd ?_
  have h1 : n ∣ a - a % m := Int.dvd_trans h Int.dvd_self_sub_emod
  have e : a % m - r = (a - r) - (a - a % m) := by omega
  rw [e]; exact Int.dvd_sub hr h1
theorem both_sol {r p o q s : Int} (hq : 1 ≤ q) (h : (r + p * s - o) % q = 0) :
    ((r + p * s) % (p * (q / (Int.gcd p q : Int))) - r) % p = 0 ∧ ((r + p * s) % (p * (q / (Int.gcd p q : Int))) - o) % q = 0 := by
  refine ⟨mod_sub (Int.dvd_mul_right _ _) (by rw [show r + p * s - r = p * s by omega]; exact Int.dvd_mul_right _ _), mod_sub ?_ (Int.dvd_of_emod_eq_zero h)⟩
  have e1 : (Int.gcd p q : Int) * (q / (Int.gcd p q : Int)) = q := Int.mul_ediv_cancel' (Int.gcd_dvd_right p q)
  obtain ⟨c, hc⟩ := Int.gcd_dvd_left p q
  refine ⟨c, ?_⟩
  have : p * (q / (Int.gcd p q : Int)) = (Int.gcd p q : Int) * (q / (Int.gcd p q : Int)) * c := by
    conv => lhs; rw [hc]
    rw [Int.mul_assoc, Int.mul_assoc, Int.mul_comm c]
    congr 2
    rw [← hc]
  rw [this, e1]
/-! ### Euclid's steps -/
theorem bud_mod {d r : Int} (h : 0 < r) : bud r (d % r) < bud d r := by
  have := bud_step (d := d) (r := r) (by omega)
  rw [Int.fdiv_eq_ediv_of_nonneg d (by omega)] at this
  have e := Int.emod_def d r
  rw [Int.mul_comm] at e
  rw [e]; exact this
theorem mod_swap {a b g : Int} : (a - b) % g = 0 ↔ (b - a) % g = 0 := by
  rw [← Int.dvd_iff_emod_eq_zero, ← Int.dvd_iff_emod_eq_zero, ← Int.dvd_neg]
  rw [show -(a - b) = b - a by omega]
theorem mul_div_gcd {p q : Int} : p * (q / (Int.gcd p q : Int)) = p / (Int.gcd p q : Int) * q := by
  rw [← Int.mul_ediv_assoc _ (Int.gcd_dvd_right p q), Int.mul_comm p q, Int.mul_ediv_assoc _ (Int.gcd_dvd_left p q), Int.mul_comm]
theorem lcm_abs {x y : Int} : (x.natAbs : Int) / (Int.gcd (x.natAbs : Int) (y.natAbs : Int) : Int) * (y.natAbs : Int) = ((x * y).natAbs : Int) / (Int.gcd x y : Int) := by
  have e : Int.gcd (x.natAbs : Int) (y.natAbs : Int) = Int.gcd x y := by rw [Int.gcd_eq_natAbs_gcd_natAbs, Int.gcd_eq_natAbs_gcd_natAbs]; rfl
  have d : (Int.gcd x y : Int) ∣ (y.natAbs : Int) := Int.dvd_natAbs.mpr (Int.gcd_dvd_right x y)
  have d2 : (Int.gcd x y : Int) ∣ (x.natAbs : Int) := Int.dvd_natAbs.mpr (Int.gcd_dvd_left x y)
  rw [e, Int.natAbs_mul, Int.natCast_mul, Int.mul_comm (x.natAbs : Int) (y.natAbs : Int), Int.mul_ediv_assoc _ d2, Int.mul_comm]
end Iz
/-! k07_text -/
set_option Elab.async false
set_option linter.all false
set_option maxRecDepth 100000
set_option maxHeartbeats 4000000
namespace Iz
open PySem PySem.Spec PyProof.Rows L2
open He (ga)
local macro_rules | `(tactic| walk_at "wp") => `(tactic| simp only [cx_K, Value.ref.injEq, HO.xd.injEq, lk0, tSeq, tPar3, tPar, tCons, tNil, tVar, tC, tAsg, gName, gCons, gNil, gTupN, gSub, tOp, rI, rI0, rU, tTest, rNe, rEq, rIxTN, rIxLN, rLenL, rLenT, rIntI, rIntB, rAbs, rSetLN, tTruL, tRaiseX, rIsTy, ixN0, ixN1, tRet, tIf, tIfS, tNext, tBreak, tCont, tDrop, tTupN, tLstN, tUn, tCB, tCall, tNot, tAnd, tOr, tB, tAndV, tOrV, tNotV, tChain, tApp, LamX.tLam, rListS, wipe, L2.start, List.map_cons, List.map_nil, List.length_cons, List.length_nil, List.replicate, List.cons_append, List.nil_append, List.append_nil, Nat.reduceAdd, Nat.reduceSub, Nat.zero_add, List.replicate_succ, List.replicate_zero, List.getElem?_cons_zero, List.getElem?_cons_succ, List.set_cons_zero, List.set_cons_succ, Option.some.injEq, V.int.injEq, V.bl.injEq, V.ref.injEq, V.str.injEq, V.ty.injEq, List.cons.injEq, HO.tup.injEq, HO.lst.injEq, and_true, true_and, and_assoc, exists_eq_left, exists_eq_left', exists_and_left, exists_eq', atI0, atI1, atI2, atI3, Int.cast_ofNat_Int, Int.reduceToNat, scal_ii, scal_in, scal_ni, scal_nn, scal_bb, scal_ss, scal_sn, scal_ns, scal_bn, scal_nb, ite_iff, decide_eq_true_eq, decide_eq_false_iff_not, Bool.not_eq_true', Classical.not_not, ne_eq, not_false_eq_true, not_true_eq_false, forall_const, true_implies, false_implies, imp_self, sizeLine_eq, Nat.reduceLeDiff, reduceCtorEq, decide_true, decide_false])
def top (i : Nat) : Stmt := PySem.Challenge.pw_endlessplane_k07_whole_remainders_met.main.body.getD i (.Pass ⟨0, 0, 0, 0⟩)
abbrev s_is_whole : Stmt := top 5
abbrev N_is_whole : List Str := ["value"]
theorem sc_is_whole : FnScope ["value"] ["value"] (defScope s_is_whole) := ⟨rfl, rfl, rfl, by decide +kernel, rfl, by decide +kernel, by decide +kernel⟩
abbrev s_is_from : Stmt := top 6
abbrev N_is_from : List Str := ["value", "least"]
theorem sc_is_from : FnScope ["value", "least"] ["value", "least"] (defScope s_is_from) := ⟨rfl, rfl, rfl, by decide +kernel, rfl, by decide +kernel, by decide +kernel⟩
abbrev s_require_whole : Stmt := top 7
abbrev N_require_whole : List Str := ["value"]
theorem sc_require_whole : FnScope ["value"] ["value"] (defScope s_require_whole) := ⟨rfl, rfl, rfl, by decide +kernel, rfl, by decide +kernel, by decide +kernel⟩
abbrev s_require_from : Stmt := top 8
abbrev N_require_from : List Str := ["value", "least"]
theorem sc_require_from : FnScope ["value", "least"] ["value", "least"] (defScope s_require_from) := ⟨rfl, rfl, rfl, by decide +kernel, rfl, by decide +kernel, by decide +kernel⟩
abbrev s_greatest_divisor : Stmt := top 10
abbrev N_greatest_divisor : List Str := ["one", "other"]
theorem sc_greatest_divisor : FnScope ["one", "other"] ["one", "other"] (defScope s_greatest_divisor) := ⟨rfl, rfl, rfl, by decide +kernel, rfl, by decide +kernel, by decide +kernel⟩
abbrev s_least_multiple : Stmt := top 11
abbrev N_least_multiple : List Str := ["one", "other"]
theorem sc_least_multiple : FnScope ["one", "other"] ["one", "other"] (defScope s_least_multiple) := ⟨rfl, rfl, rfl, by decide +kernel, rfl, by decide +kernel, by decide +kernel⟩
abbrev s_weighed_divisor : Stmt := top 12
abbrev N_weighed_divisor : List Str := ["one", "other", "divisor", "u", "v", "rest", "next_u", "next_v", "times"]
theorem sc_weighed_divisor : FnScope ["one", "other", "divisor", "u", "v", "rest", "next_u", "next_v", "times"] ["one", "other"] (defScope s_weighed_divisor) := ⟨rfl, rfl, rfl, by decide +kernel, rfl, by decide +kernel, by decide +kernel⟩
abbrev s_remainder_of : Stmt := top 13
abbrev N_remainder_of : List Str := ["a", "b", "r", "p", "divisor", "u", "_", "q"]
theorem sc_remainder_of : FnScope ["a", "b", "r", "p", "divisor", "u", "_", "q"] ["a", "b", "r", "p"] (defScope s_remainder_of) := ⟨rfl, rfl, rfl, by decide +kernel, rfl, by decide +kernel, by decide +kernel⟩
abbrev s_both_remainders : Stmt := top 14
abbrev N_both_remainders : List Str := ["one", "other", "r", "p", "times", "s", "q"]
theorem sc_both_remainders : FnScope ["one", "other", "r", "p", "times", "s", "q"] ["one", "other"] (defScope s_both_remainders) := ⟨rfl, rfl, rfl, by decide +kernel, rfl, by decide +kernel, by decide +kernel⟩
abbrev s__require_remainder : Stmt := top 15
abbrev N__require_remainder : List Str := ["value"]
theorem sc__require_remainder : FnScope ["value"] ["value"] (defScope s__require_remainder) := ⟨rfl, rfl, rfl, by decide +kernel, rfl, by decide +kernel, by decide +kernel⟩
abbrev s__law_draw : Stmt := top 17
abbrev N__law_draw : List Str := ["_law_state", "_law_limit", "_law_cells", "_law_at", "_law_cell", "_law_mixed"]
theorem sc__law_draw : FnScope ["_law_state", "_law_limit", "_law_cells", "_law_at", "_law_cell", "_law_mixed"] ["_law_state", "_law_limit"] (defScope s__law_draw) := ⟨rfl, rfl, rfl, by decide +kernel, rfl, by decide +kernel, by decide +kernel⟩
abbrev s__law_number : Stmt := top 18
abbrev N__law_number : List Str := ["_law_state", "_law_most", "_law_number_here", "_law_turn"]
theorem sc__law_number : FnScope ["_law_state", "_law_most", "_law_number_here", "_law_turn"] ["_law_state", "_law_most"] (defScope s__law_number) := ⟨rfl, rfl, rfl, by decide +kernel, rfl, by decide +kernel, by decide +kernel⟩
abbrev s__law_divisor : Stmt := top 19
abbrev N__law_divisor : List Str := ["_law_one", "_law_other", "_law_turn"]
theorem sc__law_divisor : FnScope ["_law_one", "_law_other", "_law_turn"] ["_law_one", "_law_other"] (defScope s__law_divisor) := ⟨rfl, rfl, rfl, by decide +kernel, rfl, by decide +kernel, by decide +kernel⟩
abbrev s__law_line_right : Stmt := top 20
abbrev N__law_line_right : List Str := ["_law_a", "_law_b", "_law_r", "_law_p", "_law_told", "_law_divisor_here", "_law_i"]
theorem sc__law_line_right : FnScope ["_law_a", "_law_b", "_law_r", "_law_p", "_law_told", "_law_divisor_here", "_law_i"] ["_law_a", "_law_b", "_law_r", "_law_p"] (defScope s__law_line_right) := ⟨rfl, rfl, rfl, by decide +kernel, rfl, by decide +kernel, by decide +kernel⟩
abbrev s__law_both_right : Stmt := top 21
abbrev N__law_both_right : List Str := ["_law_one", "_law_other", "_law_told", "_law_divisor_here"]
theorem sc__law_both_right : FnScope ["_law_one", "_law_other", "_law_told", "_law_divisor_here"] ["_law_one", "_law_other"] (defScope s__law_both_right) := ⟨rfl, rfl, rfl, by decide +kernel, rfl, by decide +kernel, by decide +kernel⟩
abbrev s__law_heard : Stmt := top 22
abbrev N__law_heard : List Str := ["_law_call", "e"]
theorem sc__law_heard : FnScope ["_law_call", "e"] ["_law_call"] (defScope s__law_heard) := ⟨rfl, rfl, rfl, by decide +kernel, rfl, by decide +kernel, by decide +kernel⟩
abbrev s__law_odd_right : Stmt := top 23
abbrev N__law_odd_right : List Str := ["_law_state", "_law_due", "_law_told", "_law_bad", "_law_low", "_law_odd", "_law_one"]
theorem sc__law_odd_right : FnScope ["_law_state", "_law_due", "_law_told", "_law_bad", "_law_low", "_law_odd", "_law_one"] ["_law_state"] (defScope s__law_odd_right) := ⟨rfl, rfl, rfl, by decide +kernel, rfl, by decide +kernel, by decide +kernel⟩
abbrev s_law : Stmt := top 24
abbrev N_law : List Str := ["_law_script", "_law_state", "_law_turn", "_law_one", "_law_other", "_law_share", "_law_p", "_law_q", "_law_a", "_law_b", "_law_r"]
theorem sc_law : FnScope ["_law_script", "_law_state", "_law_turn", "_law_one", "_law_other", "_law_share", "_law_p", "_law_q", "_law_a", "_law_b", "_law_r"] ["_law_script"] (defScope s_law) := ⟨rfl, rfl, rfl, by decide +kernel, rfl, by decide +kernel, by decide +kernel⟩
abbrev s_BadNumber___init__ : Stmt := inClass (top 3) 0
abbrev N_BadNumber___init__ : List Str := ["self", "number"]
theorem sc_BadNumber___init__ : FnScope ["self", "number"] ["self", "number"] (defScope s_BadNumber___init__) := ⟨rfl, rfl, rfl, by decide +kernel, rfl, by decide +kernel, by decide +kernel⟩
abbrev s_BadPart___init__ : Stmt := inClass (top 2) 0
abbrev N_BadPart___init__ : List Str := ["self", "part"]
theorem sc_BadPart___init__ : FnScope ["self", "part"] ["self", "part"] (defScope s_BadPart___init__) := ⟨rfl, rfl, rfl, by decide +kernel, rfl, by decide +kernel, by decide +kernel⟩
structure Txt (K : PySem.W.Frag) (mg : Str → Option Value) : Prop where
  d_is_whole : ∃ (f : Addr) (fd : FuncData), mg "is_whole" = some (.ref f) ∧ Fun K "is_whole" "is_whole" s_is_whole f fd
  d_is_from : ∃ (f : Addr) (fd : FuncData), mg "is_from" = some (.ref f) ∧ Fun K "is_from" "is_from" s_is_from f fd
  d_require_whole : ∃ (f : Addr) (fd : FuncData), mg "require_whole" = some (.ref f) ∧ Fun K "require_whole" "require_whole" s_require_whole f fd
  d_require_from : ∃ (f : Addr) (fd : FuncData), mg "require_from" = some (.ref f) ∧ Fun K "require_from" "require_from" s_require_from f fd
  d_greatest_divisor : ∃ (f : Addr) (fd : FuncData), mg "greatest_divisor" = some (.ref f) ∧ Fun K "greatest_divisor" "greatest_divisor" s_greatest_divisor f fd
  d_least_multiple : ∃ (f : Addr) (fd : FuncData), mg "least_multiple" = some (.ref f) ∧ Fun K "least_multiple" "least_multiple" s_least_multiple f fd
  d_weighed_divisor : ∃ (f : Addr) (fd : FuncData), mg "weighed_divisor" = some (.ref f) ∧ Fun K "weighed_divisor" "weighed_divisor" s_weighed_divisor f fd
  d_remainder_of : ∃ (f : Addr) (fd : FuncData), mg "remainder_of" = some (.ref f) ∧ Fun K "remainder_of" "remainder_of" s_remainder_of f fd
  d_both_remainders : ∃ (f : Addr) (fd : FuncData), mg "both_remainders" = some (.ref f) ∧ Fun K "both_remainders" "both_remainders" s_both_remainders f fd
  d__require_remainder : ∃ (f : Addr) (fd : FuncData), mg "_require_remainder" = some (.ref f) ∧ Fun K "_require_remainder" "_require_remainder" s__require_remainder f fd
  d__law_draw : ∃ (f : Addr) (fd : FuncData), mg "_law_draw" = some (.ref f) ∧ Fun K "_law_draw" "_law_draw" s__law_draw f fd
  d__law_number : ∃ (f : Addr) (fd : FuncData), mg "_law_number" = some (.ref f) ∧ Fun K "_law_number" "_law_number" s__law_number f fd
  d__law_divisor : ∃ (f : Addr) (fd : FuncData), mg "_law_divisor" = some (.ref f) ∧ Fun K "_law_divisor" "_law_divisor" s__law_divisor f fd
  d__law_line_right : ∃ (f : Addr) (fd : FuncData), mg "_law_line_right" = some (.ref f) ∧ Fun K "_law_line_right" "_law_line_right" s__law_line_right f fd
  d__law_both_right : ∃ (f : Addr) (fd : FuncData), mg "_law_both_right" = some (.ref f) ∧ Fun K "_law_both_right" "_law_both_right" s__law_both_right f fd
  d__law_heard : ∃ (f : Addr) (fd : FuncData), mg "_law_heard" = some (.ref f) ∧ Fun K "_law_heard" "_law_heard" s__law_heard f fd
  lam__law_odd_right : LamF K mg "_law_odd_right" s__law_odd_right
  d_law : ∃ (f : Addr) (fd : FuncData), mg "law" = some (.ref f) ∧ Fun K "law" "law" s_law f fd
  m_isinstance : mg "isinstance" = none
  m_int : mg "int" = none
  m_bool : mg "bool" = none
  m_tuple : mg "tuple" = none
  m_len : mg "len" = none
  m_abs : mg "abs" = none
  m_list : mg "list" = none
  m_range : mg "range" = none
  m_repr : mg "repr" = none
  pe : mg "PlaneError" = some (.ref (ga K "PlaneError"))
  mN : PySem.W.exmOne K (.ref (ga K "BadNumber")) (.ref (ga K "PlaneError")) = some true
  mP : PySem.W.exmOne K (.ref (ga K "BadPart")) (.ref (ga K "PlaneError")) = some true
  iN : ExI K (ga K "BadNumber")
  iP : ExI K (ga K "BadPart")
  kNN : PySem.W.kitOne K (.ref (ga K "BadNumber")) (.ref (ga K "BadNumber")) = some true
  kPN : PySem.W.kitOne K (.ref (ga K "BadPart")) (.ref (ga K "BadNumber")) = some false
  kPP : PySem.W.kitOne K (.ref (ga K "BadPart")) (.ref (ga K "BadPart")) = some true
  x_BadNumber : ExT K mg "BadNumber" "number"
  x_BadPart : ExT K mg "BadPart" "part"
end Iz
/-! k07_a -/
set_option Elab.async false
set_option linter.all false
set_option maxRecDepth 100000
set_option maxHeartbeats 4000000
namespace Iz
open PySem PySem.Spec PyProof.Rows L2
open He (ga)
local macro_rules | `(tactic| walk_at "wp") => `(tactic| simp only [cx_K, Value.ref.injEq, HO.xd.injEq, lk0, tSeq, tPar3, tPar, tCons, tNil, tVar, tC, tAsg, gName, gCons, gNil, gTupN, gSub, tOp, rI, rI0, rU, tTest, rNe, rEq, rIxTN, rIxLN, rLenL, rLenT, rIntI, rIntB, rAbs, rSetLN, tTruL, tRaiseX, rIsTy, ixN0, ixN1, tRet, tIf, tIfS, tNext, tBreak, tCont, tDrop, tTupN, tLstN, tUn, tCB, tCall, tNot, tAnd, tOr, tB, tAndV, tOrV, tNotV, tChain, tApp, LamX.tLam, rListS, wipe, L2.start, List.map_cons, List.map_nil, List.length_cons, List.length_nil, List.replicate, List.cons_append, List.nil_append, List.append_nil, Nat.reduceAdd, Nat.reduceSub, Nat.zero_add, List.replicate_succ, List.replicate_zero, List.getElem?_cons_zero, List.getElem?_cons_succ, List.set_cons_zero, List.set_cons_succ, Option.some.injEq, V.int.injEq, V.bl.injEq, V.ref.injEq, V.str.injEq, V.ty.injEq, List.cons.injEq, HO.tup.injEq, HO.lst.injEq, and_true, true_and, and_assoc, exists_eq_left, exists_eq_left', exists_and_left, exists_eq', atI0, atI1, atI2, atI3, Int.cast_ofNat_Int, Int.reduceToNat, scal_ii, scal_in, scal_ni, scal_nn, scal_bb, scal_ss, scal_sn, scal_ns, scal_bn, scal_nb, ite_iff, decide_eq_true_eq, decide_eq_false_iff_not, Bool.not_eq_true', Classical.not_not, ne_eq, not_false_eq_true, not_true_eq_false, forall_const, true_implies, false_implies, imp_self, sizeLine_eq, Nat.reduceLeDiff, reduceCtorEq, decide_true, decide_false])
section
variable {P : Program} {w : World} {K : PySem.W.Frag} {mg : Str → Option Value} {base : Heap}
def spWD : Sp := fun vs H Q _ => ∃ one other : Int, vs = [.int one, .int other] ∧ one.natAbs < 2 ^ 250 ∧ other.natAbs < 2 ^ 250 ∧
  ∀ u v : Int, u * one + v * other = (Int.gcd one other : Int) → u.natAbs ≤ 2 ^ 130000 → News H (.tup [.int (Int.gcd one other), .int u, .int v]) Q
theorem o_weighed_divisor (T : Txt K mg) : OkF P w K mg base CX0 1 "weighed_divisor" ["one", "other"] spWD := by
  obtain ⟨f, fd, g, F⟩ := T.d_weighed_divisor
  refine ⟨f, fd, g, F.kp, F.binds (fun _ _ _ _ _ _ us hl => match us, hl with | [_, _], _ => rfl), F.ok sc_weighed_divisor (fun vs H Q E h => ?_) (fun cdv A outer s H vs Q E hr h => ?_)⟩
  · obtain ⟨a, b, rfl, _⟩ := h; rfl
  · obtain ⟨one, other, rfl, h1, h2, kk⟩ := h
    refine ⟨_, pss_cons (ps_par3 (i := 2) (j := 3) (l := 4) (by rfl) sc_weighed_divisor.nd rfl rfl rfl (by decide) (by decide) (by decide) rfl rfl rfl (pa_cons (pv 0) (pa_cons (pe_int) (pa_cons (pe_int) pa_nil))) (by rfl))
      (pss_cons (ps_par3 (i := 5) (j := 6) (l := 7) (by rfl) sc_weighed_divisor.nd rfl rfl rfl (by decide) (by decide) (by decide) rfl rfl rfl (pa_cons (pv 1) (pa_cons (pe_int) (pa_cons (pe_int) pa_nil))) (by rfl))
      (pss_cons (ps_while PassesOwn.never (pt_cmpR op_ne (pv 5) (pe_int) (nomark _)) (pss_cons (ps_set (i := 8) sc_weighed_divisor.nd rfl (Or.inl rfl) (pe_op op_fdivF (pv 2) (pv 5)))
      (pss_cons (ps_par (i := 2) (j := 5) (by rfl) sc_weighed_divisor.nd rfl rfl (by decide) rfl rfl (pa_cons (pv 5) (pa_cons (pe_op op_sub (pv 2) (pe_op op_mulW (pv 8) (pv 5))) pa_nil)) (by rfl))
      (pss_cons (ps_par (i := 3) (j := 6) (by rfl) sc_weighed_divisor.nd rfl rfl (by decide) rfl rfl (pa_cons (pv 6) (pa_cons (pe_op op_sub (pv 3) (pe_op op_mulW (pv 8) (pv 6))) pa_nil)) (by rfl))
      (pss_one (ps_par (i := 4) (j := 7) (by rfl) sc_weighed_divisor.nd rfl rfl (by decide) rfl rfl (pa_cons (pv 7) (pa_cons (pe_op op_sub (pv 4) (pe_op op_mulW (pv 8) (pv 7))) pa_nil)) (by rfl)))))))
      (pss_one (ps_ret (pe_ifExp (pt_cmpR op_ge (pv 2) (pe_int) (nomark _)) (pe_tupN (pa_cons (pv 2) (pa_cons (pv 3) (pa_cons (pv 4) pa_nil)))) (pe_tupN (pa_cons (pe_un un_neg (pv 2)) (pa_cons (pe_un un_neg (pv 3)) (pa_cons (pe_un un_neg (pv 4)) pa_nil))))))))), ?_⟩
    walk_at "wp"
    refine while_by (fun σ H' => H' = H ∧ ∃ (d u v r nu nv : Int) (t : Option V) (k : Nat), σ = [some (.int one), some (.int other), some (.int d), some (.int u), some (.int v), some (.int r), some (.int nu), some (.int nv), t] ∧ EI one other d u v r nu nv k)
      (fun σ _ => match σ with | [_, _, some (.int d), _, _, some (.int r), _, _, _] => bud d r | _ => 0) ⟨rfl, _, _, _, _, _, _, _, _, rfl, EI.start h1 h2⟩ ?_ ?_
    · rintro _ _ ⟨rfl, d, u, v, r, nu, nv, t, k, rfl, I⟩
      walk_at "wp"
      refine ⟨fun hr => ⟨hr, log_lt I.hr (by decide) (by decide), ?_, ?_, ?_, ⟨_, I.next hr⟩, bud_step hr⟩, fun hr => ?_⟩
      · exact wide_mul (I.quo) I.hr (by decide) (by decide) (by decide)
      · exact wide_mul (I.quo) (I.big I.bnu) (by decide) (by decide) (by decide)
      · exact wide_mul (I.quo) (I.big I.bnv) (by decide) (by decide) (by decide)
      · subst hr
        obtain ⟨hg, he, hu⟩ := I.done
        refine ⟨fun hd => ?_, fun hd => ?_⟩
        · have e : d = (Int.gcd one other : Int) := by omega
          rw [e]
          exact kk _ _ (by omega) hu
        · have e : -d = (Int.gcd one other : Int) := by omega
          rw [e]
          exact kk _ _ (by rw [Int.neg_mul, Int.neg_mul]; omega) (by omega)
    · exact mono_ne
/-! ### basics -/
def spWhole (K : PySem.W.Frag) : Sp := fun vs H Q _ => ∃ x, vs = [x] ∧ Wh K H x ∧ Q (.bl (isI x)) H
theorem o_is_whole (T : Txt K mg) : OkF P w K mg base CX0 1 "is_whole" ["value"] (spWhole K) := by
  obtain ⟨f, fd, g, F⟩ := T.d_is_whole
  refine ⟨f, fd, g, F.kp, F.binds (fun _ _ _ _ _ _ us hl => match us, hl with | [_], _ => rfl), F.ok sc_is_whole (fun vs H Q E h => ?_) (fun cdv A outer s H vs Q E hr h => ?_)⟩
  · obtain ⟨x, rfl, _⟩ := h; rfl
  · obtain ⟨x, rfl, ⟨t, b1, b2, ty, k1, k2, e⟩, kk⟩ := h
    refine ⟨_, pss_one (ps_ret (pe_and (pe_callB call_isTy (by rfl) T.m_isinstance (by decide +kernel) (pa_cons (pv 0) (pa_cons ((pe_bltn (v := .ty "int") (by rfl) T.m_int (by decide +kernel) rfl)) pa_nil))) (pe_one (pe_not (pe_callB call_isTy (by rfl) T.m_isinstance (by decide +kernel) (pa_cons (pv 0) (pa_cons ((pe_bltn (v := .ty "bool") (by rfl) T.m_bool (by decide +kernel) rfl)) pa_nil))))))), ?_⟩
    walk_at "wp"
    rw [← e] at kk
    refine ⟨t, ty, b1, k1, fun h => ⟨t, ty, b2, k2, ?_⟩, fun h => ?_⟩
    · subst h; exact kk
    · cases b1
      · exact kk
      · exact absurd rfl h
def spFrom (K : PySem.W.Frag) : Sp := fun vs H Q _ => ∃ x l, vs = [x, .int l] ∧ Wh K H x ∧ (isI x = false → Q (.bl false) H) ∧ (∀ i, x = .int i → Q (.bl (decide (l ≤ i))) H)
theorem o_is_from (T : Txt K mg) : OkF P w K mg base CX0 2 "is_from" ["value", "least"] (spFrom K) := by
  have o_is_whole := o_is_whole (P := P) (w := w) (base := base) T
  obtain ⟨f, fd, g, F⟩ := T.d_is_from
  refine ⟨f, fd, g, F.kp, F.binds (fun _ _ _ _ _ _ us hl => match us, hl with | [_, _], _ => rfl), F.ok sc_is_from (fun vs H Q E h => ?_) (fun cdv A outer s H vs Q E hr h => ?_)⟩
  · obtain ⟨x, l, rfl, _⟩ := h; rfl
  · obtain ⟨x, l, rfl, W, k1, k2⟩ := h
    refine ⟨_, pss_one (ps_ret (pe_and (pcl o_is_whole (hr.mono (by decide)) pass0 (pa_cons (pv 0) pa_nil)) (pe_one (pe_cmpR op_ge (pv 0) (pv 1) (nomark _))))), ?_⟩
    walk_at "wp"
    simp only [spWhole, List.cons.injEq, and_true, exists_eq_left']
    refine ⟨W, _, rfl, ?_⟩
    cases e : isI x
    · exact ⟨fun h => (by cases h), fun _ => k1 e⟩
    · obtain ⟨i, rfl⟩ := isI_int e
      exact ⟨fun _ => ⟨i, rfl, k2 i rfl⟩, fun h => absurd rfl h⟩
def spReqW (K : PySem.W.Frag) : Sp := fun vs H Q E => ∃ x, vs = [x] ∧ Wh K H x ∧ (isI x = true → Q .non H) ∧ (isI x = false → Rse K E H "BadNumber" "number" x)
theorem o_require_whole (T : Txt K mg) : OkF P w K mg base (L2.CX P w) 3 "require_whole" ["value"] (spReqW K) := by
  have o_is_whole := o_is_whole (P := P) (w := w) (base := base) T
  obtain ⟨f, fd, g, F⟩ := T.d_require_whole
  refine ⟨f, fd, g, F.kp, F.binds (fun _ _ _ _ _ _ us hl => match us, hl with | [_], _ => rfl), F.okX sc_require_whole (fun vs H Q E h => ?_) (fun cdv A outer s H vs Q E hr h => ?_)⟩
  · obtain ⟨x, rfl, _⟩ := h; rfl
  · obtain ⟨x, rfl, W, k1, k2⟩ := h
    refine ⟨_, pss_one (ps_if (pt_not (pt_val (pcl o_is_whole (hr.mono (by decide)) pass0 (pa_cons (pv 0) pa_nil)))) (pss_one (ps_raiseX (T.x_BadNumber) (hr.mono (by decide)) takesE (pv 0))) (pss_nil)), ?_⟩
    walk_at "wp"
    simp only [spWhole, List.cons.injEq, and_true, exists_eq_left']
    exact ⟨W, _, rfl, ⟨k2, fun h => k1 (by cases e : isI x <;> simp_all)⟩⟩
def spReqF (K : PySem.W.Frag) : Sp := fun vs H Q E => ∃ x l, vs = [x, .int l] ∧ Wh K H x ∧ (∀ i, x = .int i → l ≤ i → Q .non H) ∧ ((∀ i, x = .int i → i < l) → Rse K E H "BadNumber" "number" x)
theorem o_require_from (T : Txt K mg) : OkF P w K mg base (L2.CX P w) 3 "require_from" ["value", "least"] (spReqF K) := by
  have o_is_from := o_is_from (P := P) (w := w) (base := base) T
  obtain ⟨f, fd, g, F⟩ := T.d_require_from
  refine ⟨f, fd, g, F.kp, F.binds (fun _ _ _ _ _ _ us hl => match us, hl with | [_, _], _ => rfl), F.okX sc_require_from (fun vs H Q E h => ?_) (fun cdv A outer s H vs Q E hr h => ?_)⟩
  · obtain ⟨x, l, rfl, _⟩ := h; rfl
  · obtain ⟨x, l, rfl, W, k1, k2⟩ := h
    refine ⟨_, pss_one (ps_if (pt_not (pt_val (pcl o_is_from (hr.mono (by decide)) pass0 (pa_cons (pv 0) (pa_cons (pv 1) pa_nil))))) (pss_one (ps_raiseX (T.x_BadNumber) (hr.mono (by decide)) takesE (pv 0))) (pss_nil)), ?_⟩
    walk_at "wp"
    simp only [spFrom, List.cons.injEq, and_true, exists_and_left, exists_eq_left', V.int.injEq, and_assoc]
    refine ⟨W, fun e => ⟨_, rfl, ?_⟩, fun i e => ⟨_, rfl, ?_⟩⟩
    · refine ⟨fun _ => k2 fun i h => ?_, fun h => ?_⟩
      · subst h; cases e
      · simp at h
    · subst e
      refine ⟨fun h => k2 fun j h2 => ?_, fun h => k1 i rfl ?_⟩
      · cases h2; simp at h; omega
      · simp at h; omega
/-! ### lines -/
def spGD (K : PySem.W.Frag) : Sp := fun vs H Q E => ∃ x y, vs = [x, y] ∧ Wh K H x ∧ (isI x = false → Rse K E H "BadNumber" "number" x) ∧ (isI x = true → Wh K H y ∧ (isI y = false → Rse K E H "BadNumber" "number" y)) ∧
  (∀ i j : Int, x = .int i → y = .int j → i.natAbs < 2 ^ 250 ∧ j.natAbs < 2 ^ 250 ∧ ∀ H', Same H H' → Q (.int (Int.gcd i j)) H')
theorem o_greatest_divisor (T : Txt K mg) : OkF P w K mg base (L2.CX P w) 4 "greatest_divisor" ["one", "other"] (spGD K) := by
  have o_require_whole := o_require_whole (P := P) (w := w) (base := base) T
  have o_weighed_divisor := o_weighed_divisor (P := P) (w := w) (base := base) T
  obtain ⟨f, fd, g, F⟩ := T.d_greatest_divisor
  refine ⟨f, fd, g, F.kp, F.binds (fun _ _ _ _ _ _ us hl => match us, hl with | [_, _], _ => rfl), F.okX sc_greatest_divisor (fun vs H Q E h => ?_) (fun cdv A outer s H vs Q E hr h => ?_)⟩
  · first | (obtain ⟨_, rfl, _⟩ := h; rfl) | (obtain ⟨_, _, rfl, _⟩ := h; rfl) | (obtain ⟨_, _, _, rfl, _⟩ := h; rfl) | (obtain ⟨_, _, _, _, rfl, _⟩ := h; rfl) | (obtain ⟨_, _, _, _, _, rfl, _⟩ := h; rfl)
  have hu64 := hr.units
  refine ⟨_, pss_cons (ps_expr (pcl o_require_whole (hr.mono (by decide)) passE (pa_cons (pv 0) pa_nil)))
      (pss_cons (ps_expr (pcl o_require_whole (hr.mono (by decide)) passE (pa_cons (pv 1) pa_nil)))
      (pss_one (ps_ret (pe_ix ix_tupN (pcl o_weighed_divisor (hr.mono (by decide)) pass0 (pa_cons (pv 0) (pa_cons (pv 1) pa_nil))) (pe_int) (fun _ _ => rfl))))), ?_⟩
  obtain ⟨x, y, rfl, W1, k1, P2, k3⟩ := h
  simp only [spReqW, spWD, exists_and_left, cx_K, Value.ref.injEq, HO.xd.injEq, lk0, tSeq, tPar3, tPar, tCons, tNil, tVar, tC, tAsg, gName, gCons, gNil, gTupN, gSub, tOp, rI, rI0, rU, tTest, rNe, rEq, rIxTN, rIxLN, rLenL, rLenT, rIntI, rIntB, rAbs, rSetLN, tTruL, tRaiseX, rIsTy, ixN0, ixN1, tRet, tIf, tIfS, tNext, tBreak, tCont, tDrop, tTupN, tLstN, tUn, tCB, tCall, tNot, tAnd, tOr, tB, tAndV, tOrV, tNotV, tChain, tApp, LamX.tLam, rListS, wipe, L2.start, List.map_cons, List.map_nil, List.length_cons, List.length_nil, List.replicate, List.cons_append, List.nil_append, List.append_nil, Nat.reduceAdd, Nat.reduceSub, Nat.zero_add, List.replicate_succ, List.replicate_zero, List.getElem?_cons_zero, List.getElem?_cons_succ, List.set_cons_zero, List.set_cons_succ, Option.some.injEq, V.int.injEq, V.bl.injEq, V.ref.injEq, V.str.injEq, V.ty.injEq, List.cons.injEq, HO.tup.injEq, HO.lst.injEq, and_true, true_and, and_assoc, exists_eq_left, exists_eq_left', exists_and_left, exists_eq', atI0, atI1, atI2, atI3, Int.cast_ofNat_Int, Int.reduceToNat, scal_ii, scal_in, scal_ni, scal_nn, scal_bb, scal_ss, scal_sn, scal_ns, scal_bn, scal_nb, ite_iff, decide_eq_true_eq, decide_eq_false_iff_not, Bool.not_eq_true', Classical.not_not, ne_eq, not_false_eq_true, not_true_eq_false, forall_const, true_implies, false_implies, imp_self, sizeLine_eq, Nat.reduceLeDiff, reduceCtorEq, decide_true, decide_false]
  refine ⟨W1, fun h1 => ?_, k1⟩
  obtain ⟨W2, k2⟩ := P2 h1
  refine ⟨W2, fun h2 => ?_, k2⟩
  obtain ⟨i, rfl⟩ := isI_int h1
  obtain ⟨j, rfl⟩ := isI_int h2
  obtain ⟨b1, b2, kk⟩ := k3 i j rfl rfl
  refine ⟨i, rfl, j, rfl, b1, b2, fun u v _ _ p H2 hp hs h2 => ?_⟩
  simp only [h2, cx_K, Value.ref.injEq, HO.xd.injEq, lk0, tSeq, tPar3, tPar, tCons, tNil, tVar, tC, tAsg, gName, gCons, gNil, gTupN, gSub, tOp, rI, rI0, rU, tTest, rNe, rEq, rIxTN, rIxLN, rLenL, rLenT, rIntI, rIntB, rAbs, rSetLN, tTruL, tRaiseX, rIsTy, ixN0, ixN1, tRet, tIf, tIfS, tNext, tBreak, tCont, tDrop, tTupN, tLstN, tUn, tCB, tCall, tNot, tAnd, tOr, tB, tAndV, tOrV, tNotV, tChain, tApp, LamX.tLam, rListS, wipe, L2.start, List.map_cons, List.map_nil, List.length_cons, List.length_nil, List.replicate, List.cons_append, List.nil_append, List.append_nil, Nat.reduceAdd, Nat.reduceSub, Nat.zero_add, List.replicate_succ, List.replicate_zero, List.getElem?_cons_zero, List.getElem?_cons_succ, List.set_cons_zero, List.set_cons_succ, Option.some.injEq, V.int.injEq, V.bl.injEq, V.ref.injEq, V.str.injEq, V.ty.injEq, List.cons.injEq, HO.tup.injEq, HO.lst.injEq, and_true, true_and, and_assoc, exists_eq_left, exists_eq_left', exists_and_left, exists_eq', atI0, atI1, atI2, atI3, Int.cast_ofNat_Int, Int.reduceToNat, scal_ii, scal_in, scal_ni, scal_nn, scal_bb, scal_ss, scal_sn, scal_ns, scal_bn, scal_nb, ite_iff, decide_eq_true_eq, decide_eq_false_iff_not, Bool.not_eq_true', Classical.not_not, ne_eq, not_false_eq_true, not_true_eq_false, forall_const, true_implies, false_implies, imp_self, sizeLine_eq, Nat.reduceLeDiff, reduceCtorEq, decide_true, decide_false]
  exact kk H2 hs
/-- one is an int of 1 or more -/
def isP : V → Bool
  | .int i => decide (1 ≤ i)
  | _ => false
theorem isP_int {x : V} (h : isP x = true) : ∃ i, x = .int i ∧ 1 ≤ i := by cases x <;> simp_all [isP]
def spLM (K : PySem.W.Frag) : Sp := fun vs H Q E => ∃ x y, vs = [x, y] ∧ Wh K H x ∧ (isP x = false → Rse K E H "BadNumber" "number" x) ∧ (isP x = true → Wh K H y ∧ (isP y = false → Rse K E H "BadNumber" "number" y)) ∧
  (∀ i j : Int, x = .int i → y = .int j → 1 ≤ i → 1 ≤ j → i.natAbs < 2 ^ 250 ∧ j.natAbs < 2 ^ 250 ∧ ∀ H', Same H H' → Q (.int (i / (Int.gcd i j : Int) * j)) H')
theorem from1 {K : PySem.W.Frag} {H : Hp} {x : V} {Q : VK} {E : XK} (W : Wh K H x) (h1 : isP x = true → Q .non H) (h2 : isP x = false → Rse K E H "BadNumber" "number" x) : spReqF K [x, .int 1] H Q E :=
  ⟨x, 1, rfl, W, fun i e h => h1 (by subst e; simp [isP, h]), fun h => h2 (by cases x <;> simp_all [isP])⟩
theorem o_least_multiple (T : Txt K mg) : OkF P w K mg base (L2.CX P w) 5 "least_multiple" ["one", "other"] (spLM K) := by
  have o_require_from := o_require_from (P := P) (w := w) (base := base) T
  have o_greatest_divisor := o_greatest_divisor (P := P) (w := w) (base := base) T
  obtain ⟨f, fd, g, F⟩ := T.d_least_multiple
  refine ⟨f, fd, g, F.kp, F.binds (fun _ _ _ _ _ _ us hl => match us, hl with | [_, _], _ => rfl), F.okX sc_least_multiple (fun vs H Q E h => ?_) (fun cdv A outer s H vs Q E hr h => ?_)⟩
  · first | (obtain ⟨_, rfl, _⟩ := h; rfl) | (obtain ⟨_, _, rfl, _⟩ := h; rfl) | (obtain ⟨_, _, _, rfl, _⟩ := h; rfl) | (obtain ⟨_, _, _, _, rfl, _⟩ := h; rfl) | (obtain ⟨_, _, _, _, _, rfl, _⟩ := h; rfl)
  have hu64 := hr.units
  refine ⟨_, pss_cons (ps_expr (pcl o_require_from (hr.mono (by decide)) passE (pa_cons (pv 0) (pa_cons (pe_int) pa_nil))))
      (pss_cons (ps_expr (pcl o_require_from (hr.mono (by decide)) passE (pa_cons (pv 1) (pa_cons (pe_int) pa_nil))))
      (pss_one (ps_ret (pe_op op_mulW (pe_op op_fdivW (pv 0) (pcl o_greatest_divisor (hr.mono (by decide)) passE (pa_cons (pv 0) (pa_cons (pv 1) pa_nil)))) (pv 1))))), ?_⟩
  obtain ⟨x, y, rfl, W1, k1, P2, k3⟩ := h
  simp only [spGD, exists_and_left, cx_K, Value.ref.injEq, HO.xd.injEq, lk0, tSeq, tPar3, tPar, tCons, tNil, tVar, tC, tAsg, gName, gCons, gNil, gTupN, gSub, tOp, rI, rI0, rU, tTest, rNe, rEq, rIxTN, rIxLN, rLenL, rLenT, rIntI, rIntB, rAbs, rSetLN, tTruL, tRaiseX, rIsTy, ixN0, ixN1, tRet, tIf, tIfS, tNext, tBreak, tCont, tDrop, tTupN, tLstN, tUn, tCB, tCall, tNot, tAnd, tOr, tB, tAndV, tOrV, tNotV, tChain, tApp, LamX.tLam, rListS, wipe, L2.start, List.map_cons, List.map_nil, List.length_cons, List.length_nil, List.replicate, List.cons_append, List.nil_append, List.append_nil, Nat.reduceAdd, Nat.reduceSub, Nat.zero_add, List.replicate_succ, List.replicate_zero, List.getElem?_cons_zero, List.getElem?_cons_succ, List.set_cons_zero, List.set_cons_succ, Option.some.injEq, V.int.injEq, V.bl.injEq, V.ref.injEq, V.str.injEq, V.ty.injEq, List.cons.injEq, HO.tup.injEq, HO.lst.injEq, and_true, true_and, and_assoc, exists_eq_left, exists_eq_left', exists_and_left, exists_eq', atI0, atI1, atI2, atI3, Int.cast_ofNat_Int, Int.reduceToNat, scal_ii, scal_in, scal_ni, scal_nn, scal_bb, scal_ss, scal_sn, scal_ns, scal_bn, scal_nb, ite_iff, decide_eq_true_eq, decide_eq_false_iff_not, Bool.not_eq_true', Classical.not_not, ne_eq, not_false_eq_true, not_true_eq_false, forall_const, true_implies, false_implies, imp_self, sizeLine_eq, Nat.reduceLeDiff, reduceCtorEq, decide_true, decide_false]
  refine from1 W1 (fun h1 => ?_) k1
  obtain ⟨W2, k2⟩ := P2 h1
  refine from1 W2 (fun h2 => ?_) k2
  obtain ⟨i, rfl, hi⟩ := isP_int h1
  obtain ⟨j, rfl, hj⟩ := isP_int h2
  obtain ⟨b1, b2, kk⟩ := k3 i j rfl rfl hi hj
  have hg : 0 < (Int.gcd i j : Int) := by have := Int.gcd_pos_of_ne_zero_left j (show i ≠ 0 by omega); omega
  have hgl : (Int.gcd i j : Int) ≤ i := Int.le_of_dvd (by omega) (Int.gcd_dvd_left i j)
  have hq : (i / (Int.gcd i j : Int)).natAbs < 2 ^ 250 := Nat.lt_of_le_of_lt (Int.natAbs_ediv_le_natAbs _ _) b1
  refine ⟨W1, fun h => (by cases h), fun _ => ⟨W2, fun h => (by cases h)⟩, fun i' j' e1 e2 => ?_⟩
  cases e1; cases e2
  exact ⟨b1, b2, fun H' hs => ⟨i, rfl, wide_div hg (wide_le (by omega) hgl b1) (by decide) (by decide), j, rfl, wide_mul hq b2 (by decide) (by decide) (by decide), kk H' hs⟩⟩
end
end Iz
/-! k07_b -/
set_option Elab.async false
set_option linter.all false
set_option maxRecDepth 100000
set_option maxHeartbeats 4000000
namespace Iz
open PySem PySem.Spec PyProof.Rows L2
open He (ga)
local macro_rules | `(tactic| walk_at "wp") => `(tactic| simp only [cx_K, Value.ref.injEq, HO.xd.injEq, lk0, tSeq, tPar3, tPar, tCons, tNil, tVar, tC, tAsg, gName, gCons, gNil, gTupN, gSub, tOp, rI, rI0, rU, tTest, rNe, rEq, rIxTN, rIxLN, rLenL, rLenT, rIntI, rIntB, rAbs, rSetLN, tTruL, tRaiseX, rIsTy, ixN0, ixN1, tRet, tIf, tIfS, tNext, tBreak, tCont, tDrop, tTupN, tLstN, tUn, tCB, tCall, tNot, tAnd, tOr, tB, tAndV, tOrV, tNotV, tChain, tApp, LamX.tLam, rListS, wipe, L2.start, List.map_cons, List.map_nil, List.length_cons, List.length_nil, List.replicate, List.cons_append, List.nil_append, List.append_nil, Nat.reduceAdd, Nat.reduceSub, Nat.zero_add, List.replicate_succ, List.replicate_zero, List.getElem?_cons_zero, List.getElem?_cons_succ, List.set_cons_zero, List.set_cons_succ, Option.some.injEq, V.int.injEq, V.bl.injEq, V.ref.injEq, V.str.injEq, V.ty.injEq, List.cons.injEq, HO.tup.injEq, HO.lst.injEq, and_true, true_and, and_assoc, exists_eq_left, exists_eq_left', exists_and_left, exists_eq', atI0, atI1, atI2, atI3, Int.cast_ofNat_Int, Int.reduceToNat, scal_ii, scal_in, scal_ni, scal_nn, scal_bb, scal_ss, scal_sn, scal_ns, scal_bn, scal_nb, ite_iff, decide_eq_true_eq, decide_eq_false_iff_not, Bool.not_eq_true', Classical.not_not, ne_eq, not_false_eq_true, not_true_eq_false, forall_const, true_implies, false_implies, imp_self, sizeLine_eq, Nat.reduceLeDiff, reduceCtorEq, decide_true, decide_false])
section
variable {P : Program} {w : World} {K : PySem.W.Frag} {mg : Str → Option Value} {base : Heap}
/-- the ints at which a line a + b i is r modulo p, said of what is handed back -/
def Line (a b r p : Int) (Q : VK) (H : Hp) : Prop := ((r - a) % (Int.gcd b p : Int) ≠ 0 → ∀ H', Same H H' → Q .non H') ∧
  ((r - a) % (Int.gcd b p : Int) = 0 → ∀ s, 0 ≤ s → s < p / (Int.gcd b p : Int) → (a + b * s - r) % p = 0 → ∀ H', Same H H' → News H' (.tup [.int s, .int (p / (Int.gcd b p : Int))]) Q)
def spRO (K : PySem.W.Frag) : Sp := fun vs H Q E => ∃ a b r p, vs = [a, b, r, p] ∧ Wh K H a ∧ (isI a = false → Rse K E H "BadNumber" "number" a) ∧ (isI a = true → Wh K H b ∧ (isI b = false → Rse K E H "BadNumber" "number" b) ∧
  (isI b = true → Wh K H r ∧ (isI r = false → Rse K E H "BadNumber" "number" r) ∧ (isI r = true → Wh K H p ∧ (isP p = false → Rse K E H "BadNumber" "number" p)))) ∧
  (∀ a' b' r' p' : Int, a = .int a' → b = .int b' → r = .int r' → p = .int p' → 1 ≤ p' → a'.natAbs < 2 ^ 249 ∧ b'.natAbs < 2 ^ 249 ∧ r'.natAbs < 2 ^ 249 ∧ p'.natAbs < 2 ^ 249 ∧ Line a' b' r' p' Q H)
theorem o_remainder_of (T : Txt K mg) : OkF P w K mg base (L2.CX P w) 5 "remainder_of" ["a", "b", "r", "p"] (spRO K) := by
  have o_require_whole := o_require_whole (P := P) (w := w) (base := base) T
  have o_require_from := o_require_from (P := P) (w := w) (base := base) T
  have o_weighed_divisor := o_weighed_divisor (P := P) (w := w) (base := base) T
  obtain ⟨f, fd, g, F⟩ := T.d_remainder_of
  refine ⟨f, fd, g, F.kp, F.binds (fun _ _ _ _ _ _ us hl => match us, hl with | [_, _, _, _], _ => rfl), F.okX sc_remainder_of (fun vs H Q E h => ?_) (fun cdv A outer s H vs Q E hr h => ?_)⟩
  · first | (obtain ⟨_, rfl, _⟩ := h; rfl) | (obtain ⟨_, _, rfl, _⟩ := h; rfl) | (obtain ⟨_, _, _, rfl, _⟩ := h; rfl) | (obtain ⟨_, _, _, _, rfl, _⟩ := h; rfl) | (obtain ⟨_, _, _, _, _, rfl, _⟩ := h; rfl)
  have hu64 := hr.units
  refine ⟨_, pss_cons (ps_expr (pcl o_require_whole (hr.mono (by decide)) passE (pa_cons (pv 0) pa_nil)))
      (pss_cons (ps_expr (pcl o_require_whole (hr.mono (by decide)) passE (pa_cons (pv 1) pa_nil)))
      (pss_cons (ps_expr (pcl o_require_whole (hr.mono (by decide)) passE (pa_cons (pv 2) pa_nil)))
      (pss_cons (ps_expr (pcl o_require_from (hr.mono (by decide)) passE (pa_cons (pv 3) (pa_cons (pe_int) pa_nil))))
      (pss_cons (ps_asg (pcl o_weighed_divisor (hr.mono (by decide)) pass0 (pa_cons (pv 1) (pa_cons (pv 3) pa_nil))) (pg_tupN (n := 3) (by rfl) (pgs_cons (pg_name (i := 4) sc_remainder_of.nd rfl (Or.inl rfl)) (pgs_cons (pg_name (i := 5) sc_remainder_of.nd rfl (Or.inl rfl)) (pgs_cons (pg_name (i := 6) sc_remainder_of.nd rfl (Or.inl rfl)) pgs_nil)))))
      (pss_cons (ps_if (pt_cmpR op_ne (pe_op op_mod (pe_op op_sub (pv 2) (pv 0)) (pv 4)) (pe_int) (nomark _)) (pss_one (ps_ret (pe_non))) (pss_nil))
      (pss_cons (ps_set (i := 7) sc_remainder_of.nd rfl (Or.inl rfl) (pe_op op_fdivW (pv 3) (pv 4)))
      (pss_one (ps_ret (pe_tupN (pa_cons (pe_op op_mod (pe_op op_mulW (pe_op op_fdivW (pe_op op_sub (pv 2) (pv 0)) (pv 4)) (pv 5)) (pv 7)) (pa_cons (pv 7) pa_nil))))))))))), ?_⟩
  obtain ⟨a, b, r, p, rfl, Wa, ka, Pb, kk⟩ := h
  simp only [spReqW, spWD, exists_and_left, cx_K, Value.ref.injEq, HO.xd.injEq, lk0, tSeq, tPar3, tPar, tCons, tNil, tVar, tC, tAsg, gName, gCons, gNil, gTupN, gSub, tOp, rI, rI0, rU, tTest, rNe, rEq, rIxTN, rIxLN, rLenL, rLenT, rIntI, rIntB, rAbs, rSetLN, tTruL, tRaiseX, rIsTy, ixN0, ixN1, tRet, tIf, tIfS, tNext, tBreak, tCont, tDrop, tTupN, tLstN, tUn, tCB, tCall, tNot, tAnd, tOr, tB, tAndV, tOrV, tNotV, tChain, tApp, LamX.tLam, rListS, wipe, L2.start, List.map_cons, List.map_nil, List.length_cons, List.length_nil, List.replicate, List.cons_append, List.nil_append, List.append_nil, Nat.reduceAdd, Nat.reduceSub, Nat.zero_add, List.replicate_succ, List.replicate_zero, List.getElem?_cons_zero, List.getElem?_cons_succ, List.set_cons_zero, List.set_cons_succ, Option.some.injEq, V.int.injEq, V.bl.injEq, V.ref.injEq, V.str.injEq, V.ty.injEq, List.cons.injEq, HO.tup.injEq, HO.lst.injEq, and_true, true_and, and_assoc, exists_eq_left, exists_eq_left', exists_and_left, exists_eq', atI0, atI1, atI2, atI3, Int.cast_ofNat_Int, Int.reduceToNat, scal_ii, scal_in, scal_ni, scal_nn, scal_bb, scal_ss, scal_sn, scal_ns, scal_bn, scal_nb, ite_iff, decide_eq_true_eq, decide_eq_false_iff_not, Bool.not_eq_true', Classical.not_not, ne_eq, not_false_eq_true, not_true_eq_false, forall_const, true_implies, false_implies, imp_self, sizeLine_eq, Nat.reduceLeDiff, reduceCtorEq, decide_true, decide_false]
  refine ⟨Wa, fun ha => ?_, ka⟩
  obtain ⟨Wb, kb, Pr⟩ := Pb ha
  refine ⟨Wb, fun hb => ?_, kb⟩
  obtain ⟨Wr, kr, Pp⟩ := Pr hb
  refine ⟨Wr, fun hr' => ?_, kr⟩
  obtain ⟨Wp, kp⟩ := Pp hr'
  refine from1 Wp (fun hp => ?_) kp
  obtain ⟨a, rfl⟩ := isI_int ha
  obtain ⟨b, rfl⟩ := isI_int hb
  obtain ⟨r, rfl⟩ := isI_int hr'
  obtain ⟨p, rfl, hp1⟩ := isP_int hp
  obtain ⟨ba, bb, br, bp, k1, k2⟩ := kk a b r p rfl rfl rfl rfl hp1
  have hg : 0 < (Int.gcd b p : Int) := by have := Int.gcd_pos_of_ne_zero_right b (show p ≠ 0 by omega); omega
  have hgl : (Int.gcd b p : Int) ≤ p := Int.le_of_dvd (by omega) (Int.gcd_dvd_right b p)
  refine ⟨b, rfl, p, rfl, by omega, by omega, fun u v huv hu q H2 hq hs h2 => ?_⟩
  simp only [h2, cx_K, Value.ref.injEq, HO.xd.injEq, lk0, tSeq, tPar3, tPar, tCons, tNil, tVar, tC, tAsg, gName, gCons, gNil, gTupN, gSub, tOp, rI, rI0, rU, tTest, rNe, rEq, rIxTN, rIxLN, rLenL, rLenT, rIntI, rIntB, rAbs, rSetLN, tTruL, tRaiseX, rIsTy, ixN0, ixN1, tRet, tIf, tIfS, tNext, tBreak, tCont, tDrop, tTupN, tLstN, tUn, tCB, tCall, tNot, tAnd, tOr, tB, tAndV, tOrV, tNotV, tChain, tApp, LamX.tLam, rListS, wipe, L2.start, List.map_cons, List.map_nil, List.length_cons, List.length_nil, List.replicate, List.cons_append, List.nil_append, List.append_nil, Nat.reduceAdd, Nat.reduceSub, Nat.zero_add, List.replicate_succ, List.replicate_zero, List.getElem?_cons_zero, List.getElem?_cons_succ, List.set_cons_zero, List.set_cons_succ, Option.some.injEq, V.int.injEq, V.bl.injEq, V.ref.injEq, V.str.injEq, V.ty.injEq, List.cons.injEq, HO.tup.injEq, HO.lst.injEq, and_true, true_and, and_assoc, exists_eq_left, exists_eq_left', exists_and_left, exists_eq', atI0, atI1, atI2, atI3, Int.cast_ofNat_Int, Int.reduceToNat, scal_ii, scal_in, scal_ni, scal_nn, scal_bb, scal_ss, scal_sn, scal_ns, scal_bn, scal_nb, ite_iff, decide_eq_true_eq, decide_eq_false_iff_not, Bool.not_eq_true', Classical.not_not, ne_eq, not_false_eq_true, not_true_eq_false, forall_const, true_implies, false_implies, imp_self, sizeLine_eq, Nat.reduceLeDiff, reduceCtorEq, decide_true, decide_false]
  refine ⟨hg, fun h => k1 h H2 hs, fun h => ⟨wide_div hg (gcd_small hp1 bp) (by decide) (by decide), wide_div hg (gcd_small hp1 bp) (by decide) (by decide),
    wide_mul (a := 250) (b := 130001) (ediv_small (by omega)) (Nat.lt_of_le_of_lt hu (Nat.pow_lt_pow_right (by decide) (by decide))) (by decide) (by decide) (by decide), qpos hp1, ?_⟩⟩
  exact k2 h _ (Int.emod_nonneg _ (by have := qpos (b := b) hp1; omega)) (Int.emod_lt_of_pos _ (qpos hp1)) (line_sol hp1 huv h) H2 hs
/-- a value is a remainder (r, p), or it is none -/
def Rem (K : PySem.W.Frag) (H : Hp) (x : V) : Prop := ∃ (p : Addr) (r m : Int), x = .ref p ∧ H p = some (.tup [.int r, .int m]) ∧ 1 ≤ m
def NoRem (K : PySem.W.Frag) (H : Hp) (x : V) : Prop := (∃ t, TyX K H x t ∧ PySem.W.kitOne K t (.type "tuple") = some false) ∨ ∃ (p : Addr) (xs : List V), x = .ref p ∧ H p = some (.tup xs) ∧
  (xs.length ≠ 2 ∨ ∃ a b, xs = [a, b] ∧ Wh K H a ∧ Wh K H b ∧ (isI a = false ∨ isP b = false))
def spReqR (K : PySem.W.Frag) : Sp := fun vs H Q E => ∃ x, vs = [x] ∧ ((Rem K H x ∧ Q .non H) ∨ (NoRem K H x ∧ Rse K E H "BadPart" "part" (.str "remainder")))
theorem o__require_remainder (T : Txt K mg) : OkF P w K mg base (L2.CX P w) 3 "_require_remainder" ["value"] (spReqR K) := by
  have o_is_whole := o_is_whole (P := P) (w := w) (base := base) T
  have o_is_from := o_is_from (P := P) (w := w) (base := base) T
  obtain ⟨f, fd, g, F⟩ := T.d__require_remainder
  refine ⟨f, fd, g, F.kp, F.binds (fun _ _ _ _ _ _ us hl => match us, hl with | [_], _ => rfl), F.okX sc__require_remainder (fun vs H Q E h => ?_) (fun cdv A outer s H vs Q E hr h => ?_)⟩
  · first | (obtain ⟨_, rfl, _⟩ := h; rfl) | (obtain ⟨_, _, rfl, _⟩ := h; rfl) | (obtain ⟨_, _, _, rfl, _⟩ := h; rfl) | (obtain ⟨_, _, _, _, rfl, _⟩ := h; rfl) | (obtain ⟨_, _, _, _, _, rfl, _⟩ := h; rfl)
  have hu64 := hr.units
  refine ⟨_, pss_one (ps_if (PW.pt (pw_or (pt_not (pt_val (pe_callB call_isTy (by rfl) T.m_isinstance (by decide +kernel) (pa_cons (pv 0) (pa_cons ((pe_bltn (v := .ty "tuple") (by rfl) T.m_tuple (by decide +kernel) rfl)) pa_nil))))) (pw_or (pt_cmpR op_ne (pe_callB call_lenT (by rfl) T.m_len (by decide +kernel) (pa_cons (pv 0) pa_nil)) (pe_int) (nomark _)) (pw_or (pt_not (pt_val (pcl o_is_whole (hr.mono (by decide)) pass0 (pa_cons (pe_ix ix_tupN (pv 0) (pe_int) (fun _ _ => rfl)) pa_nil)))) (pw_or1 (pt_not (pt_val (pcl o_is_from (hr.mono (by decide)) pass0 (pa_cons (pe_ix ix_tupN (pv 0) (pe_int) (fun _ _ => rfl)) (pa_cons (pe_int) pa_nil)))))))))) (pss_one (ps_raiseX (T.x_BadPart) (hr.mono (by decide)) takesE (pe_str))) (pss_nil)), ?_⟩
  obtain ⟨x, rfl, h⟩ := h
  simp only [spWhole, spFrom, exists_and_left, cx_K, Value.ref.injEq, HO.xd.injEq, lk0, tSeq, tPar3, tPar, tCons, tNil, tVar, tC, tAsg, gName, gCons, gNil, gTupN, gSub, tOp, rI, rI0, rU, tTest, rNe, rEq, rIxTN, rIxLN, rLenL, rLenT, rIntI, rIntB, rAbs, rSetLN, tTruL, tRaiseX, rIsTy, ixN0, ixN1, tRet, tIf, tIfS, tNext, tBreak, tCont, tDrop, tTupN, tLstN, tUn, tCB, tCall, tNot, tAnd, tOr, tB, tAndV, tOrV, tNotV, tChain, tApp, LamX.tLam, rListS, wipe, L2.start, List.map_cons, List.map_nil, List.length_cons, List.length_nil, List.replicate, List.cons_append, List.nil_append, List.append_nil, Nat.reduceAdd, Nat.reduceSub, Nat.zero_add, List.replicate_succ, List.replicate_zero, List.getElem?_cons_zero, List.getElem?_cons_succ, List.set_cons_zero, List.set_cons_succ, Option.some.injEq, V.int.injEq, V.bl.injEq, V.ref.injEq, V.str.injEq, V.ty.injEq, List.cons.injEq, HO.tup.injEq, HO.lst.injEq, and_true, true_and, and_assoc, exists_eq_left, exists_eq_left', exists_and_left, exists_eq', atI0, atI1, atI2, atI3, Int.cast_ofNat_Int, Int.reduceToNat, scal_ii, scal_in, scal_ni, scal_nn, scal_bb, scal_ss, scal_sn, scal_ns, scal_bn, scal_nb, ite_iff, decide_eq_true_eq, decide_eq_false_iff_not, Bool.not_eq_true', Classical.not_not, ne_eq, not_false_eq_true, not_true_eq_false, forall_const, true_implies, false_implies, imp_self, sizeLine_eq, Nat.reduceLeDiff, reduceCtorEq, decide_true, decide_false]
  rcases h with ⟨⟨p, r, m, rfl, hp, hm⟩, hq⟩ | ⟨⟨t, ty, kt⟩ | ⟨p, xs, rfl, hp, hx⟩, hE⟩
  · refine ⟨_, .base (.tup hp), true, kit_ty (by decide +kernel), fun h => (by cases h), fun _ => ⟨p, rfl, _, hp, fun h => absurd rfl h, fun _ => ⟨p, rfl, _, hp, _, atI0, wh_int, fun h => (by cases h), fun _ => ⟨p, rfl, _, hp, _, atI1, wh_int, fun h => (by cases h), fun i hi => ?_⟩⟩⟩⟩
    cases hi
    exact ⟨fun h => absurd hm h, fun _ => hq⟩
  · exact ⟨t, ty, false, kt, fun _ => hE, fun h => absurd rfl h⟩
  · refine ⟨_, .base (.tup hp), true, kit_ty (by decide +kernel), fun h => (by cases h), fun _ => ⟨p, rfl, _, hp, fun _ => hE, fun hl => ?_⟩⟩
    rcases hx with hx | ⟨a, b, rfl, Wa, Wb, hab⟩
    · exact absurd (by omega) hx
    · refine ⟨p, rfl, _, hp, _, atI0, Wa, fun _ => hE, fun ha => ⟨p, rfl, _, hp, _, atI1, Wb, fun _ => hE, fun i hi => ?_⟩⟩
      subst hi
      rcases hab with h | h
      · exact absurd h ha
      · exact ⟨fun _ => hE, fun h1 => by simp [isP] at h; omega⟩
def spBR (K : PySem.W.Frag) : Sp := fun vs H Q E => ∃ x y, vs = [x, y] ∧ ((NoRem K H x ∧ Rse K E H "BadPart" "part" (.str "remainder")) ∨ ∃ (px : Addr) (r p : Int), x = .ref px ∧ H px = some (.tup [.int r, .int p]) ∧ 1 ≤ p ∧
  ((NoRem K H y ∧ Rse K E H "BadPart" "part" (.str "remainder")) ∨ ∃ (py : Addr) (o q : Int), y = .ref py ∧ H py = some (.tup [.int o, .int q]) ∧ 1 ≤ q ∧
    r.natAbs < 2 ^ 249 ∧ p.natAbs < 2 ^ 249 ∧ o.natAbs < 2 ^ 249 ∧ q.natAbs < 2 ^ 249 ∧
    ((o - r) % (Int.gcd p q : Int) ≠ 0 → ∀ H', Same H H' → Q .non H') ∧
    ((o - r) % (Int.gcd p q : Int) = 0 → ∀ s, 0 ≤ s → s < p * (q / (Int.gcd p q : Int)) → (s - r) % p = 0 → (s - o) % q = 0 → ∀ H', Same H H' → News H' (.tup [.int s, .int (p * (q / (Int.gcd p q : Int)))]) Q)))
theorem o_both_remainders (T : Txt K mg) : OkF P w K mg base (L2.CX P w) 6 "both_remainders" ["one", "other"] (spBR K) := by
  have o__require_remainder := o__require_remainder (P := P) (w := w) (base := base) T
  have o_remainder_of := o_remainder_of (P := P) (w := w) (base := base) T
  obtain ⟨f, fd, g, F⟩ := T.d_both_remainders
  refine ⟨f, fd, g, F.kp, F.binds (fun _ _ _ _ _ _ us hl => match us, hl with | [_, _], _ => rfl), F.okX sc_both_remainders (fun vs H Q E h => ?_) (fun cdv A outer s H vs Q E hr h => ?_)⟩
  · first | (obtain ⟨_, rfl, _⟩ := h; rfl) | (obtain ⟨_, _, rfl, _⟩ := h; rfl) | (obtain ⟨_, _, _, rfl, _⟩ := h; rfl) | (obtain ⟨_, _, _, _, rfl, _⟩ := h; rfl) | (obtain ⟨_, _, _, _, _, rfl, _⟩ := h; rfl)
  have hu64 := hr.units
  refine ⟨_, pss_cons (ps_expr (pcl o__require_remainder (hr.mono (by decide)) passE (pa_cons (pv 0) pa_nil)))
      (pss_cons (ps_expr (pcl o__require_remainder (hr.mono (by decide)) passE (pa_cons (pv 1) pa_nil)))
      (pss_cons (ps_asg (pv 0) (pg_tupN (n := 2) (by rfl) (pgs_cons (pg_name (i := 2) sc_both_remainders.nd rfl (Or.inl rfl)) (pgs_cons (pg_name (i := 3) sc_both_remainders.nd rfl (Or.inl rfl)) pgs_nil))))
      (pss_cons (ps_set (i := 4) sc_both_remainders.nd rfl (Or.inl rfl) (pcl o_remainder_of (hr.mono (by decide)) passE (pa_cons (pv 2) (pa_cons (pv 3) (pa_cons (pe_ix ix_tupN (pv 1) (pe_int) (fun _ _ => rfl)) (pa_cons (pe_ix ix_tupN (pv 1) (pe_int) (fun _ _ => rfl)) pa_nil))))))
      (pss_cons (ps_if (pt_cmpR op_isN (pv 4) (pe_non) (nomark _)) (pss_one (ps_ret (pe_non))) (pss_nil))
      (pss_cons (ps_asg (pv 4) (pg_tupN (n := 2) (by rfl) (pgs_cons (pg_name (i := 5) sc_both_remainders.nd rfl (Or.inl rfl)) (pgs_cons (pg_name (i := 6) sc_both_remainders.nd rfl (Or.inl rfl)) pgs_nil))))
      (pss_one (ps_ret (pe_tupN (pa_cons (pe_op op_mod (pe_op op_add (pv 2) (pe_op op_mulW (pv 3) (pv 5))) (pe_op op_mulW (pv 3) (pv 6))) (pa_cons (pe_op op_mulW (pv 3) (pv 6)) pa_nil)))))))))), ?_⟩
  obtain ⟨x, y, rfl, h⟩ := h
  rcases h with ⟨nx, hE⟩ | ⟨px, r, p, rfl, hpx, hp, ⟨ny, hE⟩ | ⟨py, o, q, rfl, hpy, hq, br, bp, bo, bq, k1, k2⟩⟩
  · simp only [spReqR, spRO, exists_and_left, cx_K, Value.ref.injEq, HO.xd.injEq, lk0, tSeq, tPar3, tPar, tCons, tNil, tVar, tC, tAsg, gName, gCons, gNil, gTupN, gSub, tOp, rI, rI0, rU, tTest, rNe, rEq, rIxTN, rIxLN, rLenL, rLenT, rIntI, rIntB, rAbs, rSetLN, tTruL, tRaiseX, rIsTy, ixN0, ixN1, tRet, tIf, tIfS, tNext, tBreak, tCont, tDrop, tTupN, tLstN, tUn, tCB, tCall, tNot, tAnd, tOr, tB, tAndV, tOrV, tNotV, tChain, tApp, LamX.tLam, rListS, wipe, L2.start, List.map_cons, List.map_nil, List.length_cons, List.length_nil, List.replicate, List.cons_append, List.nil_append, List.append_nil, Nat.reduceAdd, Nat.reduceSub, Nat.zero_add, List.replicate_succ, List.replicate_zero, List.getElem?_cons_zero, List.getElem?_cons_succ, List.set_cons_zero, List.set_cons_succ, Option.some.injEq, V.int.injEq, V.bl.injEq, V.ref.injEq, V.str.injEq, V.ty.injEq, List.cons.injEq, HO.tup.injEq, HO.lst.injEq, and_true, true_and, and_assoc, exists_eq_left, exists_eq_left', exists_and_left, exists_eq', atI0, atI1, atI2, atI3, Int.cast_ofNat_Int, Int.reduceToNat, scal_ii, scal_in, scal_ni, scal_nn, scal_bb, scal_ss, scal_sn, scal_ns, scal_bn, scal_nb, ite_iff, decide_eq_true_eq, decide_eq_false_iff_not, Bool.not_eq_true', Classical.not_not, ne_eq, not_false_eq_true, not_true_eq_false, forall_const, true_implies, false_implies, imp_self, sizeLine_eq, Nat.reduceLeDiff, reduceCtorEq, decide_true, decide_false]
    exact .inr ⟨nx, hE⟩
  · simp only [spReqR, spRO, exists_and_left, cx_K, Value.ref.injEq, HO.xd.injEq, lk0, tSeq, tPar3, tPar, tCons, tNil, tVar, tC, tAsg, gName, gCons, gNil, gTupN, gSub, tOp, rI, rI0, rU, tTest, rNe, rEq, rIxTN, rIxLN, rLenL, rLenT, rIntI, rIntB, rAbs, rSetLN, tTruL, tRaiseX, rIsTy, ixN0, ixN1, tRet, tIf, tIfS, tNext, tBreak, tCont, tDrop, tTupN, tLstN, tUn, tCB, tCall, tNot, tAnd, tOr, tB, tAndV, tOrV, tNotV, tChain, tApp, LamX.tLam, rListS, wipe, L2.start, List.map_cons, List.map_nil, List.length_cons, List.length_nil, List.replicate, List.cons_append, List.nil_append, List.append_nil, Nat.reduceAdd, Nat.reduceSub, Nat.zero_add, List.replicate_succ, List.replicate_zero, List.getElem?_cons_zero, List.getElem?_cons_succ, List.set_cons_zero, List.set_cons_succ, Option.some.injEq, V.int.injEq, V.bl.injEq, V.ref.injEq, V.str.injEq, V.ty.injEq, List.cons.injEq, HO.tup.injEq, HO.lst.injEq, and_true, true_and, and_assoc, exists_eq_left, exists_eq_left', exists_and_left, exists_eq', atI0, atI1, atI2, atI3, Int.cast_ofNat_Int, Int.reduceToNat, scal_ii, scal_in, scal_ni, scal_nn, scal_bb, scal_ss, scal_sn, scal_ns, scal_bn, scal_nb, ite_iff, decide_eq_true_eq, decide_eq_false_iff_not, Bool.not_eq_true', Classical.not_not, ne_eq, not_false_eq_true, not_true_eq_false, forall_const, true_implies, false_implies, imp_self, sizeLine_eq, Nat.reduceLeDiff, reduceCtorEq, decide_true, decide_false]
    exact .inl ⟨⟨px, r, p, rfl, hpx, hp⟩, .inr ⟨ny, hE⟩⟩
  · have hp3 : p * (q / (Int.gcd p q : Int)) > 0 := Int.mul_pos (by omega) (qpos hq)
    have hd2 : q / (Int.gcd p q : Int) ≤ q := Int.le_trans (Int.ediv_le_self _ (by omega)) (Int.le_refl _)
    simp only [spReqR, spRO, exists_and_left, hpx, hpy, Line, isI, wh_int, cx_K, Value.ref.injEq, HO.xd.injEq, lk0, tSeq, tPar3, tPar, tCons, tNil, tVar, tC, tAsg, gName, gCons, gNil, gTupN, gSub, tOp, rI, rI0, rU, tTest, rNe, rEq, rIxTN, rIxLN, rLenL, rLenT, rIntI, rIntB, rAbs, rSetLN, tTruL, tRaiseX, rIsTy, ixN0, ixN1, tRet, tIf, tIfS, tNext, tBreak, tCont, tDrop, tTupN, tLstN, tUn, tCB, tCall, tNot, tAnd, tOr, tB, tAndV, tOrV, tNotV, tChain, tApp, LamX.tLam, rListS, wipe, L2.start, List.map_cons, List.map_nil, List.length_cons, List.length_nil, List.replicate, List.cons_append, List.nil_append, List.append_nil, Nat.reduceAdd, Nat.reduceSub, Nat.zero_add, List.replicate_succ, List.replicate_zero, List.getElem?_cons_zero, List.getElem?_cons_succ, List.set_cons_zero, List.set_cons_succ, Option.some.injEq, V.int.injEq, V.bl.injEq, V.ref.injEq, V.str.injEq, V.ty.injEq, List.cons.injEq, HO.tup.injEq, HO.lst.injEq, and_true, true_and, and_assoc, exists_eq_left, exists_eq_left', exists_and_left, exists_eq', atI0, atI1, atI2, atI3, Int.cast_ofNat_Int, Int.reduceToNat, scal_ii, scal_in, scal_ni, scal_nn, scal_bb, scal_ss, scal_sn, scal_ns, scal_bn, scal_nb, ite_iff, decide_eq_true_eq, decide_eq_false_iff_not, Bool.not_eq_true', Classical.not_not, ne_eq, not_false_eq_true, not_true_eq_false, forall_const, true_implies, false_implies, imp_self, sizeLine_eq, Nat.reduceLeDiff, reduceCtorEq, decide_true, decide_false]
    refine .inl ⟨⟨px, r, p, rfl, hpx, hp⟩, .inl ⟨⟨py, o, q, rfl, hpy, hq⟩, ?_⟩⟩
    refine ⟨fun h => by simp [isP, hq] at h, ?_⟩
    rintro _ _ _ _ rfl rfl rfl rfl -
    refine ⟨br, bp, bo, bq, k1, fun hz s h0 h1 h2 H2 hs t H3 ht hs3 h3 => ?_⟩
    simp only [exists_and_left, h3, cx_K, Value.ref.injEq, HO.xd.injEq, lk0, tSeq, tPar3, tPar, tCons, tNil, tVar, tC, tAsg, gName, gCons, gNil, gTupN, gSub, tOp, rI, rI0, rU, tTest, rNe, rEq, rIxTN, rIxLN, rLenL, rLenT, rIntI, rIntB, rAbs, rSetLN, tTruL, tRaiseX, rIsTy, ixN0, ixN1, tRet, tIf, tIfS, tNext, tBreak, tCont, tDrop, tTupN, tLstN, tUn, tCB, tCall, tNot, tAnd, tOr, tB, tAndV, tOrV, tNotV, tChain, tApp, LamX.tLam, rListS, wipe, L2.start, List.map_cons, List.map_nil, List.length_cons, List.length_nil, List.replicate, List.cons_append, List.nil_append, List.append_nil, Nat.reduceAdd, Nat.reduceSub, Nat.zero_add, List.replicate_succ, List.replicate_zero, List.getElem?_cons_zero, List.getElem?_cons_succ, List.set_cons_zero, List.set_cons_succ, Option.some.injEq, V.int.injEq, V.bl.injEq, V.ref.injEq, V.str.injEq, V.ty.injEq, List.cons.injEq, HO.tup.injEq, HO.lst.injEq, and_true, true_and, and_assoc, exists_eq_left, exists_eq_left', exists_and_left, exists_eq', atI0, atI1, atI2, atI3, Int.cast_ofNat_Int, Int.reduceToNat, scal_ii, scal_in, scal_ni, scal_nn, scal_bb, scal_ss, scal_sn, scal_ns, scal_bn, scal_nb, ite_iff, decide_eq_true_eq, decide_eq_false_iff_not, Bool.not_eq_true', Classical.not_not, ne_eq, not_false_eq_true, not_true_eq_false, forall_const, true_implies, false_implies, imp_self, sizeLine_eq, Nat.reduceLeDiff, reduceCtorEq, decide_true, decide_false]
    have es : 0 ≤ s ∧ s < q := ⟨h0, by omega⟩
    have eq' : 0 ≤ q / (Int.gcd p q : Int) ∧ q / (Int.gcd p q : Int) ≤ q := ⟨by omega, hd2⟩
    refine ⟨wide_mul bp (wide_le h0 (show s ≤ q by omega) bq) (by decide) (by decide) (by decide), wide_mul bp (wide_le eq'.1 eq'.2 bq) (by decide) (by decide) (by decide), hp3, ?_⟩
    have hs2 : Same H H3 := hs.trans hs3
    obtain ⟨z1, z2⟩ := both_sol hq h2
    exact ⟨wide_mul bp (wide_le eq'.1 eq'.2 bq) (by decide) (by decide) (by decide), k2 hz _ (Int.emod_nonneg _ (by omega)) (Int.emod_lt_of_pos _ hp3) z1 z2 H3 hs2⟩
end
end Iz
/-! k07_c -/
set_option Elab.async false
set_option linter.all false
set_option maxRecDepth 100000
set_option maxHeartbeats 4000000
namespace Iz
open PySem PySem.Spec PyProof.Rows L2
open He (ga)
local macro_rules | `(tactic| walk_at "wp") => `(tactic| simp only [cx_K, Value.ref.injEq, HO.xd.injEq, lk0, tSeq, tPar3, tPar, tCons, tNil, tVar, tC, tAsg, gName, gCons, gNil, gTupN, gSub, tOp, rI, rI0, rU, tTest, rNe, rEq, rIxTN, rIxLN, rLenL, rLenT, rIntI, rIntB, rAbs, rSetLN, tTruL, tRaiseX, rIsTy, ixN0, ixN1, tRet, tIf, tIfS, tNext, tBreak, tCont, tDrop, tTupN, tLstN, tUn, tCB, tCall, tNot, tAnd, tOr, tB, tAndV, tOrV, tNotV, tChain, tApp, LamX.tLam, rListS, wipe, L2.start, List.map_cons, List.map_nil, List.length_cons, List.length_nil, List.replicate, List.cons_append, List.nil_append, List.append_nil, Nat.reduceAdd, Nat.reduceSub, Nat.zero_add, List.replicate_succ, List.replicate_zero, List.getElem?_cons_zero, List.getElem?_cons_succ, List.set_cons_zero, List.set_cons_succ, Option.some.injEq, V.int.injEq, V.bl.injEq, V.ref.injEq, V.str.injEq, V.ty.injEq, List.cons.injEq, HO.tup.injEq, HO.lst.injEq, and_true, true_and, and_assoc, exists_eq_left, exists_eq_left', exists_and_left, exists_eq', atI0, atI1, atI2, atI3, Int.cast_ofNat_Int, Int.reduceToNat, scal_ii, scal_in, scal_ni, scal_nn, scal_bb, scal_ss, scal_sn, scal_ns, scal_bn, scal_nb, ite_iff, decide_eq_true_eq, decide_eq_false_iff_not, Bool.not_eq_true', Classical.not_not, ne_eq, not_false_eq_true, not_true_eq_false, forall_const, true_implies, false_implies, imp_self, sizeLine_eq, Nat.reduceLeDiff, reduceCtorEq, decide_true, decide_false])
section
variable {P : Program} {w : World} {K : PySem.W.Frag} {mg : Str → Option Value} {base : Heap}
/-! ### the law's draws -/
/-- the draws' state: a list of the cells and a count -/
def StA (H : Hp) (a c : Addr) : Prop := a ≠ c ∧ ∃ (n : Int) (cs : List Int), H a = some (.lst [.ref c, .int n]) ∧ H c = some (.lst (cs.map V.int)) ∧ cs.length ≤ 63
/-- all but the state stays -/
def Stp (a c : Addr) (H H' : Hp) : Prop := ∀ b o, H b = some o → b ≠ a → b ≠ c → H' b = some o
theorem Stp.refl {a c : Addr} {H : Hp} : Stp a c H H := fun _ _ h _ _ => h
theorem Stp.trans {a c : Addr} {H H1 H2 : Hp} (x : Stp a c H H1) (y : Stp a c H1 H2) : Stp a c H H2 := fun b o h h1 h2 => y b o (x b o h h1 h2) h1 h2
theorem Stp.of {a c : Addr} {H H1 : Hp} (x : Same H H1) : Stp a c H H1 := fun b o h _ _ => x b o h
theorem Put.stp {a c p : Addr} {H H1 : Hp} {o : HO} (x : Put H H1 p o) (h : p = a ∨ p = c) : Stp a c H H1 := fun b u e h1 h2 => by
  rw [x.2 b (by rcases h with h | h <;> (subst h; assumption))]; exact e
theorem StA.same {a c : Addr} {H H1 : Hp} (x : StA H a c) (h : Same H H1) : StA H1 a c := let ⟨n, m, cs, h1, h2, h3⟩ := x; ⟨n, m, cs, h _ _ h1, h _ _ h2, h3⟩
def spDraw : Sp := fun vs H Q _ => ∃ a c lim, vs = [.ref a, .int lim] ∧ StA H a c ∧ 1 ≤ lim ∧ lim.natAbs < 2 ^ 250 ∧ ∀ d H', 0 ≤ d → d < lim → StA H' a c → Stp a c H H' → Q (.int d) H'
theorem o__law_draw (T : Txt K mg) : OkF P w K mg base CX0 1 "_law_draw" ["_law_state", "_law_limit"] spDraw := by
  obtain ⟨f, fd, g, F⟩ := T.d__law_draw
  refine ⟨f, fd, g, F.kp, F.binds (fun _ _ _ _ _ _ us hl => match us, hl with | [_, _], _ => rfl), F.ok sc__law_draw (fun vs H Q E h => ?_) (fun cdv A outer s H vs Q E hr h => ?_)⟩
  · first | (obtain ⟨_, rfl, _⟩ := h; rfl) | (obtain ⟨_, _, rfl, _⟩ := h; rfl) | (obtain ⟨_, _, _, rfl, _⟩ := h; rfl) | (obtain ⟨_, _, _, _, rfl, _⟩ := h; rfl) | (obtain ⟨_, _, _, _, _, rfl, _⟩ := h; rfl)
  have hu64 := hr.units
  refine ⟨_, pss_cons (ps_set (i := 2) sc__law_draw.nd rfl (Or.inl rfl) (pe_ix ix_listN (pv 0) (pe_int) (fun _ _ => rfl)))
      (pss_cons (ps_if (pt_not (pt_truL (pv 2))) (pss_one (ps_ret (pe_int))) (pss_nil))
      (pss_cons (ps_set (i := 3) sc__law_draw.nd rfl (Or.inl rfl) (pe_op op_mod (pe_callTy call_intI (by rfl) T.m_int (by decide +kernel) (pa_cons (pe_ix ix_listN (pv 0) (pe_int) (fun _ _ => rfl)) pa_nil)) (pe_callB call_lenL (by rfl) T.m_len (by decide +kernel) (pa_cons (pv 2) pa_nil))))
      (pss_cons (ps_set (i := 4) sc__law_draw.nd rfl (Or.inl rfl) (pe_ix ix_listN (pv 2) (pv 3) (fun _ _ => rfl)))
      (pss_cons (ps_asg (pe_op op_add (pe_ix ix_listN (pv 0) (pe_int) (fun _ _ => rfl)) (pe_int)) (pg_sub (pv 0) (pe_int) set_listN))
      (pss_cons (ps_if (pt_cmpR op_ge (pv 4) (pe_op op_pow (pe_int) (pe_int)) (nomark _)) (pss_cons (ps_asg (pe_op op_fdivW (pv 4) (pv 1)) (pg_sub (pv 2) (pv 3) set_listN))
      (pss_one (ps_ret (pe_op op_mod (pe_callTy call_intI (by rfl) T.m_int (by decide +kernel) (pa_cons (pv 4) pa_nil)) (pv 1))))) (pss_nil))
      (pss_cons (ps_set (i := 5) sc__law_draw.nd rfl (Or.inl rfl) (pe_op op_mod (pe_callTy call_intI (by rfl) T.m_int (by decide +kernel) (pa_cons (pe_op op_add (pe_op op_add (pe_op op_mul (pv 4) (pe_int)) (pe_op op_mul (pe_ix ix_listN (pv 0) (pe_int) (fun _ _ => rfl)) (pe_int))) (pe_int)) pa_nil)) (pe_int)))
      (pss_one (ps_ret (pe_op op_mod (pe_op op_mod (pe_callTy call_intI (by rfl) T.m_int (by decide +kernel) (pa_cons (pe_op op_add (pe_op op_mul (pv 5) (pe_int)) (pe_op op_mul (pe_ix ix_listN (pv 0) (pe_int) (fun _ _ => rfl)) (pe_int))) pa_nil)) (pe_int)) (pv 1)))))))))), ?_⟩
  obtain ⟨a, c, lim, rfl, ⟨hac, n, cs, ha, hc, hl⟩, h1, hb, k⟩ := h
  simp only [ha, hc, exists_and_left, cx_K, Value.ref.injEq, HO.xd.injEq, lk0, tSeq, tPar3, tPar, tCons, tNil, tVar, tC, tAsg, gName, gCons, gNil, gTupN, gSub, tOp, rI, rI0, rU, tTest, rNe, rEq, rIxTN, rIxLN, rLenL, rLenT, rIntI, rIntB, rAbs, rSetLN, tTruL, tRaiseX, rIsTy, ixN0, ixN1, tRet, tIf, tIfS, tNext, tBreak, tCont, tDrop, tTupN, tLstN, tUn, tCB, tCall, tNot, tAnd, tOr, tB, tAndV, tOrV, tNotV, tChain, tApp, LamX.tLam, rListS, wipe, L2.start, List.map_cons, List.map_nil, List.length_cons, List.length_nil, List.replicate, List.cons_append, List.nil_append, List.append_nil, Nat.reduceAdd, Nat.reduceSub, Nat.zero_add, List.replicate_succ, List.replicate_zero, List.getElem?_cons_zero, List.getElem?_cons_succ, List.set_cons_zero, List.set_cons_succ, Option.some.injEq, V.int.injEq, V.bl.injEq, V.ref.injEq, V.str.injEq, V.ty.injEq, List.cons.injEq, HO.tup.injEq, HO.lst.injEq, and_true, true_and, and_assoc, exists_eq_left, exists_eq_left', exists_and_left, exists_eq', atI0, atI1, atI2, atI3, Int.cast_ofNat_Int, Int.reduceToNat, scal_ii, scal_in, scal_ni, scal_nn, scal_bb, scal_ss, scal_sn, scal_ns, scal_bn, scal_nb, ite_iff, decide_eq_true_eq, decide_eq_false_iff_not, Bool.not_eq_true', Classical.not_not, ne_eq, not_false_eq_true, not_true_eq_false, forall_const, true_implies, false_implies, imp_self, sizeLine_eq, Nat.reduceLeDiff, reduceCtorEq, decide_true, decide_false]
  cases hcs : cs with
  | nil => 
    subst hcs
    exact ⟨fun _ => k 0 H (by decide) (by omega) ⟨hac, n, [], ha, hc, by decide⟩ Stp.refl, fun h => absurd rfl h⟩
  | cons z zs =>
    refine ⟨fun h => (by cases h), fun _ => ?_⟩
    rw [← hcs]
    rw [List.length_map]
    have hpos : 0 < cs.length := by rw [hcs]; simp
    have m1 := Int.emod_nonneg n (b := (cs.length : Int)) (by omega)
    have m2 := Int.emod_lt_of_pos n (b := (cs.length : Int)) (by omega)
    have hlt : (n % (cs.length : Int)).toNat < cs.length := by omega
    refine ⟨by omega, .int cs[(n % (cs.length : Int)).toNat], atI_ok m1 (by rw [List.getElem?_map, List.getElem?_eq_getElem hlt]; rfl), fun H2 p2 => ?_⟩
    have hc2 : H2 c = some (.lst (cs.map V.int)) := by rw [p2.2 c hac.symm]; exact hc
    have ha2 := p2.1
    simp only [hc2, ha2, exists_and_left, cx_K, Value.ref.injEq, HO.xd.injEq, lk0, tSeq, tPar3, tPar, tCons, tNil, tVar, tC, tAsg, gName, gCons, gNil, gTupN, gSub, tOp, rI, rI0, rU, tTest, rNe, rEq, rIxTN, rIxLN, rLenL, rLenT, rIntI, rIntB, rAbs, rSetLN, tTruL, tRaiseX, rIsTy, ixN0, ixN1, tRet, tIf, tIfS, tNext, tBreak, tCont, tDrop, tTupN, tLstN, tUn, tCB, tCall, tNot, tAnd, tOr, tB, tAndV, tOrV, tNotV, tChain, tApp, LamX.tLam, rListS, wipe, L2.start, List.map_cons, List.map_nil, List.length_cons, List.length_nil, List.replicate, List.cons_append, List.nil_append, List.append_nil, Nat.reduceAdd, Nat.reduceSub, Nat.zero_add, List.replicate_succ, List.replicate_zero, List.getElem?_cons_zero, List.getElem?_cons_succ, List.set_cons_zero, List.set_cons_succ, Option.some.injEq, V.int.injEq, V.bl.injEq, V.ref.injEq, V.str.injEq, V.ty.injEq, List.cons.injEq, HO.tup.injEq, HO.lst.injEq, and_true, true_and, and_assoc, exists_eq_left, exists_eq_left', exists_and_left, exists_eq', atI0, atI1, atI2, atI3, Int.cast_ofNat_Int, Int.reduceToNat, scal_ii, scal_in, scal_ni, scal_nn, scal_bb, scal_ss, scal_sn, scal_ns, scal_bn, scal_nb, ite_iff, decide_eq_true_eq, decide_eq_false_iff_not, Bool.not_eq_true', Classical.not_not, ne_eq, not_false_eq_true, not_true_eq_false, forall_const, true_implies, false_implies, imp_self, sizeLine_eq, Nat.reduceLeDiff, reduceCtorEq, decide_true, decide_false]
    refine ⟨⟨by decide, by decide, by decide⟩, fun _ => ⟨⟨by omega, log_lt hb (by decide) (by decide)⟩, _, by rw [List.length_map]; exact ixN_ok m1 m2, fun H3 p3 => ?_⟩, fun _ => ?_⟩
    · refine ⟨by omega, k _ H3 (Int.emod_nonneg _ (by omega)) (Int.emod_lt_of_pos _ (by omega)) ⟨hac, n + 1, cs.set (n % (cs.length : Int)).toNat (cs[(n % (cs.length : Int)).toNat] / lim), ?_, ?_, by rw [List.length_set]; exact hl⟩ ((p2.stp (.inl rfl)).trans (p3.stp (.inr rfl)))⟩
      · rw [p3.2 a hac]; exact ha2
      · rw [p3.1, List.map_set]
    · exact ⟨.inr ⟨by decide, by decide⟩, .inr ⟨by decide, by decide⟩, by decide, .inr ⟨by decide, by decide⟩, .inr ⟨by decide, by decide⟩, by decide, by omega,
        k _ H2 (Int.emod_nonneg _ (by omega)) (Int.emod_lt_of_pos _ (by omega)) ⟨hac, n + 1, cs, ha2, hc2, hl⟩ (p2.stp (.inl rfl))⟩
def spNum : Sp := fun vs H Q _ => ∃ a c most, vs = [.ref a, .int most] ∧ StA H a c ∧ 0 ≤ most ∧ most < 2 ^ 20 ∧ ∀ (d : Int) H', d.natAbs < 2 ^ 98 → StA H' a c → Stp a c H H' → Q (.int d) H'
theorem o__law_number (T : Txt K mg) : OkF P w K mg base CX0 2 "_law_number" ["_law_state", "_law_most"] spNum := by
  have o__law_draw := o__law_draw (P := P) (w := w) (base := base) T
  obtain ⟨f, fd, g, F⟩ := T.d__law_number
  refine ⟨f, fd, g, F.kp, F.binds (fun _ _ _ _ _ _ us hl => match us, hl with | [_, _], _ => rfl), F.ok sc__law_number (fun vs H Q E h => ?_) (fun cdv A outer s H vs Q E hr h => ?_)⟩
  · first | (obtain ⟨_, rfl, _⟩ := h; rfl) | (obtain ⟨_, _, rfl, _⟩ := h; rfl) | (obtain ⟨_, _, _, rfl, _⟩ := h; rfl) | (obtain ⟨_, _, _, _, rfl, _⟩ := h; rfl) | (obtain ⟨_, _, _, _, _, rfl, _⟩ := h; rfl)
  have hu64 := hr.units
  refine ⟨_, pss_cons (ps_if (pt_cmpR op_lt (pcl o__law_draw (hr.mono (by decide)) pass0 (pa_cons (pv 0) (pa_cons (pe_int) pa_nil))) (pe_int) (nomark _)) (pss_one (ps_ret (pe_op op_sub (pcl o__law_draw (hr.mono (by decide)) pass0 (pa_cons (pv 0) (pa_cons (pe_op op_add (pe_op op_mul (pe_int) (pv 1)) (pe_int)) pa_nil))) (pv 1)))) (pss_nil))
      (pss_cons (ps_set (i := 2) sc__law_number.nd rfl (Or.inl rfl) (pe_int))
      (pss_cons (ps_for PassesOwn.never rfl (pi_range1 rfl T.m_range (pa_cons (pe_int) pa_nil)) (pg_name (i := 3) sc__law_number.nd rfl (Or.inl rfl)) (pss_one (ps_set (i := 2) sc__law_number.nd rfl (Or.inl rfl) (pe_op op_add (pe_op op_mulW (pv 2) (pe_op op_pow (pe_int) (pe_int))) (pcl o__law_draw (hr.mono (by decide)) pass0 (pa_cons (pv 0) (pa_cons (pe_op op_pow (pe_int) (pe_int)) pa_nil)))))))
      (pss_one (ps_ret (pe_op op_mulW (pe_op op_add (pv 2) (pe_op op_pow (pe_int) (pe_int))) (pe_op op_sub (pe_int) (pe_op op_mul (pe_int) (pcl o__law_draw (hr.mono (by decide)) pass0 (pa_cons (pv 0) (pa_cons (pe_int) pa_nil)))))))))), ?_⟩
  obtain ⟨a, c, most, rfl, hS, h0, h1, k⟩ := h
  simp only [spDraw, exists_and_left, cx_K, Value.ref.injEq, HO.xd.injEq, lk0, tSeq, tPar3, tPar, tCons, tNil, tVar, tC, tAsg, gName, gCons, gNil, gTupN, gSub, tOp, rI, rI0, rU, tTest, rNe, rEq, rIxTN, rIxLN, rLenL, rLenT, rIntI, rIntB, rAbs, rSetLN, tTruL, tRaiseX, rIsTy, ixN0, ixN1, tRet, tIf, tIfS, tNext, tBreak, tCont, tDrop, tTupN, tLstN, tUn, tCB, tCall, tNot, tAnd, tOr, tB, tAndV, tOrV, tNotV, tChain, tApp, LamX.tLam, rListS, wipe, L2.start, List.map_cons, List.map_nil, List.length_cons, List.length_nil, List.replicate, List.cons_append, List.nil_append, List.append_nil, Nat.reduceAdd, Nat.reduceSub, Nat.zero_add, List.replicate_succ, List.replicate_zero, List.getElem?_cons_zero, List.getElem?_cons_succ, List.set_cons_zero, List.set_cons_succ, Option.some.injEq, V.int.injEq, V.bl.injEq, V.ref.injEq, V.str.injEq, V.ty.injEq, List.cons.injEq, HO.tup.injEq, HO.lst.injEq, and_true, true_and, and_assoc, exists_eq_left, exists_eq_left', exists_and_left, exists_eq', atI0, atI1, atI2, atI3, Int.cast_ofNat_Int, Int.reduceToNat, scal_ii, scal_in, scal_ni, scal_nn, scal_bb, scal_ss, scal_sn, scal_ns, scal_bn, scal_nb, ite_iff, decide_eq_true_eq, decide_eq_false_iff_not, Bool.not_eq_true', Classical.not_not, ne_eq, not_false_eq_true, not_true_eq_false, forall_const, true_implies, false_implies, imp_self, sizeLine_eq, Nat.reduceLeDiff, reduceCtorEq, decide_true, decide_false]
  refine ⟨c, hS, by decide, by decide, fun d H1 d0 d1 hS1 t1 => ⟨fun _ => ⟨.inl ⟨by decide, by decide⟩, c, hS1, by omega, by omega, fun e H2 e0 e1 hS2 t2 => k _ H2 (by omega) hS2 (t1.trans t2)⟩, fun _ => ?_⟩⟩
  have e24 : (2 : Int) ^ (24 : Int).toNat = 16777216 := rfl
  have e29 : (10 : Int) ^ (29 : Int).toNat = 100000000000000000000000000000 := rfl
  refine st_forR1 4 (by decide) (fun Q q => q) (fun i σ H' => ∃ (x : Int) (t : Option V), σ = [some (.ref a), some (.int most), some (.int x), t] ∧ 0 ≤ x ∧ x.natAbs < 2 ^ (24 * i) ∧ StA H' a c ∧ Stp a c H H') ⟨0, none, rfl, by decide, by decide, hS1, t1⟩ ?_ ?_
  · rintro i _ H2 hi ⟨x, t, rfl, x0, x1, hS2, t2⟩
    simp only [spDraw, exists_and_left, e24, cx_K, Value.ref.injEq, HO.xd.injEq, lk0, tSeq, tPar3, tPar, tCons, tNil, tVar, tC, tAsg, gName, gCons, gNil, gTupN, gSub, tOp, rI, rI0, rU, tTest, rNe, rEq, rIxTN, rIxLN, rLenL, rLenT, rIntI, rIntB, rAbs, rSetLN, tTruL, tRaiseX, rIsTy, ixN0, ixN1, tRet, tIf, tIfS, tNext, tBreak, tCont, tDrop, tTupN, tLstN, tUn, tCB, tCall, tNot, tAnd, tOr, tB, tAndV, tOrV, tNotV, tChain, tApp, LamX.tLam, rListS, wipe, L2.start, List.map_cons, List.map_nil, List.length_cons, List.length_nil, List.replicate, List.cons_append, List.nil_append, List.append_nil, Nat.reduceAdd, Nat.reduceSub, Nat.zero_add, List.replicate_succ, List.replicate_zero, List.getElem?_cons_zero, List.getElem?_cons_succ, List.set_cons_zero, List.set_cons_succ, Option.some.injEq, V.int.injEq, V.bl.injEq, V.ref.injEq, V.str.injEq, V.ty.injEq, List.cons.injEq, HO.tup.injEq, HO.lst.injEq, and_true, true_and, and_assoc, exists_eq_left, exists_eq_left', exists_and_left, exists_eq', atI0, atI1, atI2, atI3, Int.cast_ofNat_Int, Int.reduceToNat, scal_ii, scal_in, scal_ni, scal_nn, scal_bb, scal_ss, scal_sn, scal_ns, scal_bn, scal_nb, ite_iff, decide_eq_true_eq, decide_eq_false_iff_not, Bool.not_eq_true', Classical.not_not, ne_eq, not_false_eq_true, not_true_eq_false, forall_const, true_implies, false_implies, imp_self, sizeLine_eq, Nat.reduceLeDiff, reduceCtorEq, decide_true, decide_false]
    have hi : i < 4 := hi
    have hx : x.natAbs < 2 ^ 96 := Nat.lt_of_lt_of_le x1 (Nat.pow_le_pow_right (by decide) (by omega))
    refine ⟨⟨by decide, by decide, by decide⟩, wide_mul hx (b := 25) (by decide) (by decide) (by decide) (by decide), ⟨by decide, by decide, by decide⟩, c, hS2, by decide, by decide, fun d H3 d0 d1 hS3 t3 => ⟨?_, ?_, hS3, t2.trans t3⟩⟩
    · omega
    · rw [Nat.mul_succ, Nat.pow_add, show (2 : Nat) ^ 24 = 16777216 from rfl]
      generalize 2 ^ (24 * i) = B at *
      omega
  · rintro _ H2 ⟨x, t, rfl, x0, x1, hS2, t2⟩
    simp only [spDraw, exists_and_left, e29, cx_K, Value.ref.injEq, HO.xd.injEq, lk0, tSeq, tPar3, tPar, tCons, tNil, tVar, tC, tAsg, gName, gCons, gNil, gTupN, gSub, tOp, rI, rI0, rU, tTest, rNe, rEq, rIxTN, rIxLN, rLenL, rLenT, rIntI, rIntB, rAbs, rSetLN, tTruL, tRaiseX, rIsTy, ixN0, ixN1, tRet, tIf, tIfS, tNext, tBreak, tCont, tDrop, tTupN, tLstN, tUn, tCB, tCall, tNot, tAnd, tOr, tB, tAndV, tOrV, tNotV, tChain, tApp, LamX.tLam, rListS, wipe, L2.start, List.map_cons, List.map_nil, List.length_cons, List.length_nil, List.replicate, List.cons_append, List.nil_append, List.append_nil, Nat.reduceAdd, Nat.reduceSub, Nat.zero_add, List.replicate_succ, List.replicate_zero, List.getElem?_cons_zero, List.getElem?_cons_succ, List.set_cons_zero, List.set_cons_succ, Option.some.injEq, V.int.injEq, V.bl.injEq, V.ref.injEq, V.str.injEq, V.ty.injEq, List.cons.injEq, HO.tup.injEq, HO.lst.injEq, and_true, true_and, and_assoc, exists_eq_left, exists_eq_left', exists_and_left, exists_eq', atI0, atI1, atI2, atI3, Int.cast_ofNat_Int, Int.reduceToNat, scal_ii, scal_in, scal_ni, scal_nn, scal_bb, scal_ss, scal_sn, scal_ns, scal_bn, scal_nb, ite_iff, decide_eq_true_eq, decide_eq_false_iff_not, Bool.not_eq_true', Classical.not_not, ne_eq, not_false_eq_true, not_true_eq_false, forall_const, true_implies, false_implies, imp_self, sizeLine_eq, Nat.reduceLeDiff, reduceCtorEq, decide_true, decide_false]
    have hx : x.natAbs < 2 ^ 96 := x1
    refine ⟨⟨by decide, by decide, by decide⟩, c, hS2, by decide, by decide, fun d H3 d0 d1 hS3 t3 => ⟨.inl ⟨by decide, by decide⟩, wide_mul (a := 98) (b := 3) ?_ (by omega) (by decide) (by decide) (by decide), k _ H3 ?_ hS3 (t2.trans t3)⟩⟩
    · omega
    · have : d = 0 ∨ d = 1 := by omega
      rcases this with rfl | rfl <;> omega
/-- the law's own greatest divisor -/
def spDiv : Sp := fun vs H Q _ => ∃ x y : Int, vs = [.int x, .int y] ∧ x.natAbs < 2 ^ 190 ∧ y.natAbs < 2 ^ 190 ∧ Q (.int (Int.gcd x y)) H
theorem o__law_divisor (T : Txt K mg) : OkF P w K mg base CX0 1 "_law_divisor" ["_law_one", "_law_other"] spDiv := by
  obtain ⟨f, fd, g, F⟩ := T.d__law_divisor
  refine ⟨f, fd, g, F.kp, F.binds (fun _ _ _ _ _ _ us hl => match us, hl with | [_, _], _ => rfl), F.ok sc__law_divisor (fun vs H Q E h => ?_) (fun cdv A outer s H vs Q E hr h => ?_)⟩
  · first | (obtain ⟨_, rfl, _⟩ := h; rfl) | (obtain ⟨_, _, rfl, _⟩ := h; rfl) | (obtain ⟨_, _, _, rfl, _⟩ := h; rfl) | (obtain ⟨_, _, _, _, rfl, _⟩ := h; rfl) | (obtain ⟨_, _, _, _, _, rfl, _⟩ := h; rfl)
  have hu64 := hr.units
  refine ⟨_, pss_cons (ps_par (i := 0) (j := 1) (by rfl) sc__law_divisor.nd rfl rfl (by decide) rfl rfl (pa_cons (pe_callB call_absN (by rfl) T.m_abs (by decide +kernel) (pa_cons (pv 0) pa_nil)) (pa_cons (pe_callB call_absN (by rfl) T.m_abs (by decide +kernel) (pa_cons (pv 1) pa_nil)) pa_nil)) (by rfl))
      (pss_cons (ps_for PassesOwn.never rfl (pi_range1 rfl T.m_range (pa_cons (pe_int) pa_nil)) (pg_name (i := 2) sc__law_divisor.nd rfl (Or.inl rfl)) (pss_cons (ps_if (pt_cmpR op_eq (pv 1) (pe_int) (nomark _)) (pss_one (ps_break)) (pss_nil))
      (pss_one (ps_par (i := 0) (j := 1) (by rfl) sc__law_divisor.nd rfl rfl (by decide) rfl rfl (pa_cons (pv 1) (pa_cons (pe_op op_mod (pe_callTy call_intI (by rfl) T.m_int (by decide +kernel) (pa_cons (pv 0) pa_nil)) (pv 1)) pa_nil)) (by rfl)))))
      (pss_one (ps_ret (pv 0)))), ?_⟩
  obtain ⟨x, y, rfl, hx, hy, k⟩ := h
  simp only [exists_and_left, cx_K, Value.ref.injEq, HO.xd.injEq, lk0, tSeq, tPar3, tPar, tCons, tNil, tVar, tC, tAsg, gName, gCons, gNil, gTupN, gSub, tOp, rI, rI0, rU, tTest, rNe, rEq, rIxTN, rIxLN, rLenL, rLenT, rIntI, rIntB, rAbs, rSetLN, tTruL, tRaiseX, rIsTy, ixN0, ixN1, tRet, tIf, tIfS, tNext, tBreak, tCont, tDrop, tTupN, tLstN, tUn, tCB, tCall, tNot, tAnd, tOr, tB, tAndV, tOrV, tNotV, tChain, tApp, LamX.tLam, rListS, wipe, L2.start, List.map_cons, List.map_nil, List.length_cons, List.length_nil, List.replicate, List.cons_append, List.nil_append, List.append_nil, Nat.reduceAdd, Nat.reduceSub, Nat.zero_add, List.replicate_succ, List.replicate_zero, List.getElem?_cons_zero, List.getElem?_cons_succ, List.set_cons_zero, List.set_cons_succ, Option.some.injEq, V.int.injEq, V.bl.injEq, V.ref.injEq, V.str.injEq, V.ty.injEq, List.cons.injEq, HO.tup.injEq, HO.lst.injEq, and_true, true_and, and_assoc, exists_eq_left, exists_eq_left', exists_and_left, exists_eq', atI0, atI1, atI2, atI3, Int.cast_ofNat_Int, Int.reduceToNat, scal_ii, scal_in, scal_ni, scal_nn, scal_bb, scal_ss, scal_sn, scal_ns, scal_bn, scal_nb, ite_iff, decide_eq_true_eq, decide_eq_false_iff_not, Bool.not_eq_true', Classical.not_not, ne_eq, not_false_eq_true, not_true_eq_false, forall_const, true_implies, false_implies, imp_self, sizeLine_eq, Nat.reduceLeDiff, reduceCtorEq, decide_true, decide_false]
  refine st_forR1 400 (by decide) (fun Q q => q) (fun i σ H' => H' = H ∧ ∃ (u v : Int) (t : Option V), σ = [some (.int u), some (.int v), t] ∧ 0 ≤ u ∧ 0 ≤ v ∧ Int.gcd u v = Int.gcd x y ∧ bud u v + i ≤ 381)
    ⟨rfl, _, _, _, rfl, by omega, by omega, by rw [Int.gcd_eq_natAbs_gcd_natAbs, Int.gcd_eq_natAbs_gcd_natAbs]; rfl, by have := bud_le (d := x.natAbs) (r := y.natAbs) (n := 190) (by omega) (by omega); omega⟩ ?_ ?_
  · rintro i _ _ hi ⟨rfl, u, v, t, rfl, u0, v0, hg, hb⟩
    simp only [exists_and_left, cx_K, Value.ref.injEq, HO.xd.injEq, lk0, tSeq, tPar3, tPar, tCons, tNil, tVar, tC, tAsg, gName, gCons, gNil, gTupN, gSub, tOp, rI, rI0, rU, tTest, rNe, rEq, rIxTN, rIxLN, rLenL, rLenT, rIntI, rIntB, rAbs, rSetLN, tTruL, tRaiseX, rIsTy, ixN0, ixN1, tRet, tIf, tIfS, tNext, tBreak, tCont, tDrop, tTupN, tLstN, tUn, tCB, tCall, tNot, tAnd, tOr, tB, tAndV, tOrV, tNotV, tChain, tApp, LamX.tLam, rListS, wipe, L2.start, List.map_cons, List.map_nil, List.length_cons, List.length_nil, List.replicate, List.cons_append, List.nil_append, List.append_nil, Nat.reduceAdd, Nat.reduceSub, Nat.zero_add, List.replicate_succ, List.replicate_zero, List.getElem?_cons_zero, List.getElem?_cons_succ, List.set_cons_zero, List.set_cons_succ, Option.some.injEq, V.int.injEq, V.bl.injEq, V.ref.injEq, V.str.injEq, V.ty.injEq, List.cons.injEq, HO.tup.injEq, HO.lst.injEq, and_true, true_and, and_assoc, exists_eq_left, exists_eq_left', exists_and_left, exists_eq', atI0, atI1, atI2, atI3, Int.cast_ofNat_Int, Int.reduceToNat, scal_ii, scal_in, scal_ni, scal_nn, scal_bb, scal_ss, scal_sn, scal_ns, scal_bn, scal_nb, ite_iff, decide_eq_true_eq, decide_eq_false_iff_not, Bool.not_eq_true', Classical.not_not, ne_eq, not_false_eq_true, not_true_eq_false, forall_const, true_implies, false_implies, imp_self, sizeLine_eq, Nat.reduceLeDiff, reduceCtorEq, decide_true, decide_false]
    refine ⟨fun h => ?_, fun h => ⟨by omega, v0, Int.emod_nonneg _ h, ?_, ?_⟩⟩
    · subst h
      rw [Int.gcd_zero_right] at hg
      have e : u = (Int.gcd x y : Int) := by omega
      rw [e]; exact k
    · rw [← hg, Int.gcd_comm u v, Int.emod_def]; exact Int.gcd_sub_mul_left_right _ _ _
    · have := bud_mod (d := u) (r := v) (by omega)
      omega
  · rintro _ _ ⟨rfl, u, v, t, rfl, u0, v0, hg, hb⟩
    have : bud u v + 400 ≤ 381 := hb
    omega
end
end Iz
/-! k07_d -/
set_option Elab.async false
set_option linter.all false
set_option maxRecDepth 100000
set_option maxHeartbeats 4000000
namespace Iz
open PySem PySem.Spec PyProof.Rows L2
open He (ga)
local macro_rules | `(tactic| walk_at "wp") => `(tactic| simp only [cx_K, Value.ref.injEq, HO.xd.injEq, lk0, tSeq, tPar3, tPar, tCons, tNil, tVar, tC, tAsg, gName, gCons, gNil, gTupN, gSub, tOp, rI, rI0, rU, tTest, rNe, rEq, rIxTN, rIxLN, rLenL, rLenT, rIntI, rIntB, rAbs, rSetLN, tTruL, tRaiseX, rIsTy, ixN0, ixN1, tRet, tIf, tIfS, tNext, tBreak, tCont, tDrop, tTupN, tLstN, tUn, tCB, tCall, tNot, tAnd, tOr, tB, tAndV, tOrV, tNotV, tChain, tApp, LamX.tLam, rListS, wipe, L2.start, List.map_cons, List.map_nil, List.length_cons, List.length_nil, List.replicate, List.cons_append, List.nil_append, List.append_nil, Nat.reduceAdd, Nat.reduceSub, Nat.zero_add, List.replicate_succ, List.replicate_zero, List.getElem?_cons_zero, List.getElem?_cons_succ, List.set_cons_zero, List.set_cons_succ, Option.some.injEq, V.int.injEq, V.bl.injEq, V.ref.injEq, V.str.injEq, V.ty.injEq, List.cons.injEq, HO.tup.injEq, HO.lst.injEq, and_true, true_and, and_assoc, exists_eq_left, exists_eq_left', exists_and_left, exists_eq', atI0, atI1, atI2, atI3, Int.cast_ofNat_Int, Int.reduceToNat, scal_ii, scal_in, scal_ni, scal_nn, scal_bb, scal_ss, scal_sn, scal_ns, scal_bn, scal_nb, ite_iff, decide_eq_true_eq, decide_eq_false_iff_not, Bool.not_eq_true', Classical.not_not, ne_eq, not_false_eq_true, not_true_eq_false, forall_const, true_implies, false_implies, imp_self, sizeLine_eq, Nat.reduceLeDiff, reduceCtorEq, decide_true, decide_false])
section
variable {P : Program} {w : World} {K : PySem.W.Frag} {mg : Str → Option Value} {base : Heap}
/-- what one line of the law says -/
def spLine (K : PySem.W.Frag) : Sp := fun vs H Q _ => ∃ a b r p : Int, vs = [.int a, .int b, .int r, .int p] ∧ 1 ≤ p ∧ a.natAbs < 2 ^ 190 ∧ b.natAbs < 2 ^ 190 ∧ r.natAbs < 2 ^ 190 ∧ p.natAbs < 2 ^ 190 ∧ ∀ H', Same H H' → Q (.bl true) H'
theorem o__law_line_right (T : Txt K mg) : OkF P w K mg base CX0 6 "_law_line_right" ["_law_a", "_law_b", "_law_r", "_law_p"] (spLine K) := by
  have o_remainder_of := o_remainder_of (P := P) (w := w) (base := base) T
  have o__law_divisor := o__law_divisor (P := P) (w := w) (base := base) T
  obtain ⟨f, fd, g, F⟩ := T.d__law_line_right
  refine ⟨f, fd, g, F.kp, F.binds (fun _ _ _ _ _ _ us hl => match us, hl with | [_, _, _, _], _ => rfl), F.ok sc__law_line_right (fun vs H Q E h => ?_) (fun cdv A outer s H vs Q E hr h => ?_)⟩
  · first | (obtain ⟨_, rfl, _⟩ := h; rfl) | (obtain ⟨_, _, rfl, _⟩ := h; rfl) | (obtain ⟨_, _, _, rfl, _⟩ := h; rfl) | (obtain ⟨_, _, _, _, rfl, _⟩ := h; rfl) | (obtain ⟨_, _, _, _, _, rfl, _⟩ := h; rfl)
  have hu64 := hr.units
  refine ⟨_, pss_cons (ps_set (i := 4) sc__law_line_right.nd rfl (Or.inl rfl) (pcl o_remainder_of (hr.mono (by decide)) passL (pa_cons (pv 0) (pa_cons (pv 1) (pa_cons (pv 2) (pa_cons (pv 3) pa_nil))))))
      (pss_cons (ps_set (i := 5) sc__law_line_right.nd rfl (Or.inl rfl) (pcl o__law_divisor (hr.mono (by decide)) pass0 (pa_cons (pv 1) (pa_cons (pv 3) pa_nil))))
      (pss_cons (ps_if (pt_cmpR op_ne (pe_op op_mod (pe_callTy call_intI (by rfl) T.m_int (by decide +kernel) (pa_cons (pe_op op_sub (pv 2) (pv 0)) pa_nil)) (pv 5)) (pe_int) (nomark _)) (pss_one (ps_ret (pe_cmpR op_isN (pv 4) (pe_non) (nomark _)))) (pss_nil))
      (pss_cons (ps_if (PW.pt (pw_or (pt_not (pt_val (pe_callB call_isTy (by rfl) T.m_isinstance (by decide +kernel) (pa_cons (pv 4) (pa_cons ((pe_bltn (v := .ty "tuple") (by rfl) T.m_tuple (by decide +kernel) rfl)) pa_nil))))) (pw_or (pt_cmpR op_ne (pe_callB call_lenT (by rfl) T.m_len (by decide +kernel) (pa_cons (pv 4) pa_nil)) (pe_int) (nomark _)) (pw_or (pt_cmpR op_ne (pe_ix ix_tupN (pv 4) (pe_int) (fun _ _ => rfl)) (pe_op op_fdivW (pv 3) (pv 5)) (nomark _)) (pw_or1 (pt_not (pt_chain op_le op_lt (pe_int) (pe_ix ix_tupN (pv 4) (pe_int) (fun _ _ => rfl)) (pe_ix ix_tupN (pv 4) (pe_int) (fun _ _ => rfl))))))))) (pss_one (ps_ret (pe_bl))) (pss_nil))
      (pss_cons (ps_if (pt_cmpR op_ne (pe_op op_mod (pe_callTy call_intI (by rfl) T.m_int (by decide +kernel) (pa_cons (pe_op op_sub (pe_op op_add (pv 0) (pe_op op_mulW (pv 1) (pe_ix ix_tupN (pv 4) (pe_int) (fun _ _ => rfl)))) (pv 2)) pa_nil)) (pv 3)) (pe_int) (nomark _)) (pss_one (ps_ret (pe_bl))) (pss_nil))
      (pss_cons (ps_if (pt_cmpR op_gt (pv 3) (pe_int) (nomark _)) (pss_one (ps_ret (pe_bl))) (pss_nil))
      (pss_cons (ps_for PassesOwn.never rfl (pi_range1 rfl T.m_range (pa_cons (pv 3) pa_nil)) (pg_name (i := 6) sc__law_line_right.nd rfl (Or.inl rfl)) (pss_one (ps_if (pt_cmpR op_ne (pe_cmpR op_eq (pe_op op_mod (pe_callTy call_intI (by rfl) T.m_int (by decide +kernel) (pa_cons (pe_op op_sub (pe_op op_add (pv 0) (pe_op op_mulW (pv 1) (pv 6))) (pv 2)) pa_nil)) (pv 3)) (pe_int) (nomark _)) (pe_cmpR op_eq (pe_op op_mod (pe_callTy call_intI (by rfl) T.m_int (by decide +kernel) (pa_cons (pe_op op_sub (pv 6) (pe_ix ix_tupN (pv 4) (pe_int) (fun _ _ => rfl))) pa_nil)) (pe_ix ix_tupN (pv 4) (pe_int) (fun _ _ => rfl))) (pe_int) (nomark _)) (nomark _)) (pss_one (ps_ret (pe_bl))) (pss_nil))))
      (pss_one (ps_ret (pe_bl))))))))), ?_⟩
  obtain ⟨a, b, r, p, rfl, hp, ba, bb, br, bp, k⟩ := h
  simp only [spRO, spDiv, exists_and_left, Line, isI, isP, wh_int, cx_K, Value.ref.injEq, HO.xd.injEq, lk0, tSeq, tPar3, tPar, tCons, tNil, tVar, tC, tAsg, gName, gCons, gNil, gTupN, gSub, tOp, rI, rI0, rU, tTest, rNe, rEq, rIxTN, rIxLN, rLenL, rLenT, rIntI, rIntB, rAbs, rSetLN, tTruL, tRaiseX, rIsTy, ixN0, ixN1, tRet, tIf, tIfS, tNext, tBreak, tCont, tDrop, tTupN, tLstN, tUn, tCB, tCall, tNot, tAnd, tOr, tB, tAndV, tOrV, tNotV, tChain, tApp, LamX.tLam, rListS, wipe, L2.start, List.map_cons, List.map_nil, List.length_cons, List.length_nil, List.replicate, List.cons_append, List.nil_append, List.append_nil, Nat.reduceAdd, Nat.reduceSub, Nat.zero_add, List.replicate_succ, List.replicate_zero, List.getElem?_cons_zero, List.getElem?_cons_succ, List.set_cons_zero, List.set_cons_succ, Option.some.injEq, V.int.injEq, V.bl.injEq, V.ref.injEq, V.str.injEq, V.ty.injEq, List.cons.injEq, HO.tup.injEq, HO.lst.injEq, and_true, true_and, and_assoc, exists_eq_left, exists_eq_left', exists_and_left, exists_eq', atI0, atI1, atI2, atI3, Int.cast_ofNat_Int, Int.reduceToNat, scal_ii, scal_in, scal_ni, scal_nn, scal_bb, scal_ss, scal_sn, scal_ns, scal_bn, scal_nb, ite_iff, decide_eq_true_eq, decide_eq_false_iff_not, Bool.not_eq_true', Classical.not_not, ne_eq, not_false_eq_true, not_true_eq_false, forall_const, true_implies, false_implies, imp_self, sizeLine_eq, Nat.reduceLeDiff, reduceCtorEq, decide_true, decide_false]
  have w : ∀ {x : Int}, x.natAbs < 2 ^ 190 → x.natAbs < 2 ^ 249 := fun h => pow_small h (by decide)
  refine ⟨fun h => absurd hp h, ?_⟩
  rintro _ _ _ _ rfl rfl rfl rfl -
  refine ⟨w ba, w bb, w br, w bp, fun hz H1 hs => ⟨bb, bp, gpos hp, fun _ => k H1 hs, fun h => absurd h hz⟩, fun hz s s0 s1 s2 H1 hs t H2 ht hs2 h2 => ⟨bb, bp, gpos hp, fun h => absurd hz h, fun _ => ?_⟩⟩
  have q0 := qpos (b := b) hp
  have hsm : s.natAbs < 2 ^ 190 := wide_le s0 (show s ≤ p from Int.le_trans (Int.le_of_lt s1) (Int.ediv_le_self _ (by omega))) bp
  refine ⟨_, .base (.tup h2), true, kit_ty (by decide +kernel), fun h => (by cases h), fun _ => ?_⟩
  simp only [h2, exists_and_left, cx_K, Value.ref.injEq, HO.xd.injEq, lk0, tSeq, tPar3, tPar, tCons, tNil, tVar, tC, tAsg, gName, gCons, gNil, gTupN, gSub, tOp, rI, rI0, rU, tTest, rNe, rEq, rIxTN, rIxLN, rLenL, rLenT, rIntI, rIntB, rAbs, rSetLN, tTruL, tRaiseX, rIsTy, ixN0, ixN1, tRet, tIf, tIfS, tNext, tBreak, tCont, tDrop, tTupN, tLstN, tUn, tCB, tCall, tNot, tAnd, tOr, tB, tAndV, tOrV, tNotV, tChain, tApp, LamX.tLam, rListS, wipe, L2.start, List.map_cons, List.map_nil, List.length_cons, List.length_nil, List.replicate, List.cons_append, List.nil_append, List.append_nil, Nat.reduceAdd, Nat.reduceSub, Nat.zero_add, List.replicate_succ, List.replicate_zero, List.getElem?_cons_zero, List.getElem?_cons_succ, List.set_cons_zero, List.set_cons_succ, Option.some.injEq, V.int.injEq, V.bl.injEq, V.ref.injEq, V.str.injEq, V.ty.injEq, List.cons.injEq, HO.tup.injEq, HO.lst.injEq, and_true, true_and, and_assoc, exists_eq_left, exists_eq_left', exists_and_left, exists_eq', atI0, atI1, atI2, atI3, Int.cast_ofNat_Int, Int.reduceToNat, scal_ii, scal_in, scal_ni, scal_nn, scal_bb, scal_ss, scal_sn, scal_ns, scal_bn, scal_nb, ite_iff, decide_eq_true_eq, decide_eq_false_iff_not, Bool.not_eq_true', Classical.not_not, ne_eq, not_false_eq_true, not_true_eq_false, forall_const, true_implies, false_implies, imp_self, sizeLine_eq, Nat.reduceLeDiff, reduceCtorEq, decide_true, decide_false]
  refine ⟨wide_div (gpos hp) (gcd_small hp bp) (by decide) (by decide), fun _ => ⟨fun h => absurd s1 h, fun _ => ⟨wide_mul bb hsm (by decide) (by decide) (by decide), by omega, fun h => absurd s2 h, fun _ => ⟨fun _ => k H2 (hs.trans hs2), fun hp60 => ?_⟩⟩⟩, fun h => absurd s0 h⟩
  refine st_forR1 p (by omega) (fun Q q => ⟨_, rfl, q⟩) (fun i σ H' => H' = H2 ∧ ∃ t' : Option V, σ = [some (.int a), some (.int b), some (.int r), some (.int p), some (.ref t), some (.int (Int.gcd b p : Int)), t']) ⟨rfl, _, rfl⟩ ?_ ?_
  · rintro i _ _ hi ⟨rfl, t', rfl⟩
    simp only [h2, exists_and_left, cx_K, Value.ref.injEq, HO.xd.injEq, lk0, tSeq, tPar3, tPar, tCons, tNil, tVar, tC, tAsg, gName, gCons, gNil, gTupN, gSub, tOp, rI, rI0, rU, tTest, rNe, rEq, rIxTN, rIxLN, rLenL, rLenT, rIntI, rIntB, rAbs, rSetLN, tTruL, tRaiseX, rIsTy, ixN0, ixN1, tRet, tIf, tIfS, tNext, tBreak, tCont, tDrop, tTupN, tLstN, tUn, tCB, tCall, tNot, tAnd, tOr, tB, tAndV, tOrV, tNotV, tChain, tApp, LamX.tLam, rListS, wipe, L2.start, List.map_cons, List.map_nil, List.length_cons, List.length_nil, List.replicate, List.cons_append, List.nil_append, List.append_nil, Nat.reduceAdd, Nat.reduceSub, Nat.zero_add, List.replicate_succ, List.replicate_zero, List.getElem?_cons_zero, List.getElem?_cons_succ, List.set_cons_zero, List.set_cons_succ, Option.some.injEq, V.int.injEq, V.bl.injEq, V.ref.injEq, V.str.injEq, V.ty.injEq, List.cons.injEq, HO.tup.injEq, HO.lst.injEq, and_true, true_and, and_assoc, exists_eq_left, exists_eq_left', exists_and_left, exists_eq', atI0, atI1, atI2, atI3, Int.cast_ofNat_Int, Int.reduceToNat, scal_ii, scal_in, scal_ni, scal_nn, scal_bb, scal_ss, scal_sn, scal_ns, scal_bn, scal_nb, ite_iff, decide_eq_true_eq, decide_eq_false_iff_not, Bool.not_eq_true', Classical.not_not, ne_eq, not_false_eq_true, not_true_eq_false, forall_const, true_implies, false_implies, imp_self, sizeLine_eq, Nat.reduceLeDiff, reduceCtorEq, decide_true, decide_false]
    have hi : i < p.toNat := hi
    have e := line_iff (i := (i : Int)) hp s2
    exact ⟨wide_mul bb (b := 60) (by omega) (by decide) (by decide) (by decide), by omega, q0, fun h => absurd (by rw [decide_eq_decide]; exact e) h, fun _ => trivial⟩
  · rintro _ _ ⟨rfl, t', rfl⟩
    simp only [exists_and_left, cx_K, Value.ref.injEq, HO.xd.injEq, lk0, tSeq, tPar3, tPar, tCons, tNil, tVar, tC, tAsg, gName, gCons, gNil, gTupN, gSub, tOp, rI, rI0, rU, tTest, rNe, rEq, rIxTN, rIxLN, rLenL, rLenT, rIntI, rIntB, rAbs, rSetLN, tTruL, tRaiseX, rIsTy, ixN0, ixN1, tRet, tIf, tIfS, tNext, tBreak, tCont, tDrop, tTupN, tLstN, tUn, tCB, tCall, tNot, tAnd, tOr, tB, tAndV, tOrV, tNotV, tChain, tApp, LamX.tLam, rListS, wipe, L2.start, List.map_cons, List.map_nil, List.length_cons, List.length_nil, List.replicate, List.cons_append, List.nil_append, List.append_nil, Nat.reduceAdd, Nat.reduceSub, Nat.zero_add, List.replicate_succ, List.replicate_zero, List.getElem?_cons_zero, List.getElem?_cons_succ, List.set_cons_zero, List.set_cons_succ, Option.some.injEq, V.int.injEq, V.bl.injEq, V.ref.injEq, V.str.injEq, V.ty.injEq, List.cons.injEq, HO.tup.injEq, HO.lst.injEq, and_true, true_and, and_assoc, exists_eq_left, exists_eq_left', exists_and_left, exists_eq', atI0, atI1, atI2, atI3, Int.cast_ofNat_Int, Int.reduceToNat, scal_ii, scal_in, scal_ni, scal_nn, scal_bb, scal_ss, scal_sn, scal_ns, scal_bn, scal_nb, ite_iff, decide_eq_true_eq, decide_eq_false_iff_not, Bool.not_eq_true', Classical.not_not, ne_eq, not_false_eq_true, not_true_eq_false, forall_const, true_implies, false_implies, imp_self, sizeLine_eq, Nat.reduceLeDiff, reduceCtorEq, decide_true, decide_false]
    exact k _ (hs.trans hs2)
def spBoth (K : PySem.W.Frag) : Sp := fun vs H Q _ => ∃ (px py : Addr), vs = [.ref px, .ref py] ∧ ∃ r p o q : Int, H px = some (.tup [.int r, .int p]) ∧ H py = some (.tup [.int o, .int q]) ∧ 1 ≤ p ∧ 1 ≤ q ∧
  r.natAbs < 2 ^ 190 ∧ p.natAbs < 2 ^ 190 ∧ o.natAbs < 2 ^ 190 ∧ q.natAbs < 2 ^ 190 ∧ ∀ H', Same H H' → Q (.bl true) H'
theorem o__law_both_right (T : Txt K mg) : OkF P w K mg base CX0 7 "_law_both_right" ["_law_one", "_law_other"] (spBoth K) := by
  have o_both_remainders := o_both_remainders (P := P) (w := w) (base := base) T
  have o__law_divisor := o__law_divisor (P := P) (w := w) (base := base) T
  obtain ⟨f, fd, g, F⟩ := T.d__law_both_right
  refine ⟨f, fd, g, F.kp, F.binds (fun _ _ _ _ _ _ us hl => match us, hl with | [_, _], _ => rfl), F.ok sc__law_both_right (fun vs H Q E h => ?_) (fun cdv A outer s H vs Q E hr h => ?_)⟩
  · first | (obtain ⟨_, rfl, _⟩ := h; rfl) | (obtain ⟨_, _, rfl, _⟩ := h; rfl) | (obtain ⟨_, _, _, rfl, _⟩ := h; rfl) | (obtain ⟨_, _, _, _, rfl, _⟩ := h; rfl) | (obtain ⟨_, _, _, _, _, rfl, _⟩ := h; rfl)
  have hu64 := hr.units
  refine ⟨_, pss_cons (ps_set (i := 2) sc__law_both_right.nd rfl (Or.inl rfl) (pcl o_both_remainders (hr.mono (by decide)) passL (pa_cons (pv 0) (pa_cons (pv 1) pa_nil))))
      (pss_cons (ps_set (i := 3) sc__law_both_right.nd rfl (Or.inl rfl) (pcl o__law_divisor (hr.mono (by decide)) pass0 (pa_cons (pe_ix ix_tupN (pv 0) (pe_int) (fun _ _ => rfl)) (pa_cons (pe_ix ix_tupN (pv 1) (pe_int) (fun _ _ => rfl)) pa_nil))))
      (pss_cons (ps_if (pt_cmpR op_ne (pe_op op_mod (pe_callTy call_intI (by rfl) T.m_int (by decide +kernel) (pa_cons (pe_op op_sub (pe_ix ix_tupN (pv 0) (pe_int) (fun _ _ => rfl)) (pe_ix ix_tupN (pv 1) (pe_int) (fun _ _ => rfl))) pa_nil)) (pv 3)) (pe_int) (nomark _)) (pss_one (ps_ret (pe_cmpR op_isN (pv 2) (pe_non) (nomark _)))) (pss_nil))
      (pss_cons (ps_if (PW.pt (pw_or (pt_not (pt_val (pe_callB call_isTy (by rfl) T.m_isinstance (by decide +kernel) (pa_cons (pv 2) (pa_cons ((pe_bltn (v := .ty "tuple") (by rfl) T.m_tuple (by decide +kernel) rfl)) pa_nil))))) (pw_or (pt_cmpR op_ne (pe_ix ix_tupN (pv 2) (pe_int) (fun _ _ => rfl)) (pe_op op_mulW (pe_op op_fdivW (pe_ix ix_tupN (pv 0) (pe_int) (fun _ _ => rfl)) (pv 3)) (pe_ix ix_tupN (pv 1) (pe_int) (fun _ _ => rfl))) (nomark _)) (pw_or1 (pt_not (pt_chain op_le op_lt (pe_int) (pe_ix ix_tupN (pv 2) (pe_int) (fun _ _ => rfl)) (pe_ix ix_tupN (pv 2) (pe_int) (fun _ _ => rfl)))))))) (pss_one (ps_ret (pe_bl))) (pss_nil))
      (pss_one (ps_ret (pe_and (pe_cmpR op_eq (pe_op op_mod (pe_callTy call_intI (by rfl) T.m_int (by decide +kernel) (pa_cons (pe_op op_sub (pe_ix ix_tupN (pv 2) (pe_int) (fun _ _ => rfl)) (pe_ix ix_tupN (pv 0) (pe_int) (fun _ _ => rfl))) pa_nil)) (pe_ix ix_tupN (pv 0) (pe_int) (fun _ _ => rfl))) (pe_int) (nomark _)) (pe_one (pe_cmpR op_eq (pe_op op_mod (pe_callTy call_intI (by rfl) T.m_int (by decide +kernel) (pa_cons (pe_op op_sub (pe_ix ix_tupN (pv 2) (pe_int) (fun _ _ => rfl)) (pe_ix ix_tupN (pv 1) (pe_int) (fun _ _ => rfl))) pa_nil)) (pe_ix ix_tupN (pv 1) (pe_int) (fun _ _ => rfl))) (pe_int) (nomark _))))))))), ?_⟩
  obtain ⟨px, py, rfl, r, p, o, q, hx, hy, hp, hq, br, bp, bo, bq, k⟩ := h
  have w : ∀ {x : Int}, x.natAbs < 2 ^ 190 → x.natAbs < 2 ^ 249 := fun h => pow_small h (by decide)
  simp only [spBR, exists_and_left, cx_K, Value.ref.injEq, HO.xd.injEq, lk0, tSeq, tPar3, tPar, tCons, tNil, tVar, tC, tAsg, gName, gCons, gNil, gTupN, gSub, tOp, rI, rI0, rU, tTest, rNe, rEq, rIxTN, rIxLN, rLenL, rLenT, rIntI, rIntB, rAbs, rSetLN, tTruL, tRaiseX, rIsTy, ixN0, ixN1, tRet, tIf, tIfS, tNext, tBreak, tCont, tDrop, tTupN, tLstN, tUn, tCB, tCall, tNot, tAnd, tOr, tB, tAndV, tOrV, tNotV, tChain, tApp, LamX.tLam, rListS, wipe, L2.start, List.map_cons, List.map_nil, List.length_cons, List.length_nil, List.replicate, List.cons_append, List.nil_append, List.append_nil, Nat.reduceAdd, Nat.reduceSub, Nat.zero_add, List.replicate_succ, List.replicate_zero, List.getElem?_cons_zero, List.getElem?_cons_succ, List.set_cons_zero, List.set_cons_succ, Option.some.injEq, V.int.injEq, V.bl.injEq, V.ref.injEq, V.str.injEq, V.ty.injEq, List.cons.injEq, HO.tup.injEq, HO.lst.injEq, and_true, true_and, and_assoc, exists_eq_left, exists_eq_left', exists_and_left, exists_eq', atI0, atI1, atI2, atI3, Int.cast_ofNat_Int, Int.reduceToNat, scal_ii, scal_in, scal_ni, scal_nn, scal_bb, scal_ss, scal_sn, scal_ns, scal_bn, scal_nb, ite_iff, decide_eq_true_eq, decide_eq_false_iff_not, Bool.not_eq_true', Classical.not_not, ne_eq, not_false_eq_true, not_true_eq_false, forall_const, true_implies, false_implies, imp_self, sizeLine_eq, Nat.reduceLeDiff, reduceCtorEq, decide_true, decide_false]
  refine .inr ⟨_, _, hx, hp, .inr ⟨_, _, hy, hq, w br, w bp, w bo, w bq, fun hz H1 hs => ?_, fun hz s s0 s1 z1 z2 H1 hs t H2 ht hs2 h2 => ?_⟩⟩
  · have hx1 := hs _ _ hx
    have hy1 := hs _ _ hy
    simp only [spDiv, hx1, hy1, exists_and_left, cx_K, Value.ref.injEq, HO.xd.injEq, lk0, tSeq, tPar3, tPar, tCons, tNil, tVar, tC, tAsg, gName, gCons, gNil, gTupN, gSub, tOp, rI, rI0, rU, tTest, rNe, rEq, rIxTN, rIxLN, rLenL, rLenT, rIntI, rIntB, rAbs, rSetLN, tTruL, tRaiseX, rIsTy, ixN0, ixN1, tRet, tIf, tIfS, tNext, tBreak, tCont, tDrop, tTupN, tLstN, tUn, tCB, tCall, tNot, tAnd, tOr, tB, tAndV, tOrV, tNotV, tChain, tApp, LamX.tLam, rListS, wipe, L2.start, List.map_cons, List.map_nil, List.length_cons, List.length_nil, List.replicate, List.cons_append, List.nil_append, List.append_nil, Nat.reduceAdd, Nat.reduceSub, Nat.zero_add, List.replicate_succ, List.replicate_zero, List.getElem?_cons_zero, List.getElem?_cons_succ, List.set_cons_zero, List.set_cons_succ, Option.some.injEq, V.int.injEq, V.bl.injEq, V.ref.injEq, V.str.injEq, V.ty.injEq, List.cons.injEq, HO.tup.injEq, HO.lst.injEq, and_true, true_and, and_assoc, exists_eq_left, exists_eq_left', exists_and_left, exists_eq', atI0, atI1, atI2, atI3, Int.cast_ofNat_Int, Int.reduceToNat, scal_ii, scal_in, scal_ni, scal_nn, scal_bb, scal_ss, scal_sn, scal_ns, scal_bn, scal_nb, ite_iff, decide_eq_true_eq, decide_eq_false_iff_not, Bool.not_eq_true', Classical.not_not, ne_eq, not_false_eq_true, not_true_eq_false, forall_const, true_implies, false_implies, imp_self, sizeLine_eq, Nat.reduceLeDiff, reduceCtorEq, decide_true, decide_false]
    exact ⟨bp, bq, gpos hq, fun _ => k H1 hs, fun h => absurd (mod_swap.mp h) hz⟩
  · have hx1 := hs2 _ _ (hs _ _ hx)
    have hy1 := hs2 _ _ (hs _ _ hy)
    simp only [spDiv, hx1, hy1, h2, exists_and_left, cx_K, Value.ref.injEq, HO.xd.injEq, lk0, tSeq, tPar3, tPar, tCons, tNil, tVar, tC, tAsg, gName, gCons, gNil, gTupN, gSub, tOp, rI, rI0, rU, tTest, rNe, rEq, rIxTN, rIxLN, rLenL, rLenT, rIntI, rIntB, rAbs, rSetLN, tTruL, tRaiseX, rIsTy, ixN0, ixN1, tRet, tIf, tIfS, tNext, tBreak, tCont, tDrop, tTupN, tLstN, tUn, tCB, tCall, tNot, tAnd, tOr, tB, tAndV, tOrV, tNotV, tChain, tApp, LamX.tLam, rListS, wipe, L2.start, List.map_cons, List.map_nil, List.length_cons, List.length_nil, List.replicate, List.cons_append, List.nil_append, List.append_nil, Nat.reduceAdd, Nat.reduceSub, Nat.zero_add, List.replicate_succ, List.replicate_zero, List.getElem?_cons_zero, List.getElem?_cons_succ, List.set_cons_zero, List.set_cons_succ, Option.some.injEq, V.int.injEq, V.bl.injEq, V.ref.injEq, V.str.injEq, V.ty.injEq, List.cons.injEq, HO.tup.injEq, HO.lst.injEq, and_true, true_and, and_assoc, exists_eq_left, exists_eq_left', exists_and_left, exists_eq', atI0, atI1, atI2, atI3, Int.cast_ofNat_Int, Int.reduceToNat, scal_ii, scal_in, scal_ni, scal_nn, scal_bb, scal_ss, scal_sn, scal_ns, scal_bn, scal_nb, ite_iff, decide_eq_true_eq, decide_eq_false_iff_not, Bool.not_eq_true', Classical.not_not, ne_eq, not_false_eq_true, not_true_eq_false, forall_const, true_implies, false_implies, imp_self, sizeLine_eq, Nat.reduceLeDiff, reduceCtorEq, decide_true, decide_false]
    refine ⟨bp, bq, gpos hq, fun h => absurd (mod_swap.mp hz) h, fun _ => ⟨_, .base (.tup h2), true, kit_ty (by decide +kernel), fun h => (by cases h), fun _ => ⟨wide_div (gpos hq) (gcd_small hq bq) (by decide) (by decide),
      wide_mul (ediv_small bp) bq (by decide) (by decide) (by decide), fun h => absurd mul_div_gcd h, fun _ => ⟨fun _ => ⟨fun h => absurd s1 h, fun _ => ⟨by omega, fun _ => ⟨by omega, ?_⟩, fun h => absurd z1 h⟩⟩, fun h => absurd s0 h⟩⟩⟩⟩
    rw [decide_eq_true z2]
    exact k H2 (hs.trans hs2)
end
end Iz
/-! k07_e -/
set_option Elab.async false
set_option linter.all false
set_option maxRecDepth 100000
set_option maxHeartbeats 4000000
namespace Iz
open PySem PySem.Spec PyProof.Rows L2
open He (ga)
local macro_rules | `(tactic| walk_at "wp") => `(tactic| simp only [cx_K, Value.ref.injEq, HO.xd.injEq, lk0, tSeq, tPar3, tPar, tCons, tNil, tVar, tC, tAsg, gName, gCons, gNil, gTupN, gSub, tOp, rI, rI0, rU, tTest, rNe, rEq, rIxTN, rIxLN, rLenL, rLenT, rIntI, rIntB, rAbs, rSetLN, tTruL, tRaiseX, rIsTy, ixN0, ixN1, tRet, tIf, tIfS, tNext, tBreak, tCont, tDrop, tTupN, tLstN, tUn, tCB, tCall, tNot, tAnd, tOr, tB, tAndV, tOrV, tNotV, tChain, tApp, LamX.tLam, rListS, wipe, L2.start, List.map_cons, List.map_nil, List.length_cons, List.length_nil, List.replicate, List.cons_append, List.nil_append, List.append_nil, Nat.reduceAdd, Nat.reduceSub, Nat.zero_add, List.replicate_succ, List.replicate_zero, List.getElem?_cons_zero, List.getElem?_cons_succ, List.set_cons_zero, List.set_cons_succ, Option.some.injEq, V.int.injEq, V.bl.injEq, V.ref.injEq, V.str.injEq, V.ty.injEq, List.cons.injEq, HO.tup.injEq, HO.lst.injEq, and_true, true_and, and_assoc, exists_eq_left, exists_eq_left', exists_and_left, exists_eq', atI0, atI1, atI2, atI3, Int.cast_ofNat_Int, Int.reduceToNat, scal_ii, scal_in, scal_ni, scal_nn, scal_bb, scal_ss, scal_sn, scal_ns, scal_bn, scal_nb, ite_iff, decide_eq_true_eq, decide_eq_false_iff_not, Bool.not_eq_true', Classical.not_not, ne_eq, not_false_eq_true, not_true_eq_false, forall_const, true_implies, false_implies, imp_self, sizeLine_eq, Nat.reduceLeDiff, reduceCtorEq, decide_true, decide_false])
section
variable {P : Program} {w : World} {K : PySem.W.Frag} {mg : Str → Option Value} {base : Heap}
open LamX
/-- what _law_heard makes of an error -/
def Heard (K : PySem.W.Frag) (Q : VK) : XK := fun cls d H' => ∃ dd, d = some dd ∧ ((cls = .ref (ga K "BadNumber") ∧ ∃ v s, H' dd = some (.xd [("number", v)]) ∧ ReprV v s ∧ News H' (.tup [.str "number", .str s]) Q) ∨
  (cls = .ref (ga K "BadPart") ∧ ∃ v, H' dd = some (.xd [("part", v)]) ∧ News H' (.tup [.str "part", v]) Q))
def TTh (K : PySem.W.Frag) : (XK → Hp → VK → Prop) → Hp → VK → Prop := fun tl H Q => tl (Heard K Q) H fun _ H' => Q .non H'
theorem heard_gives {X : Cx} {g : Addr} {cdg : Value} {q : Str} (T : Txt X.K X.mg) : GivesTo X ["_law_call", "e"] "_law_heard" (defScope s__law_heard) g cdg (defBody s__law_heard) "_law_call" q (TTh X.K) := by
  intro f c' s H Q tl act hc h
  refine ⟨_, pss_cons (ps_try_as (X := (cxOf C8.CX0 X.prog X.w X.K X.mg X.base ["_law_call", "e"] "_law_heard" (defScope s__law_heard) g cdg X.A X.stack s H C8.E0).nox) (i := 1) (c := .ref (ga X.K "PlaneError"))
    (tb := fun W D σ H => ∃ Ech : XK, (∀ cls d σ' H', Ech cls d H' → W cls d σ' H') ∧ σ[0]? = some (some (.ref f)) ∧ H c' = some (CodeO c' q) ∧ tl Ech H fun _ H1 => D.nx σ H1)
    rfl rfl sc__law_heard.nd rfl rfl ⟨rfl, by decide, .inl T.pe⟩ L2.takes0 (fun W pn xe tk _ => ?_)
    (fun a oe cls d pn hz hf => pss_len (n := 2) (pss_cons (ps_if (pt_val (pe_callB (call_isX hz hf) (by rfl) T.m_isinstance (by decide +kernel) (pa_cons (pv 1) (pa_cons (pe_glob (v := .ref (ga X.K "BadNumber")) (by rfl) T.x_BadNumber.g rfl) pa_nil))))
        (pss_one (ps_ret (pe_tupN (pa_cons pe_str (pa_cons (pe_callB call_reprN (by rfl) T.m_repr (by decide +kernel) (pa_cons (pe_xf T.x_BadNumber.xf T.x_BadNumber.no hz hf (pv 1)) pa_nil)) pa_nil))))) pss_nil)
      (pss_one (ps_if (pt_val (pe_callB (call_isX hz hf) (by rfl) T.m_isinstance (by decide +kernel) (pa_cons (pv 1) (pa_cons (pe_glob (v := .ref (ga X.K "BadPart")) (by rfl) T.x_BadPart.g rfl) pa_nil))))
        (pss_one (ps_ret (pe_tupN (pa_cons pe_str (pa_cons (pe_xf T.x_BadPart.xf T.x_BadPart.no hz hf (pv 1)) pa_nil))))) pss_nil))) rfl))
    (pss_one (ps_ret pe_non)), ?_⟩
  · refine ⟨fun pins s' σ H' D I h' => ?_⟩
    obtain ⟨Ech, hW, h1, h2, h3⟩ := h'
    exact (pss_one (ps_expr (act W pn xe Ech _ _ tk hW))).run pins s' σ H' D I ⟨h1, h2, h3⟩
  · refine ⟨Heard X.K Q, fun cls d σ' H' hh => ?_, rfl, hc, h⟩
    obtain ⟨dd, rfl, ⟨rfl, v, z, hd, hr, n⟩ | ⟨rfl, v, hd, n⟩⟩ := hh
    · refine ⟨true, T.mN, fun _ a ha hlen => ?_, fun z => nomatch z⟩
      rw [List.length_set] at hlen
      have hs1 : (σ'.set 1 (some (V.ref a)))[1]? = some (some (V.ref a)) := by simp [hlen]
      simp only [rIsX, tXf, rRepr, hs1, hd, exists_and_left, cx_K, Value.ref.injEq, HO.xd.injEq, lk0, tSeq, tPar3, tPar, tCons, tNil, tVar, tC, tAsg, gName, gCons, gNil, gTupN, gSub, tOp, rI, rI0, rU, tTest, rNe, rEq, rIxTN, rIxLN, rLenL, rLenT, rIntI, rIntB, rAbs, rSetLN, tTruL, tRaiseX, rIsTy, ixN0, ixN1, tRet, tIf, tIfS, tNext, tBreak, tCont, tDrop, tTupN, tLstN, tUn, tCB, tCall, tNot, tAnd, tOr, tB, tAndV, tOrV, tNotV, tChain, tApp, LamX.tLam, rListS, wipe, L2.start, List.map_cons, List.map_nil, List.length_cons, List.length_nil, List.replicate, List.cons_append, List.nil_append, List.append_nil, Nat.reduceAdd, Nat.reduceSub, Nat.zero_add, List.replicate_succ, List.replicate_zero, List.getElem?_cons_zero, List.getElem?_cons_succ, List.set_cons_zero, List.set_cons_succ, Option.some.injEq, V.int.injEq, V.bl.injEq, V.ref.injEq, V.str.injEq, V.ty.injEq, List.cons.injEq, HO.tup.injEq, HO.lst.injEq, and_true, true_and, and_assoc, exists_eq_left, exists_eq_left', exists_and_left, exists_eq', atI0, atI1, atI2, atI3, Int.cast_ofNat_Int, Int.reduceToNat, scal_ii, scal_in, scal_ni, scal_nn, scal_bb, scal_ss, scal_sn, scal_ns, scal_bn, scal_nb, ite_iff, decide_eq_true_eq, decide_eq_false_iff_not, Bool.not_eq_true', Classical.not_not, ne_eq, not_false_eq_true, not_true_eq_false, forall_const, true_implies, false_implies, imp_self, sizeLine_eq, Nat.reduceLeDiff, reduceCtorEq, decide_true, decide_false]
      exact ⟨T.x_BadNumber.xf, T.iN, true, T.kNN, fun _ => ⟨z, hr, n⟩, fun h => absurd rfl h⟩
    · refine ⟨true, T.mP, fun _ a ha hlen => ?_, fun z => nomatch z⟩
      rw [List.length_set] at hlen
      have hs1 : (σ'.set 1 (some (V.ref a)))[1]? = some (some (V.ref a)) := by simp [hlen]
      simp only [rIsX, tXf, rRepr, hs1, hd, exists_and_left, cx_K, Value.ref.injEq, HO.xd.injEq, lk0, tSeq, tPar3, tPar, tCons, tNil, tVar, tC, tAsg, gName, gCons, gNil, gTupN, gSub, tOp, rI, rI0, rU, tTest, rNe, rEq, rIxTN, rIxLN, rLenL, rLenT, rIntI, rIntB, rAbs, rSetLN, tTruL, tRaiseX, rIsTy, ixN0, ixN1, tRet, tIf, tIfS, tNext, tBreak, tCont, tDrop, tTupN, tLstN, tUn, tCB, tCall, tNot, tAnd, tOr, tB, tAndV, tOrV, tNotV, tChain, tApp, LamX.tLam, rListS, wipe, L2.start, List.map_cons, List.map_nil, List.length_cons, List.length_nil, List.replicate, List.cons_append, List.nil_append, List.append_nil, Nat.reduceAdd, Nat.reduceSub, Nat.zero_add, List.replicate_succ, List.replicate_zero, List.getElem?_cons_zero, List.getElem?_cons_succ, List.set_cons_zero, List.set_cons_succ, Option.some.injEq, V.int.injEq, V.bl.injEq, V.ref.injEq, V.str.injEq, V.ty.injEq, List.cons.injEq, HO.tup.injEq, HO.lst.injEq, and_true, true_and, and_assoc, exists_eq_left, exists_eq_left', exists_and_left, exists_eq', atI0, atI1, atI2, atI3, Int.cast_ofNat_Int, Int.reduceToNat, scal_ii, scal_in, scal_ni, scal_nn, scal_bb, scal_ss, scal_sn, scal_ns, scal_bn, scal_nb, ite_iff, decide_eq_true_eq, decide_eq_false_iff_not, Bool.not_eq_true', Classical.not_not, ne_eq, not_false_eq_true, not_true_eq_false, forall_const, true_implies, false_implies, imp_self, sizeLine_eq, Nat.reduceLeDiff, reduceCtorEq, decide_true, decide_false]
      exact ⟨T.x_BadPart.xf, T.iP, false, T.kPN, fun h => (by cases h), fun _ => ⟨T.x_BadPart.xf, T.iP, true, T.kPP, fun _ => n, fun h => absurd rfl h⟩⟩
end
end Iz
/-! k07_f -/
set_option Elab.async false
set_option linter.all false
set_option maxRecDepth 100000
set_option maxHeartbeats 4000000
namespace Iz
open PySem PySem.Spec PyProof.Rows L2
open He (ga)
local macro_rules | `(tactic| walk_at "wp") => `(tactic| simp only [cx_K, Value.ref.injEq, HO.xd.injEq, lk0, tSeq, tPar3, tPar, tCons, tNil, tVar, tC, tAsg, gName, gCons, gNil, gTupN, gSub, tOp, rI, rI0, rU, tTest, rNe, rEq, rIxTN, rIxLN, rLenL, rLenT, rIntI, rIntB, rAbs, rSetLN, tTruL, tRaiseX, rIsTy, ixN0, ixN1, tRet, tIf, tIfS, tNext, tBreak, tCont, tDrop, tTupN, tLstN, tUn, tCB, tCall, tNot, tAnd, tOr, tB, tAndV, tOrV, tNotV, tChain, tApp, LamX.tLam, rListS, wipe, L2.start, List.map_cons, List.map_nil, List.length_cons, List.length_nil, List.replicate, List.cons_append, List.nil_append, List.append_nil, Nat.reduceAdd, Nat.reduceSub, Nat.zero_add, List.replicate_succ, List.replicate_zero, List.getElem?_cons_zero, List.getElem?_cons_succ, List.set_cons_zero, List.set_cons_succ, Option.some.injEq, V.int.injEq, V.bl.injEq, V.ref.injEq, V.str.injEq, V.ty.injEq, List.cons.injEq, HO.tup.injEq, HO.lst.injEq, and_true, true_and, and_assoc, exists_eq_left, exists_eq_left', exists_and_left, exists_eq', atI0, atI1, atI2, atI3, Int.cast_ofNat_Int, Int.reduceToNat, scal_ii, scal_in, scal_ni, scal_nn, scal_bb, scal_ss, scal_sn, scal_ns, scal_bn, scal_nb, ite_iff, decide_eq_true_eq, decide_eq_false_iff_not, Bool.not_eq_true', Classical.not_not, ne_eq, not_false_eq_true, not_true_eq_false, forall_const, true_implies, false_implies, imp_self, sizeLine_eq, Nat.reduceLeDiff, reduceCtorEq, decide_true, decide_false])
section
variable {P : Program} {w : World} {K : PySem.W.Frag} {mg : Str → Option Value} {base : Heap}
open LamX
theorem heard_num {K : PySem.W.Frag} {Q : VK} {H : Hp} {v : V} {z : Str} (hz : ReprV v z) (n : ∀ H', Same H H' → News H' (.tup [.str "number", .str z]) Q) : Rse K (Heard K Q) H "BadNumber" "number" v := fun d H' hd hs h2 => ⟨d, rfl, .inl ⟨rfl, v, z, h2, hz, n H' hs⟩⟩
theorem heard_part {K : PySem.W.Frag} {Q : VK} {H : Hp} {v : V} (n : ∀ H', Same H H' → News H' (.tup [.str "part", v]) Q) : Rse K (Heard K Q) H "BadPart" "part" v := fun d H' hd hs h2 => ⟨d, rfl, .inr ⟨rfl, v, h2, n H' hs⟩⟩
theorem Rse.mono {K : PySem.W.Frag} {E : XK} {H H2 : Hp} {x f : Str} {v : V} (r : Rse K E H x f v) (s : Same H H2) : Rse K E H2 x f v := fun d H' hd s2 h => r d H' (s.free hd) (s.trans s2) h
theorem told_num {K : PySem.W.Frag} {H : Hp} {v : V} {z : Str} {T : List (Addr × Str)} {tl : XK → Hp → VK → Prop} {R : VK} (hT : Tabs T H) (hz : ReprV v z) (hsp : ∀ H1 (Q : VK) (E : XK), ExtN H H1 → Rse K E H1 "BadNumber" "number" v → tl E H1 Q)
    (k : ∀ H2 t, ExtN H H2 → Tabs T H2 → H2 t = some (.tup [.str "number", .str z]) → R (.ref t) H2) : Tabs T H ∧ ∀ H1, ExtN H H1 → Tabs T H1 → TTh K tl H1 R :=
  ⟨hT, fun H1 e1 hT1 => hsp H1 _ _ e1 (heard_num hz fun H2 s2 t H3 ht s3 h3 => k H3 t (e1.trans (extS (s2.trans s3))) (hT1.ext (s2.trans s3)) h3)⟩
theorem told_part {K : PySem.W.Frag} {H : Hp} {v : V} {T : List (Addr × Str)} {tl : XK → Hp → VK → Prop} {R : VK} (hT : Tabs T H) (hsp : ∀ H1 (Q : VK) (E : XK), ExtN H H1 → Rse K E H1 "BadPart" "part" v → tl E H1 Q)
    (k : ∀ H2 t, ExtN H H2 → Tabs T H2 → H2 t = some (.tup [.str "part", v]) → R (.ref t) H2) : Tabs T H ∧ ∀ H1, ExtN H H1 → Tabs T H1 → TTh K tl H1 R :=
  ⟨hT, fun H1 e1 hT1 => hsp H1 _ _ e1 (heard_part fun H2 s2 t H3 ht s3 h3 => k H3 t (e1.trans (extS (s2.trans s3))) (hT1.ext (s2.trans s3)) h3)⟩
theorem Tabs.stp {a c P : Addr} {q : Str} {H H' : Hp} (hT : Tabs [(P, q)] H) (hS : StA H a c) (e : Stp a c H H') : Tabs [(P, q)] H' := by
  obtain ⟨hac, n, cs, ha, hc, _⟩ := hS
  have key : ∀ b o, H b = some o → (∀ xs, o ≠ .lst xs) → H' b = some o := fun b o h hn => e b o h (fun z => by subst z; rw [ha] at h; exact hn _ (Option.some.inj h).symm) (fun z => by subst z; rw [hc] at h; exact hn _ (Option.some.inj h).symm)
  intro p hp
  obtain ⟨ps, h1, h2, h3⟩ := hT p hp
  refine ⟨ps, key _ _ h1 (fun xs z => by cases z), h2, fun pos cv hcv => ?_⟩
  obtain ⟨c0, e1, e2⟩ := h3 pos cv hcv
  exact ⟨c0, e1, key _ _ e2 (fun xs z => by unfold CodeO at z; cases z)⟩
theorem StA.ext {a c : Addr} {H H1 : Hp} (x : StA H a c) (h : ExtN H H1) : StA H1 a c := let ⟨n, m, cs, h1, h2, h3⟩ := x; ⟨n, m, cs, extL h h1, extL h h2, h3⟩
/-- what is told so far: the list at L, of the tuples at ts -/
structure Sto (K : PySem.W.Frag) (H : Hp) (T : List (Addr × Str)) (a c L q : Addr) (z : Str) (ts : List Addr) : Prop where
  hS : StA H a c
  hT : Tabs T H
  hq : H q = some (.tup [.str "number", .str z])
  hL : H L = some (.lst (ts.map V.ref))
  ht : ∀ t ∈ ts, H t = some (.tup [.str "number", .str z])
  hLa : L ≠ a ∧ L ≠ c
theorem Tabs.put {T : List (Addr × Str)} {H H' : Hp} {L : Addr} {xs ys : List V} (hT : Tabs T H) (hL : H L = some (.lst xs)) (p : Put H H' L (.lst ys)) : Tabs T H' := by
  have key : ∀ b o, H b = some o → (∀ xs, o ≠ .lst xs) → H' b = some o := fun b o h hn => by
    rw [p.2 b (fun z => by subst z; rw [hL] at h; exact hn _ (Option.some.inj h).symm)]; exact h
  intro x hx
  obtain ⟨ps, h1, h2, h3⟩ := hT x hx
  refine ⟨ps, key _ _ h1 (fun xs z => by cases z), h2, fun pos cv hcv => ?_⟩
  obtain ⟨c0, e1, e2⟩ := h3 pos cv hcv
  exact ⟨c0, e1, key _ _ e2 (fun xs z => by unfold CodeO at z; cases z)⟩
theorem StA.put {a c L : Addr} {H H' : Hp} {o : HO} (x : StA H a c) (p : Put H H' L o) (h : L ≠ a ∧ L ≠ c) : StA H' a c := let ⟨n, m, cs, h1, h2, h3⟩ := x; ⟨n, m, cs, by rw [p.2 a h.1.symm]; exact h1, by rw [p.2 c h.2.symm]; exact h2, h3⟩
theorem told_app {K : PySem.W.Frag} {H : Hp} {v : V} {z : Str} {T : List (Addr × Str)} {tl : XK → Hp → VK → Prop} {R : Hp → Prop} {a c L q : Addr} {ts : List Addr} (S : Sto K H T a c L q z ts) (hl : ts.length ≤ 20) (hz : ReprV v z)
    (hsp : ∀ H1 (Q : VK) (E : XK), ExtN H H1 → Rse K E H1 "BadNumber" "number" v → tl E H1 Q) (k : ∀ H3 t, Sto K H3 T a c L q z (ts ++ [t]) → R H3) :
    ∃ l, V.ref L = V.ref l ∧ (∃ xs, H l = some (.lst xs)) ∧ Tabs T H ∧ ∀ H1, ExtN H H1 → Tabs T H1 → TTh K tl H1 fun y H1 => ∃ xs, H1 l = some (.lst xs) ∧ xs.length < 16777216 ∧ ∀ H3, Put H1 H3 l (.lst (xs ++ [y])) → R H3 := by
  refine ⟨L, rfl, ⟨_, S.hL⟩, told_num S.hT hz hsp fun H2 t e hT2 h2 => ⟨_, extL e S.hL, by rw [List.length_map]; omega, fun H3 p => k H3 t ⟨(S.hS.ext e).put p S.hLa, Tabs.put hT2 (extL e S.hL) p, ?_, ?_, ?_, S.hLa⟩⟩⟩
  · rw [p.2 q (ne_of (extT e S.hq) (extL e S.hL) (by intro z; cases z))]; exact extT e S.hq
  · rw [p.1, List.map_append]; rfl
  · intro t' ht'
    rcases List.mem_append.mp ht' with h | h
    · rw [p.2 t' (ne_of (extT e (S.ht t' h)) (extL e S.hL) (by intro z; cases z))]; exact extT e (S.ht t' h)
    · rw [List.mem_singleton.mp h, p.2 t (ne_of h2 (extL e S.hL) (by intro z; cases z))]; exact h2
/-- what is no remainder -/
def Bad (H : Hp) (x : V) : Prop := x = .non ∨ ∃ p, x = .ref p ∧ (H p = some (.lst [.int 1, .int 2]) ∨ H p = some (.tup [.int 1]) ∨ H p = some (.tup [.int 1, .int 0]) ∨ H p = some (.tup [.bl true, .int 2]) ∨ H p = some (.tup [.int 1, .int (-2)]))
theorem Bad.ext {H H' : Hp} {x : V} (h : Bad H x) (e : ExtN H H') : Bad H' x := by
  rcases h with h | ⟨p, rfl, h⟩
  · exact .inl h
  · refine .inr ⟨p, rfl, ?_⟩
    rcases h with h | h | h | h | h
    · exact .inl (extL e h)
    · exact .inr (.inl (extT e h))
    · exact .inr (.inr (.inl (extT e h)))
    · exact .inr (.inr (.inr (.inl (extT e h))))
    · exact .inr (.inr (.inr (.inr (extT e h))))
theorem Bad.no {K : PySem.W.Frag} {H : Hp} {x : V} (h : Bad H x) : NoRem K H x := by
  rcases h with rfl | ⟨p, rfl, h⟩
  · exact .inl ⟨_, .base .non, kit_ty (by decide +kernel)⟩
  · rcases h with h | h | h | h | h
    · exact .inl ⟨_, .base (.lst h), kit_ty (by decide +kernel)⟩
    · exact .inr ⟨p, _, rfl, h, .inl (by decide)⟩
    · exact .inr ⟨p, _, rfl, h, .inr ⟨_, _, rfl, wh_int, wh_int, .inr rfl⟩⟩
    · exact .inr ⟨p, _, rfl, h, .inr ⟨_, _, rfl, wh_bl, wh_int, .inl rfl⟩⟩
    · exact .inr ⟨p, _, rfl, h, .inr ⟨_, _, rfl, wh_int, wh_int, .inr rfl⟩⟩
/-- an odd value, and its repr -/
structure OddV (v : V) (z : Str) : Prop where
  wh : ∀ K H, Wh K H v
  nI : isI v = false
  nP : isP v = false
  rp : ReprV v z
  ok : PyData.strOk z = true
theorem odd3 {d : Int} (h0 : 0 ≤ d) (h1 : d < 3) : ∃ v z, atI [V.non, V.bl true, V.str (Str.ofString "1")] d = some v ∧ OddV v z := by
  have : d = 0 ∨ d = 1 ∨ d = 2 := by omega
  rcases this with rfl | rfl | rfl
  · exact ⟨_, _, atI0, fun _ _ => wh_non, rfl, rfl, rfl, by decide +kernel⟩
  · exact ⟨_, _, atI1, fun _ _ => wh_bl, rfl, rfl, rfl, by decide +kernel⟩
  · exact ⟨_, _, atI2, fun _ _ => wh_str, rfl, rfl, ⟨by decide +kernel, rfl⟩, by decide +kernel⟩
theorem low2 {d : Int} (h0 : 0 ≤ d) (h1 : d < 2) : ∃ (l : Int) (y : Str), atI [V.int 0, V.int (-4)] d = some (.int l) ∧ l ≤ 0 ∧ ReprV (.int l) y ∧ PyData.strOk y = true := by
  have : d = 0 ∨ d = 1 := by omega
  rcases this with rfl | rfl
  · exact ⟨_, _, atI0, by decide, ⟨by decide +kernel, rfl⟩, by decide +kernel⟩
  · exact ⟨_, _, atI1, by decide, ⟨by decide +kernel, rfl⟩, by decide +kernel⟩
def qn__law_odd_right : Str := (("_law_odd_right" : Str) ++ ".<locals>.") ++ "<lambda>"
def spOdd (K : PySem.W.Frag) : Sp := fun vs H Q _ => ∃ a, vs = [.ref a] ∧ ∃ c, StA H a c ∧ Tabs [(pOf K "_law_odd_right", qn__law_odd_right)] H ∧ ∀ H', Q (.bl true) H'
theorem o__law_odd_right (T : Txt K mg) (TB : TabB base mg (cOf K "_law_odd_right") (pOf K "_law_odd_right")) : OkF P w K mg base (L2.CX P w) 10 "_law_odd_right" ["_law_state"] (spOdd K) := by
  have o__law_draw := o__law_draw (P := P) (w := w) (base := base) T
  have o_greatest_divisor := o_greatest_divisor (P := P) (w := w) (base := base) T
  have o_least_multiple := o_least_multiple (P := P) (w := w) (base := base) T
  have o_remainder_of := o_remainder_of (P := P) (w := w) (base := base) T
  have o_both_remainders := o_both_remainders (P := P) (w := w) (base := base) T
  refine T.lam__law_odd_right.okF sc__law_odd_right (fun _ _ _ _ _ _ us hl => match us, hl with | [_], _ => rfl) (fun vs H Q E h => ?_) (fun f A outer s H vs Q E hr h => ?_)
  · first | (obtain ⟨_, rfl, _⟩ := h; rfl) | (obtain ⟨_, _, rfl, _⟩ := h; rfl) | (obtain ⟨_, _, _, rfl, _⟩ := h; rfl) | (obtain ⟨_, _, _, _, rfl, _⟩ := h; rfl) | (obtain ⟨_, _, _, _, _, rfl, _⟩ := h; rfl)
  have hu64 := hr.units
  refine ⟨_, pss_cons (ps_asg (pe_tupN (pa_cons (pe_ix ix_tupN (pe_tupN (pa_cons (pe_non) (pa_cons (pe_bl) (pa_cons (pe_str) pa_nil)))) (pcl o__law_draw (hr.mono (by decide)) pass0 (pa_cons (pv 0) (pa_cons (pe_int) pa_nil))) (fun _ _ => rfl)) (pa_cons (pe_ix ix_tupN (pe_tupN (pa_cons (pe_int) (pa_cons (pe_un un_neg (pe_int)) pa_nil))) (pcl o__law_draw (hr.mono (by decide)) pass0 (pa_cons (pv 0) (pa_cons (pe_int) pa_nil))) (fun _ _ => rfl)) pa_nil))) (pg_tupN (n := 2) (by rfl) (pgs_cons (pg_name (i := 5) sc__law_odd_right.nd rfl (Or.inr rfl)) (pgs_cons (pg_name (i := 4) sc__law_odd_right.nd rfl (Or.inr rfl)) pgs_nil))))
      (pss_cons (ps_set (i := 1) sc__law_odd_right.nd rfl (Or.inr rfl) (pe_tupN (pa_cons (pe_str) (pa_cons (pe_callB call_reprN (by rfl) T.m_repr (by decide +kernel) (pa_cons (pv 5) pa_nil)) pa_nil))))
      (pss_cons (ps_set (i := 2) sc__law_odd_right.nd rfl (Or.inl rfl) (pe_lstN (pa_cons (plam (k := 6) (qn := qn__law_odd_right) T.d__law_heard sc__law_heard (fun _ _ _ _ _ _ us hl => match us, hl with | [_], _ => rfl) (fun g cdg => heard_gives T) TB rfl rfl (hr.mono (by decide)) (by show lamSB (defScope s__law_odd_right) _ = true; decide +kernel) (fun A outer s H E f c hr2 => pcl o_greatest_divisor (hr2.mono (by decide)) passLam (pa_cons (pv 5) (pa_cons (pe_non) pa_nil)))) pa_nil)))
      (pss_cons (ps_expr (pe_appN (pv 2) (pa_cons (plam (k := 6) (qn := qn__law_odd_right) T.d__law_heard sc__law_heard (fun _ _ _ _ _ _ us hl => match us, hl with | [_], _ => rfl) (fun g cdg => heard_gives T) TB rfl rfl (hr.mono (by decide)) (by show lamSB (defScope s__law_odd_right) _ = true; decide +kernel) (fun A outer s H E f c hr2 => pcl o_greatest_divisor (hr2.mono (by decide)) passLam (pa_cons (pe_int) (pa_cons (pv 5) pa_nil)))) pa_nil)))
      (pss_cons (ps_expr (pe_appN (pv 2) (pa_cons (plam (k := 6) (qn := qn__law_odd_right) T.d__law_heard sc__law_heard (fun _ _ _ _ _ _ us hl => match us, hl with | [_], _ => rfl) (fun g cdg => heard_gives T) TB rfl rfl (hr.mono (by decide)) (by show lamSB (defScope s__law_odd_right) _ = true; decide +kernel) (fun A outer s H E f c hr2 => pcl o_least_multiple (hr2.mono (by decide)) passLam (pa_cons (pe_int) (pa_cons (pv 5) pa_nil)))) pa_nil)))
      (pss_cons (ps_expr (pe_appN (pv 2) (pa_cons (plam (k := 6) (qn := qn__law_odd_right) T.d__law_heard sc__law_heard (fun _ _ _ _ _ _ us hl => match us, hl with | [_], _ => rfl) (fun g cdg => heard_gives T) TB rfl rfl (hr.mono (by decide)) (by show lamSB (defScope s__law_odd_right) _ = true; decide +kernel) (fun A outer s H E f c hr2 => pcl o_remainder_of (hr2.mono (by decide)) passLam (pa_cons (pv 5) (pa_cons (pe_non) (pa_cons (pe_non) (pa_cons (pe_int) pa_nil)))))) pa_nil)))
      (pss_cons (ps_expr (pe_appN (pv 2) (pa_cons (plam (k := 6) (qn := qn__law_odd_right) T.d__law_heard sc__law_heard (fun _ _ _ _ _ _ us hl => match us, hl with | [_], _ => rfl) (fun g cdg => heard_gives T) TB rfl rfl (hr.mono (by decide)) (by show lamSB (defScope s__law_odd_right) _ = true; decide +kernel) (fun A outer s H E f c hr2 => pcl o_remainder_of (hr2.mono (by decide)) passLam (pa_cons (pe_int) (pa_cons (pv 5) (pa_cons (pe_non) (pa_cons (pe_int) pa_nil)))))) pa_nil)))
      (pss_cons (ps_expr (pe_appN (pv 2) (pa_cons (plam (k := 6) (qn := qn__law_odd_right) T.d__law_heard sc__law_heard (fun _ _ _ _ _ _ us hl => match us, hl with | [_], _ => rfl) (fun g cdg => heard_gives T) TB rfl rfl (hr.mono (by decide)) (by show lamSB (defScope s__law_odd_right) _ = true; decide +kernel) (fun A outer s H E f c hr2 => pcl o_remainder_of (hr2.mono (by decide)) passLam (pa_cons (pe_int) (pa_cons (pe_int) (pa_cons (pv 5) (pa_cons (pe_int) pa_nil)))))) pa_nil)))
      (pss_cons (ps_expr (pe_appN (pv 2) (pa_cons (plam (k := 6) (qn := qn__law_odd_right) T.d__law_heard sc__law_heard (fun _ _ _ _ _ _ us hl => match us, hl with | [_], _ => rfl) (fun g cdg => heard_gives T) TB rfl rfl (hr.mono (by decide)) (by show lamSB (defScope s__law_odd_right) _ = true; decide +kernel) (fun A outer s H E f c hr2 => pcl o_remainder_of (hr2.mono (by decide)) passLam (pa_cons (pe_int) (pa_cons (pe_int) (pa_cons (pe_int) (pa_cons (pv 5) pa_nil)))))) pa_nil)))
      (pss_cons (ps_if (pt_cmpR (op_neDk (K := K) rfl hu64) (pe_lc (own := [("_law_one", 6)]) (g := gName 6) (by rfl) sc__law_odd_right.nd (pi_list (pv 2)) (blkOk_by (N := ["_law_state", "_law_due", "_law_told", "_law_bad", "_law_low", "_law_odd", "_law_one"]) (sc := defScope s__law_odd_right) (own := [("_law_one", 6)]) (by decide +kernel)) (fun _ _ _ _ _ => pg_name (i := 6) sc__law_odd_right.nd rfl (Or.inl rfl)) (fun _ _ _ _ _ => pts_one (pt_cmpR (op_neDk (K := K) rfl hu64) (pv 6) (pv 1) (nomark _))) (fun _ _ _ _ _ => pv 6)) (pe_lstN (pa_nil)) (nomark _)) (pss_one (ps_ret (pe_bl))) (pss_nil))
      (pss_cons (ps_if (pt_cmpR (op_neDk (K := K) rfl hu64) (plam (k := 6) (qn := qn__law_odd_right) T.d__law_heard sc__law_heard (fun _ _ _ _ _ _ us hl => match us, hl with | [_], _ => rfl) (fun g cdg => heard_gives T) TB rfl rfl (hr.mono (by decide)) (by show lamSB (defScope s__law_odd_right) _ = true; decide +kernel) (fun A outer s H E f c hr2 => pcl o_remainder_of (hr2.mono (by decide)) passLam (pa_cons (pe_int) (pa_cons (pe_int) (pa_cons (pe_int) (pa_cons (pv 4) pa_nil)))))) (pe_tupN (pa_cons (pe_str) (pa_cons (pe_callB call_reprN (by rfl) T.m_repr (by decide +kernel) (pa_cons (pv 4) pa_nil)) pa_nil))) (nomark _)) (pss_one (ps_ret (pe_bl))) (pss_nil))
      (pss_cons (ps_if (pt_cmpR (op_neDk (K := K) rfl hu64) (plam (k := 6) (qn := qn__law_odd_right) T.d__law_heard sc__law_heard (fun _ _ _ _ _ _ us hl => match us, hl with | [_], _ => rfl) (fun g cdg => heard_gives T) TB rfl rfl (hr.mono (by decide)) (by show lamSB (defScope s__law_odd_right) _ = true; decide +kernel) (fun A outer s H E f c hr2 => pcl o_least_multiple (hr2.mono (by decide)) passLam (pa_cons (pv 4) (pa_cons (pv 5) pa_nil)))) (pe_tupN (pa_cons (pe_str) (pa_cons (pe_callB call_reprN (by rfl) T.m_repr (by decide +kernel) (pa_cons (pv 4) pa_nil)) pa_nil))) (nomark _)) (pss_one (ps_ret (pe_bl))) (pss_nil))
      (pss_cons (ps_set (i := 3) sc__law_odd_right.nd rfl (Or.inr rfl) (pe_ix ix_tupN (pe_tupN (pa_cons (pe_non) (pa_cons (pe_lstN (pa_cons (pe_int) (pa_cons (pe_int) pa_nil))) (pa_cons (pe_tupN (pa_cons (pe_int) pa_nil)) (pa_cons (pe_tupN (pa_cons (pe_int) (pa_cons (pe_int) pa_nil))) (pa_cons (pe_tupN (pa_cons (pe_bl) (pa_cons (pe_int) pa_nil))) (pa_cons (pe_tupN (pa_cons (pe_int) (pa_cons (pe_un un_neg (pe_int)) pa_nil))) pa_nil))))))) (pcl o__law_draw (hr.mono (by decide)) pass0 (pa_cons (pv 0) (pa_cons (pe_int) pa_nil))) (fun _ _ => rfl)))
      (pss_cons (ps_if (pt_cmpR (op_neDk (K := K) rfl hu64) (plam (k := 6) (qn := qn__law_odd_right) T.d__law_heard sc__law_heard (fun _ _ _ _ _ _ us hl => match us, hl with | [_], _ => rfl) (fun g cdg => heard_gives T) TB rfl rfl (hr.mono (by decide)) (by show lamSB (defScope s__law_odd_right) _ = true; decide +kernel) (fun A outer s H E f c hr2 => pcl o_both_remainders (hr2.mono (by decide)) passLam (pa_cons (pv 3) (pa_cons (pe_tupN (pa_cons (pe_int) (pa_cons (pe_int) pa_nil))) pa_nil)))) (pe_tupN (pa_cons (pe_str) (pa_cons (pe_str) pa_nil))) (nomark _)) (pss_one (ps_ret (pe_bl))) (pss_nil))
      (pss_one (ps_ret (pe_cmpR (op_eqDk (K := K) rfl hu64) (plam (k := 6) (qn := qn__law_odd_right) T.d__law_heard sc__law_heard (fun _ _ _ _ _ _ us hl => match us, hl with | [_], _ => rfl) (fun g cdg => heard_gives T) TB rfl rfl (hr.mono (by decide)) (by show lamSB (defScope s__law_odd_right) _ = true; decide +kernel) (fun A outer s H E f c hr2 => pcl o_both_remainders (hr2.mono (by decide)) passLam (pa_cons (pe_tupN (pa_cons (pe_int) (pa_cons (pe_int) pa_nil))) (pa_cons (pv 3) pa_nil)))) (pe_tupN (pa_cons (pe_str) (pa_cons (pe_str) pa_nil))) (nomark _))))))))))))))))), ?_⟩
  obtain ⟨a, rfl, c, hS, hT, k⟩ := h
  simp only [spDraw, exists_and_left, cx_K, Value.ref.injEq, HO.xd.injEq, lk0, tSeq, tPar3, tPar, tCons, tNil, tVar, tC, tAsg, gName, gCons, gNil, gTupN, gSub, tOp, rI, rI0, rU, tTest, rNe, rEq, rIxTN, rIxLN, rLenL, rLenT, rIntI, rIntB, rAbs, rSetLN, tTruL, tRaiseX, rIsTy, ixN0, ixN1, tRet, tIf, tIfS, tNext, tBreak, tCont, tDrop, tTupN, tLstN, tUn, tCB, tCall, tNot, tAnd, tOr, tB, tAndV, tOrV, tNotV, tChain, tApp, LamX.tLam, rListS, wipe, L2.start, List.map_cons, List.map_nil, List.length_cons, List.length_nil, List.replicate, List.cons_append, List.nil_append, List.append_nil, Nat.reduceAdd, Nat.reduceSub, Nat.zero_add, List.replicate_succ, List.replicate_zero, List.getElem?_cons_zero, List.getElem?_cons_succ, List.set_cons_zero, List.set_cons_succ, Option.some.injEq, V.int.injEq, V.bl.injEq, V.ref.injEq, V.str.injEq, V.ty.injEq, List.cons.injEq, HO.tup.injEq, HO.lst.injEq, and_true, true_and, and_assoc, exists_eq_left, exists_eq_left', exists_and_left, exists_eq', atI0, atI1, atI2, atI3, Int.cast_ofNat_Int, Int.reduceToNat, scal_ii, scal_in, scal_ni, scal_nn, scal_bb, scal_ss, scal_sn, scal_ns, scal_bn, scal_nb, ite_iff, decide_eq_true_eq, decide_eq_false_iff_not, Bool.not_eq_true', Classical.not_not, ne_eq, not_false_eq_true, not_true_eq_false, forall_const, true_implies, false_implies, imp_self, sizeLine_eq, Nat.reduceLeDiff, reduceCtorEq, decide_true, decide_false]
  intro p1 H1 hp1 s1 h1
  have hS1 := hS.same s1
  have hac1 : p1 ≠ a ∧ p1 ≠ c := by obtain ⟨_, _, _, ha, hc, _⟩ := hS1; exact ⟨ne_of h1 ha (by intro z; cases z), ne_of h1 hc (by intro z; cases z)⟩
  refine ⟨c, hS1, by decide, by decide, fun d H2 d0 d1 hS2 t2 => ?_⟩
  have h2 := t2 _ _ h1 hac1.1 hac1.2
  obtain ⟨v, z, hv, ov⟩ := odd3 d0 d1
  have hT2 := Tabs.stp (hT.ext s1) hS1 t2
  clear hS1 t2 hac1 h1 s1 hS hT hp1 H1
  simp only [h2, hv, exists_and_left, spDraw, cx_K, Value.ref.injEq, HO.xd.injEq, lk0, tSeq, tPar3, tPar, tCons, tNil, tVar, tC, tAsg, gName, gCons, gNil, gTupN, gSub, tOp, rI, rI0, rU, tTest, rNe, rEq, rIxTN, rIxLN, rLenL, rLenT, rIntI, rIntB, rAbs, rSetLN, tTruL, tRaiseX, rIsTy, ixN0, ixN1, tRet, tIf, tIfS, tNext, tBreak, tCont, tDrop, tTupN, tLstN, tUn, tCB, tCall, tNot, tAnd, tOr, tB, tAndV, tOrV, tNotV, tChain, tApp, LamX.tLam, rListS, wipe, L2.start, List.map_cons, List.map_nil, List.length_cons, List.length_nil, List.replicate, List.cons_append, List.nil_append, List.append_nil, Nat.reduceAdd, Nat.reduceSub, Nat.zero_add, List.replicate_succ, List.replicate_zero, List.getElem?_cons_zero, List.getElem?_cons_succ, List.set_cons_zero, List.set_cons_succ, Option.some.injEq, V.int.injEq, V.bl.injEq, V.ref.injEq, V.str.injEq, V.ty.injEq, List.cons.injEq, HO.tup.injEq, HO.lst.injEq, and_true, true_and, and_assoc, exists_eq_left, exists_eq_left', exists_and_left, exists_eq', atI0, atI1, atI2, atI3, Int.cast_ofNat_Int, Int.reduceToNat, scal_ii, scal_in, scal_ni, scal_nn, scal_bb, scal_ss, scal_sn, scal_ns, scal_bn, scal_nb, ite_iff, decide_eq_true_eq, decide_eq_false_iff_not, Bool.not_eq_true', Classical.not_not, ne_eq, not_false_eq_true, not_true_eq_false, forall_const, true_implies, false_implies, imp_self, sizeLine_eq, Nat.reduceLeDiff, reduceCtorEq, decide_true, decide_false]
  intro p2 H3 hp2 s3 h3
  have hS3 := hS2.same s3
  have hac3 : p2 ≠ a ∧ p2 ≠ c := by obtain ⟨_, _, _, ha, hc, _⟩ := hS3; exact ⟨ne_of h3 ha (by intro z; cases z), ne_of h3 hc (by intro z; cases z)⟩
  refine ⟨c, hS3, by decide, by decide, fun d H4 d0 d1 hS4 t4 => ?_⟩
  have h4 := t4 _ _ h3 hac3.1 hac3.2
  obtain ⟨l, lz, hl, l0, lr, lok⟩ := low2 d0 d1
  have hT4 := Tabs.stp (hT2.ext s3) hS3 t4
  clear hS3 t4 hac3 h3 s3 hS2 hT2 hp2 H3 h2
  simp only [h4, hl, exists_and_left, rRepr, cx_K, Value.ref.injEq, HO.xd.injEq, lk0, tSeq, tPar3, tPar, tCons, tNil, tVar, tC, tAsg, gName, gCons, gNil, gTupN, gSub, tOp, rI, rI0, rU, tTest, rNe, rEq, rIxTN, rIxLN, rLenL, rLenT, rIntI, rIntB, rAbs, rSetLN, tTruL, tRaiseX, rIsTy, ixN0, ixN1, tRet, tIf, tIfS, tNext, tBreak, tCont, tDrop, tTupN, tLstN, tUn, tCB, tCall, tNot, tAnd, tOr, tB, tAndV, tOrV, tNotV, tChain, tApp, LamX.tLam, rListS, wipe, L2.start, List.map_cons, List.map_nil, List.length_cons, List.length_nil, List.replicate, List.cons_append, List.nil_append, List.append_nil, Nat.reduceAdd, Nat.reduceSub, Nat.zero_add, List.replicate_succ, List.replicate_zero, List.getElem?_cons_zero, List.getElem?_cons_succ, List.set_cons_zero, List.set_cons_succ, Option.some.injEq, V.int.injEq, V.bl.injEq, V.ref.injEq, V.str.injEq, V.ty.injEq, List.cons.injEq, HO.tup.injEq, HO.lst.injEq, and_true, true_and, and_assoc, exists_eq_left, exists_eq_left', exists_and_left, exists_eq', atI0, atI1, atI2, atI3, Int.cast_ofNat_Int, Int.reduceToNat, scal_ii, scal_in, scal_ni, scal_nn, scal_bb, scal_ss, scal_sn, scal_ns, scal_bn, scal_nb, ite_iff, decide_eq_true_eq, decide_eq_false_iff_not, Bool.not_eq_true', Classical.not_not, ne_eq, not_false_eq_true, not_true_eq_false, forall_const, true_implies, false_implies, imp_self, sizeLine_eq, Nat.reduceLeDiff, reduceCtorEq, decide_true, decide_false]
  intro p5 H5 hp5 s5 h5
  have hS5 := hS4.same s5
  have hT5 := hT4.ext s5
  clear hS4 hT4 s5 h4 hp5
  simp only [h5, exists_and_left, rRepr, cx_K, Value.ref.injEq, HO.xd.injEq, lk0, tSeq, tPar3, tPar, tCons, tNil, tVar, tC, tAsg, gName, gCons, gNil, gTupN, gSub, tOp, rI, rI0, rU, tTest, rNe, rEq, rIxTN, rIxLN, rLenL, rLenT, rIntI, rIntB, rAbs, rSetLN, tTruL, tRaiseX, rIsTy, ixN0, ixN1, tRet, tIf, tIfS, tNext, tBreak, tCont, tDrop, tTupN, tLstN, tUn, tCB, tCall, tNot, tAnd, tOr, tB, tAndV, tOrV, tNotV, tChain, tApp, LamX.tLam, rListS, wipe, L2.start, List.map_cons, List.map_nil, List.length_cons, List.length_nil, List.replicate, List.cons_append, List.nil_append, List.append_nil, Nat.reduceAdd, Nat.reduceSub, Nat.zero_add, List.replicate_succ, List.replicate_zero, List.getElem?_cons_zero, List.getElem?_cons_succ, List.set_cons_zero, List.set_cons_succ, Option.some.injEq, V.int.injEq, V.bl.injEq, V.ref.injEq, V.str.injEq, V.ty.injEq, List.cons.injEq, HO.tup.injEq, HO.lst.injEq, and_true, true_and, and_assoc, exists_eq_left, exists_eq_left', exists_and_left, exists_eq', atI0, atI1, atI2, atI3, Int.cast_ofNat_Int, Int.reduceToNat, scal_ii, scal_in, scal_ni, scal_nn, scal_bb, scal_ss, scal_sn, scal_ns, scal_bn, scal_nb, ite_iff, decide_eq_true_eq, decide_eq_false_iff_not, Bool.not_eq_true', Classical.not_not, ne_eq, not_false_eq_true, not_true_eq_false, forall_const, true_implies, false_implies, imp_self, sizeLine_eq, Nat.reduceLeDiff, reduceCtorEq, decide_true, decide_false]
  refine ⟨z, ov.rp, fun q H6 hq s6 h6 => ?_⟩
  have hS6 := hS5.same s6
  have hT6 := hT5.ext s6
  clear hS5 hT5 s6 hq h5
  have nI : ∀ i, v ≠ .int i := fun i h => by subst h; exact absurd ov.nI (by simp [isI])
  have nI' : isI v = true → False := fun h => by rw [ov.nI] at h; cases h
  have nP' : isP v = true → False := fun h => by rw [ov.nP] at h; cases h
  have w0 : ∀ {H : Hp} {i : Int}, Wh K H (.int i) := wh_int
  refine told_num hT6 ov.rp (fun H7 Q E e7 r => ⟨_, _, rfl, ov.wh K H7, fun _ => r, fun h => (nI' h).elim, fun i j h => absurd h (nI i)⟩) (fun H7 t7 e7 hT7 h7 => ?_)
  have hS7 := hS6.ext e7
  have hd7 := extT e7 h6
  clear hS6 hT6 h6
  intro L H8 hL s8 h8
  have hLa : L ≠ a ∧ L ≠ c := by obtain ⟨_, _, _, ha, hc, _⟩ := hS7; exact ⟨(ne_of_none ha hL).symm, (ne_of_none hc hL).symm⟩
  have S8 : Sto K H8 [(pOf K "_law_odd_right", qn__law_odd_right)] a c L q z [t7] := ⟨hS7.same s8, hT7.ext s8, s8 _ _ hd7, h8, fun t ht => by rw [List.mem_singleton.mp ht]; exact s8 _ _ h7, hLa⟩
  clear hS7 hT7 hd7 h7 s8 hL e7 h8
  refine told_app S8 (by simp) ov.rp (fun H7 Q E e7 r => ⟨_, _, rfl, w0, fun h => (by cases h), fun _ => ⟨ov.wh K H7, fun _ => r⟩, fun i j _ h => absurd h (nI j)⟩) (fun H9 t9 S9 => ?_)
  refine told_app S9 (by simp) ov.rp (fun H7 Q E e7 r => ⟨_, _, rfl, w0, fun h => (by cases h), fun _ => ⟨ov.wh K H7, fun _ => r⟩, fun i j _ h => absurd h (nI j)⟩) (fun H10 t10 S10 => ?_)
  refine told_app S10 (by simp) ov.rp (fun H7 Q E e7 r => ⟨_, _, _, _, rfl, ov.wh K H7, fun _ => r, fun h => (nI' h).elim, fun a' b' r' p' h => absurd h (nI a')⟩) (fun H11 t11 S11 => ?_)
  refine told_app S11 (by simp) ov.rp (fun H7 Q E e7 r => ⟨_, _, _, _, rfl, w0, fun h => (by cases h), fun _ => ⟨ov.wh K H7, fun _ => r, fun h => (nI' h).elim⟩, fun a' b' r' p' _ h => absurd h (nI b')⟩) (fun H12 t12 S12 => ?_)
  refine told_app S12 (by simp) ov.rp (fun H7 Q E e7 r => ⟨_, _, _, _, rfl, w0, fun h => (by cases h), fun _ => ⟨w0, fun h => (by cases h), fun _ => ⟨ov.wh K H7, fun _ => r, fun h => (nI' h).elim⟩⟩, fun a' b' r' p' _ _ h => absurd h (nI r')⟩) (fun H13 t13 S13 => ?_)
  refine told_app S13 (by simp) ov.rp (fun H7 Q E e7 r => ⟨_, _, _, _, rfl, w0, fun h => (by cases h), fun _ => ⟨w0, fun h => (by cases h), fun _ => ⟨w0, fun h => (by cases h), fun _ => ⟨ov.wh K H7, fun _ => r⟩⟩⟩, fun a' b' r' p' _ _ _ h => absurd h (nI p')⟩) (fun H14 t14 S14 => ?_)
  clear S8 S9 S10 S11 S12 S13
  refine st_lcL (a := L) (fun R r => ⟨_, rfl, r⟩) S14.hL (fun D i H => Sto K H [(pOf K "_law_odd_right", qn__law_odd_right)] a c L q z _ ∧ H D = some (.lst [])) (fun D H1 hD s1 h1 => ⟨⟨S14.hS.same s1, S14.hT.ext s1, s1 _ _ S14.hq, s1 _ _ S14.hL, fun t ht => s1 _ _ (S14.ht t ht), S14.hLa⟩, h1⟩) (fun D i H p => p.1.hL) ?_ ?_
  · rintro D i x H2 hx ⟨S, hD⟩
    obtain ⟨t, ht, rfl⟩ : ∃ t, t ∈ _ ∧ x = V.ref t := by
      have := List.mem_of_getElem? hx
      obtain ⟨t, h1, h2⟩ := List.mem_map.mp this
      exact ⟨t, h1, h2.symm⟩
    simp only [exists_and_left, cx_K, Value.ref.injEq, HO.xd.injEq, lk0, tSeq, tPar3, tPar, tCons, tNil, tVar, tC, tAsg, gName, gCons, gNil, gTupN, gSub, tOp, rI, rI0, rU, tTest, rNe, rEq, rIxTN, rIxLN, rLenL, rLenT, rIntI, rIntB, rAbs, rSetLN, tTruL, tRaiseX, rIsTy, ixN0, ixN1, tRet, tIf, tIfS, tNext, tBreak, tCont, tDrop, tTupN, tLstN, tUn, tCB, tCall, tNot, tAnd, tOr, tB, tAndV, tOrV, tNotV, tChain, tApp, LamX.tLam, rListS, wipe, L2.start, List.map_cons, List.map_nil, List.length_cons, List.length_nil, List.replicate, List.cons_append, List.nil_append, List.append_nil, Nat.reduceAdd, Nat.reduceSub, Nat.zero_add, List.replicate_succ, List.replicate_zero, List.getElem?_cons_zero, List.getElem?_cons_succ, List.set_cons_zero, List.set_cons_succ, Option.some.injEq, V.int.injEq, V.bl.injEq, V.ref.injEq, V.str.injEq, V.ty.injEq, List.cons.injEq, HO.tup.injEq, HO.lst.injEq, and_true, true_and, and_assoc, exists_eq_left, exists_eq_left', exists_and_left, exists_eq', atI0, atI1, atI2, atI3, Int.cast_ofNat_Int, Int.reduceToNat, scal_ii, scal_in, scal_ni, scal_nn, scal_bb, scal_ss, scal_sn, scal_ns, scal_bn, scal_nb, ite_iff, decide_eq_true_eq, decide_eq_false_iff_not, Bool.not_eq_true', Classical.not_not, ne_eq, not_false_eq_true, not_true_eq_false, forall_const, true_implies, false_implies, imp_self, sizeLine_eq, Nat.reduceLeDiff, reduceCtorEq, decide_true, decide_false]
    exact ne_same (dp_ss (S.ht t ht)) (dp_ss S.hq) (sh_ss (by decide +kernel) ov.ok) ⟨false, rfl, fun h => (by cases h), fun _ => ⟨S, hD⟩⟩
  · rintro D H15 ⟨S15, hD⟩
    intro y H16 hy s16 h16
    refine ne_same (dp_nil (s16 _ _ hD)) (dp_nil h16) rfl ⟨false, rfl, fun h => (by cases h), fun _ => ?_⟩
    have hS16 := S15.hS.same s16
    have hT16 := Tabs.ext S15.hT s16
    clear S14 S15 hD h16 s16 hy
    have ok1 : PyData.strOk "number" = true := by decide +kernel
    have lo : SeqAt.shaped (.tuple [.str "number", .str lz]) = true := sh_ss ok1 lok
    have nPl : isP (.int l) = true → False := fun h => by simp [isP] at h; omega
    refine told_num hT16 lr (fun H7 Q E e7 r => ⟨_, _, _, _, rfl, w0, fun h => (by cases h), fun _ => ⟨w0, fun h => (by cases h), fun _ => ⟨w0, fun h => (by cases h), fun _ => ⟨w0, fun _ => r⟩⟩⟩, fun a' b' r' p' _ _ _ h h1 => by cases h; omega⟩) (fun H17 t17 e17 hT17 h17 => ?_)
    refine ⟨_, lr, fun y H18 hy s18 h18 => ne_same (dp_ss (s18 _ _ h17)) (dp_ss h18) lo ⟨false, rfl, fun h => (by cases h), fun _ => ?_⟩⟩
    have hS18 := (hS16.ext e17).same s18
    have hT18 := Tabs.ext hT17 s18
    clear hS16 hT16 hT17 h17 s18 hy h18 e17
    refine told_num hT18 lr (fun H7 Q E e7 r => ⟨_, _, rfl, w0, fun _ => r, fun h => (nPl h).elim, fun i j h _ h1 => by cases h; omega⟩) (fun H17 t17 e17 hT17 h17 => ?_)
    refine ⟨_, lr, fun y H19 hy s19 h19 => ne_same (dp_ss (s19 _ _ h17)) (dp_ss h19) lo ⟨false, rfl, fun h => (by cases h), fun _ => ?_⟩⟩
    have hS19 := (hS18.ext e17).same s19
    have hT19 := Tabs.ext hT17 s19
    clear hS18 hT18 hT17 h17 s19 hy h19 e17
    intro p1 I1 n1 s1 g1 p2 I2 n2 s2 g2 p3 I3 n3 s3 g3 p4 I4 n4 s4 g4 p5 I5 n5 s5 g5 pt I6 n6 s6 g6
    have hSa := ((((hS19.same s1).same s2).same s3).same s4).same s5
    have T6 := Tabs.ext (Tabs.ext (Tabs.ext (Tabs.ext (Tabs.ext (Tabs.ext hT19 s1) s2) s3) s4) s5) s6
    have f1 := s6 _ _ (s5 _ _ (s4 _ _ (s3 _ _ (s2 _ _ g1))))
    have f2 := s6 _ _ (s5 _ _ (s4 _ _ (s3 _ _ g2)))
    have f3 := s6 _ _ (s5 _ _ (s4 _ _ g3))
    have f4 := s6 _ _ (s5 _ _ g4)
    have f5 := s6 _ _ g5
    have hS6 := hSa.same s6
    have np : ∀ {p : Addr} {o : HO} {G : Hp}, G p = none → StA G a c → p ≠ a ∧ p ≠ c := fun hn hs => by
      obtain ⟨_, _, _, ha, hc, _⟩ := hs
      exact ⟨(ne_of_none ha hn).symm, (ne_of_none hc hn).symm⟩
    have m1 := np (o := .own 0) n1 hS19
    have m2 := np (o := .own 0) n2 (hS19.same s1)
    have m3 := np (o := .own 0) n3 ((hS19.same s1).same s2)
    have m4 := np (o := .own 0) n4 (((hS19.same s1).same s2).same s3)
    have m5 := np (o := .own 0) n5 ((((hS19.same s1).same s2).same s3).same s4)
    have m6 := np (o := .own 0) n6 hSa
    refine ⟨c, hS6, by decide, by decide, fun d J d0 d1 hSJ tJ => ⟨pt, rfl, _, tJ _ _ g6 m6.1 m6.2, ?_⟩⟩
    obtain ⟨x, hx, bx⟩ : ∃ x, atI [V.non, V.ref p1, V.ref p2, V.ref p3, V.ref p4, V.ref p5] d = some x ∧ Bad J x := by
      have : d = 0 ∨ d = 1 ∨ d = 2 ∨ d = 3 ∨ d = 4 ∨ d = 5 := by omega
      rcases this with rfl | rfl | rfl | rfl | rfl | rfl
      · exact ⟨_, atI0, .inl rfl⟩
      · exact ⟨_, atI1, .inr ⟨_, rfl, .inl (tJ _ _ f1 m1.1 m1.2)⟩⟩
      · exact ⟨_, atI2, .inr ⟨_, rfl, .inr (.inl (tJ _ _ f2 m2.1 m2.2))⟩⟩
      · exact ⟨_, atI3, .inr ⟨_, rfl, .inr (.inr (.inl (tJ _ _ f3 m3.1 m3.2)))⟩⟩
      · exact ⟨_, atI_ok (by decide) rfl, .inr ⟨_, rfl, .inr (.inr (.inr (.inl (tJ _ _ f4 m4.1 m4.2))))⟩⟩
      · exact ⟨_, atI_ok (by decide) rfl, .inr ⟨_, rfl, .inr (.inr (.inr (.inr (tJ _ _ f5 m5.1 m5.2))))⟩⟩
    have TJ := Tabs.stp T6 hS6 tJ
    clear T6 f1 f2 f3 f4 f5 hS6 np m1 m2 m3 m4 m5 m6 hSa hS19 hT19
    refine ⟨x, hx, ?_⟩
    have ok2 : SeqAt.shaped (.tuple [.str "part", .str "remainder"]) = true := sh_ss (by decide +kernel) (by decide +kernel)
    refine told_part TJ (fun H7 Q E e7 r => fun y H8 hy s8 h8 => ⟨_, _, rfl, .inl ⟨((bx.ext e7).ext (extS s8)).no, r.mono s8⟩⟩) (fun H17 t17 e17 hT17 h17 => ?_)
    intro y H18 hy s18 h18
    refine ne_same (dp_ss (s18 _ _ h17)) (dp_ss h18) ok2 ⟨false, rfl, fun h => (by cases h), fun _ => ?_⟩
    have T18 := Tabs.ext hT17 s18
    have b18 := (bx.ext e17).ext (extS s18)
    refine told_part T18 (fun H7 Q E e7 r => fun y H8 hy s8 h8 => ⟨_, _, rfl, .inr ⟨y, 0, 1, rfl, h8, by decide, .inl ⟨((b18.ext e7).ext (extS s8)).no, r.mono s8⟩⟩⟩) (fun H19 t19 e19 hT19 h19 => ?_)
    intro y2 H20 hy2 s20 h20
    exact eq_same (dp_ss (s20 _ _ h19)) (dp_ss h20) ok2 (k _)
end
end Iz
/-! k07_g -/
set_option Elab.async false
set_option linter.all false
set_option maxRecDepth 100000
set_option maxHeartbeats 4000000
namespace Iz
open PySem PySem.Spec PyProof.Rows L2
open He (ga)
local macro_rules | `(tactic| walk_at "wp") => `(tactic| simp only [cx_K, Value.ref.injEq, HO.xd.injEq, lk0, tSeq, tPar3, tPar, tCons, tNil, tVar, tC, tAsg, gName, gCons, gNil, gTupN, gSub, tOp, rI, rI0, rU, tTest, rNe, rEq, rIxTN, rIxLN, rLenL, rLenT, rIntI, rIntB, rAbs, rSetLN, tTruL, tRaiseX, rIsTy, ixN0, ixN1, tRet, tIf, tIfS, tNext, tBreak, tCont, tDrop, tTupN, tLstN, tUn, tCB, tCall, tNot, tAnd, tOr, tB, tAndV, tOrV, tNotV, tChain, tApp, LamX.tLam, rListS, wipe, L2.start, List.map_cons, List.map_nil, List.length_cons, List.length_nil, List.replicate, List.cons_append, List.nil_append, List.append_nil, Nat.reduceAdd, Nat.reduceSub, Nat.zero_add, List.replicate_succ, List.replicate_zero, List.getElem?_cons_zero, List.getElem?_cons_succ, List.set_cons_zero, List.set_cons_succ, Option.some.injEq, V.int.injEq, V.bl.injEq, V.ref.injEq, V.str.injEq, V.ty.injEq, List.cons.injEq, HO.tup.injEq, HO.lst.injEq, and_true, true_and, and_assoc, exists_eq_left, exists_eq_left', exists_and_left, exists_eq', atI0, atI1, atI2, atI3, Int.cast_ofNat_Int, Int.reduceToNat, scal_ii, scal_in, scal_ni, scal_nn, scal_bb, scal_ss, scal_sn, scal_ns, scal_bn, scal_nb, ite_iff, decide_eq_true_eq, decide_eq_false_iff_not, Bool.not_eq_true', Classical.not_not, ne_eq, not_false_eq_true, not_true_eq_false, forall_const, true_implies, false_implies, imp_self, sizeLine_eq, Nat.reduceLeDiff, reduceCtorEq, decide_true, decide_false])
section
variable {P : Program} {w : World} {K : PySem.W.Frag} {mg : Str → Option Value} {base : Heap}
open LamX
def spLaw (K : PySem.W.Frag) : Sp := fun vs H Q _ => ∃ sc, vs = [.ref sc] ∧ ∃ ns : List Int, SqL K H sc (ns.map V.int) ∧ ns.length ≤ 63 ∧ Tabs [(pOf K "_law_odd_right", qn__law_odd_right)] H ∧ ∀ H', Q (.bl true) H'
theorem o_law (T : Txt K mg) (TB : TabB base mg (cOf K "_law_odd_right") (pOf K "_law_odd_right")) {f : Addr} {fd : FuncData} (F : Fun K "law" "law" s_law f fd) : FnOk P w K mg base (L2.CX P w) 11 f fd ["_law_script"] (spLaw K) := by
  have o__law_draw := o__law_draw (P := P) (w := w) (base := base) T
  have o__law_number := o__law_number (P := P) (w := w) (base := base) T
  have o__law_divisor := o__law_divisor (P := P) (w := w) (base := base) T
  have o__law_line_right := o__law_line_right (P := P) (w := w) (base := base) T
  have o__law_both_right := o__law_both_right (P := P) (w := w) (base := base) T
  have o_greatest_divisor := o_greatest_divisor (P := P) (w := w) (base := base) T
  have o_least_multiple := o_least_multiple (P := P) (w := w) (base := base) T
  have o__law_odd_right := o__law_odd_right (P := P) (w := w) (base := base) T TB
  refine F.okX sc_law (fun vs H Q E h => ?_) (fun cdv A outer s H vs Q E hr h => ?_)
  · first | (obtain ⟨_, rfl, _⟩ := h; rfl) | (obtain ⟨_, _, rfl, _⟩ := h; rfl) | (obtain ⟨_, _, _, rfl, _⟩ := h; rfl) | (obtain ⟨_, _, _, _, rfl, _⟩ := h; rfl) | (obtain ⟨_, _, _, _, _, rfl, _⟩ := h; rfl)
  have hu64 := hr.units
  refine ⟨_, pss_cons (ps_set (i := 1) sc_law.nd rfl (Or.inl rfl) (pe_lstN (pa_cons (pe_callTy call_listS (by rfl) T.m_list (by decide +kernel) (pa_cons (pv 0) pa_nil)) (pa_cons (pe_int) pa_nil))))
      (pss_cons (ps_for (passes_of rfl) rfl (pi_range1 rfl T.m_range (pa_cons (pe_int) pa_nil)) (pg_name (i := 2) sc_law.nd rfl (Or.inl rfl)) (pss_cons (ps_par (i := 3) (j := 4) (by rfl) sc_law.nd rfl rfl (by decide) rfl rfl (pa_cons (pcl o__law_number (hr.mono (by decide)) pass0 (pa_cons (pv 1) (pa_cons (pe_int) pa_nil))) (pa_cons (pcl o__law_number (hr.mono (by decide)) pass0 (pa_cons (pv 1) (pa_cons (pe_int) pa_nil))) pa_nil)) (by rfl))
      (pss_cons (ps_set (i := 5) sc_law.nd rfl (Or.inl rfl) (pcl o__law_draw (hr.mono (by decide)) pass0 (pa_cons (pv 1) (pa_cons (pe_int) pa_nil))))
      (pss_cons (ps_par (i := 3) (j := 4) (by rfl) sc_law.nd rfl rfl (by decide) rfl rfl (pa_cons (pe_op op_mulW (pv 3) (pv 5)) (pa_cons (pe_op op_mulW (pv 4) (pv 5)) pa_nil)) (by rfl))
      (pss_cons (ps_if (pt_cmpR op_ne (pcl o_greatest_divisor (hr.mono (by decide)) passE (pa_cons (pv 3) (pa_cons (pv 4) pa_nil))) (pcl o__law_divisor (hr.mono (by decide)) pass0 (pa_cons (pv 3) (pa_cons (pv 4) pa_nil))) (nomark _)) (pss_one (ps_ret (pe_bl))) (pss_nil))
      (pss_cons (ps_cut (ps_if (PW.pt (pw_and (pt_cmpR op_ne (pv 3) (pe_int) (nomark _)) (pw_and1 (pt_cmpR op_ne (pv 4) (pe_int) (nomark _))))) (pss_one (ps_if (pt_cmpR op_ne (pcl o_least_multiple (hr.mono (by decide)) passE (pa_cons (pe_callB call_absN (by rfl) T.m_abs (by decide +kernel) (pa_cons (pv 3) pa_nil)) (pa_cons (pe_callB call_absN (by rfl) T.m_abs (by decide +kernel) (pa_cons (pv 4) pa_nil)) pa_nil))) (pe_op op_fdivW (pe_callB call_absN (by rfl) T.m_abs (by decide +kernel) (pa_cons (pe_op op_mulW (pv 3) (pv 4)) pa_nil)) (pcl o__law_divisor (hr.mono (by decide)) pass0 (pa_cons (pv 3) (pa_cons (pv 4) pa_nil)))) (nomark _)) (pss_one (ps_ret (pe_bl))) (pss_nil))) (pss_nil)))
      (pss_cons (ps_par (i := 6) (j := 7) (by rfl) sc_law.nd rfl rfl (by decide) rfl rfl (pa_cons (pe_op op_add (pe_int) (pcl o__law_draw (hr.mono (by decide)) pass0 (pa_cons (pv 1) (pa_cons (pe_int) pa_nil)))) (pa_cons (pe_op op_add (pe_int) (pcl o__law_draw (hr.mono (by decide)) pass0 (pa_cons (pv 1) (pa_cons (pe_int) pa_nil)))) pa_nil)) (by rfl))
      (pss_cons (ps_cut (ps_if (pt_cmpR op_eq (pcl o__law_draw (hr.mono (by decide)) pass0 (pa_cons (pv 1) (pa_cons (pe_int) pa_nil))) (pe_int) (nomark _)) (pss_one (ps_set (i := 6) sc_law.nd rfl (Or.inl rfl) (pe_op op_mulW (pv 6) (pe_op op_add (pe_op op_pow (pe_int) (pe_int)) (pcl o__law_draw (hr.mono (by decide)) pass0 (pa_cons (pv 1) (pa_cons (pe_int) pa_nil))))))) (pss_nil)))
      (pss_cons (ps_par3 (i := 8) (j := 9) (l := 10) (by rfl) sc_law.nd rfl rfl rfl (by decide) (by decide) (by decide) rfl rfl rfl (pa_cons (pcl o__law_number (hr.mono (by decide)) pass0 (pa_cons (pv 1) (pa_cons (pe_int) pa_nil))) (pa_cons (pcl o__law_number (hr.mono (by decide)) pass0 (pa_cons (pv 1) (pa_cons (pe_int) pa_nil))) (pa_cons (pcl o__law_number (hr.mono (by decide)) pass0 (pa_cons (pv 1) (pa_cons (pe_int) pa_nil))) pa_nil))) (by rfl))
      (pss_cons (ps_if (PW.pt (pw_or (pt_not (pt_val (pcl o__law_line_right (hr.mono (by decide)) pass0 (pa_cons (pv 8) (pa_cons (pv 9) (pa_cons (pv 10) (pa_cons (pv 6) pa_nil))))))) (pw_or1 (pt_not (pt_val (pcl o__law_both_right (hr.mono (by decide)) pass0 (pa_cons (pe_tupN (pa_cons (pv 10) (pa_cons (pv 6) pa_nil))) (pa_cons (pe_tupN (pa_cons (pcl o__law_number (hr.mono (by decide)) pass0 (pa_cons (pv 1) (pa_cons (pe_int) pa_nil))) (pa_cons (pv 7) pa_nil))) pa_nil)))))))) (pss_one (ps_ret (pe_bl))) (pss_nil))
      (pss_one (ps_if (pt_not (pt_val (pcl o__law_both_right (hr.mono (by decide)) pass0 (pa_cons (pe_tupN (pa_cons (pv 10) (pa_cons (pv 6) pa_nil))) (pa_cons (pe_tupN (pa_cons (pe_op op_add (pv 10) (pe_op op_mulW (pv 6) (pcl o__law_number (hr.mono (by decide)) pass0 (pa_cons (pv 1) (pa_cons (pe_int) pa_nil))))) (pa_cons (pv 7) pa_nil))) pa_nil))))) (pss_one (ps_ret (pe_bl))) (pss_nil)))))))))))))
      (pss_one (ps_ret (pe_and (pe_cmpR op_eq (pcl o_greatest_divisor (hr.mono (by decide)) passE (pa_cons (pe_int) (pa_cons (pe_int) pa_nil))) (pe_int) (nomark _)) (pe_one (pcl o__law_odd_right (hr.mono (by decide)) passE (pa_cons (pv 1) pa_nil))))))), ?_⟩
  obtain ⟨sc, rfl, ns, hsc, hns, hT, k⟩ := h
  simp only [exists_and_left, cx_K, Value.ref.injEq, HO.xd.injEq, lk0, tSeq, tPar3, tPar, tCons, tNil, tVar, tC, tAsg, gName, gCons, gNil, gTupN, gSub, tOp, rI, rI0, rU, tTest, rNe, rEq, rIxTN, rIxLN, rLenL, rLenT, rIntI, rIntB, rAbs, rSetLN, tTruL, tRaiseX, rIsTy, ixN0, ixN1, tRet, tIf, tIfS, tNext, tBreak, tCont, tDrop, tTupN, tLstN, tUn, tCB, tCall, tNot, tAnd, tOr, tB, tAndV, tOrV, tNotV, tChain, tApp, LamX.tLam, rListS, wipe, L2.start, List.map_cons, List.map_nil, List.length_cons, List.length_nil, List.replicate, List.cons_append, List.nil_append, List.append_nil, Nat.reduceAdd, Nat.reduceSub, Nat.zero_add, List.replicate_succ, List.replicate_zero, List.getElem?_cons_zero, List.getElem?_cons_succ, List.set_cons_zero, List.set_cons_succ, Option.some.injEq, V.int.injEq, V.bl.injEq, V.ref.injEq, V.str.injEq, V.ty.injEq, List.cons.injEq, HO.tup.injEq, HO.lst.injEq, and_true, true_and, and_assoc, exists_eq_left, exists_eq_left', exists_and_left, exists_eq', atI0, atI1, atI2, atI3, Int.cast_ofNat_Int, Int.reduceToNat, scal_ii, scal_in, scal_ni, scal_nn, scal_bb, scal_ss, scal_sn, scal_ns, scal_bn, scal_nb, ite_iff, decide_eq_true_eq, decide_eq_false_iff_not, Bool.not_eq_true', Classical.not_not, ne_eq, not_false_eq_true, not_true_eq_false, forall_const, true_implies, false_implies, imp_self, sizeLine_eq, Nat.reduceLeDiff, reduceCtorEq, decide_true, decide_false]
  refine ⟨_, hsc, fun c H1 n1 s1 h1 => fun a H2 n2 s2 h2 => ?_⟩
  have hS : StA H2 a c := ⟨ne_of_none (show H1 c = _ from h1) n2 |>.symm, 0, ns, h2, s2 _ _ h1, hns⟩
  have hT2 := Tabs.ext (Tabs.ext hT s1) s2
  clear hT h1 h2 s1 s2 n1 n2 hsc
  refine st_forR1 4 (by decide) (fun Q q => q) (fun i σ H' => StA H' a c ∧ Tabs [(pOf K "_law_odd_right", qn__law_odd_right)] H' ∧ ∃ (t x1 x2 x3 x4 x5 x6 x7 x8 : Option V), σ = [some (.ref sc), some (.ref a), t, x1, x2, x3, x4, x5, x6, x7, x8]) ⟨hS, hT2, _, _, _, _, _, _, _, _, _, rfl⟩ ?_ ?_
  · clear hS hT2
    rintro i _ H3 hi ⟨hS, hT, t, x1, x2, x3, x4, x5, x6, x7, x8, rfl⟩
    simp only [exists_and_left, cx_K, Value.ref.injEq, HO.xd.injEq, lk0, tSeq, tPar3, tPar, tCons, tNil, tVar, tC, tAsg, gName, gCons, gNil, gTupN, gSub, tOp, rI, rI0, rU, tTest, rNe, rEq, rIxTN, rIxLN, rLenL, rLenT, rIntI, rIntB, rAbs, rSetLN, tTruL, tRaiseX, rIsTy, ixN0, ixN1, tRet, tIf, tIfS, tNext, tBreak, tCont, tDrop, tTupN, tLstN, tUn, tCB, tCall, tNot, tAnd, tOr, tB, tAndV, tOrV, tNotV, tChain, tApp, LamX.tLam, rListS, wipe, L2.start, List.map_cons, List.map_nil, List.length_cons, List.length_nil, List.replicate, List.cons_append, List.nil_append, List.append_nil, Nat.reduceAdd, Nat.reduceSub, Nat.zero_add, List.replicate_succ, List.replicate_zero, List.getElem?_cons_zero, List.getElem?_cons_succ, List.set_cons_zero, List.set_cons_succ, Option.some.injEq, V.int.injEq, V.bl.injEq, V.ref.injEq, V.str.injEq, V.ty.injEq, List.cons.injEq, HO.tup.injEq, HO.lst.injEq, and_true, true_and, and_assoc, exists_eq_left, exists_eq_left', exists_and_left, exists_eq', atI0, atI1, atI2, atI3, Int.cast_ofNat_Int, Int.reduceToNat, scal_ii, scal_in, scal_ni, scal_nn, scal_bb, scal_ss, scal_sn, scal_ns, scal_bn, scal_nb, ite_iff, decide_eq_true_eq, decide_eq_false_iff_not, Bool.not_eq_true', Classical.not_not, ne_eq, not_false_eq_true, not_true_eq_false, forall_const, true_implies, false_implies, imp_self, sizeLine_eq, Nat.reduceLeDiff, reduceCtorEq, decide_true, decide_false]
    refine ⟨a, c, 30, rfl, hS, by decide, by decide, fun u H4 bu hS4 t4 => ⟨a, c, 30, rfl, hS4, by decide, by decide, fun v H5 bv hS5 t5 => ⟨a, c, 9, rfl, hS5, by decide, by decide, fun m H6 m0 m1 hS6 t6 => ?_⟩⟩⟩
    have hT6 := Tabs.stp (Tabs.stp (Tabs.stp hT hS t4) hS4 t5) hS5 t6
    clear hT hS hS4 hS5 t4 t5 t6
    have bu' : (u * m).natAbs < 2 ^ 103 := wide_lt (b := 5) bu (by omega)
    have bv' : (v * m).natAbs < 2 ^ 103 := wide_lt (b := 5) bv (by omega)
    simp only [exists_and_left, spGD, isI, wh_int, cx_K, Value.ref.injEq, HO.xd.injEq, lk0, tSeq, tPar3, tPar, tCons, tNil, tVar, tC, tAsg, gName, gCons, gNil, gTupN, gSub, tOp, rI, rI0, rU, tTest, rNe, rEq, rIxTN, rIxLN, rLenL, rLenT, rIntI, rIntB, rAbs, rSetLN, tTruL, tRaiseX, rIsTy, ixN0, ixN1, tRet, tIf, tIfS, tNext, tBreak, tCont, tDrop, tTupN, tLstN, tUn, tCB, tCall, tNot, tAnd, tOr, tB, tAndV, tOrV, tNotV, tChain, tApp, LamX.tLam, rListS, wipe, L2.start, List.map_cons, List.map_nil, List.length_cons, List.length_nil, List.replicate, List.cons_append, List.nil_append, List.append_nil, Nat.reduceAdd, Nat.reduceSub, Nat.zero_add, List.replicate_succ, List.replicate_zero, List.getElem?_cons_zero, List.getElem?_cons_succ, List.set_cons_zero, List.set_cons_succ, Option.some.injEq, V.int.injEq, V.bl.injEq, V.ref.injEq, V.str.injEq, V.ty.injEq, List.cons.injEq, HO.tup.injEq, HO.lst.injEq, and_true, true_and, and_assoc, exists_eq_left, exists_eq_left', exists_and_left, exists_eq', atI0, atI1, atI2, atI3, Int.cast_ofNat_Int, Int.reduceToNat, scal_ii, scal_in, scal_ni, scal_nn, scal_bb, scal_ss, scal_sn, scal_ns, scal_bn, scal_nb, ite_iff, decide_eq_true_eq, decide_eq_false_iff_not, Bool.not_eq_true', Classical.not_not, ne_eq, not_false_eq_true, not_true_eq_false, forall_const, true_implies, false_implies, imp_self, sizeLine_eq, Nat.reduceLeDiff, reduceCtorEq, decide_true, decide_false]
    refine ⟨wide_mul bu (b := 5) (by omega) (by decide) (by decide) (by decide), wide_mul bv (b := 5) (by omega) (by decide) (by decide) (by decide), ?_⟩
    rintro _ _ rfl rfl
    refine ⟨pow_small bu' (by decide), pow_small bv' (by decide), fun H7 s7 => ⟨_, _, rfl, pow_small bu' (by decide), pow_small bv' (by decide), ?_⟩⟩
    simp only [exists_and_left, cx_K, Value.ref.injEq, HO.xd.injEq, lk0, tSeq, tPar3, tPar, tCons, tNil, tVar, tC, tAsg, gName, gCons, gNil, gTupN, gSub, tOp, rI, rI0, rU, tTest, rNe, rEq, rIxTN, rIxLN, rLenL, rLenT, rIntI, rIntB, rAbs, rSetLN, tTruL, tRaiseX, rIsTy, ixN0, ixN1, tRet, tIf, tIfS, tNext, tBreak, tCont, tDrop, tTupN, tLstN, tUn, tCB, tCall, tNot, tAnd, tOr, tB, tAndV, tOrV, tNotV, tChain, tApp, LamX.tLam, rListS, wipe, L2.start, List.map_cons, List.map_nil, List.length_cons, List.length_nil, List.replicate, List.cons_append, List.nil_append, List.append_nil, Nat.reduceAdd, Nat.reduceSub, Nat.zero_add, List.replicate_succ, List.replicate_zero, List.getElem?_cons_zero, List.getElem?_cons_succ, List.set_cons_zero, List.set_cons_succ, Option.some.injEq, V.int.injEq, V.bl.injEq, V.ref.injEq, V.str.injEq, V.ty.injEq, List.cons.injEq, HO.tup.injEq, HO.lst.injEq, and_true, true_and, and_assoc, exists_eq_left, exists_eq_left', exists_and_left, exists_eq', atI0, atI1, atI2, atI3, Int.cast_ofNat_Int, Int.reduceToNat, scal_ii, scal_in, scal_ni, scal_nn, scal_bb, scal_ss, scal_sn, scal_ns, scal_bn, scal_nb, ite_iff, decide_eq_true_eq, decide_eq_false_iff_not, Bool.not_eq_true', Classical.not_not, ne_eq, not_false_eq_true, not_true_eq_false, forall_const, true_implies, false_implies, imp_self, sizeLine_eq, Nat.reduceLeDiff, reduceCtorEq, decide_true, decide_false]
    have hS7 := hS6.same s7
    have hT7 := Tabs.ext hT6 s7
    clear hS6 hT6 s7
    refine ⟨fun σ H' => σ = [some (.ref sc), some (.ref a), some (.int (i : Int)), some (.int (u * m)), some (.int (v * m)), some (.int m), x4, x5, x6, x7, x8] ∧ StA H' a c ∧ Tabs [(pOf K "_law_odd_right", qn__law_odd_right)] H', ?_, ?_⟩
    · simp only [exists_and_left, spLM, isI, isP, wh_int, wh_int, cx_K, Value.ref.injEq, HO.xd.injEq, lk0, tSeq, tPar3, tPar, tCons, tNil, tVar, tC, tAsg, gName, gCons, gNil, gTupN, gSub, tOp, rI, rI0, rU, tTest, rNe, rEq, rIxTN, rIxLN, rLenL, rLenT, rIntI, rIntB, rAbs, rSetLN, tTruL, tRaiseX, rIsTy, ixN0, ixN1, tRet, tIf, tIfS, tNext, tBreak, tCont, tDrop, tTupN, tLstN, tUn, tCB, tCall, tNot, tAnd, tOr, tB, tAndV, tOrV, tNotV, tChain, tApp, LamX.tLam, rListS, wipe, L2.start, List.map_cons, List.map_nil, List.length_cons, List.length_nil, List.replicate, List.cons_append, List.nil_append, List.append_nil, Nat.reduceAdd, Nat.reduceSub, Nat.zero_add, List.replicate_succ, List.replicate_zero, List.getElem?_cons_zero, List.getElem?_cons_succ, List.set_cons_zero, List.set_cons_succ, Option.some.injEq, V.int.injEq, V.bl.injEq, V.ref.injEq, V.str.injEq, V.ty.injEq, List.cons.injEq, HO.tup.injEq, HO.lst.injEq, and_true, true_and, and_assoc, exists_eq_left, exists_eq_left', exists_and_left, exists_eq', atI0, atI1, atI2, atI3, Int.cast_ofNat_Int, Int.reduceToNat, scal_ii, scal_in, scal_ni, scal_nn, scal_bb, scal_ss, scal_sn, scal_ns, scal_bn, scal_nb, ite_iff, decide_eq_true_eq, decide_eq_false_iff_not, Bool.not_eq_true', Classical.not_not, ne_eq, not_false_eq_true, not_true_eq_false, forall_const, true_implies, false_implies, imp_self, sizeLine_eq, Nat.reduceLeDiff, reduceCtorEq, decide_true, decide_false]
      have ab : ∀ {x : Int} {n : Nat}, x.natAbs < 2 ^ n → (x.natAbs : Int).natAbs < 2 ^ n := fun h => h
      refine ⟨fun hu => ⟨fun hv => ⟨fun h => by omega, fun _ h => by omega, ?_⟩, fun _ => ⟨hS7, hT7⟩⟩, fun _ => ⟨hS7, hT7⟩⟩
      rintro _ _ rfl rfl _ _
      have hg : 0 < (Int.gcd (u * m) (v * m) : Int) := by have := Int.gcd_pos_of_ne_zero_left (v * m) hu; omega
      refine ⟨pow_small (ab bu') (by decide), pow_small (ab bv') (by decide), fun H8 s8 => ⟨wide_mul bu' bv' (by decide) (by decide) (by decide), _, _, rfl, pow_small bu' (by decide), pow_small bv' (by decide), _, rfl, ?_, fun h => absurd lcm_abs h, fun _ => ⟨hS7.same s8, Tabs.ext hT7 s8⟩⟩⟩
      have hgl : (Int.gcd (u * m) (v * m) : Int) ≤ ((u * m).natAbs : Int) := Int.le_of_dvd (by omega) (Int.dvd_natAbs.mpr (Int.gcd_dvd_left _ _))
      exact wide_div hg (wide_le (by omega) hgl (ab bu')) (by decide) (by decide)
    · rintro _ H8 ⟨rfl, hS8, hT8⟩
      clear hS7 hT7
      simp only [exists_and_left, cx_K, Value.ref.injEq, HO.xd.injEq, lk0, tSeq, tPar3, tPar, tCons, tNil, tVar, tC, tAsg, gName, gCons, gNil, gTupN, gSub, tOp, rI, rI0, rU, tTest, rNe, rEq, rIxTN, rIxLN, rLenL, rLenT, rIntI, rIntB, rAbs, rSetLN, tTruL, tRaiseX, rIsTy, ixN0, ixN1, tRet, tIf, tIfS, tNext, tBreak, tCont, tDrop, tTupN, tLstN, tUn, tCB, tCall, tNot, tAnd, tOr, tB, tAndV, tOrV, tNotV, tChain, tApp, LamX.tLam, rListS, wipe, L2.start, List.map_cons, List.map_nil, List.length_cons, List.length_nil, List.replicate, List.cons_append, List.nil_append, List.append_nil, Nat.reduceAdd, Nat.reduceSub, Nat.zero_add, List.replicate_succ, List.replicate_zero, List.getElem?_cons_zero, List.getElem?_cons_succ, List.set_cons_zero, List.set_cons_succ, Option.some.injEq, V.int.injEq, V.bl.injEq, V.ref.injEq, V.str.injEq, V.ty.injEq, List.cons.injEq, HO.tup.injEq, HO.lst.injEq, and_true, true_and, and_assoc, exists_eq_left, exists_eq_left', exists_and_left, exists_eq', atI0, atI1, atI2, atI3, Int.cast_ofNat_Int, Int.reduceToNat, scal_ii, scal_in, scal_ni, scal_nn, scal_bb, scal_ss, scal_sn, scal_ns, scal_bn, scal_nb, ite_iff, decide_eq_true_eq, decide_eq_false_iff_not, Bool.not_eq_true', Classical.not_not, ne_eq, not_false_eq_true, not_true_eq_false, forall_const, true_implies, false_implies, imp_self, sizeLine_eq, Nat.reduceLeDiff, reduceCtorEq, decide_true, decide_false]
      refine ⟨a, c, 24, rfl, hS8, by decide, by decide, fun p H9 p0 p1 hS9 t9 => ⟨_, rfl, ⟨a, c, 24, rfl, hS9, by decide, by decide, fun q H10 q0 q1 hS10 t10 => ⟨_, rfl, ?_⟩⟩⟩⟩
      have hT10 := Tabs.stp (Tabs.stp hT8 hS8 t9) hS9 t10
      clear hS8 hT8 hS9 t9 t10
      refine ⟨fun σ H' => ∃ p' : Int, 1 ≤ p' ∧ p'.natAbs < 2 ^ 75 ∧ σ = [some (.ref sc), some (.ref a), some (.int (i : Int)), some (.int (u * m)), some (.int (v * m)), some (.int m), some (.int p'), some (.int (1 + q)), x6, x7, x8] ∧ StA H' a c ∧ Tabs [(pOf K "_law_odd_right", qn__law_odd_right)] H', ?_, ?_⟩
      · simp only [exists_and_left, cx_K, Value.ref.injEq, HO.xd.injEq, lk0, tSeq, tPar3, tPar, tCons, tNil, tVar, tC, tAsg, gName, gCons, gNil, gTupN, gSub, tOp, rI, rI0, rU, tTest, rNe, rEq, rIxTN, rIxLN, rLenL, rLenT, rIntI, rIntB, rAbs, rSetLN, tTruL, tRaiseX, rIsTy, ixN0, ixN1, tRet, tIf, tIfS, tNext, tBreak, tCont, tDrop, tTupN, tLstN, tUn, tCB, tCall, tNot, tAnd, tOr, tB, tAndV, tOrV, tNotV, tChain, tApp, LamX.tLam, rListS, wipe, L2.start, List.map_cons, List.map_nil, List.length_cons, List.length_nil, List.replicate, List.cons_append, List.nil_append, List.append_nil, Nat.reduceAdd, Nat.reduceSub, Nat.zero_add, List.replicate_succ, List.replicate_zero, List.getElem?_cons_zero, List.getElem?_cons_succ, List.set_cons_zero, List.set_cons_succ, Option.some.injEq, V.int.injEq, V.bl.injEq, V.ref.injEq, V.str.injEq, V.ty.injEq, List.cons.injEq, HO.tup.injEq, HO.lst.injEq, and_true, true_and, and_assoc, exists_eq_left, exists_eq_left', exists_and_left, exists_eq', atI0, atI1, atI2, atI3, Int.cast_ofNat_Int, Int.reduceToNat, scal_ii, scal_in, scal_ni, scal_nn, scal_bb, scal_ss, scal_sn, scal_ns, scal_bn, scal_nb, ite_iff, decide_eq_true_eq, decide_eq_false_iff_not, Bool.not_eq_true', Classical.not_not, ne_eq, not_false_eq_true, not_true_eq_false, forall_const, true_implies, false_implies, imp_self, sizeLine_eq, Nat.reduceLeDiff, reduceCtorEq, decide_true, decide_false]
        refine ⟨a, c, 4, rfl, hS10, by decide, by decide, fun e H11 e0 e1 hS11 t11 => ?_⟩
        have hT11 := Tabs.stp hT10 hS10 t11
        simp only [exists_and_left, cx_K, Value.ref.injEq, HO.xd.injEq, lk0, tSeq, tPar3, tPar, tCons, tNil, tVar, tC, tAsg, gName, gCons, gNil, gTupN, gSub, tOp, rI, rI0, rU, tTest, rNe, rEq, rIxTN, rIxLN, rLenL, rLenT, rIntI, rIntB, rAbs, rSetLN, tTruL, tRaiseX, rIsTy, ixN0, ixN1, tRet, tIf, tIfS, tNext, tBreak, tCont, tDrop, tTupN, tLstN, tUn, tCB, tCall, tNot, tAnd, tOr, tB, tAndV, tOrV, tNotV, tChain, tApp, LamX.tLam, rListS, wipe, L2.start, List.map_cons, List.map_nil, List.length_cons, List.length_nil, List.replicate, List.cons_append, List.nil_append, List.append_nil, Nat.reduceAdd, Nat.reduceSub, Nat.zero_add, List.replicate_succ, List.replicate_zero, List.getElem?_cons_zero, List.getElem?_cons_succ, List.set_cons_zero, List.set_cons_succ, Option.some.injEq, V.int.injEq, V.bl.injEq, V.ref.injEq, V.str.injEq, V.ty.injEq, List.cons.injEq, HO.tup.injEq, HO.lst.injEq, and_true, true_and, and_assoc, exists_eq_left, exists_eq_left', exists_and_left, exists_eq', atI0, atI1, atI2, atI3, Int.cast_ofNat_Int, Int.reduceToNat, scal_ii, scal_in, scal_ni, scal_nn, scal_bb, scal_ss, scal_sn, scal_ns, scal_bn, scal_nb, ite_iff, decide_eq_true_eq, decide_eq_false_iff_not, Bool.not_eq_true', Classical.not_not, ne_eq, not_false_eq_true, not_true_eq_false, forall_const, true_implies, false_implies, imp_self, sizeLine_eq, Nat.reduceLeDiff, reduceCtorEq, decide_true, decide_false]
        refine ⟨fun _ => ⟨⟨by decide, by decide, by decide⟩, a, c, 3, rfl, hS11, by decide, by decide, fun f H12 f0 f1 hS12 t12 => ⟨_, rfl, ?_, _, ?_, ?_, rfl, hS12, Tabs.stp hT11 hS11 t12⟩⟩, fun _ => ⟨_, by omega, by omega, rfl, hS11, hT11⟩⟩
        all_goals have e20 : (10 : Int) ^ 20 = 100000000000000000000 := by decide
        all_goals rw [e20]
        · exact wide_mul (a := 5) (b := 67) (by omega) (by omega) (by decide) (by decide) (by decide)
        · have : 0 < (1 + p) * (100000000000000000000 + f) := Int.mul_pos (by omega) (by omega)
          omega
        · exact Nat.lt_of_lt_of_le (wide_lt (a := 5) (b := 67) (by omega) (by omega)) (Nat.pow_le_pow_right (by decide) (by decide))
      · rintro _ H11 ⟨p', hp1, hp2, rfl, hS11, hT11⟩
        clear hS10 hT10
        simp only [exists_and_left, cx_K, Value.ref.injEq, HO.xd.injEq, lk0, tSeq, tPar3, tPar, tCons, tNil, tVar, tC, tAsg, gName, gCons, gNil, gTupN, gSub, tOp, rI, rI0, rU, tTest, rNe, rEq, rIxTN, rIxLN, rLenL, rLenT, rIntI, rIntB, rAbs, rSetLN, tTruL, tRaiseX, rIsTy, ixN0, ixN1, tRet, tIf, tIfS, tNext, tBreak, tCont, tDrop, tTupN, tLstN, tUn, tCB, tCall, tNot, tAnd, tOr, tB, tAndV, tOrV, tNotV, tChain, tApp, LamX.tLam, rListS, wipe, L2.start, List.map_cons, List.map_nil, List.length_cons, List.length_nil, List.replicate, List.cons_append, List.nil_append, List.append_nil, Nat.reduceAdd, Nat.reduceSub, Nat.zero_add, List.replicate_succ, List.replicate_zero, List.getElem?_cons_zero, List.getElem?_cons_succ, List.set_cons_zero, List.set_cons_succ, Option.some.injEq, V.int.injEq, V.bl.injEq, V.ref.injEq, V.str.injEq, V.ty.injEq, List.cons.injEq, HO.tup.injEq, HO.lst.injEq, and_true, true_and, and_assoc, exists_eq_left, exists_eq_left', exists_and_left, exists_eq', atI0, atI1, atI2, atI3, Int.cast_ofNat_Int, Int.reduceToNat, scal_ii, scal_in, scal_ni, scal_nn, scal_bb, scal_ss, scal_sn, scal_ns, scal_bn, scal_nb, ite_iff, decide_eq_true_eq, decide_eq_false_iff_not, Bool.not_eq_true', Classical.not_not, ne_eq, not_false_eq_true, not_true_eq_false, forall_const, true_implies, false_implies, imp_self, sizeLine_eq, Nat.reduceLeDiff, reduceCtorEq, decide_true, decide_false]
        have np : ∀ {p : Addr} {xs : List V} {G : Hp}, G p = some (.tup xs) → StA G a c → p ≠ a ∧ p ≠ c := fun hn hs => by
          obtain ⟨_, _, _, ha, hc, _⟩ := hs
          exact ⟨ne_of hn ha (by intro z; cases z), ne_of hn hc (by intro z; cases z)⟩
        refine ⟨a, c, 30, rfl, hS11, by decide, by decide, fun l1 H12 b1 hS12 t12 => ⟨a, c, 30, rfl, hS12, by decide, by decide, fun l2 H13 b2 hS13 t13 => ⟨a, c, 30, rfl, hS13, by decide, by decide, fun r H14 br hS14 t14 => ?_⟩⟩⟩
        have hT14 := Tabs.stp (Tabs.stp (Tabs.stp hT11 hS11 t12) hS12 t13) hS13 t14
        clear hS11 hT11 hS12 hS13 t12 t13 t14
        refine ⟨l1, l2, r, p', rfl, hp1, pow_small b1 (by decide), pow_small b2 (by decide), pow_small br (by decide), pow_small hp2 (by decide), fun H15 s15 => ⟨true, rfl, fun h => (by cases h), fun _ => ?_⟩⟩
        intro x H16 n16 s16 h16
        have hS16 := (hS14.same s15).same s16
        have hT16 := Tabs.ext (Tabs.ext hT14 s15) s16
        clear hS14 hT14 s15 s16 n16
        refine ⟨a, c, 30, rfl, hS16, by decide, by decide, fun o H17 bo hS17 t17 => fun y H18 n18 s18 h18 => ?_⟩
        have hx := s18 _ _ (t17 _ _ h16 (np h16 hS16).1 (np h16 hS16).2)
        have hS18 := hS17.same s18
        have hT18 := Tabs.ext (Tabs.stp hT16 hS16 t17) s18
        clear hS16 hT16 hS17 t17 s18 n18 h16
        refine ⟨x, y, rfl, _, _, _, _, hx, h18, hp1, by omega, pow_small br (by decide), pow_small hp2 (by decide), pow_small bo (by decide), by omega, fun H19 s19 => ⟨true, rfl, fun h => (by cases h), fun _ => ?_⟩⟩
        intro x2 H20 n20 s20 h20
        have hS20 := (hS18.same s19).same s20
        have hT20 := Tabs.ext (Tabs.ext hT18 s19) s20
        clear hS18 hT18 s19 s20 n20 hx h18
        refine ⟨a, c, 9, rfl, hS20, by decide, by decide, fun o2 H21 bo2 hS21 t21 => ⟨o2, rfl, wide_mul hp2 bo2 (by decide) (by decide) (by decide), r, rfl, fun y2 H22 n22 s22 h22 => ?_⟩⟩
        have hx := s22 _ _ (t21 _ _ h20 (np h20 hS20).1 (np h20 hS20).2)
        have hS22 := hS21.same s22
        have hT22 := Tabs.ext (Tabs.stp hT20 hS20 t21) s22
        have bz : (r + p' * o2).natAbs < 2 ^ 190 := by
          have h1 : (p' * o2).natAbs < 2 ^ (75 + 98) := wide_lt hp2 bo2
          have h2 : (2 : Nat) ^ (75 + 98) < 2 ^ 189 := by decide
          omega
        refine ⟨x2, y2, rfl, _, _, _, _, hx, h22, hp1, by omega, pow_small br (by decide), pow_small hp2 (by decide), bz, by omega, fun H23 s23 => ⟨true, rfl, fun h => (by cases h), fun _ => ⟨hS22.same s23, Tabs.ext hT22 s23⟩⟩⟩
  · rintro _ H3 ⟨hS, hT, t, x1, x2, x3, x4, x5, x6, x7, x8, rfl⟩
    simp only [exists_and_left, spGD, spOdd, isI, isP, wh_int, cx_K, Value.ref.injEq, HO.xd.injEq, lk0, tSeq, tPar3, tPar, tCons, tNil, tVar, tC, tAsg, gName, gCons, gNil, gTupN, gSub, tOp, rI, rI0, rU, tTest, rNe, rEq, rIxTN, rIxLN, rLenL, rLenT, rIntI, rIntB, rAbs, rSetLN, tTruL, tRaiseX, rIsTy, ixN0, ixN1, tRet, tIf, tIfS, tNext, tBreak, tCont, tDrop, tTupN, tLstN, tUn, tCB, tCall, tNot, tAnd, tOr, tB, tAndV, tOrV, tNotV, tChain, tApp, LamX.tLam, rListS, wipe, L2.start, List.map_cons, List.map_nil, List.length_cons, List.length_nil, List.replicate, List.cons_append, List.nil_append, List.append_nil, Nat.reduceAdd, Nat.reduceSub, Nat.zero_add, List.replicate_succ, List.replicate_zero, List.getElem?_cons_zero, List.getElem?_cons_succ, List.set_cons_zero, List.set_cons_succ, Option.some.injEq, V.int.injEq, V.bl.injEq, V.ref.injEq, V.str.injEq, V.ty.injEq, List.cons.injEq, HO.tup.injEq, HO.lst.injEq, and_true, true_and, and_assoc, exists_eq_left, exists_eq_left', exists_and_left, exists_eq', atI0, atI1, atI2, atI3, Int.cast_ofNat_Int, Int.reduceToNat, scal_ii, scal_in, scal_ni, scal_nn, scal_bb, scal_ss, scal_sn, scal_ns, scal_bn, scal_nb, ite_iff, decide_eq_true_eq, decide_eq_false_iff_not, Bool.not_eq_true', Classical.not_not, ne_eq, not_false_eq_true, not_true_eq_false, forall_const, true_implies, false_implies, imp_self, sizeLine_eq, Nat.reduceLeDiff, reduceCtorEq, decide_true, decide_false]
    rintro _ _ rfl rfl
    exact ⟨by decide, by decide, fun H4 s4 => ⟨fun _ => ⟨c, hS.same s4, Tabs.ext hT s4, fun H5 => k H5⟩, fun h => absurd rfl h⟩⟩
end
end Iz
/-! k07_h -/
set_option Elab.async false
set_option linter.all false
set_option maxRecDepth 100000
set_option maxHeartbeats 4000000
namespace Iz
open PySem PySem.Spec PyProof.Rows L2
open He (ga)
local macro_rules | `(tactic| walk_at "wp") => `(tactic| simp only [cx_K, Value.ref.injEq, HO.xd.injEq, lk0, tSeq, tPar3, tPar, tCons, tNil, tVar, tC, tAsg, gName, gCons, gNil, gTupN, gSub, tOp, rI, rI0, rU, tTest, rNe, rEq, rIxTN, rIxLN, rLenL, rLenT, rIntI, rIntB, rAbs, rSetLN, tTruL, tRaiseX, rIsTy, ixN0, ixN1, tRet, tIf, tIfS, tNext, tBreak, tCont, tDrop, tTupN, tLstN, tUn, tCB, tCall, tNot, tAnd, tOr, tB, tAndV, tOrV, tNotV, tChain, tApp, LamX.tLam, rListS, wipe, L2.start, List.map_cons, List.map_nil, List.length_cons, List.length_nil, List.replicate, List.cons_append, List.nil_append, List.append_nil, Nat.reduceAdd, Nat.reduceSub, Nat.zero_add, List.replicate_succ, List.replicate_zero, List.getElem?_cons_zero, List.getElem?_cons_succ, List.set_cons_zero, List.set_cons_succ, Option.some.injEq, V.int.injEq, V.bl.injEq, V.ref.injEq, V.str.injEq, V.ty.injEq, List.cons.injEq, HO.tup.injEq, HO.lst.injEq, and_true, true_and, and_assoc, exists_eq_left, exists_eq_left', exists_and_left, exists_eq', atI0, atI1, atI2, atI3, Int.cast_ofNat_Int, Int.reduceToNat, scal_ii, scal_in, scal_ni, scal_nn, scal_bb, scal_ss, scal_sn, scal_ns, scal_bn, scal_nb, ite_iff, decide_eq_true_eq, decide_eq_false_iff_not, Bool.not_eq_true', Classical.not_not, ne_eq, not_false_eq_true, not_true_eq_false, forall_const, true_implies, false_implies, imp_self, sizeLine_eq, Nat.reduceLeDiff, reduceCtorEq, decide_true, decide_false])
section
variable {P : Program} {w : World} {K : PySem.W.Frag} {mg : Str → Option Value} {base : Heap}
theorem txt_mk {h : Heap} (X : K.In h) (G : h.Ns mainGlobals mg) {f_is_whole f_is_from f_require_whole f_require_from f_greatest_divisor f_least_multiple f_weighed_divisor f_remainder_of f_both_remainders f__require_remainder f__law_draw f__law_number f__law_divisor f__law_line_right f__law_both_right f__law_heard f__law_odd_right f_law c__law_odd_right P__law_odd_right C_BadNumber N_BadNumber fi_BadNumber C_BadPart N_BadPart fi_BadPart C_PlaneError : Addr} {od_is_whole an_is_whole od_is_from an_is_from od_require_whole an_require_whole od_require_from an_require_from od_greatest_divisor an_greatest_divisor od_least_multiple an_least_multiple od_weighed_divisor an_weighed_divisor od_remainder_of an_remainder_of od_both_remainders an_both_remainders od__require_remainder an__require_remainder od__law_draw an__law_draw od__law_number an__law_number od__law_divisor an__law_divisor od__law_line_right an__law_line_right od__law_both_right an__law_both_right od__law_heard an__law_heard od__law_odd_right an__law_odd_right od_law an_law : Option Addr} {sl_is_whole sl_is_from sl_require_whole sl_require_from sl_greatest_divisor sl_least_multiple sl_weighed_divisor sl_remainder_of sl_both_remainders sl__require_remainder sl__law_draw sl__law_number sl__law_divisor sl__law_line_right sl__law_both_right sl__law_heard sl__law_odd_right sl_law : Array (Option Value)} {oc_is_whole kV_is_whole dc_is_whole pm_is_whole ct_is_whole oc_is_from kV_is_from dc_is_from pm_is_from ct_is_from oc_require_whole kV_require_whole dc_require_whole pm_require_whole ct_require_whole oc_require_from kV_require_from dc_require_from pm_require_from ct_require_from oc_greatest_divisor kV_greatest_divisor dc_greatest_divisor pm_greatest_divisor ct_greatest_divisor oc_least_multiple kV_least_multiple dc_least_multiple pm_least_multiple ct_least_multiple oc_weighed_divisor kV_weighed_divisor dc_weighed_divisor pm_weighed_divisor ct_weighed_divisor oc_remainder_of kV_remainder_of dc_remainder_of pm_remainder_of ct_remainder_of oc_both_remainders kV_both_remainders dc_both_remainders pm_both_remainders ct_both_remainders oc__require_remainder kV__require_remainder dc__require_remainder pm__require_remainder ct__require_remainder oc__law_draw kV__law_draw dc__law_draw pm__law_draw ct__law_draw oc__law_number kV__law_number dc__law_number pm__law_number ct__law_number oc__law_divisor kV__law_divisor dc__law_divisor pm__law_divisor ct__law_divisor oc__law_line_right kV__law_line_right dc__law_line_right pm__law_line_right ct__law_line_right oc__law_both_right kV__law_both_right dc__law_both_right pm__law_both_right ct__law_both_right oc__law_heard kV__law_heard dc__law_heard pm__law_heard ct__law_heard oc__law_odd_right kV__law_odd_right dc__law_odd_right pm__law_odd_right ct__law_odd_right oc_law kV_law dc_law pm_law ct_law cd_is_whole cd_is_from cd_require_whole cd_require_from cd_greatest_divisor cd_least_multiple cd_weighed_divisor cd_remainder_of cd_both_remainders cd__require_remainder cd__law_draw cd__law_number cd__law_divisor cd__law_line_right cd__law_both_right cd__law_heard cd_law : Value} {dd_BadNumber odx_BadNumber anx_BadNumber dd_BadPart odx_BadPart anx_BadPart : Option Addr} {nm_BadNumber q_BadNumber nm_BadPart q_BadPart : Str} {bs_BadNumber bm_BadNumber sub_BadNumber bs_BadPart bm_BadPart sub_BadPart : List Value} {sn_BadNumber sn_BadPart : List Str} {ab_BadNumber ab_BadPart : Bool} {col_BadNumber col_BadPart : Option Bool} {m0_BadNumber m1_BadNumber m2_BadNumber m3_BadNumber m5_BadNumber m0_BadPart m1_BadPart m2_BadPart m3_BadPart m5_BadPart : Option Value} {ocx_BadNumber kVx_BadNumber dcx_BadNumber pmx_BadNumber cdx_BadNumber ctx_BadNumber ocx_BadPart kVx_BadPart dcx_BadPart pmx_BadPart cdx_BadPart ctx_BadPart : Value} {slx_BadNumber slx_BadPart : Array (Option Value)}
    (a_is_whole : PySem.W.nsIn K mainGlobals "is_whole" = some (some (.ref f_is_whole)))
    (l_is_whole : K.lookup f_is_whole = some ⟨oc_is_whole, od_is_whole, .func (PySem.W.fnOf "is_whole" "is_whole" (defArgs s_is_whole) (defBody s_is_whole) (defScope s_is_whole) .none kV_is_whole dc_is_whole pm_is_whole an_is_whole cd_is_whole ct_is_whole), sl_is_whole⟩)
    (d_is_whole : PySem.W.codeIn K cd_is_whole "is_whole" = true)
    (k_is_whole : PySem.W.keepIn K (.ref f_is_whole) = true)
    (a_is_from : PySem.W.nsIn K mainGlobals "is_from" = some (some (.ref f_is_from)))
    (l_is_from : K.lookup f_is_from = some ⟨oc_is_from, od_is_from, .func (PySem.W.fnOf "is_from" "is_from" (defArgs s_is_from) (defBody s_is_from) (defScope s_is_from) .none kV_is_from dc_is_from pm_is_from an_is_from cd_is_from ct_is_from), sl_is_from⟩)
    (d_is_from : PySem.W.codeIn K cd_is_from "is_from" = true)
    (k_is_from : PySem.W.keepIn K (.ref f_is_from) = true)
    (a_require_whole : PySem.W.nsIn K mainGlobals "require_whole" = some (some (.ref f_require_whole)))
    (l_require_whole : K.lookup f_require_whole = some ⟨oc_require_whole, od_require_whole, .func (PySem.W.fnOf "require_whole" "require_whole" (defArgs s_require_whole) (defBody s_require_whole) (defScope s_require_whole) .none kV_require_whole dc_require_whole pm_require_whole an_require_whole cd_require_whole ct_require_whole), sl_require_whole⟩)
    (d_require_whole : PySem.W.codeIn K cd_require_whole "require_whole" = true)
    (k_require_whole : PySem.W.keepIn K (.ref f_require_whole) = true)
    (a_require_from : PySem.W.nsIn K mainGlobals "require_from" = some (some (.ref f_require_from)))
    (l_require_from : K.lookup f_require_from = some ⟨oc_require_from, od_require_from, .func (PySem.W.fnOf "require_from" "require_from" (defArgs s_require_from) (defBody s_require_from) (defScope s_require_from) .none kV_require_from dc_require_from pm_require_from an_require_from cd_require_from ct_require_from), sl_require_from⟩)
    (d_require_from : PySem.W.codeIn K cd_require_from "require_from" = true)
    (k_require_from : PySem.W.keepIn K (.ref f_require_from) = true)
    (a_greatest_divisor : PySem.W.nsIn K mainGlobals "greatest_divisor" = some (some (.ref f_greatest_divisor)))
    (l_greatest_divisor : K.lookup f_greatest_divisor = some ⟨oc_greatest_divisor, od_greatest_divisor, .func (PySem.W.fnOf "greatest_divisor" "greatest_divisor" (defArgs s_greatest_divisor) (defBody s_greatest_divisor) (defScope s_greatest_divisor) .none kV_greatest_divisor dc_greatest_divisor pm_greatest_divisor an_greatest_divisor cd_greatest_divisor ct_greatest_divisor), sl_greatest_divisor⟩)
    (d_greatest_divisor : PySem.W.codeIn K cd_greatest_divisor "greatest_divisor" = true)
    (k_greatest_divisor : PySem.W.keepIn K (.ref f_greatest_divisor) = true)
    (a_least_multiple : PySem.W.nsIn K mainGlobals "least_multiple" = some (some (.ref f_least_multiple)))
    (l_least_multiple : K.lookup f_least_multiple = some ⟨oc_least_multiple, od_least_multiple, .func (PySem.W.fnOf "least_multiple" "least_multiple" (defArgs s_least_multiple) (defBody s_least_multiple) (defScope s_least_multiple) .none kV_least_multiple dc_least_multiple pm_least_multiple an_least_multiple cd_least_multiple ct_least_multiple), sl_least_multiple⟩)
    (d_least_multiple : PySem.W.codeIn K cd_least_multiple "least_multiple" = true)
    (k_least_multiple : PySem.W.keepIn K (.ref f_least_multiple) = true)
    (a_weighed_divisor : PySem.W.nsIn K mainGlobals "weighed_divisor" = some (some (.ref f_weighed_divisor)))
    (l_weighed_divisor : K.lookup f_weighed_divisor = some ⟨oc_weighed_divisor, od_weighed_divisor, .func (PySem.W.fnOf "weighed_divisor" "weighed_divisor" (defArgs s_weighed_divisor) (defBody s_weighed_divisor) (defScope s_weighed_divisor) .none kV_weighed_divisor dc_weighed_divisor pm_weighed_divisor an_weighed_divisor cd_weighed_divisor ct_weighed_divisor), sl_weighed_divisor⟩)
    (d_weighed_divisor : PySem.W.codeIn K cd_weighed_divisor "weighed_divisor" = true)
    (k_weighed_divisor : PySem.W.keepIn K (.ref f_weighed_divisor) = true)
    (a_remainder_of : PySem.W.nsIn K mainGlobals "remainder_of" = some (some (.ref f_remainder_of)))
    (l_remainder_of : K.lookup f_remainder_of = some ⟨oc_remainder_of, od_remainder_of, .func (PySem.W.fnOf "remainder_of" "remainder_of" (defArgs s_remainder_of) (defBody s_remainder_of) (defScope s_remainder_of) .none kV_remainder_of dc_remainder_of pm_remainder_of an_remainder_of cd_remainder_of ct_remainder_of), sl_remainder_of⟩)
    (d_remainder_of : PySem.W.codeIn K cd_remainder_of "remainder_of" = true)
    (k_remainder_of : PySem.W.keepIn K (.ref f_remainder_of) = true)
    (a_both_remainders : PySem.W.nsIn K mainGlobals "both_remainders" = some (some (.ref f_both_remainders)))
    (l_both_remainders : K.lookup f_both_remainders = some ⟨oc_both_remainders, od_both_remainders, .func (PySem.W.fnOf "both_remainders" "both_remainders" (defArgs s_both_remainders) (defBody s_both_remainders) (defScope s_both_remainders) .none kV_both_remainders dc_both_remainders pm_both_remainders an_both_remainders cd_both_remainders ct_both_remainders), sl_both_remainders⟩)
    (d_both_remainders : PySem.W.codeIn K cd_both_remainders "both_remainders" = true)
    (k_both_remainders : PySem.W.keepIn K (.ref f_both_remainders) = true)
    (a__require_remainder : PySem.W.nsIn K mainGlobals "_require_remainder" = some (some (.ref f__require_remainder)))
    (l__require_remainder : K.lookup f__require_remainder = some ⟨oc__require_remainder, od__require_remainder, .func (PySem.W.fnOf "_require_remainder" "_require_remainder" (defArgs s__require_remainder) (defBody s__require_remainder) (defScope s__require_remainder) .none kV__require_remainder dc__require_remainder pm__require_remainder an__require_remainder cd__require_remainder ct__require_remainder), sl__require_remainder⟩)
    (d__require_remainder : PySem.W.codeIn K cd__require_remainder "_require_remainder" = true)
    (k__require_remainder : PySem.W.keepIn K (.ref f__require_remainder) = true)
    (a__law_draw : PySem.W.nsIn K mainGlobals "_law_draw" = some (some (.ref f__law_draw)))
    (l__law_draw : K.lookup f__law_draw = some ⟨oc__law_draw, od__law_draw, .func (PySem.W.fnOf "_law_draw" "_law_draw" (defArgs s__law_draw) (defBody s__law_draw) (defScope s__law_draw) .none kV__law_draw dc__law_draw pm__law_draw an__law_draw cd__law_draw ct__law_draw), sl__law_draw⟩)
    (d__law_draw : PySem.W.codeIn K cd__law_draw "_law_draw" = true)
    (k__law_draw : PySem.W.keepIn K (.ref f__law_draw) = true)
    (a__law_number : PySem.W.nsIn K mainGlobals "_law_number" = some (some (.ref f__law_number)))
    (l__law_number : K.lookup f__law_number = some ⟨oc__law_number, od__law_number, .func (PySem.W.fnOf "_law_number" "_law_number" (defArgs s__law_number) (defBody s__law_number) (defScope s__law_number) .none kV__law_number dc__law_number pm__law_number an__law_number cd__law_number ct__law_number), sl__law_number⟩)
    (d__law_number : PySem.W.codeIn K cd__law_number "_law_number" = true)
    (k__law_number : PySem.W.keepIn K (.ref f__law_number) = true)
    (a__law_divisor : PySem.W.nsIn K mainGlobals "_law_divisor" = some (some (.ref f__law_divisor)))
    (l__law_divisor : K.lookup f__law_divisor = some ⟨oc__law_divisor, od__law_divisor, .func (PySem.W.fnOf "_law_divisor" "_law_divisor" (defArgs s__law_divisor) (defBody s__law_divisor) (defScope s__law_divisor) .none kV__law_divisor dc__law_divisor pm__law_divisor an__law_divisor cd__law_divisor ct__law_divisor), sl__law_divisor⟩)
    (d__law_divisor : PySem.W.codeIn K cd__law_divisor "_law_divisor" = true)
    (k__law_divisor : PySem.W.keepIn K (.ref f__law_divisor) = true)
    (a__law_line_right : PySem.W.nsIn K mainGlobals "_law_line_right" = some (some (.ref f__law_line_right)))
    (l__law_line_right : K.lookup f__law_line_right = some ⟨oc__law_line_right, od__law_line_right, .func (PySem.W.fnOf "_law_line_right" "_law_line_right" (defArgs s__law_line_right) (defBody s__law_line_right) (defScope s__law_line_right) .none kV__law_line_right dc__law_line_right pm__law_line_right an__law_line_right cd__law_line_right ct__law_line_right), sl__law_line_right⟩)
    (d__law_line_right : PySem.W.codeIn K cd__law_line_right "_law_line_right" = true)
    (k__law_line_right : PySem.W.keepIn K (.ref f__law_line_right) = true)
    (a__law_both_right : PySem.W.nsIn K mainGlobals "_law_both_right" = some (some (.ref f__law_both_right)))
    (l__law_both_right : K.lookup f__law_both_right = some ⟨oc__law_both_right, od__law_both_right, .func (PySem.W.fnOf "_law_both_right" "_law_both_right" (defArgs s__law_both_right) (defBody s__law_both_right) (defScope s__law_both_right) .none kV__law_both_right dc__law_both_right pm__law_both_right an__law_both_right cd__law_both_right ct__law_both_right), sl__law_both_right⟩)
    (d__law_both_right : PySem.W.codeIn K cd__law_both_right "_law_both_right" = true)
    (k__law_both_right : PySem.W.keepIn K (.ref f__law_both_right) = true)
    (a__law_heard : PySem.W.nsIn K mainGlobals "_law_heard" = some (some (.ref f__law_heard)))
    (l__law_heard : K.lookup f__law_heard = some ⟨oc__law_heard, od__law_heard, .func (PySem.W.fnOf "_law_heard" "_law_heard" (defArgs s__law_heard) (defBody s__law_heard) (defScope s__law_heard) .none kV__law_heard dc__law_heard pm__law_heard an__law_heard cd__law_heard ct__law_heard), sl__law_heard⟩)
    (d__law_heard : PySem.W.codeIn K cd__law_heard "_law_heard" = true)
    (k__law_heard : PySem.W.keepIn K (.ref f__law_heard) = true)
    (a__law_odd_right : PySem.W.nsIn K mainGlobals "_law_odd_right" = some (some (.ref f__law_odd_right)))
    (l__law_odd_right : K.lookup f__law_odd_right = some ⟨oc__law_odd_right, od__law_odd_right, .func (PySem.W.fnOf "_law_odd_right" "_law_odd_right" (defArgs s__law_odd_right) (defBody s__law_odd_right) (defScope s__law_odd_right) .none kV__law_odd_right dc__law_odd_right pm__law_odd_right an__law_odd_right (.ref c__law_odd_right) ct__law_odd_right), sl__law_odd_right⟩)
    (d__law_odd_right : PySem.W.codeIn K (.ref c__law_odd_right) "_law_odd_right" = true)
    (k__law_odd_right : PySem.W.keepIn K (.ref f__law_odd_right) = true)
    (t__law_odd_right : PySem.W.tabIn K "_law_odd_right" = some (c__law_odd_right, P__law_odd_right))
    (a_law : PySem.W.nsIn K mainGlobals "law" = some (some (.ref f_law)))
    (l_law : K.lookup f_law = some ⟨oc_law, od_law, .func (PySem.W.fnOf "law" "law" (defArgs s_law) (defBody s_law) (defScope s_law) .none kV_law dc_law pm_law an_law cd_law ct_law), sl_law⟩)
    (d_law : PySem.W.codeIn K cd_law "law" = true)
    (k_law : PySem.W.keepIn K (.ref f_law) = true)
    (xa_BadNumber : PySem.W.nsIn K mainGlobals "BadNumber" = some (some (.ref C_BadNumber)))
    (xl_BadNumber : K.lookup C_BadNumber = some (excClassObj nm_BadNumber q_BadNumber C_BadNumber N_BadNumber bs_BadNumber bm_BadNumber true sn_BadNumber sub_BadNumber ab_BadNumber col_BadNumber dd_BadNumber m0_BadNumber m1_BadNumber m2_BadNumber m3_BadNumber m5_BadNumber "ValueError.__new__"))
    (xr_BadNumber : PySem.HandSPX.refsVE bm_BadNumber = true)
    (xs_BadNumber : PySem.W.findIn K (.ref C_BadNumber) "__setattr__" = some (some (.builtin "object.__setattr__")))
    (xe_BadNumber : PySem.W.subIn K (.ref C_BadNumber) (.type "BaseException") = some true)
    (xt_BadNumber : PySem.W.typeIn K (.ref C_BadNumber) = some (.type "type"))
    (xk_BadNumber : PySem.W.keepIn K (.ref C_BadNumber) = true)
    (xg_BadNumber : PySem.W.findIn K (.ref C_BadNumber) "__getattribute__" = some (some (.builtin "BaseException.__getattribute__")))
    (xG_BadNumber : PySem.W.findIn K (.ref C_BadNumber) "__getattr__" = some none)
    (xd_BadNumber : PySem.W.hasDictIn K C_BadNumber = true)
    (xn_BadNumber : PySem.W.findIn K (.ref C_BadNumber) "number" = some none)
    (xi_BadNumber : PySem.W.findIn K (.ref C_BadNumber) "__init__" = some (some (.ref fi_BadNumber)))
    (xf_BadNumber : PySem.W.typeIn K (.ref fi_BadNumber) = some (.type "function"))
    (xL_BadNumber : K.lookup fi_BadNumber = some ⟨ocx_BadNumber, odx_BadNumber, .func (PySem.W.fnOf "__init__" "BadNumber.__init__" (defArgs s_BadNumber___init__) (defBody s_BadNumber___init__) (defScope s_BadNumber___init__) .none kVx_BadNumber dcx_BadNumber pmx_BadNumber anx_BadNumber cdx_BadNumber ctx_BadNumber), slx_BadNumber⟩)
    (xc_BadNumber : PySem.W.codeIn K cdx_BadNumber "BadNumber.__init__" = true)
    (xK_BadNumber : PySem.W.keepIn K (.ref fi_BadNumber) = true)
    (yc_BadNumber : (PySem.W.clsIn K C_BadNumber).isSome = true)
    (ya_BadNumber : PySem.W.findIn K (.ref C_BadNumber) "__class__" = some (some (.builtin "object.__class__")))
    (ym_BadNumber : PySem.W.mroIn K C_BadNumber (.type "object") = some true)
    (xa_BadPart : PySem.W.nsIn K mainGlobals "BadPart" = some (some (.ref C_BadPart)))
    (xl_BadPart : K.lookup C_BadPart = some (excClassObj nm_BadPart q_BadPart C_BadPart N_BadPart bs_BadPart bm_BadPart true sn_BadPart sub_BadPart ab_BadPart col_BadPart dd_BadPart m0_BadPart m1_BadPart m2_BadPart m3_BadPart m5_BadPart "ValueError.__new__"))
    (xr_BadPart : PySem.HandSPX.refsVE bm_BadPart = true)
    (xs_BadPart : PySem.W.findIn K (.ref C_BadPart) "__setattr__" = some (some (.builtin "object.__setattr__")))
    (xe_BadPart : PySem.W.subIn K (.ref C_BadPart) (.type "BaseException") = some true)
    (xt_BadPart : PySem.W.typeIn K (.ref C_BadPart) = some (.type "type"))
    (xk_BadPart : PySem.W.keepIn K (.ref C_BadPart) = true)
    (xg_BadPart : PySem.W.findIn K (.ref C_BadPart) "__getattribute__" = some (some (.builtin "BaseException.__getattribute__")))
    (xG_BadPart : PySem.W.findIn K (.ref C_BadPart) "__getattr__" = some none)
    (xd_BadPart : PySem.W.hasDictIn K C_BadPart = true)
    (xn_BadPart : PySem.W.findIn K (.ref C_BadPart) "part" = some none)
    (xi_BadPart : PySem.W.findIn K (.ref C_BadPart) "__init__" = some (some (.ref fi_BadPart)))
    (xf_BadPart : PySem.W.typeIn K (.ref fi_BadPart) = some (.type "function"))
    (xL_BadPart : K.lookup fi_BadPart = some ⟨ocx_BadPart, odx_BadPart, .func (PySem.W.fnOf "__init__" "BadPart.__init__" (defArgs s_BadPart___init__) (defBody s_BadPart___init__) (defScope s_BadPart___init__) .none kVx_BadPart dcx_BadPart pmx_BadPart anx_BadPart cdx_BadPart ctx_BadPart), slx_BadPart⟩)
    (xc_BadPart : PySem.W.codeIn K cdx_BadPart "BadPart.__init__" = true)
    (xK_BadPart : PySem.W.keepIn K (.ref fi_BadPart) = true)
    (yc_BadPart : (PySem.W.clsIn K C_BadPart).isSome = true)
    (ya_BadPart : PySem.W.findIn K (.ref C_BadPart) "__class__" = some (some (.builtin "object.__class__")))
    (ym_BadPart : PySem.W.mroIn K C_BadPart (.type "object") = some true)
    (yn : PySem.W.specialIn K (.builtin "object.__class__") "__get__" = some (some (.builtin "getset_descriptor.__get__")))
    (yt : PySem.W.takesIn K (.builtin "object.__class__") = some true)
    (xa_PlaneError : PySem.W.nsIn K mainGlobals "PlaneError" = some (some (.ref C_PlaneError)))
    (eN : PySem.W.exmOne K (.ref C_BadNumber) (.ref C_PlaneError) = some true)
    (eP : PySem.W.exmOne K (.ref C_BadPart) (.ref C_PlaneError) = some true)
    (kNN : PySem.W.kitOne K (.ref C_BadNumber) (.ref C_BadNumber) = some true)
    (kPN : PySem.W.kitOne K (.ref C_BadPart) (.ref C_BadNumber) = some false)
    (kPP : PySem.W.kitOne K (.ref C_BadPart) (.ref C_BadPart) = some true)
    (z_isinstance : PySem.W.nsIn K mainGlobals "isinstance" = some none)
    (z_int : PySem.W.nsIn K mainGlobals "int" = some none)
    (z_bool : PySem.W.nsIn K mainGlobals "bool" = some none)
    (z_tuple : PySem.W.nsIn K mainGlobals "tuple" = some none)
    (z_len : PySem.W.nsIn K mainGlobals "len" = some none)
    (z_abs : PySem.W.nsIn K mainGlobals "abs" = some none)
    (z_list : PySem.W.nsIn K mainGlobals "list" = some none)
    (z_range : PySem.W.nsIn K mainGlobals "range" = some none)
    (z_repr : PySem.W.nsIn K mainGlobals "repr" = some none) : Txt K mg :=
  { d_is_whole := ⟨_, _, PySem.W.mg_of X G a_is_whole, fun_mk (st := s_is_whole) l_is_whole d_is_whole k_is_whole⟩,
    d_is_from := ⟨_, _, PySem.W.mg_of X G a_is_from, fun_mk (st := s_is_from) l_is_from d_is_from k_is_from⟩,
    d_require_whole := ⟨_, _, PySem.W.mg_of X G a_require_whole, fun_mk (st := s_require_whole) l_require_whole d_require_whole k_require_whole⟩,
    d_require_from := ⟨_, _, PySem.W.mg_of X G a_require_from, fun_mk (st := s_require_from) l_require_from d_require_from k_require_from⟩,
    d_greatest_divisor := ⟨_, _, PySem.W.mg_of X G a_greatest_divisor, fun_mk (st := s_greatest_divisor) l_greatest_divisor d_greatest_divisor k_greatest_divisor⟩,
    d_least_multiple := ⟨_, _, PySem.W.mg_of X G a_least_multiple, fun_mk (st := s_least_multiple) l_least_multiple d_least_multiple k_least_multiple⟩,
    d_weighed_divisor := ⟨_, _, PySem.W.mg_of X G a_weighed_divisor, fun_mk (st := s_weighed_divisor) l_weighed_divisor d_weighed_divisor k_weighed_divisor⟩,
    d_remainder_of := ⟨_, _, PySem.W.mg_of X G a_remainder_of, fun_mk (st := s_remainder_of) l_remainder_of d_remainder_of k_remainder_of⟩,
    d_both_remainders := ⟨_, _, PySem.W.mg_of X G a_both_remainders, fun_mk (st := s_both_remainders) l_both_remainders d_both_remainders k_both_remainders⟩,
    d__require_remainder := ⟨_, _, PySem.W.mg_of X G a__require_remainder, fun_mk (st := s__require_remainder) l__require_remainder d__require_remainder k__require_remainder⟩,
    d__law_draw := ⟨_, _, PySem.W.mg_of X G a__law_draw, fun_mk (st := s__law_draw) l__law_draw d__law_draw k__law_draw⟩,
    d__law_number := ⟨_, _, PySem.W.mg_of X G a__law_number, fun_mk (st := s__law_number) l__law_number d__law_number k__law_number⟩,
    d__law_divisor := ⟨_, _, PySem.W.mg_of X G a__law_divisor, fun_mk (st := s__law_divisor) l__law_divisor d__law_divisor k__law_divisor⟩,
    d__law_line_right := ⟨_, _, PySem.W.mg_of X G a__law_line_right, fun_mk (st := s__law_line_right) l__law_line_right d__law_line_right k__law_line_right⟩,
    d__law_both_right := ⟨_, _, PySem.W.mg_of X G a__law_both_right, fun_mk (st := s__law_both_right) l__law_both_right d__law_both_right k__law_both_right⟩,
    d__law_heard := ⟨_, _, PySem.W.mg_of X G a__law_heard, fun_mk (st := s__law_heard) l__law_heard d__law_heard k__law_heard⟩,
    lam__law_odd_right := lamf_mk X G a__law_odd_right l__law_odd_right d__law_odd_right k__law_odd_right t__law_odd_right,
    d_law := ⟨_, _, PySem.W.mg_of X G a_law, fun_mk (st := s_law) l_law d_law k_law⟩,
    x_BadNumber := ext_mk (st := s_BadNumber___init__) X G xa_BadNumber xl_BadNumber xr_BadNumber xs_BadNumber xe_BadNumber xt_BadNumber xk_BadNumber xg_BadNumber xG_BadNumber xd_BadNumber xn_BadNumber xi_BadNumber xf_BadNumber xL_BadNumber xc_BadNumber xK_BadNumber sc_BadNumber___init__ rfl (fun _ _ _ _ _ _ us hl => match us, hl with | [_, _], _ => rfl),
    x_BadPart := ext_mk (st := s_BadPart___init__) X G xa_BadPart xl_BadPart xr_BadPart xs_BadPart xe_BadPart xt_BadPart xk_BadPart xg_BadPart xG_BadPart xd_BadPart xn_BadPart xi_BadPart xf_BadPart xL_BadPart xc_BadPart xK_BadPart sc_BadPart___init__ rfl (fun _ _ _ _ _ _ us hl => match us, hl with | [_, _], _ => rfl),
    pe := by rw [ga_of xa_PlaneError]; exact PySem.W.mg_of X G xa_PlaneError,
    mN := by rw [ga_of xa_BadNumber, ga_of xa_PlaneError]; exact eN,
    mP := by rw [ga_of xa_BadPart, ga_of xa_PlaneError]; exact eP,
    iN := exi_mk xa_BadNumber yc_BadNumber ya_BadNumber yn yt ym_BadNumber,
    iP := exi_mk xa_BadPart yc_BadPart ya_BadPart yn yt ym_BadPart,
    kNN := by rw [ga_of xa_BadNumber]; exact kNN,
    kPN := by rw [ga_of xa_BadPart, ga_of xa_BadNumber]; exact kPN,
    kPP := by rw [ga_of xa_BadPart]; exact kPP,
    m_isinstance := PySem.W.mg_none_of X G z_isinstance,
    m_int := PySem.W.mg_none_of X G z_int,
    m_bool := PySem.W.mg_none_of X G z_bool,
    m_tuple := PySem.W.mg_none_of X G z_tuple,
    m_len := PySem.W.mg_none_of X G z_len,
    m_abs := PySem.W.mg_none_of X G z_abs,
    m_list := PySem.W.mg_none_of X G z_list,
    m_range := PySem.W.mg_none_of X G z_range,
    m_repr := PySem.W.mg_none_of X G z_repr }
open LamX
theorem law_at {l : PySem.W.OpenLaw} {h : Heap} {fa c P0 : Addr} (X : K.In h) (hmg : mg "law" = some (.ref fa)) (T : Txt K mg) (ht : PySem.W.tabIn K "_law_odd_right" = some (c, P0)) (hc : PySem.W.codeHdIn K c P0 = true) (hP : h.get? P0 = some (PySem.W.tabObj #[])) (hn : K.lookup P0 = none) :
    LawAtS l w K (L2.CX l.prog w) 11 63 "_law_script" mg fa h := by
  obtain ⟨f, fd, g, F⟩ := T.d_law
  have e : f = fa := by
    have h1 : some (Value.ref f) = some (Value.ref fa) := g.symm.trans hmg
    injection h1 with h2
    injection h2
  subst e
  have e1 : cOf K "_law_odd_right" = c := by unfold cOf; rw [ht]; rfl
  have e2 : pOf K "_law_odd_right" = P0 := by unfold pOf; rw [ht]; rfl
  refine ⟨fd, [(c, P0)], spLaw K, ?_, ?_, ?_, ?_, ?_, ?_⟩
  · intro p hp; rw [List.mem_singleton.mp hp]; exact hP
  · intro p hp; rw [List.mem_singleton.mp hp]; exact hn
  · intro p hp; rw [List.mem_singleton.mp hp]; exact PySem.W.codeHd_of_K X hc
  · intro s u
    obtain ⟨oc, od, kV, doc, pm, an, cdv, ct, osl, rfl, _⟩ := F.ex
    exact .of_eq rfl
  · intro H a ns hl _ hT hS
    refine ⟨a, rfl, ns, hS, hl, ?_, fun _ => rfl⟩
    intro p hp
    rw [List.mem_singleton.mp hp, e2]
    exact TabS.nil (hT _ (List.mem_singleton.mpr rfl))
  · intro base kb nb hTB
    refine o_law T ?_ F
    rw [e1, e2]
    exact hTB _ (List.mem_singleton.mpr rfl)
end
end Iz
/-! k07_end -/
set_option Elab.async false
set_option linter.all false
open PySem PySem.W PyProof.Rows
set_option maxRecDepth 100000 in
set_option maxHeartbeats 0 in
theorem PySem.Challenge.cw_endlessplane_k07_whole_remainders_met_holds : PySem.Challenge.rw_endlessplane_k07_whole_remainders_met.Holds := by
  w_on; o_law; k_head; (case hw => w_witness2)
  k_fill
  refine LamX.walk_ofTs (l := PySem.Challenge.rw_endlessplane_k07_whole_remainders_met) (n := 63) (k := 11) (x := "_law_script") (CX := fun w => L2.CX PySem.Challenge.rw_endlessplane_k07_whole_remainders_met.prog w) rfl (by decide) rfl ⟨rfl, by decide, by decide⟩ (fun w h Y => PySem.W.km_in_of Y) ?F ?X
  case X =>
    intro w H s e s' hx
    obtain ⟨_, _, _, _, _, _, _, _, _, _, _, _, z⟩ := hx
    exact z.elim
  case F =>
    intro w mg fa h Y KX G hmg
    refine' Iz.law_at KX hmg (Iz.txt_mk KX G ?a_is_whole ?l_is_whole ?d_is_whole ?k_is_whole ?a_is_from ?l_is_from ?d_is_from ?k_is_from ?a_require_whole ?l_require_whole ?d_require_whole ?k_require_whole ?a_require_from ?l_require_from ?d_require_from ?k_require_from ?a_greatest_divisor ?l_greatest_divisor ?d_greatest_divisor ?k_greatest_divisor ?a_least_multiple ?l_least_multiple ?d_least_multiple ?k_least_multiple ?a_weighed_divisor ?l_weighed_divisor ?d_weighed_divisor ?k_weighed_divisor ?a_remainder_of ?l_remainder_of ?d_remainder_of ?k_remainder_of ?a_both_remainders ?l_both_remainders ?d_both_remainders ?k_both_remainders ?a__require_remainder ?l__require_remainder ?d__require_remainder ?k__require_remainder ?a__law_draw ?l__law_draw ?d__law_draw ?k__law_draw ?a__law_number ?l__law_number ?d__law_number ?k__law_number ?a__law_divisor ?l__law_divisor ?d__law_divisor ?k__law_divisor ?a__law_line_right ?l__law_line_right ?d__law_line_right ?k__law_line_right ?a__law_both_right ?l__law_both_right ?d__law_both_right ?k__law_both_right ?a__law_heard ?l__law_heard ?d__law_heard ?k__law_heard ?a__law_odd_right ?l__law_odd_right ?d__law_odd_right ?k__law_odd_right ?t__law_odd_right ?a_law ?l_law ?d_law ?k_law ?xa_BadNumber ?xl_BadNumber ?xr_BadNumber ?xs_BadNumber ?xe_BadNumber ?xt_BadNumber ?xk_BadNumber ?xg_BadNumber ?xG_BadNumber ?xd_BadNumber ?xn_BadNumber ?xi_BadNumber ?xf_BadNumber ?xL_BadNumber ?xc_BadNumber ?xK_BadNumber ?yc_BadNumber ?ya_BadNumber ?ym_BadNumber ?xa_BadPart ?xl_BadPart ?xr_BadPart ?xs_BadPart ?xe_BadPart ?xt_BadPart ?xk_BadPart ?xg_BadPart ?xG_BadPart ?xd_BadPart ?xn_BadPart ?xi_BadPart ?xf_BadPart ?xL_BadPart ?xc_BadPart ?xK_BadPart ?yc_BadPart ?ya_BadPart ?ym_BadPart ?yn ?yt ?xa_PlaneError ?eN ?eP ?kNN ?kPN ?kPP ?z_isinstance ?z_int ?z_bool ?z_tuple ?z_len ?z_abs ?z_list ?z_range ?z_repr) ?T1 ?T2 (PySem.W.km_tabs_of Y _ ?T3) ?T4
    (case a_is_whole => k_is)
    (case l_is_whole => k_is)
    (case d_is_whole => k_is)
    (case k_is_whole => k_is)
    (case a_is_from => k_is)
    (case l_is_from => k_is)
    (case d_is_from => k_is)
    (case k_is_from => k_is)
    (case a_require_whole => k_is)
    (case l_require_whole => k_is)
    (case d_require_whole => k_is)
    (case k_require_whole => k_is)
    (case a_require_from => k_is)
    (case l_require_from => k_is)
    (case d_require_from => k_is)
    (case k_require_from => k_is)
    (case a_greatest_divisor => k_is)
    (case l_greatest_divisor => k_is)
    (case d_greatest_divisor => k_is)
    (case k_greatest_divisor => k_is)
    (case a_least_multiple => k_is)
    (case l_least_multiple => k_is)
    (case d_least_multiple => k_is)
    (case k_least_multiple => k_is)
    (case a_weighed_divisor => k_is)
    (case l_weighed_divisor => k_is)
    (case d_weighed_divisor => k_is)
    (case k_weighed_divisor => k_is)
    (case a_remainder_of => k_is)
    (case l_remainder_of => k_is)
    (case d_remainder_of => k_is)
    (case k_remainder_of => k_is)
    (case a_both_remainders => k_is)
    (case l_both_remainders => k_is)
    (case d_both_remainders => k_is)
    (case k_both_remainders => k_is)
    (case a__require_remainder => k_is)
    (case l__require_remainder => k_is)
    (case d__require_remainder => k_is)
    (case k__require_remainder => k_is)
    (case a__law_draw => k_is)
    (case l__law_draw => k_is)
    (case d__law_draw => k_is)
    (case k__law_draw => k_is)
    (case a__law_number => k_is)
    (case l__law_number => k_is)
    (case d__law_number => k_is)
    (case k__law_number => k_is)
    (case a__law_divisor => k_is)
    (case l__law_divisor => k_is)
    (case d__law_divisor => k_is)
    (case k__law_divisor => k_is)
    (case a__law_line_right => k_is)
    (case l__law_line_right => k_is)
    (case d__law_line_right => k_is)
    (case k__law_line_right => k_is)
    (case a__law_both_right => k_is)
    (case l__law_both_right => k_is)
    (case d__law_both_right => k_is)
    (case k__law_both_right => k_is)
    (case a__law_heard => k_is)
    (case l__law_heard => k_is)
    (case d__law_heard => k_is)
    (case k__law_heard => k_is)
    (case a__law_odd_right => k_is)
    (case l__law_odd_right => k_is)
    (case d__law_odd_right => k_is)
    (case k__law_odd_right => k_is)
    (case t__law_odd_right => first | rfl | (with_unfolding_all rfl) | kernel_rfl | k_is)
    (case a_law => k_is)
    (case l_law => k_is)
    (case d_law => k_is)
    (case k_law => k_is)
    (case xa_BadNumber => k_is)
    (case xl_BadNumber => k_is)
    (case xr_BadNumber => first | rfl | (with_unfolding_all rfl) | kernel_rfl | k_is)
    (case xs_BadNumber => k_is)
    (case xe_BadNumber => k_is)
    (case xt_BadNumber => k_is)
    (case xk_BadNumber => k_is)
    (case xg_BadNumber => k_is)
    (case xG_BadNumber => k_is)
    (case xd_BadNumber => k_is)
    (case xn_BadNumber => k_is)
    (case xi_BadNumber => k_is)
    (case xf_BadNumber => k_is)
    (case xL_BadNumber => k_is)
    (case xc_BadNumber => k_is)
    (case xK_BadNumber => k_is)
    (case yc_BadNumber => first | rfl | (with_unfolding_all rfl) | kernel_rfl | k_is)
    (case ya_BadNumber => k_is)
    (case ym_BadNumber => k_is)
    (case xa_BadPart => k_is)
    (case xl_BadPart => k_is)
    (case xr_BadPart => first | rfl | (with_unfolding_all rfl) | kernel_rfl | k_is)
    (case xs_BadPart => k_is)
    (case xe_BadPart => k_is)
    (case xt_BadPart => k_is)
    (case xk_BadPart => k_is)
    (case xg_BadPart => k_is)
    (case xG_BadPart => k_is)
    (case xd_BadPart => k_is)
    (case xn_BadPart => k_is)
    (case xi_BadPart => k_is)
    (case xf_BadPart => k_is)
    (case xL_BadPart => k_is)
    (case xc_BadPart => k_is)
    (case xK_BadPart => k_is)
    (case yc_BadPart => first | rfl | (with_unfolding_all rfl) | kernel_rfl | k_is)
    (case ya_BadPart => k_is)
    (case ym_BadPart => k_is)
    (case yn => k_is)
    (case yt => k_is)
    (case xa_PlaneError => k_is)
    (case eN => first | rfl | (with_unfolding_all rfl) | kernel_rfl | k_is)
    (case eP => first | rfl | (with_unfolding_all rfl) | kernel_rfl | k_is)
    (case kNN => first | rfl | (with_unfolding_all rfl) | kernel_rfl | k_is)
    (case kPN => first | rfl | (with_unfolding_all rfl) | kernel_rfl | k_is)
    (case kPP => first | rfl | (with_unfolding_all rfl) | kernel_rfl | k_is)
    (case z_isinstance => k_is)
    (case z_int => k_is)
    (case z_bool => k_is)
    (case z_tuple => k_is)
    (case z_len => k_is)
    (case z_abs => k_is)
    (case z_list => k_is)
    (case z_range => k_is)
    (case z_repr => k_is)
    (case T1 => first | rfl | with_unfolding_all rfl); (case T2 => first | rfl | with_unfolding_all rfl); (case T3 => decide); (case T4 => first | k_is | rfl | with_unfolding_all rfl)
