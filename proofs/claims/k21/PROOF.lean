import PyProof.Rows.All
import Wide.All
import OpenK.AllK
import Wide.FinOn
import HandS.ForMost
import HandS.ForExc
import HandS.ExcInit
import HandS.ExcField
import HandS.ExcIs
import HandS.IsInst
import HandS.Lambda
import HandS.EndTab
import HandS.Wide
import HandS.Style
import HandS.RaiseMore
import HandS.Flow
import HandS.HeadHook1
import KE.KExcIs
import PyProof.CallFns
import HandS.Defaults
import PyProof.WalksMore
import PyProof.FactsAll.range
import HandS.TryMany
import HandS.NoneIn
import KE.KFmtOwn
import HandS.SortInts
import HandS.Walk
import PyProof.ReprHeadsTuple
import PyProof.ReprHeadsEmpty
import HandS.OwnEq
import KE.GoesEnum
import HandS.Zip
import HandS.TupAny
import HandS.CallSlots
import PyProof.ExcBaseAll.OverflowError
import HandS.Codes
import HandS.Deep
import HandS.Conv
import PySem.Challenge.RW_endlessplane_k21_regions_made_and_refuse
/-! Bs -/
set_option Elab.async false
set_option linter.all false
set_option maxRecDepth 100000
set_option maxHeartbeats 4000000
namespace Iz
open PySem PySem.Spec PyProof.Rows L2
theorem cx_K {CX : CXT} {P : Program} {w : World} {K : PySem.W.Frag} {mg : Str → Option Value} {base : Heap} {N : List Str} {q : Str} {sc : Scope} {f : Addr} {cd : Value} {A : Around} {outer : List Env} {s : Shared} {H : Hp} {E : XK} : (cxOf CX P w K mg base N q sc f cd A outer s H E).K = K := rfl
/-! ### defs by name, calls -/
/-- the global x is a def that keeps sp -/
structure OkF (P : Program) (w : World) (K : PySem.W.Frag) (mg : Str → Option Value) (base : Heap) (CX : CXT) (k : Nat) (x : Str) (ps : List Str) (sp : Sp) : Prop where
  ex : ∃ (f : Addr) (fd : FuncData), mg x = some (.ref f) ∧ PySem.W.keepIn K (.ref f) = true ∧ Binds K fd ps [] ∧ FnOk P w K mg base CX k f fd ps sp
theorem OkF.imp {P : Program} {w : World} {K : PySem.W.Frag} {mg : Str → Option Value} {base : Heap} {CX : CXT} {k : Nat} {x : Str} {ps : List Str} {sp sp' : Sp} (F : OkF P w K mg base CX k x ps sp) (h : ∀ vs H Q E, sp' vs H Q E → sp vs H Q E) : OkF P w K mg base CX k x ps sp' :=
  let ⟨f, fd, g, kp, b, G⟩ := F.ex
  ⟨f, fd, g, kp, b, G.imp h⟩
/-- inside a def that may raise: what is raised goes on out -/
theorem passE {P : Program} {w : World} {K : PySem.W.Frag} {mg : Str → Option Value} {base : Heap} {N : List Str} {q : Str} {sc : Scope} {f : Addr} {cd : Value} {A : Around} {outer : List Env} {s : Shared} {H : Hp} {E : XK} :
    Passes (L2.CX P w) (cxOf (L2.CX P w) P w K mg base N q sc f cd A outer s H E) E := passes_call (W := fun cls d _ H => E cls d H) (takes_of rfl rfl rfl rfl) fun _ _ _ _ h => h
theorem takesE {P : Program} {w : World} {K : PySem.W.Frag} {mg : Str → Option Value} {base : Heap} {N : List Str} {q : Str} {sc : Scope} {f : Addr} {cd : Value} {A : Around} {outer : List Env} {s : Shared} {H : Hp} {E : XK} :
    Takes (cxOf (L2.CX P w) P w K mg base N q sc f cd A outer s H E) (fun cls d _ H => E cls d H) := takes_of rfl rfl rfl rfl
section
variable {X : Cx} {k : Nat} {x : Str} {ps : List Str} {sp : Sp} {E : XK} {e : Expr} {es : List Expr} {t : TA} {p pos : Pos}
/-- f(e, ..) -/
theorem pcl {CX : CXT} (O : OkF X.prog X.w X.K X.mg X.base CX k x ps sp) (hr : Room k X.A) (hx : Passes CX X E) (ha : PA X (e :: es) t) (hg : Gl X x := by rfl) (hdb : (x == ("__debug__" : Str)) = false := by decide)
    (he : starEach (e :: es) X.env = (false, eval e X.env) :: starEach es X.env := by rfl) (hpl : (backTo pos (starEach es X.env)).any (·.1) = false := by rfl) : PE X (.Call (.Name x p) (e :: es) [] pos) (tCall sp [] E t) := by
  obtain ⟨f, fd, g, kp, b, G⟩ := O.ex
  exact pe_call G hr hg g kp b .nil hx ha hdb he hpl
end
theorem op_fdivF {X : Cx} : OpR X (binaryOp .FloorDiv) (rI (fun _ j => j ≠ 0 ∧ j.natAbs.log2 < 9000) fun i j => .int (i.fdiv j)) := opI fun i j _ _ _ _ _ hc q => floordiv_int hc.1 q (.inl (PyProof.noPylong_of_log2 hc.2))
theorem log_lt {x : Int} {n m : Nat} (h : x.natAbs < 2 ^ n) (hm : n ≤ m) (h0 : 0 < m) : x.natAbs.log2 < m := PySem.Flt.log2_lt_of h0 (Nat.lt_of_lt_of_le h (Nat.pow_le_pow_right (by decide) hm))
/-! ### readings in a form that simp reads: an object is named by what stands at it -/
section
variable {X : Cx} {e a b : Expr} {es : List Expr} {t t' ta tb : TE}
theorem PE.imp (h : PE X e t) (k : ∀ σ H Q, t' σ H Q → t σ H Q) : PE X e t' := ⟨fun pins s σ H Q I q => h.run pins s σ H Q I (k σ H Q q)⟩
theorem PS.imp {st : Stmt} {t t' : TS} (h : PS X st t) (k : ∀ D σ H, t' D σ H → t D σ H) : PS X st t' := ⟨fun pins s σ H D I q => h.run pins s σ H D I (k D σ H q)⟩
theorem PG.imp {tg : Expr} {t t' : TG} (h : PG X tg t) (k : ∀ v σ H Q, t' v σ H Q → t v σ H Q) : PG X tg t' := ⟨fun pins s σ H v u Q I r q => h.run pins s σ H v u Q I r (k v σ H Q q)⟩
theorem CallR.imp {f : Value} {r r' : List V → Hp → VK → Prop} (h : CallR X f r) (k : ∀ xs H Q, r' xs H Q → r xs H Q) : CallR X f r' := fun pins s σ H xs us Q I rv q => h pins s σ H xs us Q I rv (k xs H Q q)
theorem Same.upd {H : Hp} {p : Addr} {o : HO} (h : H p = none) : Same H (L2.upd H p o) := fun b u e => by rw [upd_ne (ne_of_none e h)]; exact e
/-- a new object: from then on some heap that has it and all else -/
def News (H : Hp) (o : HO) (Q : V → Hp → Prop) : Prop := ∀ p H2, H p = none → Same H H2 → H2 p = some o → Q (.ref p) H2
theorem News.all {H : Hp} {o : HO} {Q : V → Hp → Prop} (n : News H o Q) : ∀ p, H p = none → Q (.ref p) (upd H p o) := fun p hp => n p _ hp (Same.upd hp) upd_same
def tTupN (t : TA) : TE := fun σ H Q => t σ H fun xs H1 => xs.length ≤ sizeLine ∧ News H1 (.tup xs) Q
def tLstN (t : TA) : TE := fun σ H Q => t σ H fun xs H1 => xs.length ≤ sizeLine ∧ News H1 (.lst xs) Q
/-- what a reading gives, weakened -/
def mcl {α : Type} (t : L2.St → Hp → (α → Hp → Prop) → Prop) : L2.St → Hp → (α → Hp → Prop) → Prop := fun σ H Q => ∃ Q0, t σ H Q0 ∧ ∀ v H1, Q0 v H1 → Q v H1
theorem PA.mcl {t : TA} (h : PA X es t) : PA X es (mcl t) := ⟨fun pos pins s σ H Q I ⟨Q0, q, k⟩ => thn (h.run pos pins s σ H Q0 I q) fun us s1 ⟨vs, H1, I1, r, q1⟩ => ⟨vs, H1, I1, r, k vs H1 q1⟩⟩
theorem PE.mcl {t : TE} (h : PE X e t) : PE X e (mcl t) := ⟨fun pins s σ H Q I ⟨Q0, q, k⟩ => thn (h.run pins s σ H Q0 I q) fun u s1 ⟨v, H1, I1, r, q1⟩ => ⟨v, H1, I1, r, k v H1 q1⟩⟩
theorem pe_tupN {t : TA} {x1 : Nat} {pos : Pos} (h : PA X es t) : PE X (.Tuple es x1 pos) (tTupN t) := PE.imp (pe_tup (PA.mcl h)) fun σ H Q q => ⟨_, q, fun vs H1 ⟨z, n⟩ => ⟨z, n.all⟩⟩
theorem pe_lstN {t : TA} {pos : Pos} (h : PA X es t) : PE X (.List es pos) (tLstN t) := PE.imp (pe_lst (PA.mcl h)) fun σ H Q q => ⟨_, q, fun vs H1 ⟨z, n⟩ => ⟨z, n.all⟩⟩
def rIxTN : R2 := fun x y H Q => ∃ p xs i v, x = .ref p ∧ y = .int i ∧ H p = some (.tup xs) ∧ atI xs i = some v ∧ Q v H
theorem ix_tupN : IxR X rIxTN := fun v0 sl pins s σ H x y v u Q I rx ry q hs => ix_tup v0 sl pins s σ H x y v u Q I rx ry (let ⟨p, xs, i, z, a, b, c, d, q⟩ := q; ⟨p, xs, i, z, a, b, SqT.of c, d, q⟩) hs
def rIxLN : R2 := fun x y H Q => ∃ p xs i v, x = .ref p ∧ y = .int i ∧ H p = some (.lst xs) ∧ atI xs i = some v ∧ Q v H
theorem ix_listN : IxR X rIxLN := fun v0 sl pins s σ H x y v u Q I rx ry q hs => ix_list v0 sl pins s σ H x y v u Q I rx ry (let ⟨p, xs, i, z, a, b, c, d, q⟩ := q; ⟨p, xs, i, z, a, b, SqL.of c, d, q⟩) hs
def gTupN (n : Nat) (t : TGs) : TG := fun v σ H Q => ∃ a xs, v = .ref a ∧ H a = some (.tup xs) ∧ xs.length = n ∧ t xs σ H Q
theorem pg_tupN {k : Nat} {pos : Pos} {t : TGs} {n : Nat} (hc : X.calm = true) (h : PGs X es t) (hn : (assignEach es X.env).length = n := by rfl) (hst : (assignEach es X.env).findIdx? (·.1) = none := by rfl) : PG X (.Tuple es k pos) (gTupN n t) :=
  PG.imp (pg_tup hc h hn hst) fun v σ H Q ⟨p, xs, a, c, d, q⟩ => ⟨p, xs, a, SqT.of c, d, q⟩
def rLenL : List V → Hp → VK → Prop := fun xs H Q => ∃ p ys, xs = [.ref p] ∧ H p = some (.lst ys) ∧ Q (.int ys.length) H
theorem call_lenL : CallR X (.builtin "len") rLenL := CallR.imp call_len_seq fun xs H Q ⟨p, ys, a, b, q⟩ => ⟨p, ys, a, .inl (SqL.of b), q⟩
def rLenT : List V → Hp → VK → Prop := fun xs H Q => ∃ p ys, xs = [.ref p] ∧ H p = some (.tup ys) ∧ Q (.int ys.length) H
theorem call_lenT : CallR X (.builtin "len") rLenT := CallR.imp call_len_seq fun xs H Q ⟨p, ys, a, b, q⟩ => ⟨p, ys, a, .inr (SqT.of b), q⟩
def rIntI : List V → Hp → VK → Prop := fun xs H Q => ∃ i, xs = [.int i] ∧ Q (.int i) H
theorem call_intI : CallR X (.type "int") rIntI := CallR.imp call_int1 fun xs H Q q => .inl q
def rIntB : List V → Hp → VK → Prop := fun xs H Q => ∃ k, xs = [.bl k] ∧ Q (.int (if k then 1 else 0)) H
theorem call_intB : CallR X (.type "int") rIntB := CallR.imp call_int1 fun xs H Q q => .inr q
def rAbs : List V → Hp → VK → Prop := fun xs H Q => ∃ i, xs = [.int i] ∧ Q (.int (i.natAbs : Int)) H
theorem call_absN : CallR X (.builtin "abs") rAbs := CallR.imp call_abs fun xs H Q ⟨i, a, q⟩ => ⟨i, a, by rw [show (if i < 0 then -i else i) = (i.natAbs : Int) by split <;> omega]; exact q⟩
def rListS (K : PySem.W.Frag) : List V → Hp → VK → Prop := fun xs H Q => ∃ p ys, xs = [.ref p] ∧ SqL K H p ys ∧ News H (.lst ys) Q
theorem call_listS : CallR X (.type "list") (rListS X.K) := CallR.imp call_list_of fun xs H Q ⟨p, ys, a, b, n⟩ => ⟨p, ys, a, .inl b, n.all⟩
/-- a truth: what the test says -/
theorem atI0 {α : Type} {a : α} {l : List α} : atI (a :: l) 0 = some a := by simp [atI, ixN]
theorem ixN_ok {n : Nat} {i : Int} (h : 0 ≤ i) (h2 : i < n) : ixN n i = some i.toNat := by simp [ixN, h, h2]
theorem atI_ok {α : Type} {l : List α} {i : Int} {v : α} (h : 0 ≤ i) (h2 : l[i.toNat]? = some v) : atI l i = some v := by
  have h3 := (List.getElem?_eq_some_iff.mp h2).1
  unfold atI
  rw [ixN_ok h (by omega)]
  exact h2
theorem atI1 {α : Type} {a b : α} {l : List α} : atI (a :: b :: l) 1 = some b := atI_ok (by decide) rfl
theorem atI2 {α : Type} {a b c : α} {l : List α} : atI (a :: b :: c :: l) 2 = some c := atI_ok (by decide) rfl
theorem atI3 {α : Type} {a b c d : α} {l : List α} : atI (a :: b :: c :: d :: l) 3 = some d := atI_ok (by decide) rfl
theorem ite_iff {c A B : Prop} [Decidable c] : (if c then A else B) ↔ ((c → A) ∧ (¬ c → B)) := by
  by_cases h : c <;> simp [h]
/-- a while's test may be asked for less -/
theorem mono_eq {r : R2} {i : Nat} {v : V} (hr : ∀ x y H Q Q', (∀ z H1, Q z H1 → Q' z H1) → r x y H Q → r x y H Q') : ∀ (σ : L2.St) (H : Hp) (Q Q' : Bool → Hp → Prop), (∀ b H1, Q b H1 → Q' b H1) → tTest (tOp r (tVar i) (tC v)) σ H Q → tTest (tOp r (tVar i) (tC v)) σ H Q' :=
  fun _ _ _ _ k ⟨x, h, q⟩ => ⟨x, h, hr _ _ _ _ _ (fun _ _ ⟨b, e, q⟩ => ⟨b, e, k _ _ q⟩) q⟩
theorem mono_ne {i : Nat} {v : V} : ∀ (σ : L2.St) (H : Hp) (Q Q' : Bool → Hp → Prop), (∀ b H1, Q b H1 → Q' b H1) → tTest (tOp rNe (tVar i) (tC v)) σ H Q → tTest (tOp rNe (tVar i) (tC v)) σ H Q' := mono_eq fun _ _ _ _ _ k ⟨a, q⟩ => ⟨a, k _ _ q⟩
end
/-- H2 is H with o at p -/
def Put (H H2 : Hp) (p : Addr) (o : HO) : Prop := H2 p = some o ∧ ∀ b, b ≠ p → H2 b = H b
def rSetLN : V → V → V → Hp → (Hp → Prop) → Prop := fun o i v H Q => ∃ p xs k j, o = .ref p ∧ i = .int k ∧ H p = some (.lst xs) ∧ ixN xs.length k = some j ∧ ∀ H2, Put H H2 p (.lst (xs.set j v)) → Q H2
theorem set_listN {X : Cx} : PSet X rSetLN := fun pins s σ H o i v ov iv u Q I ro ri rv ⟨p, xs, k, j, a, b, c, d, q⟩ => set_list pins s σ H o i v ov iv u Q I ro ri rv ⟨p, xs, k, j, a, b, c, d, q _ ⟨upd_same, fun _ h => upd_ne h⟩⟩
theorem PT.imp {X : Cx} {e : Expr} {t t' : TT} (h : PT X e t) (k : ∀ σ H Q, t' σ H Q → t σ H Q) : PT X e t' := ⟨fun pins s σ H Q I q => h.run pins s σ H Q I (k σ H Q q)⟩
/-- a list's truth -/
def tTruL (te : TE) : TT := fun σ H Q => te σ H fun x H1 => ∃ p xs, x = .ref p ∧ H1 p = some (.lst xs) ∧ Q (!xs.isEmpty) H1
theorem pt_truL {X : Cx} {e : Expr} {te : TE} (h : PE X e te) (hw : ∀ t : Sem Value, isTrue e X.env t = (t >>= fun v => standAt e.pos >>= fun _ => holding [v] (truthy v)) := by intro _; rfl) : PT X e (tTruL te) :=
  PT.imp (pt_truth (PE.mcl h) hw) fun σ H Q q => ⟨_, q, fun v H1 ⟨p, xs, a, b, q⟩ => ⟨_, by subst a; exact .inl ⟨xs, SqL.of b, rfl⟩, q⟩⟩
theorem ixN0 {n : Nat} : ixN (n + 1) 0 = some 0 := ixN_ok (by decide) (by omega)
theorem ixN1 {n : Nat} : ixN (n + 1 + 1) 1 = some 1 := ixN_ok (by decide) (by omega)
theorem scal_ii {i j : Int} : scal (.int i) (.int j) = true := rfl
theorem scal_in {i : Int} : scal (.int i) .non = true := rfl
theorem scal_ni {i : Int} : scal .non (.int i) = true := rfl
theorem scal_nn : scal .non .non = true := rfl
theorem scal_bb {i j : Bool} : scal (.bl i) (.bl j) = true := rfl
theorem scal_ss {i j : Str} : scal (.str i) (.str j) = true := rfl
theorem scal_sn {i : Str} : scal (.str i) .non = true := rfl
theorem scal_ns {i : Str} : scal .non (.str i) = true := rfl
theorem scal_bn {i : Bool} : scal (.bl i) .non = true := rfl
theorem scal_nb {i : Bool} : scal .non (.bl i) = true := rfl
/-- xs.append(e) -/
def tApp (to : TE) (ta : TA) : TE := fun σ H Q => to σ H fun x H1 => ∃ l, x = .ref l ∧ (∃ xs, H1 l = some (.lst xs)) ∧ ta σ H1 fun vs H2 => ∃ y xs, vs = [y] ∧ H2 l = some (.lst xs) ∧ xs.length < sizeLine ∧ ∀ H3, Put H2 H3 l (.lst (xs ++ [y])) → Q .non H3
theorem pe_appN {X : Cx} {o e : Expr} {to : TE} {ta : TA} {apos cpos : Pos} (ho : PE X o to) (ha : PA X [e] ta)
    (hbase : attributeBase o "append" X.env (eval o X.env) = eval o X.env := by rfl)
    (hfew : ((backTo cpos (starEach [e] X.env)).all (fun x => !x.1) && (backToKw cpos (keywordEach [] X.env)).all (fun x => x.1.isSome) && decide ([e].length + ([] : List Keyword).length + (if ([] : List Keyword).isEmpty then 0 else 1) < 30)) = true := by rfl)
    (hline : (apos.endLine == cpos.line) = true := by rfl) (hs : starEach [e] X.env = (false, eval e X.env) :: starEach [] X.env := by rfl) (hplain : (backTo cpos (starEach [] X.env)).any (·.1) = false := by rfl) :
    PE X (.Call (.Attribute o "append" apos) [e] [] cpos) (tApp to ta) :=
  PE.imp (pe_bm PySem.F.plainAttrs_list PySem.F.slot_list_append PySem.F.type_list_append mt_append (PE.mcl ho) (PA.mcl ha) hbase hfew hline hs hplain) fun σ H Q q =>
    ⟨_, q, fun x H1 ⟨l, hx, ⟨xs, hl⟩, q⟩ => by subst hx; exact ⟨.inl ⟨rfl, xs, SqL.of hl⟩, _, q, fun vs H2 ⟨y, xs, a, b, c, q⟩ => ⟨l, xs, y, rfl, a, b, c, q _ ⟨upd_same, fun _ h => upd_ne h⟩⟩⟩⟩
/-- a statement whose ways join behind it: M holds there -/
def tCut (t : TS) : TS := fun D σ H => ∃ M : L2.St → Hp → Prop, t { D with nx := M } σ H ∧ ∀ σ' H', M σ' H' → D.nx σ' H'
theorem ps_cut {X : Cx} {st : Stmt} {t : TS} (h : PS X st t) : PS X st (tCut t) := ⟨fun pins s σ H D I ⟨M, q, k⟩ => thn (h.run pins s σ H { D with nx := M } I q) fun f s1 r => by
  cases f with
  | next => obtain ⟨σ', H', J, m⟩ := r; exact ⟨σ', H', J, k σ' H' m⟩
  | brk => exact r
  | cont => exact r
  | ret u => exact r⟩
/-! ### loops -/
section
variable {g : TG} {tb : TS} {D : Ends} {σ : L2.St} {H : Hp} {ta : TA} {tl : TE}
theorem st_forR1 (j : Int) (hj : -(2 ^ 62) ≤ j ∧ j < 2 ^ 62) (ha : ∀ Q : List V → Hp → Prop, Q [.int j] H → ta σ H Q) (Pv : Nat → L2.St → Hp → Prop) (h0 : Pv 0 σ H)
    (hs : ∀ i σ H, i < j.toNat → Pv i σ H → g (.int i) σ H fun σ2 H2 => tb { D with nx := Pv (i + 1), ct := Pv (i + 1), bk := D.nx } σ2 H2) (hd : ∀ σ H, Pv j.toNat σ H → D.nx σ H) : tFor (iRng1 ta) g tb D σ H :=
  ha _ ⟨j, rfl, hj.1, hj.2, for_range Pv h0 (fun i σ H hi p => by rw [Int.zero_add]; exact hs i σ H hi p) hd⟩
theorem st_forR2 (lo j : Int) (hl : -(2 ^ 62) ≤ lo ∧ lo < 2 ^ 62) (hj : -(2 ^ 62) ≤ j ∧ j < 2 ^ 62) (ha : ∀ Q : List V → Hp → Prop, Q [.int lo, .int j] H → ta σ H Q) (Pv : Nat → L2.St → Hp → Prop) (h0 : Pv 0 σ H)
    (hs : ∀ i σ H, i < (j - lo).toNat → Pv i σ H → g (.int (lo + i)) σ H fun σ2 H2 => tb { D with nx := Pv (i + 1), ct := Pv (i + 1), bk := D.nx } σ2 H2) (hd : ∀ σ H, Pv (j - lo).toNat σ H → D.nx σ H) : tFor (iRng2 ta) g tb D σ H :=
  ha _ ⟨lo, j, rfl, ⟨hl.1, hl.2, hj.1, hj.2⟩, for_range Pv h0 hs hd⟩
end
/-! ### values of any kind -/
/-- a plain int -/
def isI : V → Bool
  | .int _ => true
  | _ => false
theorem isI_int {x : V} (h : isI x = true) : ∃ i, x = .int i := by cases x <;> simp_all [isI]
/-- is_whole tells rightly of x -/
def Wh (K : PySem.W.Frag) (H : Hp) (x : V) : Prop := ∃ t b1 b2, TyX K H x t ∧ PySem.W.kitOne K t (.type "int") = some b1 ∧ PySem.W.kitOne K t (.type "bool") = some b2 ∧ (b1 && !b2) = isI x
section
variable {K : PySem.W.Frag} {H : Hp}
theorem wh_int {i : Int} : Wh K H (.int i) := ⟨_, true, false, .base (.int i), kit_ty (by decide +kernel), kit_ty (by decide +kernel), rfl⟩
theorem wh_bl {b : Bool} : Wh K H (.bl b) := ⟨_, true, true, .base (.bl b), kit_ty (by decide +kernel), kit_ty (by decide +kernel), rfl⟩
theorem wh_non : Wh K H .non := ⟨_, false, false, .base .non, kit_ty (by decide +kernel), kit_ty (by decide +kernel), rfl⟩
theorem wh_str {x : Str} : Wh K H (.str x) := ⟨_, false, false, .base (.str x), kit_ty (by decide +kernel), kit_ty (by decide +kernel), rfl⟩
theorem wh_tup {p : Addr} {xs : List V} (h : H p = some (.tup xs)) : Wh K H (.ref p) := ⟨_, false, false, .base (.tup h), kit_ty (by decide +kernel), kit_ty (by decide +kernel), rfl⟩
theorem wh_lst {p : Addr} {xs : List V} (h : H p = some (.lst xs)) : Wh K H (.ref p) := ⟨_, false, false, .base (.lst h), kit_ty (by decide +kernel), kit_ty (by decide +kernel), rfl⟩
end
/-- isinstance with a built-in class, with an own one -/
def rIsTy (K : PySem.W.Frag) : List V → Hp → VK → Prop := fun xs H Q => ∃ x n t b, xs = [x, .ty n] ∧ TyX K H x t ∧ PySem.W.kitOne K t (.type n) = some b ∧ Q (.bl b) H
theorem call_isTy {X : Cx} : CallR X (.builtin "isinstance") (rIsTy X.K) := CallR.imp call_isi fun xs H Q ⟨x, n, t, b, a, ty, k, q⟩ => ⟨x, .ty n, t, .type n, b, a, .ty n, ty, k, q⟩
/-! ### own errors with one field -/
open He (ga)
def spXI (K : PySem.W.Frag) (fld : Str) : Sp := fun vs H Q _ => ∃ (a C : Addr) (v : V), vs = [.ref a, v] ∧ OexC K C ∧ PySem.W.findIn K (.ref C) fld = some none ∧ H a = some (exo a C none) ∧
  ∀ dx, H dx = none → dx ≠ a → Q .non (upd (upd H dx (exd dx [(fld, v)])) a (exo a C (some dx)))
section
variable {P : Program} {w : World} {K : PySem.W.Frag} {mg : Str → Option Value} {base : Heap}
theorem vis_of {N ps : List Str} {sc : Scope} (S : FnScope N ps sc) {x : Str} (h : x ∈ ps) : Vis sc x := (S.par x h).elim .inl fun e => .inr (.inl e)
theorem ok_xi {qual fld : Str} {st : Stmt} {f : Addr} {fd : FuncData} {p1 p2 p3 p4 : Pos} (F : Fun K "__init__" qual st f fd) (S : FnScope ["self", fld] ["self", fld] (defScope st))
    (hb : defBody st = [.Assign [.Attribute (.Name "self" p1) fld p2] (.Name fld p3) p4]) (h1 : (fld == ("__debug__" : Str)) = false) (h2 : (fld == ("__classdict__" : Str)) = false) : FnOk P w K mg base CX0 1 f fd ["self", fld] (spXI K fld) := by
  refine F.ok S (fun vs H Q E h => ?_) (fun cdv A outer s H vs Q E hr h => ?_)
  · obtain ⟨a, C, v, rfl, _⟩ := h; rfl
  · obtain ⟨a, C, v, rfl, T, hn, ha, k⟩ := h
    rw [hb]
    refine ⟨_, pss_one (ps_ost (pe_var (i := 0) rfl (vis_of S (by simp))) (pe_var (i := 1) rfl (vis_of S (by simp)) h1 h2)), ?_⟩
    exact ⟨v, rfl, .ref a, rfl, a, C, rfl, T, hn, .inl ⟨ha, k⟩⟩
/-- what the top has made of the class x, whose __init__ keeps its one argument in fld -/
structure ExT (K : PySem.W.Frag) (mg : Str → Option Value) (x fld : Str) : Prop where
  g : mg x = some (.ref (ga K x))
  ox : OexC K (ga K x)
  xf : XfC K (ga K x)
  no : PySem.W.findIn K (.ref (ga K x)) fld = some none
  ini : ∃ (qual : Str) (st : Stmt) (f : Addr) (fd : FuncData) (p1 p2 p3 p4 : Pos), PySem.W.findIn K (.ref (ga K x)) "__init__" = some (some (.ref f)) ∧ PySem.W.typeIn K (.ref f) = some (.type "function") ∧ Fun K "__init__" qual st f fd ∧ FnScope ["self", fld] ["self", fld] (defScope st) ∧
    defBody st = [.Assign [.Attribute (.Name "self" p1) fld p2] (.Name fld p3) p4] ∧ Binds K fd ["self", fld] []
/-- an error of the class x with fld = v is let out -/
def Rse (K : PySem.W.Frag) (E : XK) (H : Hp) (x fld : Str) (v : V) : Prop := ∀ d H', H d = none → Same H H' → H' d = some (.xd [(fld, v)]) → E (.ref (ga K x)) (some d) H'
theorem Rse.mono {K : PySem.W.Frag} {E : XK} {H H2 : Hp} {x f : Str} {v : V} (r : Rse K E H x f v) (s : Same H H2) : Rse K E H2 x f v := fun d H' hd s2 h => r d H' (s.free hd) (s.trans s2) h
def tRaiseX (K : PySem.W.Frag) (x fld : Str) (W : WX) (te : TE) : TS := fun _ σ H => te σ H fun v H1 => Rse K (fun cls d H' => W cls d σ H') H1 x fld v
theorem ps_raiseX {X : Cx} {x fld : Str} {W : WX} {e : Expr} {te : TE} {p pos pos2 : Pos} (T : ExT X.K X.mg x fld) (hr : Room 2 X.A) (tk : Takes X W) (he : PE X e te) (hc : X.calm = true := by rfl) (hg : Gl X x := by rfl) (hdb : (x == ("__debug__" : Str)) = false := by decide)
    (hd1 : (fld == ("__debug__" : Str)) = false := by decide) (hd2 : (fld == ("__classdict__" : Str)) = false := by decide)
    (hs : starEach [e] X.env = (false, eval e X.env) :: starEach [] X.env := by rfl) (hpl : (backTo pos (starEach [] X.env)).any (·.1) = false := by rfl) : PS X (.Raise (some (.Call (.Name x p) [e] [] pos)) none pos2) (tRaiseX X.K x fld W te) := by
  obtain ⟨qual, st, f, fd, p1, p2, p3, p4, hi, ht, F, S, hb, B⟩ := T.ini
  have G : FnOk X.prog X.w X.K X.mg X.base CX0 1 f fd ["self", fld] (spXI X.K fld) := ok_xi F S hb hd1 hd2
  refine PS.imp (ps_raise hc tk (pmk_oex (k := 1) T.ox hi ht G hr B .nil (pass0) hg T.g (pa_cons (PE.mcl he) pa_nil hs) hdb hs hpl)) fun D σ H q => ?_
  refine ⟨_, q, fun v H1 k => ?_⟩
  refine ⟨by show 1 ≤ 1000; decide, fun a ha => ⟨a, _, v, rfl, T.ox, T.no, upd_same, fun dx hdx hne => ⟨rfl, dx, _, upd_same, by rw [upd_ne hne, upd_same], ?_, ?_⟩⟩⟩
  · rw [upd_ne hne] at hdx; exact hdx
  · have hdn : H1 dx = none := by rw [upd_ne hne] at hdx; exact hdx
    refine k dx _ hdn (fun b u e => ?_) upd_same
    have h1 := ne_of_none e hdn
    have h2 := ne_of_none e ha
    rw [upd_ne h1, del_ne h2, upd_ne h2, upd_ne h1, upd_ne h2]
    exact e
end
end Iz
/-! Bx -/
set_option Elab.async false
set_option linter.all false
set_option maxRecDepth 100000
set_option maxHeartbeats 4000000
namespace Iz
open PySem PySem.Spec PyProof.Rows L2 LamX
open He (ga)
/-! ### repr of plain values -/
def ReprV : V → Str → Prop
  | .non, s => s = "None"
  | .bl b, s => s = if b = true then Str.ofString "True" else Str.ofString "False"
  | .int i, s => i.natAbs.log2 < 1920 ∧ s = Str.ofString (toString i)
  | .str x, s => (reprText x).length ≤ sizeLine ∧ s = reprText x
  | _, _ => False
def rRepr : List V → Hp → VK → Prop := fun xs H Q => ∃ x s, xs = [x] ∧ ReprV x s ∧ Q (.str s) H
theorem call_reprN {X : Cx} : CallR X (.builtin "repr") rRepr := by
  intro pins s σ H xs us Q I r h
  obtain ⟨x, z, rfl, hz, q⟩ := h
  cases r with
  | cons rx rr =>
    cases rr
    cases x with
    | non => cases rx; cases hz; exact PySem.P.repr_of_none ⟨.str _, H, I.tok _, ⟨_, rfl⟩, q⟩
    | bl b => cases rx; cases hz; exact PySem.P.repr_of_bool ⟨.str _, H, I.tok _, ⟨_, rfl⟩, q⟩
    | int i => obtain ⟨t, rfl⟩ := rx; obtain ⟨hb, rfl⟩ := hz; exact PySem.P.repr_of_int hb ⟨.str _, H, I.tok _, ⟨_, rfl⟩, q⟩
    | str y => obtain ⟨t, rfl⟩ := rx; obtain ⟨hb, rfl⟩ := hz; exact PySem.P.repr_of_str ⟨.str _, H, I.tok _, ⟨_, rfl⟩, q⟩ hb
    | byt b => cases hz
    | flt b => cases hz
    | ref a => cases hz
    | ty n => cases hz
/-! ### isinstance of a caught error -/
structure ExI (K : PySem.W.Frag) (D : Addr) : Prop where
  hc : (PySem.W.clsIn K D).isSome = true
  ha : PySem.W.findIn K (.ref D) "__class__" = some (some (.builtin "object.__class__"))
  hn : PySem.W.specialIn K (.builtin "object.__class__") "__get__" = some (some (.builtin "getset_descriptor.__get__"))
  ht : PySem.W.takesIn K (.builtin "object.__class__") = some true
  hm : PySem.W.mroIn K D (.type "object") = some true
def rIsX (K : PySem.W.Frag) (a : Addr) (cls : Value) (d : Option Addr) : List V → Hp → VK → Prop := fun xs H Q => ∃ (c D dd : Addr) (fs : List (Str × V)) (b : Bool), xs = [.ref a, .ref c] ∧ cls = .ref D ∧ d = some dd ∧ H dd = some (.xd fs) ∧ XfC K D ∧ ExI K D ∧ PySem.W.kitOne K (.ref D) (.ref c) = some b ∧ Q (.bl b) H
theorem call_isX {X : Cx} {a : Addr} {oe : Obj} {cls : Value} {d : Option Addr} {pn : List (Addr × Obj)} (hz : Zc cls d oe) (hf : ∃ vs, oe.data = .fields vs) : CallR (X.suite a ((a, oe) :: pn)) (.builtin "isinstance") (rIsX X.K a cls d) := by
  intro pins s σ H xs us Q I r h
  obtain ⟨c, D, dd, fs, b, rfl, rfl, rfl, hd, T, U, hk, q⟩ := h
  cases r with
  | cons rx rr =>
    cases rr with
    | cons ry rr =>
      cases rr; cases rx; cases ry
      have hget := (I.pin (a, oe) (List.mem_append.mpr (.inl List.mem_cons_self))).1
      obtain ⟨vs, hv⟩ := hf
      have hx : ObjOk X.prog X.w H s.heap dd (.xd fs) := I.hok dd _ hd
      obtain ⟨mA, hns, _⟩ := hx
      obtain ⟨od, ho, _⟩ := lookIn_ns hns
      have J : PySem.W.InstAt s.heap a oe D (some od) := ⟨hget, hz.1, by unfold PySem.W.notCls; rw [hv], by rw [hz.2]; exact ho⟩
      refine PySem.W.kia_one (PySem.W.kitx_exc U.hc T.ga T.gg T.exC U.ha U.hn U.ht U.hm) I.kIn J hk (fun z => nomatch z) fun tk => ?_
      exact ⟨.bl b, H, I.kept (t' := tk) fun _ _ z => z, rfl, q⟩
/-! ### a suite knows how many slots there are -/
def tLen (n : Nat) (t : TS) : TS := fun D σ H => σ.length = n → t D σ H
theorem pss_len {X : Cx} {st : List Stmt} {t : TS} {n : Nat} (h : PSs X st t) (hn : X.N.length = n) : PSs X st (tLen n t) := ⟨fun pins s σ H D I q => h.run pins s σ H D I (q (I.len.trans hn))⟩
/-! ### defs that make lambdas: their code object is named -/
def cOf (K : PySem.W.Frag) (x : Str) : Addr := ((PySem.W.tabIn K x).getD (0, 0)).1
def pOf (K : PySem.W.Frag) (x : Str) : Addr := ((PySem.W.tabIn K x).getD (0, 0)).2
structure LamF (K : PySem.W.Frag) (mg : Str → Option Value) (x : Str) (st : Stmt) : Prop where
  ex : ∃ (f : Addr) (oc : Value) (od : Option Addr) (kV doc pm : Value) (an : Option Addr) (ct : Value) (osl : Array (Option Value)), mg x = some (.ref f) ∧ PySem.W.keepIn K (.ref f) = true ∧
    K.lookup f = some ⟨oc, od, .func (PySem.W.fnOf x x (defArgs st) (defBody st) (defScope st) .none kV doc pm an (.ref (cOf K x)) ct), osl⟩ ∧ PySem.W.codeIn K (.ref (cOf K x)) x = true
/-- as Fun.okX, the code object known -/
theorem LamF.okF {P : Program} {w : World} {K : PySem.W.Frag} {mg : Str → Option Value} {base : Heap} {x : Str} {st : Stmt} {N ps : List Str} {k : Nat} {sp : Sp} (F : LamF K mg x st) (S : FnScope N ps (defScope st))
    (hbind : ∀ (kV doc pm : Value) (an : Option Addr) (cdv ct : Value) (us : List Value), us.length = ps.length → bindArgs (PySem.W.fnOf x x (defArgs st) (defBody st) (defScope st) .none kV doc pm an cdv ct) ⟨us, []⟩ = pure (ps.zip us))
    (len : ∀ vs H Q E, sp vs H Q E → vs.length = ps.length)
    (hbody : ∀ (f : Addr) (A : Around) (outer : List Env) (s : Shared) (H : Hp) (vs : List V) (Q : VK) (E : XK), Room k (A.deeper (envOfC x (defScope st) s.heap.objs.size f (.ref (cOf K x)))) → sp vs H Q E →
      ∃ t, PSs (cxOf (L2.CX P w) P w K mg base N x (defScope st) f (.ref (cOf K x)) A outer s H E) (defBody st) t ∧ t { nx := fun _ H' => Q .non H', rt := Q } (L2.start N vs) H) : OkF P w K mg base (L2.CX P w) (k + 1) x ps sp := by
  obtain ⟨f, oc, od, kV, doc, pm, an, ct, osl, g, kp, lk, hcd⟩ := F.ex
  exact ⟨f, _, g, kp, .all (hbind kV doc pm an _ ct), fn_of lk hcd S len fun A outer s H vs Q E hr hsp => hbody f A outer s H vs Q E hr hsp⟩
theorem passLam {X : Cx} {A : Around} {outer : List Env} {s : Shared} {H : Hp} {E : XK} {scope : Scope} {f c : Addr} : Passes (L2.CX X.prog X.w) (lamCx X A outer s H E scope f c) E :=
  passes_call (W := fun cls d _ H => E cls d H) (takes_of rfl rfl rfl rfl) fun _ _ _ _ h => h
/-- told(lambda: body), told a def of the text -/
theorem plam {X : Cx} {x a : Str} {st : Stmt} {N : List Str} {TT : (XK → Hp → VK → Prop) → Hp → VK → Prop} {c P : Addr} {qn : Str} {k : Nat} {params : Arguments} {body : Expr} {scope : Scope} {t : XK → TE} {p lpos pos : Pos}
    (F : ∃ (f : Addr) (fd : FuncData), X.mg x = some (.ref f) ∧ Fun X.K x x st f fd) (S : FnScope N [a] (defScope st))
    (hb : ∀ (kV doc pm : Value) (an : Option Addr) (cdv ct : Value) (us : List Value), us.length = [a].length → bindArgs (PySem.W.fnOf x x (defArgs st) (defBody st) (defScope st) .none kV doc pm an cdv ct) ⟨us, []⟩ = pure ([a].zip us))
    (hG : ∀ (g : Addr) (cdg : Value), GivesTo X N x (defScope st) g cdg (defBody st) a qn TT)
    (TB : TabB X.base X.mg c P) (hcode : X.env.code = .ref c) (hq : X.env.qual ++ "<lambda>" = qn) (hr : Room (k + 2) X.A) (L : lamSB X.env.scope scope = true)
    (hbody : ∀ (A : Around) (outer : List Env) (s : Shared) (H : Hp) (E : XK) (f c' : Addr), Room k (A.deeper (lamEnv X scope s.heap.objs.size f c')) → PE (lamCx X A outer s H E scope f c') body (t E))
    (hdef : defaultsOf params X.env = ([], []) := by rfl) (hg : Gl X x := by rfl) (hv : Vis (defScope st) a := by first | exact Or.inl rfl | exact Or.inr (Or.inl rfl)) (hNa : N[0]? = some a := by rfl)
    (hbind : ∀ (q : Str) (cl : List (Str × Addr)) (pm cv ctv : Value), bindArgs (PySem.W.kla_fn "<lambda>" q params body scope cl pm cv ctv) ⟨[], []⟩ = pure [] := by intros; rfl)
    (hdb : (x == ("__debug__" : Str)) = false := by decide) (hd : (a == ("__debug__" : Str)) = false := by decide) (hcd : (a == ("__classdict__" : Str)) = false := by decide) :
    PE X (.Call (.Name x p) [.Lambda params body scope lpos] [] pos) (tLam [(P, qn)] TT t) := by
  subst hq
  obtain ⟨g, fd, hm, F⟩ := F
  obtain ⟨oc, od, kV, doc, pm, an, cdv, ct, osl, rfl, lk, hcg⟩ := F.ex
  exact pe_lamcall hg hm F.kp lk hcg (.all (hb kV doc pm an cdv ct)) S hNa hv (hG g cdv) TB hcode (List.mem_singleton.mpr rfl) (fun q hq _ => by rw [List.mem_singleton.mp hq]) hr (lamS_by L) hdef hbind hbody hdb hd hcd
theorem extL {H H' : Hp} {p : Addr} {xs : List V} (e : ExtN H H') (h : H p = some (.lst xs)) : H' p = some (.lst xs) := e p _ h fun ps z => by cases z
theorem extT {H H' : Hp} {p : Addr} {xs : List V} (e : ExtN H H') (h : H p = some (.tup xs)) : H' p = some (.tup xs) := e p _ h fun ps z => by cases z
theorem extS {H H' : Hp} (e : Same H H') : ExtN H H' := fun b o h _ => e b o h
/-! ### comprehensions -/
theorem st_lcL {K : PySem.W.Frag} {tl : TE} {g : TG} {tt : TT} {te : TE} {vs : List Nat} {σ : L2.St} {H : Hp} {Q : VK} {a : Addr} {xs : List V} (ha : ∀ R : V → Hp → Prop, R (.ref a) H → tl σ H R) (hx : H a = some (.lst xs)) (Pv : Addr → Nat → Hp → Prop)
    (h0 : ∀ D H1, H D = none → Same H H1 → H1 D = some (.lst []) → Pv D 0 H1) (hl : ∀ D i H, Pv D i H → H a = some (.lst xs))
    (hs : ∀ D i x H, xs[i]? = some x → Pv D i H → g x (wipe σ vs) H fun σ2 H2 => wipe σ2 vs = wipe σ vs ∧ tt σ2 H2 fun b H3 => if b = true then te σ2 H3 fun y H4 => ∃ acc, H4 D = some (.lst acc) ∧ acc.length < sizeLine ∧ Pv D (i + 1) (upd H4 D (.lst (acc ++ [y]))) else Pv D (i + 1) H3)
    (hd : ∀ D H, Pv D xs.length H → Q (.ref D) H) : tLc (iList K tl) g tt te vs σ H Q :=
  ha _ ⟨a, rfl, ⟨xs, SqL.of hx⟩, fun D hD => lc_list (Pv D) (h0 D _ hD (Same.upd hD) upd_same) (fun i H _ p => SqL.of (hl D i H p)) (hs D) (hd D)⟩
/-- deep == of what is alike -/
theorem dataEq {d : PyData} (h : SeqAt.shaped d = true) : PyData.eqv d d = true := SeqAt.eqv_refl d (SeqAt.canLay_of_shaped h)
theorem lk0 {f : Str} {v : V} : List.lookup f [(f, v)] = some v := by simp [List.lookup]
theorem ne_same {K : PySem.W.Frag} {x y : V} {H : Hp} {d : PyData} {R : VK} (hx : Dp K H x d) (hy : Dp K H y d) (h : SeqAt.shaped d = true) (r : R (.bl false) H) : rNeD K x y H R := ⟨d, d, hx, hy, h, h, by rw [dataEq h]; exact r⟩
theorem eq_same {K : PySem.W.Frag} {x y : V} {H : Hp} {d : PyData} {R : VK} (hx : Dp K H x d) (hy : Dp K H y d) (h : SeqAt.shaped d = true) (r : R (.bl true) H) : rEqD K x y H R := ⟨d, d, hx, hy, h, h, by rw [dataEq h]; exact r⟩
theorem dp_ss {K : PySem.W.Frag} {H : Hp} {p : Addr} {x y : Str} (h : H p = some (.tup [.str x, .str y])) : Dp K H (.ref p) (.tuple [.str x, .str y]) := .tup (SqT.of h) (.cons (.str x) (.cons (.str y) .nil))
theorem sh_ss {x y : Str} (hx : PyData.strOk x = true) (hy : PyData.strOk y = true) : SeqAt.shaped (.tuple [.str x, .str y]) = true := by simp [SeqAt.shaped, PyData.canLay0, PyData.canLayAll0, PyData.depth, PyData.depthAll, hx, hy]
theorem dp_nil {K : PySem.W.Frag} {H : Hp} {p : Addr} (h : H p = some (.lst [])) : Dp K H (.ref p) (.list []) := .lst (SqL.of h) .nil
/-- the rules that name the written part, within a comprehension -/
theorem op_neDk {X : Cx} {K : PySem.W.Frag} (e : X.K = K) (hu : X.A.units + 64 < cLine) : OpR X (compareOp .NotEq) (rNeD K) := e ▸ op_neD hu
theorem op_eqDk {X : Cx} {K : PySem.W.Frag} (e : X.K = K) (hu : X.A.units + 64 < cLine) : OpR X (compareOp .Eq) (rEqD K) := e ▸ op_eqD hu
/-! ### what the top has made, from facts -/
theorem ga_of {K : PySem.W.Frag} {x : Str} {a : Addr} (h : PySem.W.nsIn K mainGlobals x = some (some (.ref a))) : ga K x = a := by unfold ga; rw [h]
theorem ext_mk {K : PySem.W.Frag} {mg : Str → Option Value} {h : Heap} (X : K.In h) (G : h.Ns mainGlobals mg) {x fld qual nm q : Str} {st : Stmt} {C f N : Addr} {bs bm sub : List Value} {sn : List Str} {ab : Bool} {col : Option Bool} {dd od an : Option Addr} {m0 m1 m2 m3 m5 : Option Value} {oc kV dc pm cd ct : Value} {sl : Array (Option Value)} {p1 p2 p3 p4 : Pos}
    (aC : PySem.W.nsIn K mainGlobals x = some (some (.ref C))) (xL : K.lookup C = some (excClassObj nm q C N bs bm true sn sub ab col dd m0 m1 m2 m3 m5 "ValueError.__new__")) (hbm : PySem.HandSPX.refsVE bm = true)
    (sa : PySem.W.findIn K (.ref C) "__setattr__" = some (some (.builtin "object.__setattr__"))) (exC : PySem.W.subIn K (.ref C) (.type "BaseException") = some true) (tyC : PySem.W.typeIn K (.ref C) = some (.type "type")) (kC : PySem.W.keepIn K (.ref C) = true)
    (gA : PySem.W.findIn K (.ref C) "__getattribute__" = some (some (.builtin "BaseException.__getattribute__"))) (gG : PySem.W.findIn K (.ref C) "__getattr__" = some none) (hd : PySem.W.hasDictIn K C = true) (no : PySem.W.findIn K (.ref C) fld = some none)
    (iC : PySem.W.findIn K (.ref C) "__init__" = some (some (.ref f))) (tI : PySem.W.typeIn K (.ref f) = some (.type "function"))
    (lI : K.lookup f = some ⟨oc, od, .func (PySem.W.fnOf "__init__" qual (defArgs st) (defBody st) (defScope st) .none kV dc pm an cd ct), sl⟩) (cI : PySem.W.codeIn K cd qual = true) (kI : PySem.W.keepIn K (.ref f) = true)
    (S : FnScope ["self", fld] ["self", fld] (defScope st)) (hb : defBody st = [.Assign [.Attribute (.Name "self" p1) fld p2] (.Name fld p3) p4])
    (hB : ∀ (kV doc pm : Value) (an : Option Addr) (cdv ct : Value) (us : List Value), us.length = (["self", fld] : List Str).length → bindArgs (PySem.W.fnOf "__init__" qual (defArgs st) (defBody st) (defScope st) .none kV doc pm an cdv ct) ⟨us, []⟩ = pure ((["self", fld] : List Str).zip us)) : ExT K mg x fld := by
  have e := ga_of aC
  refine ⟨?_, ?_, ?_, ?_, ?_⟩
  · rw [e]; exact PySem.W.mg_of X G aC
  · rw [e]; exact ⟨⟨_, _, _, _, _, _, _, _, _, _, _, _, _, _, _, xL, hbm⟩, sa, exC, tyC, kC⟩
  · rw [e]; exact ⟨gA, gG, exC, hd⟩
  · rw [e]; exact no
  · rw [e]; exact ⟨qual, st, f, _, p1, p2, p3, p4, iC, tI, fun_mk lI cI kI, S, hb, (fun_mk (st := st) lI cI kI).binds hB⟩
theorem exi_mk {K : PySem.W.Frag} {x : Str} {C : Addr} (aC : PySem.W.nsIn K mainGlobals x = some (some (.ref C))) (hc : (PySem.W.clsIn K C).isSome = true) (ha : PySem.W.findIn K (.ref C) "__class__" = some (some (.builtin "object.__class__")))
    (hn : PySem.W.specialIn K (.builtin "object.__class__") "__get__" = some (some (.builtin "getset_descriptor.__get__"))) (ht : PySem.W.takesIn K (.builtin "object.__class__") = some true) (hm : PySem.W.mroIn K C (.type "object") = some true) : ExI K (ga K x) := by
  rw [ga_of aC]; exact ⟨hc, ha, hn, ht, hm⟩
theorem lamf_mk {K : PySem.W.Frag} {mg : Str → Option Value} {h : Heap} (X : K.In h) (G : h.Ns mainGlobals mg) {x : Str} {st : Stmt} {f c P : Addr} {od an : Option Addr} {oc kV dc pm ct : Value} {sl : Array (Option Value)}
    (a : PySem.W.nsIn K mainGlobals x = some (some (.ref f))) (l : K.lookup f = some ⟨oc, od, .func (PySem.W.fnOf x x (defArgs st) (defBody st) (defScope st) .none kV dc pm an (.ref c) ct), sl⟩) (cI : PySem.W.codeIn K (.ref c) x = true) (kI : PySem.W.keepIn K (.ref f) = true)
    (t : PySem.W.tabIn K x = some (c, P)) : LamF K mg x st := by
  have e : cOf K x = c := by unfold cOf; rw [t]; rfl
  refine ⟨f, oc, od, kV, dc, pm, an, ct, sl, PySem.W.mg_of X G a, kI, ?_, ?_⟩
  · rw [e]; exact l
  · rw [e]; exact cI
end Iz
/-! Bc -/
set_option Elab.async false
set_option linter.all false
set_option maxRecDepth 100000
set_option maxHeartbeats 4000000
namespace Iz
open PySem PySem.Spec PyProof.Rows L2
open He (ga)
/-! ### own classes: their instances stand still -/
/-- how the parameters bind, the last ones by their defaults -/
def BindD (K : PySem.W.Frag) (fd : FuncData) (ps : List Str) (dvs : List V) : Prop := ∀ j, j ≤ dvs.length → ∃ ds, Vals (dvs.drop j) ds ∧ Binds K fd ps ds
theorem BindD.none {K : PySem.W.Frag} {fd : FuncData} {ps : List Str} (b : Binds K fd ps []) : BindD K fd ps [] := fun _ _ => ⟨[], by rw [List.drop_nil]; exact .nil, b⟩
/-- the method m of the class x keeps sp -/
structure OkM (P : Program) (w : World) (K : PySem.W.Frag) (mg : Str → Option Value) (base : Heap) (CX : CXT) (k : Nat) (x m : Str) (ps : List Str) (dvs : List V) (sp : Sp) : Prop where
  ex : ∃ (f : Addr) (fd : FuncData), Meth K (ga K x) m f ∧ BindD K fd ps dvs ∧ FnOk P w K mg base CX k f fd ps sp
/-- a call of the class x keeps sp -/
structure OkK (P : Program) (w : World) (K : PySem.W.Frag) (mg : Str → Option Value) (base : Heap) (CX : CXT) (k : Nat) (x : Str) (ps : List Str) (dvs : List V) (sp : Sp) : Prop where
  ex : ∃ (f : Addr) (fd : FuncData) (si : Sp), Mk K (ga K x) f ∧ mg x = some (.ref (ga K x)) ∧ BindD K fd ("self" :: ps) dvs ∧ FnOk P w K mg base CX k f fd ("self" :: ps) si ∧
    ∀ vs H Q E, sp vs H Q E → ∀ p dx, H p = none → H dx = none → dx ≠ p → si (.ref p :: vs) (upd (upd H dx (.own p)) p (.ins (ga K x) dx [])) (fun v H2 => v = .non ∧ Q (.ref p) H2) E
/-- a new instance -/
def NewsI (H : Hp) (C : Addr) (fs : List (Str × V)) (Q : V → Hp → Prop) : Prop := ∀ p dx H2, H p = none → Same H H2 → H2 p = some (.ins C dx fs) → Q (.ref p) H2
def tMt (C : Addr) (m : Str) (sp : Sp) (dv : List V) (E : XK) (ta : TE) (t : TA) : TE := fun σ H Q => ta σ H fun x H1 => ∃ a dx fs, x = .ref a ∧ H1 a = some (.ins C dx fs) ∧ fs.lookup m = none ∧ t σ H1 fun vs H2 => sp (x :: (vs ++ dv)) H2 Q E
section
variable {X : Cx} {CX : CXT} {k j : Nat} {x m f : Str} {ps : List Str} {dvs : List V} {sp : Sp} {E : XK} {o e : Expr} {es : List Expr} {ta : TE} {t : TA} {p pos apos : Pos}
theorem pmt {pl : Sem Bool} (O : OkM X.prog X.w X.K X.mg X.base CX k x m ps dvs sp) (C : Cls X.K (ga X.K x)) (he : PE X o ta) (hj : j ≤ dvs.length) (hr : Room k X.A) (hx : Passes CX X E) (ha : PA X (e :: es) t)
    (hst : starEach (e :: es) X.env = (false, eval e X.env) :: starEach es X.env := by rfl) (hpl : (backTo pos (starEach es X.env)).any (·.1) = false := by rfl)
    (ht : eval (.Call (.Attribute o m apos) (e :: es) [] pos) X.env = (do
      let ov ← eval o X.env; standAt apos.atName
      let (f, first) ← holding [ov] (getMethod ov m pl)
      callWith pos f first (backTo pos (starEach (e :: es) X.env)) (backToKw pos (keywordEach [] X.env))) := by rfl) :
    PE X (.Call (.Attribute o m apos) (e :: es) [] pos) (tMt (ga X.K x) m sp (dvs.drop j) E ta t) := by
  obtain ⟨f, fd, M, b, G⟩ := O.ex
  obtain ⟨ds, hv, hb⟩ := b j hj
  exact pe_meth he C M G hr hb hv hx ha hst hpl ht
theorem pmt0 {pl : Sem Bool} (O : OkM X.prog X.w X.K X.mg X.base CX k x m ps dvs sp) (C : Cls X.K (ga X.K x)) (he : PE X o ta) (hj : j ≤ dvs.length) (hr : Room k X.A) (hx : Passes CX X E)
    (ht : eval (.Call (.Attribute o m apos) [] [] pos) X.env = (do
      let ov ← eval o X.env; standAt apos.atName
      let (f, first) ← holding [ov] (getMethod ov m pl)
      callWith pos f first (backTo pos (starEach [] X.env)) (backToKw pos (keywordEach [] X.env))) := by rfl) :
    PE X (.Call (.Attribute o m apos) [] [] pos) (tMt (ga X.K x) m sp (dvs.drop j) E ta tNil) := by
  obtain ⟨f, fd, M, b, G⟩ := O.ex
  obtain ⟨ds, hv, hb⟩ := b j hj
  exact pe_meth0 he C M G hr hb hv hx ht
theorem pmk (O : OkK X.prog X.w X.K X.mg X.base CX k x ps dvs sp) (hj : j ≤ dvs.length) (hr : Room (k + 1) X.A) (hx : Passes CX X E) (ha : PA X (e :: es) t) (hg : Gl X x := by rfl) (hdb : (x == ("__debug__" : Str)) = false := by decide)
    (he : starEach (e :: es) X.env = (false, eval e X.env) :: starEach es X.env := by rfl) (hpl : (backTo pos (starEach es X.env)).any (·.1) = false := by rfl) : PE X (.Call (.Name x p) (e :: es) [] pos) (tCall sp (dvs.drop j) E t) := by
  obtain ⟨f, fd, si, M, g, b, G, q⟩ := O.ex
  obtain ⟨ds, hv, hb⟩ := b j hj
  exact PE.imp (pe_make M G hr hg g hb hv hx (PA.mcl ha) hdb he hpl) fun σ H Q h => ⟨_, h, fun vs H1 h1 p dx h2 h3 h4 => q _ H1 Q _ h1 p dx h2 h3 h4⟩
theorem pmk0 (O : OkK X.prog X.w X.K X.mg X.base CX k x ps dvs sp) (hj : j ≤ dvs.length) (hr : Room (k + 1) X.A) (hx : Passes CX X E) (hg : Gl X x := by rfl) (hdb : (x == ("__debug__" : Str)) = false := by decide) : PE X (.Call (.Name x p) [] [] pos) (tCall sp (dvs.drop j) E tNil) := by
  obtain ⟨f, fd, si, M, g, b, G, q⟩ := O.ex
  obtain ⟨ds, hv, hb⟩ := b j hj
  exact PE.imp (pe_make0 M G hr hg g hb hv hx hdb) fun σ H Q h => fun p dx h2 h3 h4 => q _ H Q _ h p dx h2 h3 h4
def tFldN (C : Addr) (ta : TE) (f : Str) : TE := fun σ H Q => ta σ H fun x H1 => ∃ a dx fs v, x = .ref a ∧ H1 a = some (.ins C dx fs) ∧ fs.lookup f = some v ∧ Q v H1
theorem pe_fldN {C : Addr} (c : Cls X.K C) (n : NoAttr X.K C f) (h : PE X o ta) (hb : attributeBase o f X.env (eval o X.env) = eval o X.env := by rfl) : PE X (.Attribute o f apos) (tFldN C ta f) :=
  PE.imp (pe_fld (PE.mcl h) hb) fun σ H Q q => ⟨_, q, fun x H1 ⟨a, dx, fs, v, e1, e2, e3, q⟩ => ⟨a, C, dx, fs, v, e1, e2, c, n, e3, q⟩⟩
end
theorem lk1 {f g : Str} {v w : V} (h : (f == g) = false) : List.lookup f [(g, w), (f, v)] = some v := by simp [List.lookup, h]
theorem lkn2 {f g h : Str} {v w : V} (h1 : (f == g) = false) (h2 : (f == h) = false) : List.lookup f [(g, v), (h, w)] = none := by simp [List.lookup, h1, h2]
theorem lkh {f : Str} {v : V} {l : List (Str × V)} : List.lookup f ((f, v) :: l) = some v := by simp [List.lookup]
/-- None or an int -/
def ov : Option Int → V
  | none => .non
  | some i => .int i
theorem wh_ov {K : PySem.W.Frag} {H : Hp} {o : Option Int} : Wh K H (ov o) := by cases o; exact wh_non; exact wh_int
theorem putF_nil {f : Str} {v : V} : putF f v [] = [(f, v)] := rfl
theorem putF_cons {f g : Str} {v w : V} {l : List (Str × V)} (h : g ≠ f) : putF f v ((g, w) :: l) = (g, w) :: putF f v l := by
  show (if g = f then _ else _) = _
  rw [if_neg h]
/-- self.f = e, the object's class known -/
def tSto (C : Addr) (f : Str) (ta tv : TE) : TS := fun D σ H => tv σ H fun y H1 => ta σ H1 fun x H2 => ∃ a dx fs, x = .ref a ∧ H2 a = some (.ins C dx fs) ∧ fs.length < 1000 ∧ ∀ H3, Put H2 H3 a (.ins C dx (putF f y fs)) → D.nx σ H3
theorem ps_fldN {X : Cx} {C : Addr} {f : Str} {o e : Expr} {ta tv : TE} {apos pos : Pos} (c : Cls X.K C) (n : NoAttr X.K C f) (ho : PE X o ta) (he : PE X e tv) (hs : swapsWith e (some (.Attribute o f apos)) pos.line X.env = pure false := by rfl) : PS X (.Assign [.Attribute o f apos] e pos) (tSto C f ta tv) :=
  PS.imp (ps_fld (PE.mcl ho) (PE.mcl he) hs) fun D σ H q => ⟨_, q, fun y H1 q1 => ⟨_, q1, fun x H2 ⟨a, dx, fs, e1, e2, e3, k⟩ => ⟨a, C, dx, fs, e1, e2, c, n, e3, k _ ⟨upd_same, fun _ h => upd_ne h⟩⟩⟩⟩
theorem tyX_mono {K : PySem.W.Frag} {H H' : Hp} {x : V} {t : Value} (h : TyX K H x t) (s : Same H H') : TyX K H' x t := by
  cases h with
  | base b =>
    cases b with
    | non => exact .base .non
    | bl b => exact .base (.bl b)
    | int i => exact .base (.int i)
    | str y => exact .base (.str y)
    | flt y => exact .base (.flt y)
    | lst e => exact .base (.lst (s _ _ e))
    | frz e => exact .base (.frz (s _ _ e))
    | tup e => exact .base (.tup (s _ _ e))
    | dK e => exact .base (.dK (s _ _ e))
    | dT e => exact .base (.dT (s _ _ e))
    | ins e a b c d f => exact .base (.ins (s _ _ e) a b c d f)
  | byt b => exact .byt b
  | set e => exact .set (s _ _ e)
  | kList e c => exact .kList e c
  | kTuple e c => exact .kTuple e c
  | kDict e c => exact .kDict e c
  | fTuple e => exact .fTuple (s _ _ e)
  | fDict e => exact .fDict (s _ _ e)
theorem wh_mono {K : PySem.W.Frag} {H H' : Hp} {x : V} (h : Wh K H x) (s : Same H H') : Wh K H' x := let ⟨t, b, c, ty, r⟩ := h; ⟨t, b, c, tyX_mono ty s, r⟩
theorem same_made {H H' : Hp} {p dx : Addr} {o o' : HO} (hp : H p = none) (hd : H dx = none) (h : ∀ b, b ≠ p → H' b = upd (upd H dx o) p o' b) : Same H H' := fun b u e => by
  rw [h b (ne_of_none e hp), upd_ne (ne_of_none e hp), upd_ne (ne_of_none e hd)]; exact e
/-- isinstance with an own class -/
def rIsOw (K : PySem.W.Frag) : List V → Hp → VK → Prop := fun xs H Q => ∃ x c, xs = [x, .ref c] ∧ ∃ t b, TyX K H x t ∧ PySem.W.kitOne K t (.ref c) = some b ∧ Q (.bl b) H
theorem call_isOw {X : Cx} : CallR X (.builtin "isinstance") (rIsOw X.K) := CallR.imp call_isi fun xs H Q ⟨x, c, a, t, b, ty, k, q⟩ => ⟨x, .ref c, t, .ref c, b, a, .own c, ty, k, q⟩
/-- what isinstance asks of an own class -/
structure ClsI (K : PySem.W.Frag) (C : Addr) : Prop where
  c : Cls K C
  ha : PySem.W.findIn K (.ref C) "__class__" = some (some (.builtin "object.__class__"))
  hn : PySem.W.specialIn K (.builtin "object.__class__") "__get__" = some (some (.builtin "getset_descriptor.__get__"))
  ht : PySem.W.takesIn K (.builtin "object.__class__") = some true
  hm : PySem.W.mroIn K C (.type "object") = some true
theorem ClsI.ty {K : PySem.W.Frag} {C : Addr} {H : Hp} {a dx : Addr} {fs : List (Str × V)} (T : ClsI K C) (h : H a = some (.ins C dx fs)) : TyX K H (.ref a) (.ref C) := .base (.ins h T.c T.ha T.hn T.ht T.hm)
theorem kit_self {K : PySem.W.Frag} {t : Value} (h : (t == t) = true := by simp) : PySem.W.kitOne K t t = some true := by unfold PySem.W.kitOne; rw [if_pos h]
end Iz
/-! RlA -/
set_option Elab.async false
set_option linter.all false
set_option maxRecDepth 100000
set_option maxHeartbeats 4000000
namespace Iz
open PySem PySem.Spec PyProof.Rows L2
/-! ### ranges with great ends: another iterator goes through them -/
theorem slotL_next : Slot "longrange_iterator" "__next__" "longrange_iterator.__next__" :=
  .of (owner := "longrange_iterator") (n := "__next__") (by rw [typeLookup_type, builtinLookup_eq_fast]; kernel_rfl) (by decide +kernel) (by decide +kernel) (by decide +kernel)
    (by first | exact .inl (by decide +kernel) | exact .inr (by decide +kernel)) (by rw [isSubtype_type]; kernel_rfl)
theorem ownerL : Manifest.owners.lookup (String.ofList ['r', 'o', 't', 'a', 'r', 'e', 't', 'i', '_', 'e', 'g', 'n', 'a', 'r', 'g', 'n', 'o', 'l'].reverse) = some Manifest.sig_longrange_iterator := by kernel_rfl
theorem entryL_next : entryFor table "longrange_iterator.__next__" = some Builtin.«longrange_iterator.__next__» := entryFor_of_tree (by kernel_rfl)
theorem argsL_next (a : Value) : argsOk "longrange_iterator.__next__" ⟨[a], []⟩ := by
  unfold argsOk; rw [signature?_of (id := "longrange_iterator.__next__") (n := ['_', '_', 't', 'x', 'e', 'n', '_', '_']) (o := ['r', 'o', 't', 'a', 'r', 'e', 't', 'i', '_', 'e', 'g', 'n', 'a', 'r', 'g', 'n', 'o', 'l']) (by kernel_rfl) ownerL]; kernel_rfl
abbrev IsLR (h : Heap) (it : Addr) (x left step : Int) : Prop := h.get? it = some { cls := .type "longrange_iterator", dict := none, data := .fields #[rawInt x, rawInt left, rawInt step], slots := #[] }
theorem slotL_iter : Slot "longrange_iterator" "__iter__" "longrange_iterator.__iter__" :=
  .of (owner := "longrange_iterator") (n := "__iter__") (by rw [typeLookup_type, builtinLookup_eq_fast]; kernel_rfl) (by decide +kernel) (by decide +kernel) (by decide +kernel)
    (by first | exact .inl (by decide +kernel) | exact .inr (by decide +kernel)) (by rw [isSubtype_type]; kernel_rfl)
theorem argsL_iter (a : Value) : argsOk "longrange_iterator.__iter__" ⟨[a], []⟩ := by
  unfold argsOk; rw [signature?_of (id := "longrange_iterator.__iter__") (n := ['_', '_', 'r', 'e', 't', 'i', '_', '_']) (o := ['r', 'o', 't', 'a', 'r', 'e', 't', 'i', '_', 'e', 'g', 'n', 'a', 'r', 'g', 'n', 'o', 'l']) (by kernel_rfl) ownerL]; kernel_rfl
theorem entryL_iter : entryFor table "longrange_iterator.__iter__" = some Builtin.«dict_keyiterator.__iter__» :=
  entryFor_alias (id' := "dict_keyiterator.__iter__") (by kernel_rfl) (by first | rfl | decide +kernel | (unfold String.splitOn; simp +decide [String.splitOnAux])) (by decide +kernel) (by kernel_rfl)
end Iz
/-! Rl -/
set_option Elab.async false
set_option linter.all false
set_option maxRecDepth 100000
set_option maxHeartbeats 4000000
namespace Iz
open PySem PySem.Spec PyProof.Rows L2
theorem meetsL_next (it : Addr) (x left step : Int) (hc0 : ¬left ≤ 0) :
    Meets (Builtin.«longrange_iterator.__next__» ⟨[.ref it], []⟩) (fun _ R s => s.heap.get? it = some { cls := .type "longrange_iterator", dict := none, data := .fields #[rawInt x, rawInt left, rawInt step], slots := #[] } ∧ R (.ok (.ret (Value.int x s.toks))) { s with heap := (s.heap.update it (Obj.mapFields fun x_1 => x_1.setIfInBounds 0 (rawInt (x + step)))).update it (Obj.mapFields fun x => x.setIfInBounds 1 (rawInt (left - 1))), toks := s.toks + 1 }) :=
  .of_wp fun prog w A R s h => by obtain ⟨hp, g, d, tk, os⟩ := s; obtain ⟨hl, h⟩ := h; unfold Builtin.«longrange_iterator.__next__» Builtin.Iterators_pickling.intField; wp_walk; exact ⟨_, rfl, h⟩
section
variable {prog : Program} {w : World} {A : Around} {E : Value → Shared → Prop} {s : Shared}
theorem nextL_item {it : Addr} {x left step : Int} {Q : Option Value → Shared → Prop} (hit : IsLR s.heap it x left step) (hleft : 0 < left)
    (hQ : ∀ h', IsLR h' it (x + step) (left - 1) step → Heap.SameBut it s.heap h' → Q (some (.int x s.toks)) { s with heap := h', toks := s.toks + 1 }) :
    wpAny (model prog w) A (pyNext (.ref it)) Q E s := by
  have hT : s.TypeIs (.ref it) "longrange_iterator" := ⟨_, hit, rfl⟩
  unfold pyNext
  refine wpAny_bind (wpAny_attempt (wpAny_callSpecial?_slot (name := Str.ofString "__next__") hT slotL_next
    (call_meets slotL_next hT entryL_next (argsL_next _) (meetsL_next it x left step (by omega)) ⟨hit, ?_⟩)))
  exact wpAny_pure (hQ _ (Heap.get?_update_self _ (Heap.get?_update_self _ hit rfl) rfl) ((Heap.SameBut.update ..).trans (Heap.SameBut.update ..)))
theorem intF {id : String} {a : Addr} {o : Obj} {vs : Array Value} {i : Nat} {x : Int} {Q : Int → Shared → Prop} (ho : s.heap.get? a = some o) (hd : o.data = .fields vs) (hi : vs[i]? = some (rawInt x)) (h : Q x s) :
    wpAny (model prog w) A (Builtin.Iterators_pickling.intField id (.ref a) i) Q E s := by
  unfold Builtin.Iterators_pickling.intField
  exact wpAny_bind (wpAny_field ho hd hi (wpAny_pure h))
theorem nextL_end {it : Addr} {x left step : Int} {Q : Option Value → Shared → Prop} (hh : A.handled = none) (hit : IsLR s.heap it x left step) (hleft : left ≤ 0)
    (hQ : ∀ h', Heap.ExtBut it s.heap h' → Q none { s with heap := h' }) : wpAny (model prog w) A (pyNext (.ref it)) Q E s := by
  have hT : s.TypeIs (.ref it) "longrange_iterator" := ⟨_, hit, rfl⟩
  unfold pyNext
  refine wpAny_bind (wpAny_attempt (wpAny_callSpecial?_slot (name := Str.ofString "__next__") hT slotL_next
    (wpAny_call_entry slotL_next hT entryL_next ?_ (argsL_next _))))
  unfold Builtin.«longrange_iterator.__next__»
  refine wpAny_bind (wpAny_of_eq (a := #[some (Value.ref it)]) (by first | rfl | kernel_rfl) ?_)
  refine wpAny_bind (intF hit rfl (x := x) rfl ?_)
  refine wpAny_bind (intF hit rfl (x := left) rfl ?_)
  refine wpAny_bind (intF hit rfl (x := step) rfl ?_)
  simp only [if_pos hleft]
  refine wpAny_bind (wpAny_rule ?_)
  simp only [newExc, newTuple]
  refine wpAny_bind ?_
  refine wpAny_bind (wpAny_newObj_type ?_ (by size_fits))
  refine wpAny_bind (m := firstArgMember _ _) (wpAny_of_eq (a := Value.none) (by first | rfl | (simp only [firstArgMember]; rfl)) ?_)
  refine wpAny_newObj_type ?_ (by size_fits)
  simp only [raiseNew]
  refine wpAny_bind (wpAny_bind (wpAny_handled ?_))
  first | rw [show A.in1.handled = none from hh] | rw [hh]
  refine wpAny_throw ?_
  refine wpAny_bind (wpAny_isInstance (T := "StopIteration") (b := true) ⟨_, Heap.get?_push_size _ rfl, rfl⟩ isSubtype_stop ?_)
  exact wpAny_pure (hQ _ (((Heap.ExtBut.refl it s.heap).push _).push _))
theorem iterL_self {it : Addr} {x left step : Int} {Q : Value → Shared → Prop} (hit : IsLR s.heap it x left step) (h : Q (.ref it) s) : wpAny (model prog w) A (pyIter (.ref it)) Q E s := by
  have hT : s.TypeIs (.ref it) "longrange_iterator" := ⟨_, hit, rfl⟩
  refine wpAny_pyIter_slot hT slotL_iter (wpAny_call_entry slotL_iter hT entryL_iter ?_ (argsL_iter _))
  show wpAny _ _ (ret (.ref it)) _ _ s
  exact wpAny_pure ⟨_, rfl, "longrange_iterator", _, hT, slotL_next.lookup, h⟩
theorem iterL_range {r : Addr} {a b c : Int} {t u v : Tok} {Q : Value → Shared → Prop} (hr : IsRange s.heap r a b c t u v) (hsmall : ¬ Builtin.Range.small a b c = true)
    (hQ : Q (.ref s.heap.objs.size) { s with heap := s.heap.push { cls := .type "longrange_iterator", data := .fields #[rawInt a, rawInt (Builtin.Range.rangeSize a b c), rawInt c] } }) :
    wpAny (model prog w) A (pyIter (.ref r)) Q E s := by
  have hT : s.TypeIs (.ref r) "range" := ⟨_, hr, rfl⟩
  refine wpAny_pyIter_slot hT F.slot_range_iter (call_meets F.slot_range_iter hT F.entry_range_iter (F.args_range_iter_1 _)
    (AutoRange.range___iter___range_0 r a b c t u v (by have e := Bool.eq_false_iff.mpr hsmall; unfold Builtin.Range.small at e; rw [e]; rfl)) ⟨hr, ?_⟩)
  unfold Builtin.Range.small at hsmall
  rw [if_neg hsmall]
  exact ⟨"longrange_iterator", _, ⟨_, Heap.get?_push_size _ rfl, rfl⟩, slotL_next.lookup, hQ⟩
end
theorem turnL {P : Program} {w : World} {K : PySem.W.Frag} {tg : Expr} (it : Addr) (lo : Int) (n : Nat) : Turn P w K tg (Itr lo n) [it] it (fun i h => IsLR h it (lo + (i : Nat)) ((n : Int) - (i : Nat)) 1) where
  mem := by simp
  obj := fun i h st b hb => by
    have e : b = it := by simpa using hb
    subst e
    exact ⟨_, st, fun v z => by
      have z' : Data.fields _ = Data.cell v := z
      cases z'⟩
  keep := fun i h h' st k => k it (by simp) _ st
  item := by
    intro X hP hw hK hc i pins s σ H E I hf st hg
    subst hP hw hK
    obtain ⟨f0, f1, f2, f3, f4, f5⟩ := hf it (by simp)
    have hg' : i < n := hg
    refine nextL_item st (by omega) fun h' st' sb => ?_
    have I1 : Inv X pins σ H { s with heap := h', toks := s.toks + 1 } := I.turned (fun b o hb e => (sb.2 b hb).trans e) f0 f1 f3 f4 f5
    have e1 : lo + ((i + 1 : Nat) : Int) = lo + (i : Int) + 1 := by omega
    have e2 : (n : Int) - ((i + 1 : Nat) : Int) = (n : Int) - (i : Int) - 1 := by omega
    refine ⟨_, rfl, go_of (s := { s with heap := h', toks := s.toks + 1 }) (n := "longrange_iterator") st' rfl rfl (by decide) ⟨.int (lo + i), H, I1, ⟨_, rfl⟩, ⟨rfl, rfl⟩, ?_, fun b hb => (hf b hb).1⟩⟩
    show IsLR h' it (lo + ((i + 1 : Nat) : Int)) ((n : Int) - ((i + 1 : Nat) : Int)) 1
    rw [e1, e2]; exact st'
  done := by
    intro X hP hw hK hc i pins s σ H E I hf st hg
    subst hP hw hK
    obtain ⟨f0, f1, f2, f3, f4, f5⟩ := hf it (by simp)
    exact nextL_end (I.ok.hd hc) st (by have : n ≤ i := hg; omega) fun h' eb => ⟨rfl, I.turned (t' := s.toks) (fun b o hb e => eb b o hb e) f0 f1 f3 f4 f5⟩
  self := fun _ _ _ _ _ st h => iterL_self st h
section
variable {X : Cx} {tg : Expr}
theorem range_itL {pins : List (Addr × Obj)} {σ : L2.St} {H : Hp} {s : Shared} {R : It → Hp → Prop} {E : Value → Shared → Prop} {lo hi : Int} {t u v : Tok} {tk : Nat} (I : Inv X pins σ H s)
    (q : R (Itr lo (hi - lo).toNat) H) : wpAny (model X.prog X.w) X.A (pyIter (.ref s.heap.objs.size)) (PIE X pins σ tg R) E { s with heap := s.heap.push { cls := .type "range", data := .fields #[.int lo t, .int hi u, .int 1 v] }, toks := tk } := by
  have I1 : Inv X pins σ H { s with heap := s.heap.push { cls := .type "range", data := .fields #[.int lo t, .int hi u, .int 1 v] }, toks := tk } := I.kept fun b o e => Heap.get?_push_of_some _ e
  have e2 : (((hi - lo).toNat : Nat) : Int) - ((0 : Nat) : Int) = Builtin.Range.rangeSize lo hi 1 := by rw [rangeSize_one]; split <;> omega
  by_cases hs : Builtin.Range.small lo hi 1 = true
  · refine wpAny_pyIter_range (IsRange.new ..) hs ?_
    refine ⟨(s.heap.push { cls := .type "range", data := .fields #[.int lo t, .int hi u, .int 1 v] }).objs.size, [(s.heap.push { cls := .type "range", data := .fields #[.int lo t, .int hi u, .int 1 v] }).objs.size], _, _, H, rfl,
      I1.kept (t' := tk) fun b o e => Heap.get?_push_of_some _ e, turn_range _ lo (hi - lo).toNat, ?_, fun b hb => ?_, q⟩
    · have e1 : lo + ((0 : Nat) : Int) * 1 = lo := by simp
      show IsRangeIter _ _ (lo + ((0 : Nat) : Int) * 1) ((((hi - lo).toNat : Nat) : Int) - ((0 : Nat) : Int)) 1
      rw [e1, e2]
      exact Heap.get?_push_size _ rfl
    · have e : b = (s.heap.push { cls := .type "range", data := .fields #[.int lo t, .int hi u, .int 1 v] }).objs.size := by simpa using hb
      subst e
      exact I1.fpOk (Nat.le_refl _) (I1.hok.fresh (Nat.le_refl _))
  · refine iterL_range (IsRange.new ..) hs ?_
    refine ⟨(s.heap.push { cls := .type "range", data := .fields #[.int lo t, .int hi u, .int 1 v] }).objs.size, [(s.heap.push { cls := .type "range", data := .fields #[.int lo t, .int hi u, .int 1 v] }).objs.size], _, _, H, rfl,
      I1.kept (t' := tk) fun b o e => Heap.get?_push_of_some _ e, turnL _ lo (hi - lo).toNat, ?_, fun b hb => ?_, q⟩
    · have e1 : lo + ((0 : Nat) : Int) = lo := by simp
      show IsLR _ _ (lo + ((0 : Nat) : Int)) ((((hi - lo).toNat : Nat) : Int) - ((0 : Nat) : Int)) 1
      rw [e1, e2]
      exact Heap.get?_push_size _ rfl
    · have e : b = (s.heap.push { cls := .type "range", data := .fields #[.int lo t, .int hi u, .int 1 v] }).objs.size := by simpa using hb
      subst e
      exact I1.fpOk (Nat.le_refl _) (I1.hok.fresh (Nat.le_refl _))
/-- range(lo, hi), of any size -/
def iRngL (ta : TA) : TI := fun σ H R => ta σ H fun vs H1 => ∃ i j : Int, vs = [.int i, .int j] ∧ R (Itr i (j - i).toNat) H1
theorem pi_rangeL {a b : Expr} {ta : TA} {p pos : Pos} (hg : Gl X "range") (hm : X.mg "range" = none) (ha : PA X [a, b] ta) (hs : starEach [a, b] X.env = [(false, eval a X.env), (false, eval b X.env)] := by rfl) (hs2 : starEach [b] X.env = [(false, eval b X.env)] := by rfl) :
    PI X tg (.Call (.Name "range" p) [a, b] [] pos) (iRngL ta) := by
  refine ⟨fun pins s σ H R I h => ?_⟩
  refine Call_ (ld_blt I hg hm boot_range (PyProof.Rows.callWith_type1 (thn (ha.run pos pins s σ H _ I h) fun us s1 ⟨vs, H1, I1, r1, q1⟩ => ?_) (by rw [hs, hs2]) (by rw [hs2]; rfl)))
  obtain ⟨i, j, e, q⟩ := q1
  subst e
  cases r1 with
  | cons r rr =>
    cases rr with
    | cons r' rr =>
      cases rr
      obtain ⟨t, rfl⟩ := r
      obtain ⟨t', rfl⟩ := r'
      exact call_range_2 (range_itL I1 q)
end
end Iz
/-! Ls -/
set_option Elab.async false
set_option linter.all false
set_option maxRecDepth 100000
set_option maxHeartbeats 4000000
namespace Iz
open PySem PySem.Spec PyProof.Rows L2
/-! ### loops over lists, tuples and ranges, comprehensions of what is told by functions -/
section
variable {K : PySem.W.Frag} {g : TG} {tb : TS} {D : Ends} {σ : L2.St} {H : Hp} {ta : TA} {tl : TE} {tt : TT} {te : TE} {vs : List Nat} {Q : VK}
theorem st_forRL (lo j : Int) (ha : ∀ R : List V → Hp → Prop, R [.int lo, .int j] H → ta σ H R) (Pv : Nat → L2.St → Hp → Prop) (h0 : Pv 0 σ H)
    (hs : ∀ i σ H, i < (j - lo).toNat → Pv i σ H → g (.int (lo + i)) σ H fun σ2 H2 => tb { D with nx := Pv (i + 1), ct := Pv (i + 1), bk := D.nx } σ2 H2) (hd : ∀ σ H, Pv (j - lo).toNat σ H → D.nx σ H) : tFor (iRngL ta) g tb D σ H :=
  ha _ ⟨lo, j, rfl, for_range Pv h0 hs hd⟩
theorem st_forL {a : Addr} {xs : List V} (ha : ∀ R : V → Hp → Prop, R (.ref a) H → tl σ H R) (hx : H a = some (.lst xs)) (Pv : Nat → L2.St → Hp → Prop) (h0 : Pv 0 σ H) (hl : ∀ i σ H, Pv i σ H → H a = some (.lst xs))
    (hs : ∀ i x σ H, xs[i]? = some x → Pv i σ H → g x σ H fun σ2 H2 => tb { D with nx := Pv (i + 1), ct := Pv (i + 1), bk := D.nx } σ2 H2) (hd : ∀ σ H, Pv xs.length σ H → D.nx σ H) : tFor (iList K tl) g tb D σ H :=
  ha _ ⟨a, rfl, ⟨xs, SqL.of hx⟩, for_list Pv h0 (fun i σ H _ p => SqL.of (hl i σ H p)) hs hd⟩
theorem st_forT {a : Addr} {xs : List V} (ha : ∀ R : V → Hp → Prop, R (.ref a) H → tl σ H R) (hx : H a = some (.tup xs)) (Pv : Nat → L2.St → Hp → Prop) (h0 : Pv 0 σ H) (hl : ∀ i σ H, Pv i σ H → H a = some (.tup xs))
    (hs : ∀ i x σ H, xs[i]? = some x → Pv i σ H → g x σ H fun σ2 H2 => tb { D with nx := Pv (i + 1), ct := Pv (i + 1), bk := D.nx } σ2 H2) (hd : ∀ σ H, Pv xs.length σ H → D.nx σ H) : tFor (iTup K tl) g tb D σ H :=
  ha _ ⟨a, rfl, ⟨xs, SqT.of hx⟩, for_tup Pv h0 (fun i σ H _ p => SqT.of (hl i σ H p)) hs hd⟩
/-- lo, .., j - 1 -/
def intsB (lo j : Int) : List Int := (List.range (j - lo).toNat).map fun (k : Nat) => lo + (k : Int)
theorem mem_intsB {lo j i : Int} : i ∈ intsB lo j ↔ lo ≤ i ∧ i < j := by
  simp only [intsB, List.mem_map, List.mem_range]
  constructor
  · rintro ⟨k, hk, rfl⟩; omega
  · rintro ⟨h1, h2⟩; exact ⟨(i - lo).toNat, by omega, by omega⟩
theorem take_filter_succ {α : Type} {xs : List α} {i : Nat} {x : α} (h : xs[i]? = some x) (p : α → Bool) : (xs.take (i + 1)).filter p = (xs.take i).filter p ++ (if p x = true then [x] else []) := by
  rw [List.take_succ, h, List.filter_append]
  congr 1
  by_cases e : p x = true <;> simp [e]
/-- [f(x) for x in xs if p(x)] -/
theorem st_lcLF {a : Addr} {xs : List V} (ha : ∀ R : V → Hp → Prop, R (.ref a) H → tl σ H R) (hx : H a = some (.lst xs)) (hz : xs.length ≤ sizeLine) (p : V → Bool) (f : V → V)
    (hs : ∀ x H' (A : Hp → Prop) (B : VK), x ∈ xs → Same H H' → (p x = false → ∀ H3, Same H' H3 → A H3) → (p x = true → ∀ H4, Same H' H4 → B (f x) H4) →
      g x (wipe σ vs) H' fun σ2 H2 => wipe σ2 vs = wipe σ vs ∧ tt σ2 H2 fun b H3 => if b = true then te σ2 H3 B else A H3)
    (hd : ∀ D H', H D = none → Same H H' → H' D = some (.lst ((xs.filter p).map f)) → Q (.ref D) H') : tLc (iList K tl) g tt te vs σ H Q := by
  refine ha _ ⟨a, rfl, ⟨xs, SqL.of hx⟩, fun D hD => lc_list (fun i H' => Same H H' ∧ H' D = some (.lst (((xs.take i).filter p).map f))) ⟨Same.upd hD, upd_same⟩ (fun i H' _ q => SqL.of (q.1 _ _ hx)) (fun i x H' hi q => ?_) (fun H' q => hd D H' hD q.1 (by rw [q.2, List.take_length]))⟩
  refine hs x H' _ _ (List.mem_of_getElem? hi) q.1 (fun e H3 s3 => ⟨q.1.trans s3, ?_⟩) (fun e H4 s4 => ⟨_, s4 _ _ q.2, ?_, ?_, ?_⟩)
  · rw [s3 _ _ q.2, take_filter_succ hi, e]; simp
  · have hi' := (List.getElem?_eq_some_iff.mp hi).1
    have h1 : ((xs.take i).filter p).length ≤ (xs.take i).length := List.length_filter_le _ _
    have h2 : (xs.take i).length ≤ i := by rw [List.length_take]; exact Nat.min_le_left _ _
    rw [List.length_map]; omega
  · exact fun b u e2 => by
      have hb : b ≠ D := ne_of_none e2 hD
      rw [upd_ne hb]; exact s4 _ _ (q.1 _ _ e2)
  · rw [upd_same, take_filter_succ hi, e]; simp
/-- [f(x) for x in range(lo, j) if p(x)] -/
theorem st_lcRF (lo j : Int) (ha : ∀ R : List V → Hp → Prop, R [.int lo, .int j] H → ta σ H R) (hz : (j - lo).toNat ≤ sizeLine) (p : Int → Bool) (f : Int → V)
    (hs : ∀ x H' (A : Hp → Prop) (B : VK), lo ≤ x → x < j → Same H H' → (p x = false → ∀ H3, Same H' H3 → A H3) → (p x = true → ∀ H4, Same H' H4 → B (f x) H4) →
      g (.int x) (wipe σ vs) H' fun σ2 H2 => wipe σ2 vs = wipe σ vs ∧ tt σ2 H2 fun b H3 => if b = true then te σ2 H3 B else A H3)
    (hd : ∀ D H', H D = none → Same H H' → H' D = some (.lst (((intsB lo j).filter p).map f)) → Q (.ref D) H') : tLc (iRngL ta) g tt te vs σ H Q := by
  refine ha _ ⟨lo, j, rfl, fun D hD => lc_range (fun i H' => Same H H' ∧ H' D = some (.lst ((((intsB lo j).take i).filter p).map f))) ⟨Same.upd hD, upd_same⟩ (fun i H' hi q => ?_) (fun H' q => hd D H' hD q.1 (by rw [q.2, show (j - lo).toNat = (intsB lo j).length by simp [intsB], List.take_length]))⟩
  have hi' : (intsB lo j)[i]? = some (lo + (i : Int)) := by simp [intsB, hi]
  refine hs (lo + i) H' _ _ (by omega) (by omega) q.1 (fun e H3 s3 => ⟨q.1.trans s3, ?_⟩) (fun e H4 s4 => ⟨_, s4 _ _ q.2, ?_, ?_, ?_⟩)
  · rw [s3 _ _ q.2, take_filter_succ hi', e]; simp
  · have h1 : (((intsB lo j).take i).filter p).length ≤ ((intsB lo j).take i).length := List.length_filter_le _ _
    have h2 : ((intsB lo j).take i).length ≤ i := by rw [List.length_take]; exact Nat.min_le_left _ _
    rw [List.length_map]; omega
  · exact fun b u e2 => by
      have hb : b ≠ D := ne_of_none e2 hD
      rw [upd_ne hb]; exact s4 _ _ (q.1 _ _ e2)
  · rw [upd_same, take_filter_succ hi', e]; simp
end
end Iz
namespace Iz
open PySem PySem.Spec PyProof.Rows L2
/-! ### slices, + of lists, deep ==, in the form that simp reads -/
section
variable {X : Cx} {e : Expr} {te : TE}
def tRevLN (te : TE) : TE := fun σ H Q => te σ H fun x H1 => ∃ a xs, x = .ref a ∧ H1 a = some (.lst xs) ∧ News H1 (.lst xs.reverse) Q
theorem pe_revLN {k : Nat} {p1 p2 p3 pos : Pos} (he : PE X e te) : PE X (.Subscript e (.Slice none none (some (.UnaryOp .USub (.Constant (.int 1) k p1) p2)) p3) pos) (tRevLN te) :=
  PE.imp (pe_revL (PE.mcl he)) fun σ H Q q => ⟨_, q, fun v H1 ⟨a, xs, e1, e2, n⟩ => ⟨a, xs, e1, SqL.of e2, n.all⟩⟩
def rCatN : R2 := fun x y H Q => ∃ l b xs zs, x = .ref l ∧ y = .ref b ∧ H l = some (.lst xs) ∧ H b = some (.lst zs) ∧ xs.length + zs.length ≤ sizeLine ∧ News H (.lst (xs ++ zs)) Q
theorem op_catN : OpR X (binaryOp .Add) rCatN := fun pins s σ H x y v u Q I rx ry ⟨l, b, xs, zs, e1, e2, e3, e4, e5, n⟩ => op_cat pins s σ H x y v u Q I rx ry ⟨l, b, xs, zs, e1, e2, e3, e4, e5, n.all⟩
end
/-- x in xs, x not in xs: flat things -/
def rInTN (neg : Bool) : R2 := fun x y H Q => ∃ p xs, y = .ref p ∧ H p = some (.tup xs) ∧ flatV x = true ∧ xs.all flatV = true ∧ Q (.bl (if neg then !inV x xs else inV x xs)) H
def rInLN (neg : Bool) : R2 := fun x y H Q => ∃ p xs, y = .ref p ∧ H p = some (.lst xs) ∧ flatV x = true ∧ xs.all flatV = true ∧ Q (.bl (if neg then !inV x xs else inV x xs)) H
theorem op_inTN {X : Cx} : OpR X (compareOp .In) (rInTN false) := fun pins s σ H x y v u Q I rx ry ⟨p, xs, e1, e2, e3, e4, q⟩ => op_in_seq pins s σ H x y v u Q I rx ry ⟨p, xs, e1, .inr (SqT.of e2), e3, e4, q⟩
theorem op_notInTN {X : Cx} : OpR X (compareOp .NotIn) (rInTN true) := fun pins s σ H x y v u Q I rx ry ⟨p, xs, e1, e2, e3, e4, q⟩ => op_notIn_seq pins s σ H x y v u Q I rx ry ⟨p, xs, e1, .inr (SqT.of e2), e3, e4, q⟩
theorem op_inLN {X : Cx} : OpR X (compareOp .In) (rInLN false) := fun pins s σ H x y v u Q I rx ry ⟨p, xs, e1, e2, e3, e4, q⟩ => op_in_seq pins s σ H x y v u Q I rx ry ⟨p, xs, e1, .inl (SqL.of e2), e3, e4, q⟩
theorem op_notInLN {X : Cx} : OpR X (compareOp .NotIn) (rInLN true) := fun pins s σ H x y v u Q I rx ry ⟨p, xs, e1, e2, e3, e4, q⟩ => op_notIn_seq pins s σ H x y v u Q I rx ry ⟨p, xs, e1, .inl (SqL.of e2), e3, e4, q⟩
def ShN (n : Nat) (d : PyData) : Prop := d.canLay0 = true ∧ d.depth ≤ n
theorem ShN.up {n m : Nat} {d : PyData} (h : ShN n d) (k : n ≤ m) : ShN m d := ⟨h.1, Nat.le_trans h.2 k⟩
theorem ShN.non {n : Nat} : ShN n .none := ⟨by simp [PyData.canLay0], by simp [PyData.depth]⟩
theorem ShN.int {n : Nat} {i : Int} : ShN n (.int i) := ⟨by simp [PyData.canLay0], by simp [PyData.depth]⟩
theorem ShN.bool {n : Nat} {b : Bool} : ShN n (.bool b) := ⟨by simp [PyData.canLay0], by simp [PyData.depth]⟩
theorem shAll {n : Nat} {ds : List PyData} (h : ∀ d ∈ ds, ShN n d) : PyData.canLayAll0 ds = true ∧ PyData.depthAll ds ≤ n := by
  induction ds with
  | nil => exact ⟨by simp [PyData.canLayAll0], by simp [PyData.depthAll]⟩
  | cons d ds ih =>
    have h1 := h d (by simp)
    have h2 := ih fun x hx => h x (by simp [hx])
    exact ⟨by simp [PyData.canLayAll0, h1.1, h2.1], by simp only [PyData.depthAll]; exact Nat.max_le.mpr ⟨h1.2, h2.2⟩⟩
theorem ShN.list {n : Nat} {ds : List PyData} (h : ∀ d ∈ ds, ShN n d) : ShN (n + 1) (.list ds) := ⟨by simp only [PyData.canLay0]; exact (shAll h).1, by simp only [PyData.depth]; have := (shAll h).2; omega⟩
theorem ShN.tuple {n : Nat} {ds : List PyData} (h : ∀ d ∈ ds, ShN n d) : ShN (n + 1) (.tuple ds) := ⟨by simp only [PyData.canLay0]; exact (shAll h).1, by simp only [PyData.depth]; have := (shAll h).2; omega⟩
theorem ShN.ok {n : Nat} {d : PyData} (h : ShN n d) (k : n ≤ 64 := by decide) : SeqAt.shaped d = true := by
  unfold SeqAt.shaped
  rw [h.1]; simpa using Nat.le_trans h.2 k
/-- None or an int, as data -/
def dO : Option Int → PyData
  | none => .none
  | some i => .int i
theorem dp_ov {K : PySem.W.Frag} {H : Hp} {o : Option Int} : Dp K H (ov o) (dO o) := by cases o; exact .non; exact .int _
theorem sh_dO {n : Nat} {o : Option Int} : ShN n (dO o) := by cases o; exact .non; exact .int
/-- a list of pairs -/
inductive PAll (H : Hp) : List V → List (Option Int × Option Int) → Prop
  | nil : PAll H [] []
  | cons {a : Addr} {xs : List V} {q : Option Int × Option Int} {ps : List (Option Int × Option Int)} : H a = some (.tup [ov q.1, ov q.2]) → PAll H xs ps → PAll H (.ref a :: xs) (q :: ps)
def PairsAt (H : Hp) (a : Addr) (ps : List (Option Int × Option Int)) : Prop := ∃ xs, H a = some (.lst xs) ∧ PAll H xs ps
theorem PAll.length {H : Hp} {xs : List V} {ps : List (Option Int × Option Int)} (h : PAll H xs ps) : xs.length = ps.length := by induction h <;> simp_all
theorem PAll.mono {H H' : Hp} {xs : List V} {ps : List (Option Int × Option Int)} (h : PAll H xs ps) (s : Same H H') : PAll H' xs ps := by
  induction h with
  | nil => exact .nil
  | cons e _ ih => exact .cons (s _ _ e) ih
theorem PAll.monoT {H H' : Hp} {xs : List V} {ps : List (Option Int × Option Int)} (h : PAll H xs ps) (s : ∀ b us, H b = some (.tup us) → H' b = some (.tup us)) : PAll H' xs ps := by
  induction h with
  | nil => exact .nil
  | cons e _ ih => exact .cons (s _ _ e) ih
theorem PAll.snoc {H : Hp} {a : Addr} {q : Option Int × Option Int} {xs : List V} {ps : List (Option Int × Option Int)} (h : PAll H xs ps) (e : H a = some (.tup [ov q.1, ov q.2])) : PAll H (xs ++ [.ref a]) (ps ++ [q]) := by
  induction h with
  | nil => exact .cons e .nil
  | cons e2 _ ih => exact .cons e2 ih
theorem PAll.rev {H : Hp} {xs : List V} {ps : List (Option Int × Option Int)} (h : PAll H xs ps) : PAll H xs.reverse ps.reverse := by
  induction h with
  | nil => exact .nil
  | cons e _ ih => rw [List.reverse_cons, List.reverse_cons]; exact ih.snoc e
theorem PAll.get {H : Hp} {xs : List V} {ps : List (Option Int × Option Int)} (h : PAll H xs ps) {i : Nat} {x : V} (e : xs[i]? = some x) : ∃ a q, x = .ref a ∧ ps[i]? = some q ∧ H a = some (.tup [ov q.1, ov q.2]) := by
  induction h generalizing i with
  | nil => simp at e
  | cons e2 _ ih =>
    cases i with
    | zero => simp at e; subst e; exact ⟨_, _, rfl, rfl, e2⟩
    | succ i => exact ih (by simpa using e)
theorem PairsAt.mono {H H' : Hp} {a : Addr} {ps : List (Option Int × Option Int)} (h : PairsAt H a ps) (s : Same H H') : PairsAt H' a ps := let ⟨xs, e, p⟩ := h; ⟨xs, s _ _ e, p.mono s⟩
theorem drop_of {α : Type} {l : List α} {i : Nat} {x : α} (h : l[i]? = some x) : l.drop i = x :: l.drop (i + 1) := by
  have := (List.getElem?_eq_some_iff.mp h)
  obtain ⟨h1, h2⟩ := this
  rw [← h2]; exact List.drop_eq_getElem_cons h1
def dP (q : Option Int × Option Int) : PyData := .tuple [dO q.1, dO q.2]
theorem PAll.dp {K : PySem.W.Frag} {H : Hp} {xs : List V} {ps : List (Option Int × Option Int)} (h : PAll H xs ps) : DpAll K H xs (ps.map dP) := by
  induction h with
  | nil => exact .nil
  | cons e _ ih => exact .cons (.tup (SqT.of e) (.cons dp_ov (.cons dp_ov .nil))) ih
theorem sh_dP {q : Option Int × Option Int} : ShN 1 (dP q) := ShN.tuple fun d h => by
  simp only [List.mem_cons, List.not_mem_nil, or_false] at h
  rcases h with rfl | rfl <;> exact sh_dO
theorem PairsAt.dp {K : PySem.W.Frag} {H : Hp} {a : Addr} {ps : List (Option Int × Option Int)} (h : PairsAt H a ps) : Dp K H (.ref a) (.list (ps.map dP)) := let ⟨_, e, p⟩ := h; .lst (SqL.of e) p.dp
theorem sh_dPs {ps : List (Option Int × Option Int)} : ShN 2 (.list (ps.map dP)) := ShN.list fun d h => by
  obtain ⟨q, _, rfl⟩ := List.mem_map.mp h; exact sh_dP
/-- xs == [] -/
theorem eq_nil {K : PySem.W.Frag} {H : Hp} {a b : Addr} {ps : List (Option Int × Option Int)} {R : VK} (h : PairsAt H a ps) (h2 : H b = some (.lst [])) (r : R (.bl ps.isEmpty) H) : rEqD K (.ref a) (.ref b) H R :=
  ⟨_, _, h.dp, dp_nil h2, sh_dPs.ok, (ShN.list (n := 0) fun _ h => by simp at h).ok, by cases ps <;> simp_all [PyData.eqv, PyData.eqvAll]⟩
end Iz
namespace Iz
open PySem PySem.Spec PyProof.Rows L2
open He (ga)
/-! ### within a lambda: the rules that name the written part -/
section
variable {X : Cx} {CX : CXT} {k j : Nat} {x m f : Str} {ps : List Str} {dvs : List V} {sp : Sp} {E : XK} {o e : Expr} {es : List Expr} {ta : TE} {t : TA} {p pos apos : Pos} {K : PySem.W.Frag}
theorem pmtK {pl : Sem Bool} (hK : X.K = K) (O : OkM X.prog X.w X.K X.mg X.base CX k x m ps dvs sp) (C : Cls X.K (ga X.K x)) (he : PE X o ta) (hj : j ≤ dvs.length) (hr : Room k X.A) (hx : Passes CX X E) (ha : PA X (e :: es) t)
    (hst : starEach (e :: es) X.env = (false, eval e X.env) :: starEach es X.env := by rfl) (hpl : (backTo pos (starEach es X.env)).any (·.1) = false := by rfl)
    (ht : eval (.Call (.Attribute o m apos) (e :: es) [] pos) X.env = (do
      let ov ← eval o X.env; standAt apos.atName
      let (f, first) ← holding [ov] (getMethod ov m pl)
      callWith pos f first (backTo pos (starEach (e :: es) X.env)) (backToKw pos (keywordEach [] X.env))) := by rfl) :
    PE X (.Call (.Attribute o m apos) (e :: es) [] pos) (tMt (ga K x) m sp (dvs.drop j) E ta t) := by subst hK; exact pmt O C he hj hr hx ha hst hpl ht
theorem pmt0K {pl : Sem Bool} (hK : X.K = K) (O : OkM X.prog X.w X.K X.mg X.base CX k x m ps dvs sp) (C : Cls X.K (ga X.K x)) (he : PE X o ta) (hj : j ≤ dvs.length) (hr : Room k X.A) (hx : Passes CX X E)
    (ht : eval (.Call (.Attribute o m apos) [] [] pos) X.env = (do
      let ov ← eval o X.env; standAt apos.atName
      let (f, first) ← holding [ov] (getMethod ov m pl)
      callWith pos f first (backTo pos (starEach [] X.env)) (backToKw pos (keywordEach [] X.env))) := by rfl) :
    PE X (.Call (.Attribute o m apos) [] [] pos) (tMt (ga K x) m sp (dvs.drop j) E ta tNil) := by subst hK; exact pmt0 O C he hj hr hx ht
theorem pe_fldNK {C : Addr} (hK : X.K = K) (c : Cls K C) (n : NoAttr K C f) (h : PE X o ta) (hb : attributeBase o f X.env (eval o X.env) = eval o X.env := by rfl) : PE X (.Attribute o f apos) (tFldN C ta f) := by subst hK; exact pe_fldN c n h hb
end
end Iz
/-! Ow -/
set_option Elab.async false
set_option linter.all false
set_option maxRecDepth 100000
set_option maxHeartbeats 4000000
namespace Iz
open PySem PySem.Spec PyProof.Rows L2
open He (ga)
/-! ### operators by a class's own methods -/
section
variable {X : Cx} {pins : List (Addr × Obj)} {σ : L2.St} {H : Hp} {s : Shared}
/-- the type of a value is seen -/
theorem looksTy {x : V} {u t : Value} (I : Inv X pins σ H s) (rx : RelV x u) (ty : TyX X.K H x t) : PySem.W.Looks (model X.prog X.w) s.heap (typeOf u) t := by
  have R : ∀ {a : Addr} {o : Obj}, s.heap.get? a = some o → o.cls = t → PySem.W.Looks (model X.prog X.w) s.heap (typeOf (.ref a)) t := fun ho hc A Q E s2 k q => wpAny_typeOf_ref (k _ _ ho) (by rw [hc]; exact q)
  cases ty with
  | base b =>
    cases b with
    | non => cases (show u = Value.none from rx); exact .of_pure rfl
    | bl y => cases (show u = Value.bool y from rx); exact .of_pure rfl
    | int i => obtain ⟨t, q⟩ := (show ∃ t, u = Value.int i t from rx); cases q; exact .of_pure rfl
    | str y => obtain ⟨t, q⟩ := (show ∃ t, u = Value.str y t from rx); cases q; exact .of_pure rfl
    | flt y => obtain ⟨t, q⟩ := (show ∃ t, u = Value.float y t from rx); cases q; exact .of_pure rfl
    | @lst a xs ea =>
      cases rx
      obtain ⟨_, _, n, _, h1⟩ := (show ObjOk X.prog X.w H s.heap a (.lst xs) from I.hok a _ ea)
      exact R h1 rfl
    | @frz a ob xs ea =>
      cases rx
      obtain ⟨_, _, _, n, _, h1⟩ := (show ObjOk X.prog X.w H s.heap a (.frz ob (.lst xs)) from I.hok a _ ea)
      exact R h1 rfl
    | @tup a xs ea =>
      cases rx
      obtain ⟨_, _, _, o, h1, h2, _⟩ := (show ObjOk X.prog X.w H s.heap a (.tup xs) from I.hok a _ ea)
      exact R h1 h2
    | @dK a kvs ea =>
      cases rx
      obtain ⟨_, _, vs, _, o, es, ep, h1, h2, _⟩ := (show ObjOk X.prog X.w H s.heap a (.dK kvs) from I.hok a _ ea)
      exact R h1 h2.1
    | @dT a kvs ea =>
      cases rx
      obtain ⟨_, _, xs, _, o, es, ep, h1, h2, _⟩ := (show ObjOk X.prog X.w H s.heap a (.dT kvs) from I.hok a _ ea)
      exact R h1 h2.1
    | @ins a C dx fs ea cl ha hn htk hm =>
      cases rx
      obtain ⟨mA, O, _⟩ := ins_get I.hok ea
      obtain ⟨od, J, _⟩ := O.look
      exact J.type
  | byt y => obtain ⟨t, q⟩ := (show ∃ t, u = Value.bytes y t from rx); cases q; exact .of_pure rfl
  | @set a S n ea =>
    cases rx
    obtain ⟨o, _, _, _, e, ex, _⟩ := I.hok a _ ea
    exact R e ex.1
  | @kList a o e c => cases rx; exact R (I.kIn a o e) c
  | @kTuple a o e c => cases rx; exact R (I.kIn a o e) c
  | @kDict a o e c => cases rx; exact R (I.kIn a o e) c
  | @fTuple a ob xs ea =>
    cases rx
    obtain ⟨_, _, _, _, o, h1, h2, _⟩ := (show ObjOk X.prog X.w H s.heap a (.frz ob (.tup xs)) from I.hok a _ ea)
    exact R h1 h2
  | @fDict a ob kvs ea =>
    cases rx
    obtain ⟨_, _, _, vs, _, o, es, ep, h1, h2, _⟩ := (show ObjOk X.prog X.w H s.heap a (.frz ob (.dK kvs)) from I.hok a _ ea)
    exact R h1 h2.1
end
section
variable {X : Cx} {CX : CXT} {k : Nat} {x m : Str} {ps : List Str} {sp : Sp} {E : XK}
/-- a method called by its address, within an operator -/
theorem own_call {f a : Addr} {fd : FuncData} {y : V} {u : Value} {pins : List (Addr × Obj)} {σ : L2.St} {H : Hp} {s : Shared} {Q : VK} {R : Value → Shared → Prop} (I : Inv X pins σ H s) (F : FnOk X.prog X.w X.K X.mg X.base CX k f fd ps sp) (hb : Binds X.K fd ps []) (hr : Room k X.A) (hx : Passes CX X E)
    (ry : RelV y u) (hsp : sp [.ref a, y] H Q E) (hR : ∀ v w H' s', Inv X pins σ H' s' → RelV v w → Q v H' → R w s') : wpAny (model X.prog X.w) X.A (call (.ref f) [.ref a, u]) R X.xe s := by
  have hl := F.len _ _ _ _ hsp
  have bd := hb s [.ref a, u] I.kIn (by simpa using hl)
  refine wpAny_call (codeAny_mono (F.run X.A X.stack s H ⟨[.ref a, u], []⟩ [.ref a, u] [.ref a, y] _ E hr I.env0 (by simpa using bd) (.cons rfl (.cons ry .nil)) hsp) fun r s' z => ?_)
  cases r with
  | error e => exact hx _ _ _ _ _ _ I z
  | ok fl =>
    cases fl with
    | ret w => obtain ⟨v, H', I', rv, q⟩ := I.after z; exact hR v w H' s' I' rv q
    | next => exact False.elim z
    | brk => exact False.elim z
    | cont => exact False.elim z
/-- x op y, where x's class has the method: it hands back a truth -/
def rOwn (K : PySem.W.Frag) (C : Addr) (sp : Sp) (E : XK) : R2 := fun x y H Q => ∃ a dx fs, x = .ref a ∧ H a = some (.ins C dx fs) ∧ (∃ t, TyX K H y t ∧ PySem.W.notFirst K C t = true) ∧ sp [.ref a, y] H (fun v H' => ∃ b, v = .bl b ∧ Q (.bl b) H') E
theorem op_own {op : CmpOp} (hop : ∀ a b, compareOp op a b = richCompare op a b) (O : OkM X.prog X.w X.K X.mg X.base CX k x m ps [] sp) (hm : (cmpInfo op).2.1 = m) (hr : Room k X.A) (hx : Passes CX X E) : OpR X (compareOp op) (rOwn X.K (ga X.K x) sp E) := by
  intro pins s σ H v0 y v u Q I rx ry h
  obtain ⟨a, dx, fs, rfl, ha, ⟨t, ty, nf⟩, hsp⟩ := h
  cases rx
  obtain ⟨f, fd, M, b, F⟩ := O.ex
  obtain ⟨ds, hd, hb⟩ := b 0 (Nat.le_refl _)
  cases hd
  obtain ⟨mA, O', _⟩ := ins_get I.hok ha
  obtain ⟨od, J, _⟩ := O'.look
  obtain ⟨mm, hF⟩ := I.fr
  subst hm
  rw [hop]
  refine PySem.W.cmp_K hr.units0 hF I.ok.mod.kin J (looksTy I ry ty) nf M.at_ M.fn (own_call I F hb hr hx ry hsp fun v w H' s' I' rv q => ?_)
  obtain ⟨b, rfl, q⟩ := q
  cases rv
  exact ⟨.bl b, H', I', rfl, q⟩
/-- x in y, where y's class has __contains__ -/
def rOwnIn (C : Addr) (neg : Bool) (sp : Sp) (E : XK) : R2 := fun x y H Q => ∃ a dx fs, y = .ref a ∧ H a = some (.ins C dx fs) ∧ sp [.ref a, x] H (fun v H' => ∃ b, v = .bl b ∧ Q (.bl (if neg then !b else b)) H') E
theorem op_ownIn (O : OkM X.prog X.w X.K X.mg X.base CX k x "__contains__" ps [] sp) (hr : Room k X.A) (hx : Passes CX X E) : OpR X (compareOp .In) (rOwnIn (ga X.K x) false sp E) := by
  intro pins s σ H v0 y v u Q I rx ry h
  obtain ⟨a, dx, fs, rfl, ha, hsp⟩ := h
  cases ry
  obtain ⟨f, fd, M, b, F⟩ := O.ex
  obtain ⟨ds, hd, hb⟩ := b 0 (Nat.le_refl _)
  cases hd
  obtain ⟨mA, O', _⟩ := ins_get I.hok ha
  obtain ⟨od, J, _⟩ := O'.look
  obtain ⟨mm, hF⟩ := I.fr
  refine PySem.W.in_K hF I.ok.mod.kin J M.at_ M.fn (own_call I F hb hr hx rx hsp fun v w H' s' I' rv q => ?_)
  obtain ⟨b, rfl, q⟩ := q
  cases rv
  exact wpAny_truthy_bool ⟨.bl b, H', I', rfl, q⟩
theorem op_ownNotIn (O : OkM X.prog X.w X.K X.mg X.base CX k x "__contains__" ps [] sp) (hr : Room k X.A) (hx : Passes CX X E) : OpR X (compareOp .NotIn) (rOwnIn (ga X.K x) true sp E) := by
  intro pins s σ H v0 y v u Q I rx ry h
  obtain ⟨a, dx, fs, rfl, ha, hsp⟩ := h
  cases ry
  obtain ⟨f, fd, M, b, F⟩ := O.ex
  obtain ⟨ds, hd, hb⟩ := b 0 (Nat.le_refl _)
  cases hd
  obtain ⟨mA, O', _⟩ := ins_get I.hok ha
  obtain ⟨od, J, _⟩ := O'.look
  obtain ⟨mm, hF⟩ := I.fr
  refine PySem.W.notIn_K hF I.ok.mod.kin J M.at_ M.fn (own_call I F hb hr hx rx hsp fun v w H' s' I' rv q => ?_)
  obtain ⟨b, rfl, q⟩ := q
  cases rv
  exact wpAny_truthy_bool ⟨.bl (!b), H', I', rfl, q⟩
end
end Iz
/-! Tn -/
set_option Elab.async false
set_option linter.all false
set_option maxRecDepth 100000
set_option maxHeartbeats 4000000
namespace Iz
open PySem PySem.Spec PyProof.Rows L2
/-! ### try: .. with several clauses «except x as n», one of which catches -/
abbrev Clause := Value × Nat × (Addr → Value → Option Addr → TS)
def unset (D : Ends) (i : Nat) : Ends := { nx := fun σ H => D.nx (σ.set i none) H, rt := D.rt, bk := fun σ H => D.bk (σ.set i none) H, ct := fun σ H => D.ct (σ.set i none) H }
/-- the first clause that catches; one of them does -/
def wNamed (K : PySem.W.Frag) (D : Ends) : List Clause → WX
  | [] => fun _ _ _ _ => False
  | q :: r => fun cls d σ H => ∃ b, PySem.W.exmOne K cls q.1 = some b ∧ (b = true → ∀ a, H a = none → q.2.2 a cls d (unset D q.2.1) (σ.set q.2.1 (some (.ref a))) H) ∧ (b = false → wNamed K D r cls d σ H)
structure ClauseOk (X : Cx) (x n : Str) (q : Clause) (st : Stmt) (ss : List Stmt) : Prop where
  at_ : X.N[q.2.1]? = some n
  loc : X.env.kindOf n = some .local
  cls : Names X x q.1
  run : ∀ a oe cls d pn, Zc cls d oe → (∃ vs, oe.data = .fields vs) → PSs (X.suite a ((a, oe) :: pn)) (st :: ss) (q.2.2 a cls d)
inductive Clauses (X : Cx) : List ExceptHandler → List Clause → Prop
  | nil : Clauses X [] []
  | cons {x n : Str} {q : Clause} {st : Stmt} {ss : List Stmt} {p p' : Pos} {hds : List ExceptHandler} {l : List Clause} : ClauseOk X x n q st ss → Clauses X hds l → Clauses X (.ExceptHandler (some (.Name x p)) (some n) (st :: ss) p' :: hds) (q :: l)
section
variable {X : Cx} {body : List Stmt} {h₀ : ExceptHandler} {hds : List ExceptHandler} {l : List Clause} {pos : Pos} {tb : WX → TS}
theorem ps_try_named (hN : X.N.Nodup)
    (hb : ∀ W pn xe, Takes (X.tr pn xe) W → PassesOwn (model X.prog X.w) X.A X.env xe → PSs (X.tr pn xe) body (tb W)) (hh : Clauses X (h₀ :: hds) l) (hs : X.stack = X.env :: X.outer := by rfl) (hf : X.env.frame = some X.env.locals := by rfl) :
    PS X (.Try body (h₀ :: hds) [] [] pos) (fun D σ H => tb (wNamed X.K D l) D σ H) := by
  constructor
  intro pins s σ H D I h
  have ok := I.ok
  have fr1 : X.A.frames = some (X.env :: X.outer) := hs ▸ ok.frames
  let catcher : Value → Shared → Prop := fun e z1 => wpAny (model X.prog X.w) X.A (noteFrame e X.env) (fun _ z2 => wpAny (model X.prog X.w) X.A (setFlight e none) (fun _ z3 => wpAny (model X.prog X.w) X.A (handleBy e X.env (h₀ :: hds)) (SP X pins D) X.xe z3) X.xe z2) X.xe z1
  have tk : Takes (X.tr (X.pn ++ pins) catcher) (wNamed X.K D l) := by
    intro u z xx
    obtain ⟨a, B, sI, pins', σ1, H1, cls, d, rfl, J0, nb, up, sky, na, os, ag, wish⟩ := xx
    have J : Inv X pins σ1 H1 sI := J0.ofTry ok
    refine Sky.land Zc.steady fr1 hf (show Sky B (X.env :: X.outer) a (Zc cls d) X.env.locals z.heap from hs ▸ sky) fun g fl upg => ?_
    have J1 : Inv X pins σ1 H1 { z with heap := g } := J.landed nb fl.1 (up.trans upg) os ag
    obtain ⟨o1, vs1, at1, z1, dt1⟩ := fl.there
    have out : a ∉ frs (X.env :: X.outer) := fun hm => by
      obtain ⟨_, o', at', no⟩ := fl.2.2.1.mem hm
      rw [at1] at at'
      cases at'
      exact no _ dt1
    have neL : a ≠ X.env.locals := fun e => out (by rw [e]; exact List.mem_filterMap.mpr ⟨X.env, List.mem_cons_self, hf⟩)
    have neF : a ∉ X.fs := fun hm => by
      obtain ⟨e, he, q⟩ := List.mem_filterMap.mp hm
      exact out (List.mem_filterMap.mpr ⟨e, .tail _ he, q⟩)
    have S1 := J1.suite at1 dt1 na neL neF
    have all : ∀ {hs' : List ExceptHandler} {l' : List Clause}, Clauses X hs' l' → wNamed X.K D l' cls d σ1 H1 → wpAny (model X.prog X.w) X.A (handleBy (.ref a) X.env hs') (SP X pins D) X.xe { z with heap := g } := by
      intro hs' l' hc
      induction hc with
      | nil => exact fun w => w.elim
      | @cons x n q st ss p p' hds l C r ih =>
        rintro ⟨b, hb1, yes, no⟩
        obtain ⟨c, i, ts⟩ := q
        refine wpAny_handleBy_cons (codeAny_handlers_test ?_) (by intro q; cases q)
        have LM := PySem.W.exm_one (M := model X.prog X.w) J1.kIn (fun A Q E z' k q => wpAny_typeOf_ref (k _ _ at1) (by rw [z1.1]; exact q)) hb1
        have seen : ∀ {Q E : Value → Shared → Prop}, Q c { z with heap := g } → wpAny (model X.prog X.w) (X.A.mark (some (.ref a))) (eval (.Name x p) X.env) Q E { z with heap := g } := fun {Q E} q => by
          obtain ⟨hg, hdb, own | ⟨n0, bv, nn⟩⟩ := C.cls
          · exact ld_glob (X := X.suite a ((a, o1) :: (X.pn ++ pins))) S1 hg own q hdb
          · exact ld_blt (X := X.suite a ((a, o1) :: (X.pn ++ pins))) S1 hg n0 bv q nn hdb
        refine seen (LM.here ?_)
        cases b with
        | false => exact ih (no rfl)
        | true =>
          refine codeAny_handlers_suite_as (HandSPX.lands_againZ fl fun g2 fl2 up2 => ?_)
          have J2 : Inv X pins σ1 H1 { z with heap := g2 } := J.landed nb fl2.1 ((up.trans upg).trans up2) os ag
          obtain ⟨o2, vs2, at2, z2, dt2⟩ := fl2.there
          refine store_ok (X := X.suite a ((a, o2) :: (X.pn ++ pins))) (v := .ref a) (J2.suite at2 dt2 na neL neF) hN C.at_ (.inl C.loc) rfl (fun s5 S5 => ?_) (.inr C.loc)
          have bye : ∀ {σ6 : L2.St} {H6 : Hp} {s6 : Shared} {Q : Shared → Prop}, Inv (X.suite a ((a, o2) :: (X.pn ++ pins))) [] σ6 H6 s6 → (∀ s7, Inv X pins (σ6.set i none) H6 s7 → Q s7) →
              wpAny (model X.prog X.w) X.A (do bindName X.env n .none; unbindBehindTheSuite X.env n p') (fun _ s7 => Q s7) X.xe s6 := fun S6 hq => gone_ok (S6.unsuite ok) hN C.at_ C.loc hq
          refine wpAny_mono ((C.run a o2 cls d (X.pn ++ pins) z2 ⟨_, dt2⟩).run [] s5 _ H1 _ S5 (yes rfl a na)) (fun f s6 done => ?_) fun _ _ z => z.elim
          cases f with
          | ret u => obtain ⟨v, σ6, H6, S6, rv, q⟩ := done; exact bye S6 fun s7 J7 => ⟨v, _, _, J7, rv, q⟩
          | next => obtain ⟨σ6, H6, S6, q⟩ := done; exact bye S6 fun s7 J7 => ⟨_, _, J7, q⟩
          | brk => obtain ⟨σ6, H6, S6, q⟩ := done; exact bye S6 fun s7 J7 => ⟨_, _, J7, q⟩
          | cont => obtain ⟨σ6, H6, S6, q⟩ := done; exact bye S6 fun s7 J7 => ⟨_, _, J7, q⟩
    exact all hh wish
  refine wpAny_Try_except (wpAny_mono ((hb _ (X.pn ++ pins) catcher tk PassesOwn.looking).run [] s σ H D (I.toTry _) h) (fun f s1 done => ?_) fun e s1 he => he)
  cases f with
  | ret u => obtain ⟨v, σ1, H1, J, r, q⟩ := done; exact ⟨v, σ1, H1, J.ofTry ok, r, q⟩
  | next => obtain ⟨σ1, H1, J, q⟩ := done; exact wpAny_execs_nil ⟨σ1, H1, J.ofTry ok, q⟩
  | brk => obtain ⟨σ1, H1, J, q⟩ := done; exact ⟨σ1, H1, J.ofTry ok, q⟩
  | cont => obtain ⟨σ1, H1, J, q⟩ := done; exact ⟨σ1, H1, J.ofTry ok, q⟩
end
end Iz
/-! Nx -/
set_option Elab.async false
set_option linter.all false
set_option maxRecDepth 100000
set_option maxHeartbeats 4000000
namespace Iz
open PySem PySem.Spec PyProof.Rows L2
open He (ga)
/-! ### slices, max, min, unpacking, in the form that simp reads -/
def rSlLN (K : PySem.W.Frag) : V → Option Int → Option Int → Hp → VK → Prop := fun x lo hi H Q => ∃ a xs, x = .ref a ∧ SqL K H a xs ∧ News H (.lst (cutV xs lo hi)) Q
theorem sl_listN {X : Cx} : SlR X (rSlLN X.K) := fun pins s σ H x v vl vu lo hi sl Q I rx hs pl pu ⟨a, xs, e, h, n⟩ => sl_list pins s σ H x v vl vu lo hi sl Q I rx hs pl pu ⟨a, xs, e, h, n.all⟩
def rMax2 : List V → Hp → VK → Prop := fun xs H Q => ∃ i j, xs = [.int i, .int j] ∧ Q (.int (max i j)) H
theorem call_max2N {X : Cx} (hc : X.calm = true) : CallR X (.builtin "max") rMax2 := CallR.imp (call_max2 hc) fun xs H Q ⟨i, j, a, q⟩ => ⟨i, j, a, by rw [show (if j > i then j else i) = max i j by rw [Int.max_def]; split <;> split <;> omega]; exact q⟩
def rMin2 : List V → Hp → VK → Prop := fun xs H Q => ∃ i j, xs = [.int i, .int j] ∧ Q (.int (min i j)) H
theorem call_min2N {X : Cx} (hc : X.calm = true) : CallR X (.builtin "min") rMin2 := CallR.imp (call_min2 hc) fun xs H Q ⟨i, j, a, q⟩ => ⟨i, j, a, by rw [show (if j < i then j else i) = min i j by rw [Int.min_def]; split <;> split <;> omega]; exact q⟩
def gUnlN (n : Nat) (t : TGs) : TG := fun v σ H Q => ∃ a xs, v = .ref a ∧ H a = some (.lst xs) ∧ xs.length = n ∧ t xs σ H Q
theorem pg_unlN {X : Cx} {es : List Expr} {k : Nat} {pos : Pos} {t : TGs} {n : Nat} (hc : X.calm = true) (h : PGs X es t) (hn : (assignEach es X.env).length = n := by rfl) (hst : (assignEach es X.env).findIdx? (·.1) = none := by rfl) : PG X (.Tuple es k pos) (gUnlN n t) :=
  PG.imp (pg_unl hc h hn hst) fun v σ H Q ⟨p, xs, a, c, d, q⟩ => ⟨p, xs, a, SqL.of c, d, q⟩
/-! ### for x in what an expression gives -/
theorem for_inT {K : PySem.W.Frag} {tl : TE} {g : TG} {tb : TS} {D : Ends} {σ : L2.St} {H : Hp} (h : tl σ H fun x H1 => tFor (iTup K fun _ H R => R x H) g tb D σ H1) : tFor (iTup K tl) g tb D σ H := h
theorem for_inL {K : PySem.W.Frag} {tl : TE} {g : TG} {tb : TS} {D : Ends} {σ : L2.St} {H : Hp} (h : tl σ H fun x H1 => tFor (iList K fun _ H R => R x H) g tb D σ H1) : tFor (iList K tl) g tb D σ H := h
/-! ### two clauses in one comprehension, both over ranges from 0 -/
theorem st_lc2R {ta ta1 : TA} {g g1 : TG} {te : TE} {vs vs1 : List Nat} {σ : L2.St} {H : Hp} {Q : VK} (n : Int) (hn : -(2 ^ 62) ≤ n ∧ n < 2 ^ 62) (ha : ∀ R : List V → Hp → Prop, R [.int n] H → ta σ H R)
    (Pv : Addr → Nat → Hp → Prop) (Pw : Addr → Nat → Nat → Hp → Prop) (h0 : ∀ D H1, H D = none → Same H H1 → H1 D = some (.lst []) → Pv D 0 H1)
    (hs : ∀ D i H, i < n.toNat → Pv D i H → g (.int i) (wipe σ vs) H fun σ2 H2 => wipe σ2 vs = wipe σ vs ∧ ∃ m : Int, (-(2 ^ 62) ≤ m ∧ m < 2 ^ 62) ∧ (∀ R : List V → Hp → Prop, R [.int m] H2 → ta1 σ2 H2 R) ∧ Pw D i 0 H2 ∧ (∀ H, Pw D i m.toNat H → Pv D (i + 1) H) ∧
      ∀ j H, j < m.toNat → Pw D i j H → g1 (.int j) (wipe σ2 vs1) H fun σ3 H5 => wipe σ3 vs1 = wipe σ2 vs1 ∧ te σ3 H5 fun y H7 => ∃ acc, H7 D = some (.lst acc) ∧ acc.length < sizeLine ∧ Pw D i (j + 1) (upd H7 D (.lst (acc ++ [y]))))
    (hg : ∀ v σ H (Q Q' : L2.St → Hp → Prop), (∀ σ H, Q σ H → Q' σ H) → g v σ H Q → g v σ H Q') (hg1 : ∀ v σ H (Q Q' : L2.St → Hp → Prop), (∀ σ H, Q σ H → Q' σ H) → g1 v σ H Q → g1 v σ H Q')
    (hd : ∀ D H, Pv D n.toNat H → Q (.ref D) H) : tLc2 (iRng1 ta) g tYes (iRng1 ta1) g1 tYes te vs vs1 σ H Q := by
  refine ha _ ⟨n, rfl, hn.1, hn.2, fun D hD => ?_⟩
  refine ⟨fun i m H => m = n.toNat - i ∧ i ≤ n.toNat ∧ Pv D i H, ⟨_, rfl, Nat.zero_le _, h0 D _ hD (Same.upd hD) upd_same⟩, ?_⟩
  rintro i m H1 ⟨rfl, hi, p⟩
  by_cases hlt : i < n.toNat
  · refine .inr ⟨hlt, Pv D (i + 1), fun H' p' => ⟨n.toNat - (i + 1), by omega, rfl, hlt, p'⟩, ?_⟩
    rintro x _ ⟨rfl, rfl⟩
    rw [Int.zero_add]
    refine hg _ _ _ _ _ (fun σ2 H2 q => ?_) (hs D i _ hlt p)
    obtain ⟨e, m, hm, hr, w0, wd, ws⟩ := q
    refine ⟨e, ?_⟩
    simp only [tYes, if_true]
    refine hr _ ⟨m, rfl, hm.1, hm.2, ?_⟩
    refine ⟨fun j k H => k = m.toNat - j ∧ j ≤ m.toNat ∧ Pw D i j H, ⟨_, rfl, Nat.zero_le _, w0⟩, ?_⟩
    rintro j k H3 ⟨rfl, hj, pw⟩
    by_cases hjt : j < m.toNat
    · refine .inr ⟨hjt, Pw D i (j + 1), fun H' p' => ⟨m.toNat - (j + 1), by omega, rfl, hjt, p'⟩, ?_⟩
      rintro x _ ⟨rfl, rfl⟩
      rw [Int.zero_add]
      refine hg1 _ _ _ _ _ (fun σ3 H5 q => ⟨q.1, ?_⟩) (ws j _ hjt pw)
      exact q.2
    · have ej : j = m.toNat := by omega
      subst ej
      exact .inl ⟨Nat.le_refl _, wd _ pw⟩
  · have ei : i = n.toNat := by omega
    subst ei
    exact .inl ⟨Nat.le_refl _, hd D _ p⟩
theorem gName_mono {i : Nat} : ∀ v σ H (Q Q' : L2.St → Hp → Prop), (∀ σ H, Q σ H → Q' σ H) → gName i v σ H Q → gName i v σ H Q' := fun _ _ _ _ _ k q => k _ _ q
/-! ### == and != of what is read as data -/
section
variable {K : PySem.W.Frag} {H : Hp} {R : VK}
/-- a pair of ints, at a -/
abbrev P2 (H : Hp) (a : Addr) (x y : Int) : Prop := H a = some (.tup [.int x, .int y])
theorem P2.dp {a : Addr} {x y : Int} (h : P2 H a x y) : Dp K H (.ref a) (.tuple [.int x, .int y]) := .tup (SqT.of h) (.cons (.int x) (.cons (.int y) .nil))
theorem sh_P2 {n : Nat} {x y : Int} : ShN (n + 1) (.tuple [.int x, .int y]) := (ShN.tuple (n := 0) fun d h => by
  simp only [List.mem_cons, List.not_mem_nil, or_false] at h
  rcases h with rfl | rfl <;> exact .int).up (by omega)
theorem eqv_P2 {x y u v : Int} : PyData.eqv (.tuple [.int x, .int y]) (.tuple [.int u, .int v]) = decide (x = u ∧ y = v) := by
  simp [PyData.eqv, PyData.eqvAll]
  by_cases h1 : x = u <;> by_cases h2 : y = v <;> simp [h1, h2]
theorem eq_P2 {a b : Addr} {x y u v : Int} (ha : P2 H a x y) (hb : P2 H b u v) (r : R (.bl (decide (x = u ∧ y = v))) H) : rEqD K (.ref a) (.ref b) H R := ⟨_, _, ha.dp, hb.dp, (sh_P2 (n := 0)).ok, (sh_P2 (n := 0)).ok, by rw [eqv_P2]; exact r⟩
theorem ne_P2 {a b : Addr} {x y u v : Int} (ha : P2 H a x y) (hb : P2 H b u v) (r : R (.bl (!decide (x = u ∧ y = v))) H) : rNeD K (.ref a) (.ref b) H R := ⟨_, _, ha.dp, hb.dp, (sh_P2 (n := 0)).ok, (sh_P2 (n := 0)).ok, by rw [eqv_P2]; exact r⟩
/-- a list of ints, at a -/
theorem dp_ints {a : Addr} {ns : List Int} (h : H a = some (.lst (ns.map V.int))) : Dp K H (.ref a) (.list (ns.map PyData.int)) := by
  refine .lst (SqL.of h) ?_
  clear h
  induction ns with
  | nil => exact .nil
  | cons z zs ih => exact .cons (.int z) ih
theorem sh_ints {n : Nat} {ns : List Int} : ShN (n + 1) (.list (ns.map PyData.int)) := (ShN.list (n := 0) fun d hd => by
  obtain ⟨z, hz, rfl⟩ := List.mem_map.mp hd; exact .int).up (by omega)
theorem eqv_ints {ns ms : List Int} : PyData.eqv (.list (ns.map PyData.int)) (.list (ms.map PyData.int)) = decide (ns = ms) := by
  simp only [PyData.eqv]
  induction ns generalizing ms with
  | nil => cases ms <;> simp [PyData.eqvAll]
  | cons n ns ih => cases ms with
    | nil => simp [PyData.eqvAll]
    | cons m ms =>
      simp only [List.map_cons, PyData.eqvAll, ih, PyData.eqv]
      by_cases h1 : n = m <;> by_cases h2 : ns = ms <;> simp [h1, h2]
theorem eq_ints {a b : Addr} {ns ms : List Int} (ha : H a = some (.lst (ns.map V.int))) (hb : H b = some (.lst (ms.map V.int))) (r : R (.bl (decide (ns = ms))) H) : rEqD K (.ref a) (.ref b) H R := ⟨_, _, dp_ints ha, dp_ints hb, (sh_ints (n := 0)).ok, (sh_ints (n := 0)).ok, by rw [eqv_ints]; exact r⟩
theorem ne_ints {a b : Addr} {ns ms : List Int} (ha : H a = some (.lst (ns.map V.int))) (hb : H b = some (.lst (ms.map V.int))) (r : R (.bl (!decide (ns = ms))) H) : rNeD K (.ref a) (.ref b) H R := ⟨_, _, dp_ints ha, dp_ints hb, (sh_ints (n := 0)).ok, (sh_ints (n := 0)).ok, by rw [eqv_ints]; exact r⟩
/-- a list of two texts, at a -/
theorem dp_l2 {a : Addr} {x y : Str} (h : H a = some (.lst [.str x, .str y])) : Dp K H (.ref a) (.list [.str x, .str y]) := .lst (SqL.of h) (.cons (.str x) (.cons (.str y) .nil))
theorem sh_l2 {n : Nat} {x y : Str} (hx : PyData.strOk x = true) (hy : PyData.strOk y = true) : ShN (n + 1) (.list [.str x, .str y]) := (ShN.list (n := 0) fun d h => by
  simp only [List.mem_cons, List.not_mem_nil, or_false] at h
  have st : ∀ {z : Str}, PyData.strOk z = true → ShN 0 (.str z) := fun h => ⟨by simp [PyData.canLay0, h], by simp [PyData.depth]⟩
  rcases h with rfl | rfl
  · exact st hx
  · exact st hy).up (by omega)
theorem ne_sameN {x y : V} {d : PyData} {n : Nat} (hx : Dp K H x d) (hy : Dp K H y d) (h : ShN n d) (r : R (.bl false) H) (k : n ≤ 64 := by decide) : rNeD K x y H R := ne_same hx hy (h.ok k) r
theorem eq_sameN {x y : V} {d : PyData} {n : Nat} (hx : Dp K H x d) (hy : Dp K H y d) (h : ShN n d) (r : R (.bl true) H) (k : n ≤ 64 := by decide) : rEqD K x y H R := eq_same hx hy (h.ok k) r
end
/-! ### a value that may be a pair of ints -/
/-- the pair that stands there -/
def pairL : List V → Option (Int × Int)
  | [.int x, .int y] => some (x, y)
  | _ => none
def pairV (H : Hp) : V → Option (Int × Int)
  | .ref p => match H p with
    | some (.tup xs) => pairL xs
    | _ => none
  | _ => none
theorem pairL_some {xs : List V} {q : Int × Int} (h : pairL xs = some q) : xs = [.int q.1, .int q.2] := by
  unfold pairL at h
  split at h
  · cases h; rfl
  · cases h
theorem pairL_none {xs : List V} (h : ¬ (xs.length : Int) = 2) : pairL xs = none := by
  unfold pairL
  split
  · simp at h
  · rfl
theorem pairV_of {H : Hp} {p : Addr} {x y : Int} (h : P2 H p x y) : pairV H (.ref p) = some (x, y) := by simp only [pairV, h, pairL]
theorem pairV_some {H : Hp} {v : V} {q : Int × Int} (h : pairV H v = some q) : ∃ p, v = .ref p ∧ P2 H p q.1 q.2 := by
  unfold pairV at h
  split at h
  · rename_i p
    split at h
    · rename_i xs e; exact ⟨p, rfl, by rw [P2, e, pairL_some h]⟩
    · cases h
  · cases h
/-- what is asked of a value that is_pair looks at -/
inductive PairK (K : PySem.W.Frag) (H : Hp) : V → Prop
  | non : PairK K H .non
  | bl (b : Bool) : PairK K H (.bl b)
  | int (i : Int) : PairK K H (.int i)
  | str (s : Str) : PairK K H (.str s)
  | lst {p : Addr} {xs : List V} : H p = some (.lst xs) → PairK K H (.ref p)
  | tup {p : Addr} {xs : List V} : H p = some (.tup xs) → (∀ z ∈ xs, Wh K H z) → PairK K H (.ref p)
  | ins {p C dx : Addr} {fs : List (Str × V)} : H p = some (.ins C dx fs) → ClsI K C → PySem.W.kitOne K (.ref C) (.type "tuple") = some false → PairK K H (.ref p)
theorem PairK.ty {K : PySem.W.Frag} {H : Hp} {v : V} (h : PairK K H v) : (∃ p xs, v = .ref p ∧ H p = some (.tup xs) ∧ ∀ z ∈ xs, Wh K H z) ∨ ∃ t, TyX K H v t ∧ PySem.W.kitOne K t (.type "tuple") = some false ∧ pairV H v = none := by
  cases h with
  | non => exact .inr ⟨_, .base .non, kit_ty (by decide +kernel), rfl⟩
  | bl b => exact .inr ⟨_, .base (.bl b), kit_ty (by decide +kernel), rfl⟩
  | int i => exact .inr ⟨_, .base (.int i), kit_ty (by decide +kernel), rfl⟩
  | str s => exact .inr ⟨_, .base (.str s), kit_ty (by decide +kernel), rfl⟩
  | lst h => exact .inr ⟨_, .base (.lst h), kit_ty (by decide +kernel), by simp only [pairV, h]⟩
  | tup h w => exact .inl ⟨_, _, rfl, h, w⟩
  | ins h T k => exact .inr ⟨_, T.ty h, k, by simp only [pairV, h]⟩
theorem P2.k {K : PySem.W.Frag} {H : Hp} {p : Addr} {x y : Int} (h : P2 H p x y) : PairK K H (.ref p) := .tup h fun z hz => by
  simp only [List.mem_cons, List.not_mem_nil, or_false] at hz
  rcases hz with rfl | rfl <;> exact wh_int
theorem PairK.mono {K : PySem.W.Frag} {H H' : Hp} {v : V} (h : PairK K H v) (s : Same H H') : PairK K H' v := by
  cases h with
  | non => exact .non
  | bl b => exact .bl b
  | int i => exact .int i
  | str s => exact .str s
  | lst h => exact .lst (s _ _ h)
  | tup h w => exact .tup (s _ _ h) fun z hz => wh_mono (w z hz) s
  | ins h T k => exact .ins (s _ _ h) T k
theorem pairV_mono {H H' : Hp} {p : Addr} {o : HO} (h : H p = some o) (s : Same H H') : pairV H' (.ref p) = pairV H (.ref p) := by simp only [pairV, h, s _ _ h]
theorem PairK.same {K : PySem.W.Frag} {H H' : Hp} {v : V} (h : PairK K H v) (s : Same H H') : pairV H' v = pairV H v := by
  cases h with
  | non => rfl
  | bl b => rfl
  | int i => rfl
  | str s => rfl
  | lst h => exact pairV_mono h s
  | tup h w => exact pairV_mono h s
  | ins h T k => exact pairV_mono h s
/-! ### a list of pairs grows -/
theorem PairsAt.push {H : Hp} {D t : Addr} {ps : List (Option Int × Option Int)} {q : Option Int × Option Int} (h : PairsAt H D ps) (e : H t = some (.tup [ov q.1, ov q.2])) (hl : ps.length < 100000) :
    ∃ acc, H D = some (.lst acc) ∧ acc.length < sizeLine ∧ PairsAt (L2.upd H D (.lst (acc ++ [.ref t]))) D (ps ++ [q]) := by
  obtain ⟨xs, hD, hp⟩ := h
  refine ⟨xs, hD, by rw [hp.length, sizeLine_eq]; omega, _, upd_same, PAll.snoc (hp.monoT fun b us hb => ?_) ?_⟩
  · rw [upd_ne (ne_of hb hD (by intro z; cases z))]; exact hb
  · rw [upd_ne (ne_of e hD (by intro z; cases z))]; exact e
/-! ### the operators of own classes, asked -/
theorem own_in {C a dx : Addr} {fs : List (Str × V)} {sp : Sp} {E : XK} {x : V} {H : Hp} {Q : VK} {neg : Bool} (h : H a = some (.ins C dx fs)) (q : sp [.ref a, x] H (fun v H' => ∃ b, v = .bl b ∧ Q (.bl (if neg = true then !b else b)) H') E) : rOwnIn C neg sp E x (.ref a) H Q := ⟨a, dx, fs, rfl, h, q⟩
theorem own_op {K : PySem.W.Frag} {C a dx : Addr} {fs : List (Str × V)} {sp : Sp} {E : XK} {y : V} {H : Hp} {Q : VK} (h : H a = some (.ins C dx fs)) {t : Value} (ty : TyX K H y t) (n : PySem.W.notFirst K C t = true) (q : sp [.ref a, y] H (fun v H' => ∃ b, v = .bl b ∧ Q (.bl b) H') E) : rOwn K C sp E (.ref a) y H Q := ⟨a, dx, fs, rfl, h, ⟨t, ty, n⟩, q⟩
theorem notFirst_self {K : PySem.W.Frag} {C : Addr} : PySem.W.notFirst K C (.ref C) = true := by simp [PySem.W.notFirst]
/-! ### a comprehension over a range from 0 -/
theorem st_lcR1 {ta : TA} {g : TG} {tt : TT} {te : TE} {vs : List Nat} {σ : L2.St} {H : Hp} {Q : VK} (n : Int) (hn : -(2 ^ 62) ≤ n ∧ n < 2 ^ 62) (ha : ∀ R : List V → Hp → Prop, R [.int n] H → ta σ H R)
    (Pv : Addr → Nat → Hp → Prop) (h0 : ∀ D H1, H D = none → Same H H1 → H1 D = some (.lst []) → Pv D 0 H1)
    (hs : ∀ D i H, i < n.toNat → Pv D i H → g (.int i) (wipe σ vs) H fun σ2 H2 => wipe σ2 vs = wipe σ vs ∧ tt σ2 H2 fun b H3 => if b = true then te σ2 H3 fun y H4 => ∃ acc, H4 D = some (.lst acc) ∧ acc.length < sizeLine ∧ Pv D (i + 1) (upd H4 D (.lst (acc ++ [y]))) else Pv D (i + 1) H3)
    (hd : ∀ D H, Pv D n.toNat H → Q (.ref D) H) : tLc (iRng1 ta) g tt te vs σ H Q :=
  ha _ ⟨n, rfl, hn.1, hn.2, fun D hD => lc_range (Pv D) (h0 D _ hD (Same.upd hD) upd_same) (fun i H hi p => by rw [Int.zero_add]; exact hs D i H hi p) (hd D)⟩
theorem PAll.app {H : Hp} {xs ys : List V} {ps qs : List (Option Int × Option Int)} (h : PAll H xs ps) (k : PAll H ys qs) : PAll H (xs ++ ys) (ps ++ qs) := by
  induction h with
  | nil => exact k
  | cons e _ ih => exact .cons e ih
/-! ### kept where tables of code may grow -/
section
open LamX
theorem tyX_ext {K : PySem.W.Frag} {H H' : Hp} {x : V} {t : Value} (h : TyX K H x t) (s : ExtN H H') : TyX K H' x t := by
  cases h with
  | base b =>
    cases b with
    | non => exact .base .non
    | bl b => exact .base (.bl b)
    | int i => exact .base (.int i)
    | str y => exact .base (.str y)
    | flt y => exact .base (.flt y)
    | lst e => exact .base (.lst (s _ _ e fun _ z => by cases z))
    | frz e => exact .base (.frz (s _ _ e fun _ z => by cases z))
    | tup e => exact .base (.tup (s _ _ e fun _ z => by cases z))
    | dK e => exact .base (.dK (s _ _ e fun _ z => by cases z))
    | dT e => exact .base (.dT (s _ _ e fun _ z => by cases z))
    | ins e a b c d f => exact .base (.ins (s _ _ e fun _ z => by cases z) a b c d f)
  | byt b => exact .byt b
  | set e => exact .set (s _ _ e fun _ z => by cases z)
  | kList e c => exact .kList e c
  | kTuple e c => exact .kTuple e c
  | kDict e c => exact .kDict e c
  | fTuple e => exact .fTuple (s _ _ e fun _ z => by cases z)
  | fDict e => exact .fDict (s _ _ e fun _ z => by cases z)
theorem wh_ext {K : PySem.W.Frag} {H H' : Hp} {x : V} (h : Wh K H x) (s : ExtN H H') : Wh K H' x := let ⟨t, b, c, ty, r⟩ := h; ⟨t, b, c, tyX_ext ty s, r⟩
theorem PairK.ext {K : PySem.W.Frag} {H H' : Hp} {v : V} (h : PairK K H v) (s : ExtN H H') : PairK K H' v := by
  cases h with
  | non => exact .non
  | bl b => exact .bl b
  | int i => exact .int i
  | str s => exact .str s
  | lst h => exact .lst (s _ _ h fun _ z => by cases z)
  | tup h w => exact .tup (s _ _ h fun _ z => by cases z) fun z hz => wh_ext (w z hz) s
  | ins h T k => exact .ins (s _ _ h fun _ z => by cases z) T k
theorem PairK.sameX {K : PySem.W.Frag} {H H' : Hp} {v : V} (h : PairK K H v) (s : ExtN H H') : pairV H' v = pairV H v := by
  cases h with
  | non => rfl
  | bl b => rfl
  | int i => rfl
  | str s => rfl
  | lst h => simp only [pairV, h, s _ _ h fun _ z => by cases z]
  | tup h w => simp only [pairV, h, s _ _ h fun _ z => by cases z]
  | ins h T k => simp only [pairV, h, s _ _ h fun _ z => by cases z]
theorem extI {H H' : Hp} {p C dx : Addr} {fs : List (Str × V)} (e : ExtN H H') (h : H p = some (.ins C dx fs)) : H' p = some (.ins C dx fs) := e p _ h fun ps z => by cases z
/-- a list that grows by an item: the tables stay -/
theorem Tabs.put {T : List (Addr × Str)} {H H' : Hp} {L : Addr} {xs ys : List V} (hT : Tabs T H) (hL : H L = some (.lst xs)) (p : Put H H' L (.lst ys)) : Tabs T H' := by
  have key : ∀ b o, H b = some o → (∀ xs, o ≠ .lst xs) → H' b = some o := fun b o h hn => by
    rw [p.2 b (fun z => by subst z; rw [hL] at h; exact hn _ (Option.some.inj h).symm)]; exact h
  intro x hx
  obtain ⟨ps, h1, h2, h3⟩ := hT x hx
  refine ⟨ps, key _ _ h1 (fun xs z => by cases z), h2, fun pos cv hcv => ?_⟩
  obtain ⟨c0, e1, e2⟩ := h3 pos cv hcv
  exact ⟨c0, e1, key _ _ e2 (fun xs z => by unfold CodeO at z; cases z)⟩
theorem Put.other {H H' : Hp} {L b : Addr} {o u : HO} (p : Put H H' L o) (h : H b = some u) (n : b ≠ L) : H' b = some u := by rw [p.2 b n]; exact h
end
/-! ### texts as data -/
theorem ShN.str {n : Nat} {z : Str} (h : PyData.strOk z = true) : ShN n (.str z) := ⟨by simp [PyData.canLay0, h], by simp [PyData.depth]⟩
theorem dp_strs {K : PySem.W.Frag} {H : Hp} {p : Addr} {zs : List Str} (h : H p = some (.lst (zs.map V.str))) : Dp K H (.ref p) (.list (zs.map PyData.str)) := by
  refine .lst (SqL.of h) ?_
  clear h
  induction zs with
  | nil => exact .nil
  | cons z zs ih => exact .cons (.str z) ih
theorem sh_strs {n : Nat} {zs : List Str} (h : ∀ z ∈ zs, PyData.strOk z = true) : ShN (n + 1) (.list (zs.map PyData.str)) := (ShN.list (n := 0) fun d hd => by
  obtain ⟨z, hz, rfl⟩ := List.mem_map.mp hd; exact ShN.str (h z hz)).up (by omega)
theorem sh_ll {n : Nat} {x y u v : Str} (hx : PyData.strOk x = true) (hy : PyData.strOk y = true) (hu : PyData.strOk u = true) (hv : PyData.strOk v = true) : ShN (n + 2) (.list [.list [.str x, .str y], .list [.str u, .str v]]) := (ShN.list (n := 1) fun d h => by
  simp only [List.mem_cons, List.not_mem_nil, or_false] at h
  rcases h with rfl | rfl
  · exact sh_l2 (n := 0) hx hy
  · exact sh_l2 (n := 0) hu hv).up (by omega)
/-! ### the script -/
def rLenS (K : PySem.W.Frag) : List V → Hp → VK → Prop := fun xs H Q => ∃ p ys, xs = [.ref p] ∧ SqL K H p ys ∧ Q (.int ys.length) H
theorem call_lenS {X : Cx} : CallR X (.builtin "len") (rLenS X.K) := CallR.imp call_len_seq fun xs H Q ⟨p, ys, a, b, q⟩ => ⟨p, ys, a, .inl b, q⟩
theorem sqL_ext {K : PySem.W.Frag} {H H' : Hp} {a : Addr} {xs : List V} (h : SqL K H a xs) (e : LamX.ExtN H H') : SqL K H' a xs :=
  h.elim (fun h => .inl (h.elim (fun h => .inl (e _ _ h fun _ z => by cases z)) fun ⟨o, h⟩ => .inr ⟨o, e _ _ h fun _ z => by cases z⟩)) fun h => .inr h
section
open LamX
/-- as plam, with the tables of several defs -/
theorem plamT {X : Cx} {TS : List (Addr × Str)} {x a : Str} {st : Stmt} {N : List Str} {TT : (XK → Hp → VK → Prop) → Hp → VK → Prop} {c P : Addr} {qn : Str} {k : Nat} {params : Arguments} {body : Expr} {scope : Scope} {t : XK → TE} {p lpos pos : Pos}
    (F : ∃ (f : Addr) (fd : FuncData), X.mg x = some (.ref f) ∧ Fun X.K x x st f fd) (S : FnScope N [a] (defScope st))
    (hb : ∀ (kV doc pm : Value) (an : Option Addr) (cdv ct : Value) (us : List Value), us.length = [a].length → bindArgs (PySem.W.fnOf x x (defArgs st) (defBody st) (defScope st) .none kV doc pm an cdv ct) ⟨us, []⟩ = pure ([a].zip us))
    (hG : ∀ (g : Addr) (cdg : Value), GivesTo X N x (defScope st) g cdg (defBody st) a qn TT)
    (hm : (P, qn) ∈ TS) (hu : ∀ q ∈ TS, q.1 = P → q.2 = qn) (TB : TabB X.base X.mg c P) (hcode : X.env.code = .ref c) (hq : X.env.qual ++ "<lambda>" = qn) (hr : Room (k + 2) X.A) (L : lamSB X.env.scope scope = true)
    (hbody : ∀ (A : Around) (outer : List Env) (s : Shared) (H : Hp) (E : XK) (f c' : Addr), Room k (A.deeper (lamEnv X scope s.heap.objs.size f c')) → PE (lamCx X A outer s H E scope f c') body (t E))
    (hdef : defaultsOf params X.env = ([], []) := by rfl) (hg : Gl X x := by rfl) (hv : Vis (defScope st) a := by first | exact Or.inl rfl | exact Or.inr (Or.inl rfl)) (hNa : N[0]? = some a := by rfl)
    (hbind : ∀ (q : Str) (cl : List (Str × Addr)) (pm cv ctv : Value), bindArgs (PySem.W.kla_fn "<lambda>" q params body scope cl pm cv ctv) ⟨[], []⟩ = pure [] := by intros; rfl)
    (hdb : (x == ("__debug__" : Str)) = false := by decide) (hd : (a == ("__debug__" : Str)) = false := by decide) (hcd : (a == ("__classdict__" : Str)) = false := by decide) :
    PE X (.Call (.Name x p) [.Lambda params body scope lpos] [] pos) (tLam TS TT t) := by
  subst hq
  obtain ⟨g, fd, hmg, F⟩ := F
  obtain ⟨oc, od, kV, doc, pm, an, cdv, ct, osl, rfl, lk, hcg⟩ := F.ex
  exact pe_lamcall hg hmg F.kp lk hcg (.all (hb kV doc pm an cdv ct)) S hNa hv (hG g cdv) TB hcode hm hu hr (lamS_by L) hdef hbind hbody hdb hd hcd
end
end Iz
/-! One -/
set_option Elab.async false
set_option linter.all false
set_option maxRecDepth 100000
set_option maxHeartbeats 4000000
namespace Iz
open PySem PySem.Spec PyProof.Rows L2
open He (ga)
/-! ### x != y of a class that has __eq__ alone: object's own __ne__ turns it round -/
section
variable {prog : Program} {w : World} {A : Around} {E : Value → Shared → Prop} {s : Shared} {K : PySem.W.Frag} {x C L f : Addr} {h₀ : Heap} {m : Str → Option Value} {ox : Obj} {od : Option Obj} {b tb : Value}
theorem ne_bind (self : Value) : bindSpecial (.builtin "object.__ne__") self = pure (.builtin "object.__ne__", [self]) := PySem.F.cmp_object.ne.bind self
theorem ne_obj {Q : Value → Shared → Prop} (hu : A.in1.units < cLine) (X : K.In s.heap) (I : PySem.W.InstAt s.heap x ox C od) (hm : PySem.W.mroIn K C (.type "object") = some true) (he : PySem.W.findIn K (.ref C) "__eq__" = some (some (.ref f))) (hf : PySem.W.isFn K (.ref f) = true)
    (h : wpAny (model prog w) A.in1 (call (.ref f) [.ref x, b]) (fun v s' => ∃ r, v = .bool r ∧ Q (.bool (!r)) s') E s) : wpAny (model prog w) A (call (.builtin "object.__ne__") [.ref x, b]) Q E s := by
  refine wpAny_call (codeAny_call_builtin PySem.F.cmp_object.ne.plain PySem.F.cmpEntry_ne (PySem.W.check_slot (i := "object.__ne__") (owner := "object") (n := "__ne__") PySem.F.cmpKind_ne PySem.F.cmpSplit_ne (I.type.andThen (PySem.W.looks_mroIn X hm)) (PySem.F.cmpArgs_ne _ _) ?_))
  unfold Builtin.«object.__ne__»
  refine wpAny_bind (m := slotArgs "__ne__" 1 _) (wpAny_pure ?_)
  dsimp only
  refine wpAny_bind (m := cRoomFor _ _) (wpAny_cRoomFor hu ?_)
  refine wpAny_bind (m := callSpecialIfBound? (.ref x) (Str.ofString "__eq__") _) (PySem.W.ifBound_K X I he hf (wpAny_mono h (fun v s' z => ?_) fun _ _ y => y))
  obtain ⟨r, rfl, q⟩ := z
  dsimp only
  exact wpAny_bind (m := truthy (.bool r)) (wpAny_truthy_bool (wpAny_pure q))
theorem ne_rich {Q : Value → Shared → Prop} (hu : A.in1.units < cLine) (hu0 : A.units < cLine) (F : Fr h₀ L s.heap m) (X₀ : K.In h₀) (I : PySem.W.InstAt s.heap x ox C od) (hb : PySem.W.Looks (model prog w) s.heap (typeOf b) tb) (hn : PySem.W.notFirst K C tb = true) (hm : PySem.W.mroIn K C (.type "object") = some true)
    (hs : PySem.W.findIn K (.ref C) "__ne__" = some (some (.builtin "object.__ne__"))) (he : PySem.W.findIn K (.ref C) "__eq__" = some (some (.ref f))) (hf : PySem.W.isFn K (.ref f) = true)
    (h : wpAny (model prog w) A.in1 (call (.ref f) [.ref x, b]) (fun v s' => ∃ r, v = .bool r ∧ Q (.bool (!r)) s') E s) : wpAny (model prog w) A (richCompare .NotEq (.ref x) b) Q E s := by
  have X := X₀.keeps F.keep
  have asked : wpAny (model prog w) A (tryCompare (.ref x) (cmpInfo .NotEq).2.1 b) (fun r s' => ∃ v, r = some v ∧ Q v s') E s := by
    unfold tryCompare
    refine wpAny_bind (m := callSpecialIfBound? _ _ _) ?_
    simp only [callSpecialIfBound?, bindSpecialIfBound?]
    refine wpAny_holding (wpAny_bind (wpAny_bind (wpAny_bind (I.type.here ((PySem.W.looks_findIn X hs).here ?_)))))
    have fin : wpAny (model prog w) A (call (.builtin "object.__ne__") ([.ref x] ++ [b]) >>= fun v => pure (some v)) (fun r s' => wpAny (model prog w) A (match r with | some .notImplemented | none => pure none | some v => pure (some v)) (fun r s' => ∃ v, r = some v ∧ Q v s') E s') E s :=
      wpAny_bind (ne_obj hu X I hm he hf (wpAny_mono h (fun v s' z => by
        obtain ⟨r, rfl, q⟩ := z
        exact ⟨r, rfl, wpAny_pure (wpAny_pure ⟨_, rfl, q⟩)⟩) fun _ _ y => y))
    refine wpAny_bind (wpAny_askSetting (wpAny_ite ?_))
    split
    · exact wpAny_bind ((PySem.W.Looks.of_pure (ne_bind _)).here (wpAny_pure fin))
    · exact wpAny_tryCatch (wpAny_bind ((PySem.W.Looks.of_pure (ne_bind _)).here (wpAny_pure fin)))
  unfold richCompare
  simp only [oneThing_ref]
  refine wpAny_holding (wpAny_bind (wpAny_cRoomFor hu0 ?_))
  refine wpAny_bind (I.type.here (wpAny_bind (hb.here ?_)))
  split
  · rename_i q
    have e : PySem.W.subIn K tb (.ref C) = some false := by
      rcases Bool.or_eq_true_iff.mp hn with e | e
      · rw [beq_iff_eq.mp e] at q; simp at q
      · exact beq_iff_eq.mp e
    refine wpAny_bind ((PySem.W.looks_subIn X e).here ?_)
    simp only [Bool.false_eq_true, if_false]
    refine wpAny_bind (wpAny_mono asked (fun r s' z => ?_) fun _ _ y => y)
    obtain ⟨v, rfl, q⟩ := z
    exact wpAny_pure q
  · refine wpAny_bind (wpAny_pure ?_)
    simp only [Bool.false_eq_true, if_false]
    refine wpAny_bind (wpAny_mono asked (fun r s' z => ?_) fun _ _ y => y)
    obtain ⟨v, rfl, q⟩ := z
    exact wpAny_pure q
end
section
variable {X : Cx} {CX : CXT} {k : Nat} {x : Str} {ps : List Str} {sp : Sp} {E : XK}
theorem own_callA {A : Around} {f a : Addr} {fd : FuncData} {y : V} {u : Value} {pins : List (Addr × Obj)} {σ : L2.St} {H : Hp} {s : Shared} {Q : VK} {R : Value → Shared → Prop} (I : Inv X pins σ H s) (F : FnOk X.prog X.w X.K X.mg X.base CX k f fd ps sp) (hb : Binds X.K fd ps []) (hr : Room k A) (hA : A.frames = X.A.frames) (hx : Passes CX X E)
    (ry : RelV y u) (hsp : sp [.ref a, y] H Q E) (hR : ∀ v w H' s', Inv X pins σ H' s' → RelV v w → Q v H' → R w s') : wpAny (model X.prog X.w) A (call (.ref f) [.ref a, u]) R X.xe s := by
  have hl := F.len _ _ _ _ hsp
  have bd := hb s [.ref a, u] I.kIn (by simpa using hl)
  have e := I.env0
  have e0 : Env0 X.prog X.w X.K X.mg X.base A X.stack s H := ⟨hA ▸ e.frames, e.mod, e.bs, e.bsz, e.funs, e.frf, e.hok, e.bare⟩
  refine wpAny_call (codeAny_mono (F.run A X.stack s H ⟨[.ref a, u], []⟩ [.ref a, u] [.ref a, y] _ E hr e0 (by simpa using bd) (.cons rfl (.cons ry .nil)) hsp) fun r s' z => ?_)
  cases r with
  | error e => exact hx _ _ _ _ _ _ I z
  | ok fl =>
    cases fl with
    | ret w => obtain ⟨v, H', I', rv, q⟩ := I.after z; exact hR v w H' s' I' rv q
    | next => exact False.elim z
    | brk => exact False.elim z
    | cont => exact False.elim z
def rOwnNe (K : PySem.W.Frag) (C : Addr) (sp : Sp) (E : XK) : R2 := fun x y H Q => ∃ a dx fs, x = .ref a ∧ H a = some (.ins C dx fs) ∧ (∃ t, TyX K H y t ∧ PySem.W.notFirst K C t = true) ∧ sp [.ref a, y] H (fun v H' => ∃ b, v = .bl b ∧ Q (.bl (!b)) H') E
theorem op_ownNe (O : OkM X.prog X.w X.K X.mg X.base CX k x "__eq__" ps [] sp) (hm : PySem.W.mroIn X.K (ga X.K x) (.type "object") = some true) (hs : PySem.W.findIn X.K (.ref (ga X.K x)) "__ne__" = some (some (.builtin "object.__ne__"))) (hr : Room (k + 1) X.A) (hx : Passes CX X E) : OpR X (compareOp .NotEq) (rOwnNe X.K (ga X.K x) sp E) := by
  intro pins s σ H v0 y v u Q I rx ry h
  obtain ⟨a, dx, fs, rfl, ha, ⟨t, ty, nf⟩, hsp⟩ := h
  cases rx
  obtain ⟨f, fd, M, b, F⟩ := O.ex
  obtain ⟨ds, hd, hb⟩ := b 0 (Nat.le_refl _)
  cases hd
  obtain ⟨mA, O', _⟩ := ins_get I.hok ha
  obtain ⟨od, J, _⟩ := O'.look
  obtain ⟨mm, hF⟩ := I.fr
  refine ne_rich hr.in1.units0 hr.units0 hF I.ok.mod.kin J (looksTy I ry ty) nf hm hs M.at_ M.fn (own_callA I F hb hr.in1 rfl hx ry hsp fun v w H' s' I' rv q => ?_)
  obtain ⟨b, rfl, q⟩ := q
  cases rv
  exact ⟨b, rfl, .bl (!b), H', I', rfl, q⟩
theorem own_ne {K : PySem.W.Frag} {C a dx : Addr} {fs : List (Str × V)} {y : V} {H : Hp} {Q : VK} (h : H a = some (.ins C dx fs)) {t : Value} (ty : TyX K H y t) (n : PySem.W.notFirst K C t = true) (q : sp [.ref a, y] H (fun v H' => ∃ b, v = .bl b ∧ Q (.bl (!b)) H') E) : rOwnNe K C sp E (.ref a) y H Q := ⟨a, dx, fs, rfl, h, ⟨t, ty, n⟩, q⟩
end
/-! ### two truths in a list -/
theorem dp_bb {K : PySem.W.Frag} {H : Hp} {a : Addr} {x y : Bool} (h : H a = some (.lst [.bl x, .bl y])) : Dp K H (.ref a) (.list [.bool x, .bool y]) := .lst (SqL.of h) (.cons (.bl x) (.cons (.bl y) .nil))
theorem sh_bb {n : Nat} {x y : Bool} : ShN (n + 1) (.list [.bool x, .bool y]) := (ShN.list (n := 0) fun d h => by
  simp only [List.mem_cons, List.not_mem_nil, or_false] at h
  rcases h with rfl | rfl <;> exact .bool).up (by omega)
theorem eqv_bb {x y : Bool} : PyData.eqv (.list [.bool x, .bool y]) (.list [.bool true, .bool true]) = (x && y) := by
  cases x <;> cases y <;> simp [PyData.eqv, PyData.eqvAll]
/-! ### a list repeated -/
def rRepN : R2 := fun x y H Q => ∃ l k xs, x = .ref l ∧ y = .int k ∧ H l = some (.lst xs) ∧ -(2 ^ 63) ≤ k ∧ k < 2 ^ 63 ∧ xs.length * k.toNat ≤ sizeLine ∧ News H (.lst (List.replicate k.toNat xs).flatten) Q
theorem op_repN {X : Cx} : OpR X (binaryOp .Mult) rRepN := fun pins s σ H x y v u Q I rx ry ⟨l, k, xs, e1, e2, e3, e4, e5, e6, n⟩ => op_rep pins s σ H x y v u Q I rx ry ⟨l, k, xs, e1, e2, e3, e4, e5, e6, n.all⟩
end Iz
/-! Dn -/
set_option Elab.async false
set_option linter.all false
set_option maxRecDepth 100000
set_option maxHeartbeats 4000000
namespace Iz
open PySem PySem.Spec PyProof.Rows L2
/-! ### dicts whose keys are None or ints -/
def kN : Option Int → V
  | none => .non
  | some i => .int i
theorem kN_ov {o : Option Int} : kN o = ov o := by cases o <;> rfl
def kk (o : Option Int) : Option Key := o.map Sum.inl
theorem kk_inj {a b : Option Int} (h : kk a = kk b) : a = b := by cases a <;> cases b <;> simp_all [kk]
theorem kN_is {P : Program} {w : World} {k : Option Int} {u : Value} (r : RelV (ov k) u) : (noneKind P w).is (kk k) u = true := by
  cases k with
  | none => obtain rfl : u = Value.none := r; rfl
  | some i => exact kV_is (P := P) (w := w) (k := .inl i) r
theorem relV_keyN {k : Option Int} {u : Value} (h : nkIs (kk k) u = true) : RelV (ov k) u := by
  cases k with
  | none => exact nk_none h
  | some i => exact relV_key (k := .inl i) h
/-- the pairs as the library's -/
def kvK (kvs : List (Option Int × V)) : List (Option Key × V) := kvs.map fun p => (kk p.1, p.2)
theorem valV_kvK (kvs : List (Option Int × V)) (k : Option Int) : valV (kvK kvs) (kk k) = valV kvs k := by
  induction kvs with
  | nil => rfl
  | cons p r ih =>
    by_cases e : p.1 = k
    · rw [show kvK (p :: r) = (kk p.1, p.2) :: kvK r from rfl, valV_pos (p := (kk p.1, p.2)) (by rw [e]), valV_pos e]
    · rw [show kvK (p :: r) = (kk p.1, p.2) :: kvK r from rfl, valV_neg (p := (kk p.1, p.2)) (fun z => e (kk_inj z)), valV_neg e, ih]
theorem any_kvK (kvs : List (Option Int × V)) (k : Option Int) : ((kvK kvs).any fun kv => decide (kv.1 = kk k)) = kvs.any fun kv => decide (kv.1 = k) := by
  rw [valV_any, valV_any, valV_kvK]
theorem putK_kvK (kvs : List (Option Int × V)) (k : Option Int) (v : V) : putK (kvK kvs) (kk k) v = kvK (putK kvs k v) := by
  unfold putK
  rw [any_kvK]
  split
  · simp only [kvK, List.map_map]
    refine List.map_congr_left fun p _ => ?_
    by_cases e : p.1 = k
    · simp [e]
    · have : ¬ kk p.1 = kk k := fun z => e (kk_inj z)
      simp [e, this]
  · simp [kvK]
/-- the dict at a, its count of changes ep -/
def DN (P : Program) (w : World) (a : Addr) (kvs : List (Option Int × V)) (ep : Nat) : HO := .ext fun h => kvs.length ≤ sizeLine ∧ (a == sysModules) = false ∧ ∃ vs, KV (kvK kvs) vs ∧ h.DictAt (noneKind P w) a vs ep
section
variable {X : Cx} {pins : List (Addr × Obj)} {σ : L2.St} {H : Hp} {s : Shared}
theorem dn_new {P : Program} {w : World} {H : Hp} {h : Heap} {a : Addr} {kvs : List (Option Int × V)} {ep : Nat} {vs : List (Option Key × Value)} (z : kvs.length ≤ sizeLine) (hd : (a == sysModules) = false) (rel : KV (kvK kvs) vs) (dd : h.DictAt (noneKind P w) a vs ep) : ObjOk P w H h a (DN P w a kvs ep) := by
  have ⟨o, es, ho, _⟩ := dd
  refine ⟨⟨z, hd, vs, rel, dd⟩, ⟨o, ho⟩, fun h1 h2 p k => ?_⟩
  obtain ⟨z, hd, vs, rel, o, es, ho, r⟩ := p
  exact ⟨z, hd, vs, rel, o, es, k o ho, r⟩
theorem dn_get {a : Addr} {kvs : List (Option Int × V)} {ep : Nat} (I : Inv X pins σ H s) (ha : H a = some (DN X.prog X.w a kvs ep)) : kvs.length ≤ sizeLine ∧ (a == sysModules) = false ∧ ∃ vs, KV (kvK kvs) vs ∧ s.heap.DictAt (noneKind X.prog X.w) a vs ep := (I.hok a _ ha).1
/-- {} -/
def tDNew (P : Program) (w : World) : TE := fun _ H Q => ∀ p H', H p = none → Same H H' → H' p = some (DN P w p [] 0) → Q (.ref p) H'
theorem pe_dnN {pos : Pos} : PE X (.Dict [] [] pos) (tDNew X.prog X.w) := ⟨fun pins s σ H Q I h =>
  wpAny_Dict_empty ⟨.ref s.heap.objs.size, _, I.laid (a := s.heap.objs.size) (o := DN X.prog X.w s.heap.objs.size [] 0) (t' := s.toks) (fun _ _ q => Heap.get?_push_of_some _ q) (Nat.le_refl _)
    (dn_new (Nat.zero_le _) (beq_eq_false_iff_ne.mpr (Ne.symm (Nat.ne_of_lt I.big))) .nil ⟨_, #[], Heap.get?_push_size _ rfl, ⟨rfl, rfl, rfl⟩, rfl, fun _ he => by simp at he, Pairs.nil, List.nodup_nil⟩), rfl,
    h _ _ (I.hok.fresh (Nat.le_refl _)) (Same.upd (I.hok.fresh (Nat.le_refl _))) upd_same⟩⟩
/-- k in d -/
def rInDN (P : Program) (w : World) : R2 := fun x y H Q => ∃ k a kvs ep, x = ov k ∧ y = .ref a ∧ H a = some (DN P w a kvs ep) ∧ Q (.bl (valV kvs k).isSome) H
theorem op_inDN : OpR X (compareOp .In) (rInDN X.prog X.w) := by
  intro pins s σ H x y v u Q I rx ry h
  obtain ⟨k, a, kvs, ep, rfl, rfl, ha, q⟩ := h
  cases ry
  obtain ⟨z, hd, vs, rel, dd⟩ := dn_get I ha
  refine wpAny_in_of (kN_is rx) hd dd.dictOf.mapOf ?_
  rw [← (rel.val (kk k)).isSome_eq, valV_kvK]
  exact ⟨.bl _, H, I.tok _, rfl, q⟩
/-- d[k] -/
def rIxDN (P : Program) (w : World) : R2 := fun x y H Q => ∃ k a kvs ep v, x = .ref a ∧ y = ov k ∧ H a = some (DN P w a kvs ep) ∧ valV kvs k = some v ∧ Q v H
theorem ix_DN : IxR X (rIxDN X.prog X.w) := by
  intro value slice pins s σ H x y v u Q I rx ry h hs
  obtain ⟨k, a, kvs, ep, z0, rfl, rfl, ha, hv, q⟩ := h
  cases rx
  obtain ⟨z, hd, vs, rel, dd⟩ := dn_get I ha
  obtain ⟨w', hw, rw'⟩ := RelO.some_of (v := z0) (o := valueAt vs (kk k)) (by rw [← hv, ← valV_kvK]; exact rel.val (kk k))
  exact tail_any dd.dictOf.typeIs slot_dict_getitem.lookup (wpAny_getItem_of (kN_is ry) dd.dictOf.mapOf hw ⟨z0, H, I.tok _, rw', q⟩) hs
/-- d[k] = v -/
def rSetDN (P : Program) (w : World) : TSet := fun o i v H Q => ∃ a k kvs ep, o = .ref a ∧ i = ov k ∧ H a = some (DN P w a kvs ep) ∧ kvs.length < sizeLine ∧ ∀ ep' H', Put H H' a (DN P w a (putK kvs k v) ep') → Q H'
theorem set_DN : PSet X (rSetDN X.prog X.w) := by
  intro pins s σ H o i v ov' iv u Q I ro ri rv h
  obtain ⟨a, k, kvs, ep, rfl, rfl, ha, hl, q⟩ := h
  cases ro
  obtain ⟨z, hd, vs, rel, dd⟩ := dn_get I ha
  have hz : vs.length ≤ sizeLine := by rw [← rel.length]; simpa [kvK] using z
  have hl2 : (putK kvs k v).length ≤ sizeLine := by have := length_putK kvs k v; omega
  refine wpAny_setItem_pairs (hsz := hz) (kN_is ri) dd.dictOf fun h' dd' hs => ?_
  obtain ⟨ep', dd2⟩ := dd'.dictAt
  have he : ∃ q, h'.get? a = some q := let ⟨q, _, _, hq, _⟩ := dd'; ⟨q, hq⟩
  refine ⟨upd H a (DN X.prog X.w a (putK kvs k v) ep'), d_write I (by rw [ha]; exact True.intro) hs he (dn_new hl2 hd (vs := stored vs (kk k) u) (by rw [← putK_kvK]; exact rel.put (kk k) rv) dd2), q ep' _ ⟨upd_same, fun b hb => upd_ne hb⟩⟩
end
/-! ### for k in d, in a comprehension -/
def ItN (P : Program) (w : World) (d : Addr) (kvs : List (Option Int × V)) (ep : Nat) : It :=
  ⟨fun i H => H d = some (DN P w d kvs ep) ∧ i < kvs.length, fun i H x H' => H' = H ∧ ∃ k v, kvs[i]? = some (k, v) ∧ x = ov k, fun i H => H d = some (DN P w d kvs ep) ∧ kvs.length ≤ i⟩
theorem turn_DN {P : Program} {w : World} {K : PySem.W.Frag} {tg : Expr} {d : Addr} {ep : Nat} {kvs : List (Option Int × V)} (it : Addr) : Turn P w K tg (ItN P w d kvs ep) [it] it (fun i h => h.IsKeyIter it d i kvs.length ep) where
  mem := by simp
  obj := fun i h st b hb => by
    have e : b = it := by simpa using hb
    subst e
    obtain ⟨oi, e, c, dd⟩ := st
    exact ⟨oi, e, fun v z => by rw [dd] at z; cases z⟩
  keep := fun i h h' st k => st.at fun oi e => k it (by simp) oi e
  item := by
    intro X hP hw hK hc i pins s σ H E I hf st hg
    subst hP hw hK
    obtain ⟨hd, hi⟩ := hg
    obtain ⟨f0, f1, f2, f3, f4, f5⟩ := hf it (by simp)
    obtain ⟨z, hs, vs, kv, hm⟩ := dn_get I hd
    obtain ⟨⟨k, v⟩, hkv⟩ : ∃ p, kvs[i]? = some p := ⟨kvs[i], List.getElem?_eq_getElem hi⟩
    have hkv2 : (kvK kvs)[i]? = some (kk k, v) := by simp [kvK, hkv]
    obtain ⟨u, hu, ru⟩ := kv_get kv hkv2
    have hl : kvs.length = vs.length := by rw [← kv.length]; simp [kvK]
    rw [hl] at st
    refine wpAny_pyNext_dict_item st hm hu fun key h' hkey st' sb => ?_
    have I1 : Inv X pins σ H { s with heap := h' } := I.turned (t' := s.toks) (fun b ob hb e => (sb.2 b hb).trans e) f0 f1 f3 f4 f5
    obtain ⟨oi, e, c, dd⟩ := id st'
    refine ⟨key, rfl, go_of (s := { s with heap := h' }) e c dd (by decide) ⟨ov k, H, I1, relV_keyN (show nkIs (kk k) key = true from hkey), ⟨rfl, k, v, hkv, rfl⟩, ?_, fun b hb => (hf b hb).1⟩⟩
    show h'.IsKeyIter it d (i + 1) kvs.length _
    rw [hl]
    exact st'
  done := by
    intro X hP hw hK hc i pins s σ H E I hf st hg
    subst hP hw hK
    obtain ⟨hd, hi⟩ := hg
    obtain ⟨f0, f1, f2, f3, f4, f5⟩ := hf it (by simp)
    obtain ⟨z, hs, vs, kv, hm⟩ := dn_get I hd
    have hl : kvs.length = vs.length := by rw [← kv.length]; simp [kvK]
    obtain ⟨o, es, ho, hx, hdt, hk, hp, hn⟩ := hm
    have hsz : es.size = kvs.length := by have := hp.length; rw [Array.length_toList] at this; omega
    exact next_key_end (I.ok.hd hc) st ho hdt hsz hi fun h' eb => ⟨rfl, I.turned (t' := s.toks) (fun b ob hb e => eb b ob hb e) f0 f1 f3 f4 f5⟩
  self := fun A i s Q E st h => wpAny_pyIter_keyiter st h
def iDN (P : Program) (w : World) (td : TE) : TI := fun σ H R => td σ H fun x H1 => ∃ d kvs ep, x = .ref d ∧ H1 d = some (DN P w d kvs ep) ∧ R (ItN P w d kvs ep) H1
theorem pi_DN {X : Cx} {tg e : Expr} {td : TE} (he : PE X e td) : PI X tg e (iDN X.prog X.w td) := by
  refine ⟨fun pins s σ H R I h => ?_⟩
  refine thn (he.run pins s σ H _ I h) fun u s1 ⟨x, H1, I1, rx, d, kvs, ep, ex, hd, q⟩ => ?_
  subst ex
  obtain rfl : u = Value.ref d := rx
  obtain ⟨z, hs, vs, kv, hm⟩ := dn_get I1 hd
  have hl : kvs.length = vs.length := by rw [← kv.length]; simp [kvK]
  obtain ⟨o, es, ho, hx, hdt, hk, hp, hn⟩ := hm
  have hsz : es.size = kvs.length := by have := hp.length; rw [Array.length_toList] at this; omega
  refine iter_keys hs ho hx hdt (pi_one (tk := s1.toks) I1 _ (turn_DN (ep := ep) _) ⟨_, Heap.get?_push_size _ rfl, rfl, ?_⟩ q)
  rw [hsz] <;> rfl
theorem walk_DN {P : Program} {w : World} {d : Addr} {ep : Nat} {kvs : List (Option Int × V)} : Walk (ItN P w d kvs ep) kvs.length (fun H => H d = some (DN P w d kvs ep)) (fun i H x H' => H' = H ∧ ∃ k v, kvs[i]? = some (k, v) ∧ x = ov k) :=
  ⟨fun _ _ hi q => ⟨q, hi⟩, fun _ q => ⟨q, Nat.le_refl _⟩, fun _ _ _ _ _ _ y => y⟩
/-- [f(k) for k in d if p(k)] -/
theorem st_lcDN {P : Program} {w : World} {g : TG} {tl : TE} {tt : TT} {te : TE} {vs : List Nat} {σ : L2.St} {H : Hp} {Q : VK} {a : Addr} {kvs : List (Option Int × V)} {ep : Nat} (ha : ∀ R : V → Hp → Prop, R (.ref a) H → tl σ H R) (hx : H a = some (DN P w a kvs ep)) (hz : kvs.length ≤ sizeLine) (p : Option Int → Bool) (f : Option Int → V)
    (hs : ∀ x H' (A : Hp → Prop) (B : VK), x ∈ kvs.map (·.1) → Same H H' → (p x = false → ∀ H3, Same H' H3 → A H3) → (p x = true → ∀ H4, Same H' H4 → B (f x) H4) →
      g (ov x) (wipe σ vs) H' fun σ2 H2 => wipe σ2 vs = wipe σ vs ∧ tt σ2 H2 fun b H3 => if b = true then te σ2 H3 B else A H3)
    (hd : ∀ D H', H D = none → Same H H' → H' D = some (.lst (((kvs.map (·.1)).filter p).map f)) → Q (.ref D) H') : tLc (iDN P w tl) g tt te vs σ H Q := by
  refine ha _ ⟨a, kvs, ep, rfl, hx, fun D hD => lc_it walk_DN (fun i H' => Same H H' ∧ H' D = some (.lst ((((kvs.map (·.1)).take i).filter p).map f))) ⟨Same.upd hD, upd_same⟩ (fun i H' _ q => q.1 _ _ hx) (fun i x H' H'' hi q y => ?_) (fun H' q => hd D H' hD q.1 (by rw [q.2, show kvs.length = (kvs.map (·.1)).length by simp, List.take_length]))⟩
  obtain ⟨rfl, k, v, hk, rfl⟩ := y
  have hi2 : (kvs.map (·.1))[i]? = some k := by simp [hk]
  refine hs k H'' _ _ (List.mem_of_getElem? hi2) q.1 (fun e H3 s3 => ⟨q.1.trans s3, ?_⟩) (fun e H4 s4 => ⟨_, s4 _ _ q.2, ?_, ?_, ?_⟩)
  · rw [s3 _ _ q.2, take_filter_succ hi2, e]; simp
  · have h1 : (((kvs.map (·.1)).take i).filter p).length ≤ ((kvs.map (·.1)).take i).length := List.length_filter_le _ _
    have h2 : ((kvs.map (·.1)).take i).length ≤ i := by rw [List.length_take]; exact Nat.min_le_left _ _
    rw [List.length_map]; omega
  · exact fun b u e2 => by
      have hb : b ≠ D := ne_of_none e2 hD
      rw [upd_ne hb]; exact s4 _ _ (q.1 _ _ e2)
  · rw [upd_same, take_filter_succ hi2, e]; simp
end Iz
/-! Tr -/
set_option Elab.async false
set_option linter.all false
set_option maxRecDepth 100000
set_option maxHeartbeats 4000000
namespace Iz
open PySem PySem.Spec PyProof.Rows L2
/-! ### told rows: the mathematics -/
abbrev PP := Option Int × Option Int
def inB (lo hi : Option Int) (i : Int) : Bool := (match lo with | none => true | some l => decide (l ≤ i)) && (match hi with | none => true | some h => decide (i < h))
def has (ps : List PP) (i : Int) : Bool := ps.any fun q => inB q.1 q.2 i
theorem has_iff {ps : List PP} {i : Int} : has ps i = true ↔ ∃ q ∈ ps, inB q.1 q.2 i = true := by simp only [has, List.any_eq_true]
theorem has_nil {i : Int} : has [] i = false := rfl
theorem has_app {ps qs : List PP} {i : Int} : has (ps ++ qs) i = (has ps i || has qs i) := by simp [has]
theorem has_one {q : PP} {i : Int} : has [q] i = inB q.1 q.2 i := by simp [has]
theorem has_take {ps : List PP} {i : Nat} {q : PP} (h : ps[i]? = some q) {j : Int} : has (ps.take (i + 1)) j = (has (ps.take i) j || inB q.1 q.2 j) := by rw [List.take_succ, h, has_app]; simp [has_one]
def okB : PP → Prop
  | (some a, some b) => a < b
  | _ => True
def ghigh : Option Int → Option Int → Option Int
  | none, _ => none
  | _, none => none
  | some a, some b => some (if a > b then a else b)
theorem in_ghigh {l h h' : Option Int} {i : Int} : inB l (ghigh h h') i = (inB l h i || inB l h' i) := by
  cases h with
  | none => cases l <;> cases h' <;> simp [inB, ghigh] <;> (intros; assumption)
  | some a => cases h' with
    | none => cases l <;> simp [inB, ghigh] <;> (intros; assumption)
    | some b =>
      have : decide (i < if a > b then a else b) = (decide (i < a) || decide (i < b)) := by
        by_cases h1 : i < a <;> by_cases h2 : i < b <;> simp [h1, h2] <;> split <;> omega
      cases l <;> simp only [inB, ghigh, this, Bool.true_and, Bool.and_or_distrib_left]
theorem okB_ghigh {l h h' : Option Int} (k : okB (l, h)) : okB (l, ghigh h h') := by
  cases l <;> cases h <;> cases h' <;> simp_all [okB, ghigh]
  split <;> omega
def keyO (ts : List PP) (k : Option Int) : Option (Option Int) := (ts.find? fun p => decide (p.1 = k)).map (·.2)
def putO (ts : List PP) (k v : Option Int) : List PP := if (ts.any fun p => decide (p.1 = k)) = true then ts.map (fun p => if p.1 = k then (p.1, v) else p) else ts ++ [(k, v)]
def toV (ts : List PP) : List (Option Int × V) := ts.map fun p => (p.1, ov p.2)
theorem valV_toV (ts : List PP) (k : Option Int) : valV (toV ts) k = (keyO ts k).map ov := by
  induction ts with
  | nil => rfl
  | cons p r ih =>
    by_cases e : p.1 = k
    · rw [show toV (p :: r) = (p.1, ov p.2) :: toV r from rfl, valV_pos (p := (p.1, ov p.2)) e]; simp [keyO, e]
    · rw [show toV (p :: r) = (p.1, ov p.2) :: toV r from rfl, valV_neg (p := (p.1, ov p.2)) e, ih]; simp [keyO, e]
theorem any_toV (ts : List PP) (k : Option Int) : ((toV ts).any fun kv => decide (kv.1 = k)) = ts.any fun p => decide (p.1 = k) := by simp [toV, List.any_map, Function.comp_def]
theorem putK_toV (ts : List PP) (k v : Option Int) : putK (toV ts) k (ov v) = toV (putO ts k v) := by
  unfold putK putO
  rw [any_toV]
  split
  · simp only [toV, List.map_map]
    refine List.map_congr_left fun p _ => ?_
    by_cases e : p.1 = k <;> simp [e]
  · simp [toV]
abbrev NdK (ts : List PP) : Prop := (ts.map (·.1)).Nodup
theorem keyO_mem {ts : List PP} {k h : Option Int} (e : keyO ts k = some h) : (k, h) ∈ ts := by
  unfold keyO at e
  obtain ⟨p, hp, rfl⟩ := Option.map_eq_some_iff.mp e
  have h1 := List.mem_of_find?_eq_some hp
  have h2 := List.find?_some hp
  simp only [decide_eq_true_eq] at h2
  subst h2
  exact h1
theorem mem_keyO {ts : List PP} (n : NdK ts) {q : PP} (h : q ∈ ts) : keyO ts q.1 = some q.2 := by
  induction ts with
  | nil => simp at h
  | cons p r ih =>
    simp only [NdK, List.map_cons, List.nodup_cons] at n
    rcases List.mem_cons.mp h with rfl | h
    · simp [keyO]
    · have ne : ¬ p.1 = q.1 := fun z => n.1 (by rw [z]; exact List.mem_map.mpr ⟨q, h, rfl⟩)
      have := ih n.2 h
      simp only [keyO, List.find?_cons, decide_eq_false ne] at this ⊢
      exact this
theorem any_keyO {ts : List PP} {k : Option Int} : (ts.any fun p => decide (p.1 = k)) = (keyO ts k).isSome := by
  unfold keyO
  rw [Option.isSome_map]
  induction ts with
  | nil => rfl
  | cons p r ih => by_cases e : p.1 = k <;> simp [e, ih]
theorem has_putO_some {ts : List PP} (n : NdK ts) {k h h' : Option Int} (e : keyO ts k = some h) {i : Int} : has (putO ts k (ghigh h h')) i = (has ts i || inB k h' i) := by
  rw [Bool.eq_iff_iff, Bool.or_eq_true, has_iff, has_iff]
  unfold putO
  rw [if_pos (by rw [any_keyO, e]; rfl)]
  constructor
  · rintro ⟨q, hq, hi⟩
    obtain ⟨p, hp, rfl⟩ := List.mem_map.mp hq
    by_cases c : p.1 = k
    · have e2 := mem_keyO n hp
      rw [c, e] at e2
      rw [if_pos c] at hi
      simp only [in_ghigh, Bool.or_eq_true] at hi
      rcases hi with hi | hi
      · exact .inl ⟨p, hp, by rw [← Option.some.inj e2]; exact hi⟩
      · exact .inr (by rw [← c]; exact hi)
    · rw [if_neg c] at hi; exact .inl ⟨p, hp, hi⟩
  · rintro (⟨p, hp, hi⟩ | hi)
    · refine ⟨_, List.mem_map.mpr ⟨p, hp, rfl⟩, ?_⟩
      by_cases c : p.1 = k
      · have e2 := mem_keyO n hp
        rw [c, e] at e2
        rw [if_pos c]
        simp only [in_ghigh, Option.some.inj e2, hi, Bool.true_or]
      · rw [if_neg c]; exact hi
    · refine ⟨_, List.mem_map.mpr ⟨(k, h), keyO_mem e, rfl⟩, ?_⟩
      rw [if_pos rfl]
      simp only [in_ghigh, hi, Bool.or_true]
theorem has_putO_none {ts : List PP} {k h' : Option Int} (e : keyO ts k = none) {i : Int} : has (putO ts k h') i = (has ts i || inB k h' i) := by
  unfold putO
  rw [if_neg (by rw [any_keyO, e]; decide), has_app, has_one]
theorem putO_nd {ts : List PP} (n : NdK ts) {k v : Option Int} : NdK (putO ts k v) := by
  unfold putO
  split
  · have : (ts.map fun p => if p.1 = k then (p.1, v) else p).map (·.1) = ts.map (·.1) := by
      rw [List.map_map]
      refine List.map_congr_left fun p _ => ?_
      by_cases e : p.1 = k <;> simp [e]
    unfold NdK; rw [this]; exact n
  · rename_i h
    rw [List.any_eq_true] at h
    simp only [NdK, List.map_append, List.map_cons, List.map_nil]
    refine List.nodup_append.mpr ⟨n, by simp, fun a ha b hb => ?_⟩
    simp only [List.mem_singleton] at hb
    subst hb
    rintro rfl
    obtain ⟨p, hp, rfl⟩ := List.mem_map.mp ha
    exact h ⟨p, hp, by simp⟩
theorem putO_ok {ts : List PP} (o : ∀ q ∈ ts, okB q) {k v : Option Int} (hk : okB (k, v)) : ∀ q ∈ putO ts k v, okB q := by
  unfold putO
  split
  · intro q hq
    obtain ⟨p, hp, rfl⟩ := List.mem_map.mp hq
    by_cases e : p.1 = k
    · rw [if_pos e, e]; exact hk
    · rw [if_neg e]; exact o p hp
  · intro q hq
    rcases List.mem_append.mp hq with h | h
    · exact o q h
    · rw [List.mem_singleton.mp h]; exact hk
theorem putO_len {ts : List PP} {k v : Option Int} : (putO ts k v).length ≤ ts.length + 1 := by unfold putO; split <;> simp
/-- none is least -/
def ltL : Option Int → Option Int → Prop
  | none, some _ => True
  | some a, some b => a < b
  | _, none => False
def leL : Option Int → Option Int → Prop
  | none, _ => True
  | some a, some b => a ≤ b
  | some _, none => False
abbrev Asc (qs : List PP) : Prop := qs.Pairwise fun p q => ltL p.1 q.1
def lowsO (ts : List PP) : List Int := ts.filterMap (·.1)
def valO (ts : List PP) (k : Option Int) : Option Int := (keyO ts k).getD none
def ascO (ts : List PP) (ys : List Int) : List PP := (if (keyO ts none).isSome = true then [(none, valO ts none)] else []) ++ ys.map fun l => (some l, valO ts (some l))
theorem mem_lowsO {ts : List PP} {l : Int} : l ∈ lowsO ts ↔ ∃ h, (some l, h) ∈ ts := by
  simp only [lowsO, List.mem_filterMap]
  constructor
  · rintro ⟨p, hp, e⟩; exact ⟨p.2, by rw [← e]; exact hp⟩
  · rintro ⟨h, hp⟩; exact ⟨_, hp, rfl⟩
theorem mem_ascO {ts : List PP} (n : NdK ts) {ys : List Int} (hy : ys.Perm (lowsO ts)) {q : PP} : q ∈ ascO ts ys ↔ q ∈ ts := by
  have val : ∀ {k h}, (k, h) ∈ ts → valO ts k = h := fun {k h} m => by unfold valO; rw [mem_keyO n m]; rfl
  simp only [ascO, List.mem_append, List.mem_map, hy.mem_iff, mem_lowsO]
  obtain ⟨k, h⟩ := q
  constructor
  · rintro (c | ⟨l, ⟨h2, m⟩, e⟩)
    · split at c
      · rename_i hs
        obtain ⟨h2, e2⟩ := Option.isSome_iff_exists.mp hs
        have m := keyO_mem e2
        rw [val m, List.mem_singleton] at c
        rw [c]; exact m
      · simp at c
    · rw [val m] at e; rw [← e]; exact m
  · intro m
    cases k with
    | none => exact .inl (by rw [if_pos (by rw [mem_keyO n m]; rfl), val m]; simp)
    | some l => exact .inr ⟨l, ⟨h, m⟩, by rw [val m]⟩
theorem has_ascO {ts : List PP} (n : NdK ts) {ys : List Int} (hy : ys.Perm (lowsO ts)) {i : Int} : has (ascO ts ys) i = has ts i := by
  rw [Bool.eq_iff_iff, has_iff, has_iff]
  simp only [mem_ascO n hy]
theorem lowsO_nd {ts : List PP} (n : NdK ts) : (lowsO ts).Nodup := by
  have : lowsO ts = (ts.map (·.1)).filterMap id := by simp [lowsO, List.filterMap_map, Function.comp_def]
  rw [this]
  refine List.Pairwise.filterMap id (R := (· ≠ ·)) (S := (· ≠ ·)) (fun a b h c hc d hd e => h ?_) n
  simp only [id] at hc hd
  rw [hc, hd, e]
theorem ascO_asc {ts : List PP} (n : NdK ts) {ys : List Int} (hy : ys.Perm (lowsO ts)) (hs : ys.Pairwise (· ≤ ·)) : Asc (ascO ts ys) := by
  have nd : ys.Nodup := hy.nodup_iff.mpr (lowsO_nd n)
  have lt : ys.Pairwise (· < ·) := (hs.and nd).imp fun h => by have h1 := h.1; have h2 := h.2; omega
  refine List.pairwise_append.mpr ⟨by split <;> simp, List.pairwise_map.mpr (lt.imp fun h => h), fun p hp q hq => ?_⟩
  split at hp
  · rw [List.mem_singleton.mp hp]
    obtain ⟨l, _, rfl⟩ := List.mem_map.mp hq
    trivial
  · simp at hp
theorem lows_map (ts : List PP) : (((toV ts).map (·.1)).filter Option.isSome).map (fun o => V.int (o.getD 0)) = (lowsO ts).map V.int := by
  induction ts with
  | nil => rfl
  | cons p r ih =>
    have e : toV (p :: r) = (p.1, ov p.2) :: toV r := rfl
    rw [e]
    obtain ⟨l, h⟩ := p
    cases l with
    | none => simpa [lowsO, List.filter_cons] using ih
    | some a => simpa [lowsO, List.filter_cons] using ih
theorem ascO_len {ts : List PP} {ys : List Int} (hy : ys.Perm (lowsO ts)) : (ascO ts ys).length ≤ ts.length := by
  have key : (lowsO ts).length + (if (ts.any fun p => decide (p.1 = none)) = true then 1 else 0) ≤ ts.length := by
    clear hy
    induction ts with
    | nil => simp [lowsO]
    | cons p r ih =>
      obtain ⟨l, h⟩ := p
      have e : lowsO ((l, h) :: r) = (match l with | none => lowsO r | some a => a :: lowsO r) := by cases l <;> rfl
      rw [e]
      cases l with
      | none => simp only [List.any_cons, decide_true, Bool.true_or, if_true, List.length_cons]; split at ih <;> omega
      | some a => simp only [List.any_cons, List.length_cons, show decide (some a = (none : Option Int)) = false from rfl, Bool.false_or]; split at ih <;> rename_i c <;> simp only [c, if_true, if_false, Bool.false_eq_true] <;> omega
  rw [any_keyO] at key
  unfold ascO
  rw [List.length_append, List.length_map, hy.length_eq]
  split at key <;> rename_i c <;> simp only [c, if_true, if_false, Bool.false_eq_true, List.length_cons, List.length_nil] <;> omega
/-! the row -/
def gapP (p q : PP) : Prop := ∃ h l, p.2 = some h ∧ q.1 = some l ∧ h < l
structure Norm (rs : List PP) : Prop where
  ok : ∀ p ∈ rs, okB p
  gap : rs.Pairwise gapP
theorem Norm.nil : Norm [] := ⟨by simp, .nil⟩
theorem Norm.app {rs : List PP} (N : Norm rs) {q : PP} (hq : okB q) (hl : ∀ p, rs.getLast? = some p → gapP p q) : Norm (rs ++ [q]) := by
  refine ⟨fun p hp => (List.mem_append.mp hp).elim (N.ok p) fun h => by rw [List.mem_singleton.mp h]; exact hq, List.pairwise_append.mpr ⟨N.gap, by simp, fun p hp x hx => ?_⟩⟩
  rw [List.mem_singleton.mp hx]
  clear hx x
  rcases List.eq_nil_or_concat rs with rfl | ⟨r0, z, rfl⟩
  · simp at hp
  · have hz := hl z (by simp)
    rw [List.concat_eq_append] at hp N
    rcases List.mem_append.mp hp with h | h
    · have g := (List.pairwise_append.mp N.gap).2.2 p h z (by simp)
      have okz := N.ok z (by simp)
      obtain ⟨h1, l1, e1, e2, lt1⟩ := g
      obtain ⟨h2, l2, e3, e4, lt2⟩ := hz
      obtain ⟨zl, zh⟩ := z
      simp only at e2 e3
      subst e2 e3
      have okz : l1 < h2 := okz
      exact ⟨h1, l2, e1, e4, by omega⟩
    · rw [List.mem_singleton.mp h]; exact hz
theorem Norm.merge {r0 : List PP} {b e h : Option Int} (N : Norm (r0 ++ [(b, e)])) : Norm (r0 ++ [(b, ghigh e h)]) := by
  obtain ⟨g1, _, g3⟩ := List.pairwise_append.mp N.gap
  refine ⟨fun p hp => ?_, List.pairwise_append.mpr ⟨g1, by simp, fun p hp x hx => ?_⟩⟩
  · rcases List.mem_append.mp hp with h | h
    · exact N.ok p (List.mem_append.mpr (.inl h))
    · rw [List.mem_singleton.mp h]; exact okB_ghigh (N.ok (b, e) (by simp))
  · rw [List.mem_singleton.mp hx]
    exact g3 p hp (b, e) (by simp)
theorem has_merge {r0 : List PP} {b e l h : Option Int} {i : Int} (hb : leL b l) (hl : e = none ∨ ∃ x y, l = some x ∧ e = some y ∧ x ≤ y) : has (r0 ++ [(b, ghigh e h)]) i = (has (r0 ++ [(b, e)]) i || inB l h i) := by
  simp only [has_app, has_one, in_ghigh, Bool.or_assoc]
  congr 1
  rcases hl with rfl | ⟨x, y, rfl, rfl, hxy⟩
  · cases b with
    | none => simp [inB]
    | some b0 => cases l with
      | none => exact hb.elim
      | some l0 =>
        have hb : b0 ≤ l0 := hb
        cases h with
        | none => by_cases c : b0 ≤ i <;> by_cases c2 : l0 ≤ i <;> simp [inB, c, c2]; omega
        | some h0 => by_cases c : b0 ≤ i <;> by_cases c2 : l0 ≤ i <;> by_cases c3 : i < h0 <;> simp [inB, c, c2, c3]; omega
  · cases b with
    | none =>
      cases h with
      | none => by_cases c : i < y <;> by_cases c2 : x ≤ i <;> simp [inB, c, c2]; omega
      | some h0 => by_cases c : i < y <;> by_cases c2 : x ≤ i <;> by_cases c3 : i < h0 <;> simp [inB, c, c2, c3]; omega
    | some b0 =>
      have hb : b0 ≤ x := hb
      cases h with
      | none => by_cases c0 : b0 ≤ i <;> by_cases c : i < y <;> by_cases c2 : x ≤ i <;> simp [inB, c, c2, c0] <;> omega
      | some h0 => by_cases c0 : b0 ≤ i <;> by_cases c : i < y <;> by_cases c2 : x ≤ i <;> by_cases c3 : i < h0 <;> simp [inB, c, c2, c3, c0] <;> omega
end Iz
/-! Sp -/
set_option Elab.async false
set_option linter.all false
set_option maxRecDepth 100000
set_option maxHeartbeats 4000000
namespace Iz
open PySem PySem.Spec PyProof.Rows L2
/-! ### xs.pop(), tuple(xs), enumerate, isinstance of several classes -/
def tPop (to : TE) : TE := fun σ H Q => to σ H fun x H1 => ∃ l xs y, x = .ref l ∧ H1 l = some (.lst (xs ++ [y])) ∧ ∀ H3, Put H1 H3 l (.lst xs) → Q y H3
theorem pe_popN {X : Cx} {o : Expr} {to : TE} {apos cpos : Pos} (ho : PE X o to)
    (hbase : attributeBase o "pop" X.env (eval o X.env) = eval o X.env := by rfl) (hline : (apos.endLine == cpos.line) = true := by rfl) : PE X (.Call (.Attribute o "pop" apos) [] [] cpos) (tPop to) :=
  PE.imp (pe_bm0 PySem.F.plainAttrs_list PySem.F.slot_list_pop PySem.F.type_list_pop mt_pop (PE.mcl ho) hbase hline) fun σ H Q q =>
    ⟨_, q, fun x H1 ⟨l, xs, y, hx, hl, q⟩ => by subst hx; exact ⟨.inl ⟨rfl, _, SqL.of hl⟩, l, _, y, rfl, rfl, hl, by simp, q _ ⟨by rw [upd_same, List.dropLast_concat], fun _ h => upd_ne h⟩⟩⟩
def rTupN : List V → Hp → VK → Prop := fun xs H Q => ∃ p ys, xs = [.ref p] ∧ H p = some (.lst ys) ∧ News H (.tup ys) Q
theorem call_tupN {X : Cx} : CallR X (.type "tuple") rTupN := fun pins s σ H xs us Q I r ⟨p, ys, e, hp, n⟩ => call_tuple_of pins s σ H xs us Q I r ⟨p, ys, e, .inl ⟨SqL.of hp, n.all⟩⟩
theorem st_forE {K : PySem.W.Frag} {g : TG} {tb : TS} {D : Ends} {σ : L2.St} {H : Hp} {ta : TA} {a : Addr} {xs : List V} (ha : ∀ R : List V → Hp → Prop, R [.ref a] H → ta σ H R) (hx : H a = some (.lst xs)) (Pv : Nat → L2.St → Hp → Prop) (h0 : Pv 0 σ H) (hl : ∀ i σ H, Pv i σ H → H a = some (.lst xs))
    (hs : ∀ i x T σ H H', xs[i]? = some x → Pv i σ H → Same H H' → H' T = some (.tup [.int (i : Nat), x]) → g (.ref T) σ H' fun σ2 H2 => tb { D with nx := Pv (i + 1), ct := Pv (i + 1), bk := D.nx } σ2 H2) (hd : ∀ σ H, Pv xs.length σ H → D.nx σ H) : tFor (iEnum K ta) g tb D σ H :=
  ha _ ⟨a, xs, rfl, SqL.of hx, for_it walk_enum Pv h0 (fun i σ H _ p => SqL.of (hl i σ H p)) (fun i v σ H H' hi p y => by
    obtain ⟨T, x, z, rfl, hT, rfl, e1, e2⟩ := y
    cases e1
    exact hs i z T σ H _ e2 p (Same.upd hT) upd_same) hd⟩
/-- a comprehension over the pairs of a list -/
theorem ix_DNk {X : Cx} {P : Program} {w : World} (e : X.prog = P) (e2 : X.w = w) : IxR X (rIxDN P w) := e ▸ e2 ▸ ix_DN
theorem op_inDNk {X : Cx} {P : Program} {w : World} (e : X.prog = P) (e2 : X.w = w) : OpR X (compareOp .In) (rInDN P w) := e ▸ e2 ▸ op_inDN
theorem set_DNk {X : Cx} {P : Program} {w : World} (e : X.prog = P) (e2 : X.w = w) : PSet X (rSetDN P w) := e ▸ e2 ▸ set_DN
theorem pi_DNk {X : Cx} {P : Program} {w : World} (e : X.prog = P) (e2 : X.w = w) {tg x : Expr} {td : TE} (he : PE X x td) : PI X tg x (iDN P w td) := by subst e e2; exact pi_DN he
theorem pe_dnNk {X : Cx} {P : Program} {w : World} (e : X.prog = P) (e2 : X.w = w) {pos : Pos} : PE X (.Dict [] [] pos) (tDNew P w) := by subst e e2; exact pe_dnN
/-! ### what may raise, asked where it does not -/
def calmS (sp : Sp) : Sp := fun vs H Q _ => sp vs H Q (fun _ _ _ => False)
section
variable {P : Program} {w : World} {K : PySem.W.Frag} {mg : Str → Option Value} {base : Heap} {k : Nat} {x m : Str} {ps : List Str} {dvs : List V} {sp : Sp}
theorem fn_calm {f : Addr} {fd : FuncData} (F : FnOk P w K mg base (L2.CX P w) k f fd ps sp) : FnOk P w K mg base CX0 k f fd ps (calmS sp) :=
  ⟨fun vs H Q E q => F.len vs H Q _ q, fun A outer s H args us vs Q E hr he hb hv hs => codeAny_mono (F.run A outer s H args us vs Q _ hr he hb hv hs) fun r s' q => by
    cases r with
    | error e => obtain ⟨_, _, _, _, _, _, _, _, _, _, _, _, z⟩ := q; exact z.elim
    | ok fl => cases fl <;> exact q⟩
theorem OkF.calm (F : OkF P w K mg base (L2.CX P w) k x ps sp) : OkF P w K mg base CX0 k x ps (calmS sp) :=
  let ⟨f, fd, g, kp, b, G⟩ := F.ex
  ⟨f, fd, g, kp, b, fn_calm G⟩
theorem OkM.calm (F : OkM P w K mg base (L2.CX P w) k x m ps dvs sp) : OkM P w K mg base CX0 k x m ps dvs (calmS sp) :=
  let ⟨f, fd, M, b, G⟩ := F.ex
  ⟨f, fd, M, b, fn_calm G⟩
theorem OkK.calm (F : OkK P w K mg base (L2.CX P w) k x ps dvs sp) : OkK P w K mg base CX0 k x ps dvs (calmS sp) :=
  let ⟨f, fd, si, M, g, b, G, q⟩ := F.ex
  ⟨f, fd, calmS si, M, g, b, fn_calm G, fun vs H Q E h p dx h1 h2 h3 => q vs H Q _ h p dx h1 h2 h3⟩
end
theorem BindD.cut {K : PySem.W.Frag} {fd : FuncData} {ps : List Str} {d : V} (b : BindD K fd ps [d]) : BindD K fd ps [] := fun j hj => by
  obtain ⟨ds, h1, h2⟩ := b 1 (Nat.le_refl _)
  exact ⟨ds, by rw [List.drop_nil]; exact h1, h2⟩
theorem lc_inT {K : PySem.W.Frag} {tl : TE} {g : TG} {tt : TT} {te : TE} {vs : List Nat} {σ : L2.St} {H : Hp} {Q : VK} (h : tl σ H fun x H1 => tLc (iTup K fun _ H R => R x H) g tt te vs σ H1 Q) : tLc (iTup K tl) g tt te vs σ H Q := h
theorem lc_inL {K : PySem.W.Frag} {tl : TE} {g : TG} {tt : TT} {te : TE} {vs : List Nat} {σ : L2.St} {H : Hp} {Q : VK} (h : tl σ H fun x H1 => tLc (iList K fun _ H R => R x H) g tt te vs σ H1 Q) : tLc (iList K tl) g tt te vs σ H Q := h
/-- ints picked out of the items of a tuple -/
theorem st_lcO {K : PySem.W.Frag} {tl : TE} {g : TG} {tt : TT} {te : TE} {vs : List Nat} {σ : L2.St} {H : Hp} {Q : VK} {a : Addr} {xs : List V} {os : List (Option Int)} (ha : ∀ R : V → Hp → Prop, R (.ref a) H → tl σ H R) (hx : H a = some (.tup xs)) (hl : xs.length = os.length) (hz : os.length ≤ 1000)
    (hs : ∀ (i : Nat) (x : V) (o : Option Int) (H' : Hp) (A : Hp → Prop) (B : VK), xs[i]? = some x → os[i]? = some o → Same H H' → (o = none → A H') → (∀ z, o = some z → B (.int z) H') →
      g x (wipe σ vs) H' fun σ2 H2 => wipe σ2 vs = wipe σ vs ∧ tt σ2 H2 fun b H3 => if b = true then te σ2 H3 B else A H3)
    (hd : ∀ D H', H D = none → Same H H' → H' D = some (.lst ((os.filterMap id).map V.int)) → Q (.ref D) H') : tLc (iTup K tl) g tt te vs σ H Q := by
  refine ha _ ⟨a, rfl, ⟨xs, SqT.of hx⟩, fun D hD => lc_tup (fun i H' => Same H H' ∧ H' D = some (.lst (((os.take i).filterMap id).map V.int))) ⟨Same.upd hD, upd_same⟩ (fun i H' _ q => SqT.of (q.1 _ _ hx)) (fun i x H' hi q => ?_) (fun H' q => hd D H' hD q.1 (by rw [q.2, hl, List.take_length]))⟩
  have hi2 := (List.getElem?_eq_some_iff.mp hi).1
  obtain ⟨o, ho⟩ : ∃ o, os[i]? = some o := ⟨os[i]'(by omega), List.getElem?_eq_getElem (by omega)⟩
  refine hs i x o H' _ _ hi ho q.1 (fun e => ⟨q.1, ?_⟩) (fun z e => ⟨_, q.2, ?_, ?_, ?_⟩)
  · rw [q.2, List.take_succ, ho, e]; simp
  · have h1 : ((os.take i).filterMap id).length ≤ (os.take i).length := List.length_filterMap_le _ _
    have h2 : (os.take i).length ≤ i := by rw [List.length_take]; exact Nat.min_le_left _ _
    rw [List.length_map, sizeLine_eq]; omega
  · exact fun b u e2 => by rw [upd_ne (ne_of_none e2 hD)]; exact q.1 _ _ e2
  · rw [upd_same, List.take_succ, ho, e]; simp
/-- [f(n) for n in ns], each as it is -/
theorem st_lcCp {K : PySem.W.Frag} {tl : TE} {g : TG} {tt : TT} {te : TE} {vs : List Nat} {σ : L2.St} {H : Hp} {Q : VK} {a : Addr} {ns : List Int} (ha : ∀ R : V → Hp → Prop, R (.ref a) H → tl σ H R) (hx : H a = some (.lst (ns.map V.int))) (hz : ns.length ≤ 1000)
    (hs : ∀ (n : Int) (H' : Hp) (A : Hp → Prop) (B : VK), B (.int n) H' → g (.int n) (wipe σ vs) H' fun σ2 H2 => wipe σ2 vs = wipe σ vs ∧ tt σ2 H2 fun b H3 => if b = true then te σ2 H3 B else A H3)
    (hd : ∀ D H', H D = none → Same H H' → H' D = some (.lst (ns.map V.int)) → Q (.ref D) H') : tLc (iList K tl) g tt te vs σ H Q := by
  refine st_lcLF ha hx (by rw [List.length_map, sizeLine_eq]; omega) (fun _ => true) (fun v => v) (fun x H' A B hx s hA hB => ?_) (fun D H' nD s h' => hd D H' nD s (by rw [h']; simp))
  obtain ⟨n, _, rfl⟩ := List.mem_map.mp hx
  exact hs n H' A B (hB rfl H' (fun _ _ h => h))
theorem none_of {H H' : Hp} {r : Addr} (s : Same H H') (n : H' r = none) : H r = none := by
  cases e : H r with
  | none => rfl
  | some o => rw [s _ _ e] at n; cases n
theorem PAll.last {H : Hp} {z0 : List V} {y : V} {rs : List PP} (h : PAll H (z0 ++ [y]) rs) : ∃ t r0 p, y = .ref t ∧ rs = r0 ++ [p] ∧ PAll H z0 r0 ∧ H t = some (.tup [ov p.1, ov p.2]) := by
  induction z0 generalizing rs with
  | nil => cases h with | cons e t => cases t; exact ⟨_, [], _, rfl, rfl, .nil, e⟩
  | cons z z0 ih => cases h with | cons e t => obtain ⟨t', r0, p, e1, e2, e3, e4⟩ := ih t; subst e2; exact ⟨t', _ :: r0, p, e1, rfl, .cons e e3, e4⟩
theorem ixN_end {n : Nat} (h : 0 < n) : ixN n (-1) = some (n - 1) := by
  unfold ixN
  rw [if_neg (by decide), if_pos (by omega)]
  congr 1; omega
theorem atI_end {α : Type} {xs : List α} {x : α} : atI (xs ++ [x]) (-1) = some x := by
  unfold atI
  rw [ixN_end (by simp)]
  simp
theorem drop_at {α : Type} {xs : List α} {i : Nat} {x : α} (h : xs[i]? = some x) : xs.drop i = x :: xs.drop (i + 1) := by
  obtain ⟨h1, rfl⟩ := List.getElem?_eq_some_iff.mp h
  exact List.drop_eq_getElem_cons h1
theorem ltL.le {a b : Option Int} (h : ltL a b) : leL a b := by cases a <;> cases b <;> simp_all [ltL, leL]; omega
theorem scalO {a b : Option Int} : scal (ov a) (ov b) = true := by cases a <;> cases b <;> rfl
theorem ov_inj {a b : Option Int} (h : ov a = ov b) : a = b := by cases a <;> cases b <;> simp_all [ov]
theorem kitAny_ll {K : PySem.W.Frag} : PySem.W.kitAny K (.type "list") [.type "list", .type "tuple"] = some true := kitAny_cons (b := true) (kit_ty (by decide +kernel)) (fun h => by cases h) (fun _ => rfl)
theorem kitAny_tl {K : PySem.W.Frag} : PySem.W.kitAny K (.type "tuple") [.type "list", .type "tuple"] = some true := kitAny_cons (b := false) (kit_ty (by decide +kernel)) (fun _ => kitAny_cons (b := true) (kit_ty (by decide +kernel)) (fun h => by cases h) (fun _ => rfl)) (fun h => by cases h)
end Iz
/-! Rp -/
set_option Elab.async false
set_option linter.all false
set_option maxRecDepth 100000
set_option maxHeartbeats 4000000
namespace Iz
open PySem PySem.Spec PyProof.Rows L2
/-! ### repr of a tuple of ints and of an empty list, where it is not known what else is being told -/
theorem codeAny_guards {M : Model} {A : Around} {c : Code} {R : Result → Shared → Prop} {s : Shared} (h : ∀ g, codeAny M { A with guards := some g } c R s) : codeAny M A c R s :=
  fun Γ p hc hB => h (guardsOf Γ.below) Γ p hc ⟨hB.1, hB.2.1, hB.2.2.1, fun g hg => by cases hg; rfl, hB.2.2.2.2⟩
/-- the text of a tuple, if it isn't being told just now -/
def tupZ (g : List Code) (a : Addr) (ts : List Str) : Str := if (g.any fun c => tupGuardF (.ref a) (c, default)) = true then "(...)" else tupleText ts
section
variable {prog : Program} {w : World} {A : Around} {E : Value → Shared → Prop} {s : Shared} {a : Addr} {o : Obj} {items : Array Value} {n : Nat} {ts : List Str} {g : List Code}
theorem own_tupZ {Q : Fin → Shared → Prop} {c : Code} (hg : A.guards = some g)
    (ha : s.heap.get? a = some o) (hd : o.data = .seq items n) (hT : ReprAll prog w items.toList ts)
    (h : ∀ u tk, Q (.done (.ret (.str (tupZ g a ts) u))) { s with toks := tk }) (hsz : (tupleText ts).length ≤ sizeLine) :
    wpOwn (model prog w) A c (Builtin.tupleReprAt 0 ⟨[.ref a], []⟩) Q E s := by
  rw [tuple_repr_tree, tupleReprUnderWay_eq]
  refine wpOwn_bind (wpOwn_stackTailAny hg (tupGuardF_off _) (tupGuardF_pos _) ?_)
  unfold tupZ at h
  cases e : g.any fun c => tupGuardF (.ref a) (c, default) with
  | true =>
    rw [e] at h
    refine wpOwn_of_wpAny ?_
    simp only [if_true]
    refine wpAny_bind (wpAny_rule ?_)
    exact wpAny_bind (wpAny_mkStr (wpAny_pure (h _ _)) (by decide))
  | false =>
    rw [e] at h
    exact wpOwn_of_wpAny (wpAny_tupleReprRest ha hd hT h (by omega))
theorem call_tupZ {Q : Value → Shared → Prop} (hTy : s.TypeIs (.ref a) "tuple") (hg : A.guards = some g)
    (ha : s.heap.get? a = some o) (hd : o.data = .seq items n) (hT : ReprAll prog w items.toList ts)
    (hQ : ∀ u tk, Q (.str (tupZ g a ts) u) { s with toks := tk }) (hsz : (tupleText ts).length ≤ sizeLine) :
    wpAny (model prog w) A (call (.builtin "tuple.__repr__") [.ref a]) Q E s :=
  wpAny_call (codeAny_call_builtin_own (Code.quiet_builtin _ (by decide +kernel)) F.entry_tuple_repr (F.slot_tuple_repr.check _ _ _ _ _ _ _ _ hTy (F.args_tuple_repr_1 _) (own_tupZ hg ha hd hT hQ hsz)))
theorem repr_tupZ {Q : Value → Shared → Prop} (hu : A.units + 1 < cLine) (hTy : s.TypeIs (.ref a) "tuple") (hg : A.guards = some g)
    (ha : s.heap.get? a = some o) (hd : o.data = .seq items n) (hT : ReprAll prog w items.toList ts)
    (hQ : ∀ u tk, Q (.str (tupZ g a ts) u) { s with toks := tk }) (hsz : (tupleText ts).length ≤ sizeLine) :
    wpAny (model prog w) A (call (.builtin "repr") [.ref a]) Q E s := by
  refine Calls.call_function_entry F.kind_repr F.plain_repr F.entry_repr (F.args_repr1 _) ?_
  unfold Builtin.«repr»
  refine wpAny_bind (m := oneArg "repr" _) (wpAny_pure ?_)
  refine wpAny_bind (wpAny_cRoomFor (by exact hu) ?_)
  refine wpAny_bind (wpAny_specialOf (name := Str.ofString "__repr__") hTy F.slot_tuple_repr.lookup ?_)
  refine wpAny_bind (m := callSpecialIfBound? (.ref a) (Str.ofString "__repr__")) (wpAny_callSpecialIfBound?_slotG (name := Str.ofString "__repr__") hTy F.slot_tuple_repr (call_tupZ hTy (by exact hg) ha hd hT (fun u tk => ?_) hsz))
  refine wpAny_bind (wpAny_isInstance (T := "str") (b := true) rfl isSubtype_str_str ?_)
  exact wpAny_pure ⟨_, rfl, hQ u tk⟩
theorem repr_nil {Q : Value → Shared → Prop} (hu : A.units + 1 < cLine) (hTy : s.TypeIs (.ref a) "list")
    (ha : s.heap.get? a = some o) (hd : o.data = .seq #[] n) (hQ : ∀ u tk, Q (.str "[]" u) { s with toks := tk }) :
    wpAny (model prog w) A (call (.builtin "repr") [.ref a]) Q E s := by
  refine Calls.call_function_entry F.kind_repr F.plain_repr F.entry_repr (F.args_repr1 _) ?_
  unfold Builtin.«repr»
  refine wpAny_bind (m := oneArg "repr" _) (wpAny_pure ?_)
  refine wpAny_bind (wpAny_cRoomFor (by exact hu) ?_)
  refine wpAny_bind (wpAny_specialOf (name := Str.ofString "__repr__") hTy F.slot_list_repr.lookup ?_)
  refine wpAny_bind (m := callSpecialIfBound? (.ref a) (Str.ofString "__repr__")) (wpAny_callSpecialIfBound?_slot (name := Str.ofString "__repr__") hTy F.slot_list_repr (call_list_repr_empty hTy ha hd ?_))
  refine wpAny_bind (wpAny_isInstance (T := "str") (b := true) rfl isSubtype_str_str ?_)
  exact wpAny_pure ⟨_, rfl, hQ _ _⟩
end
/-- repr(x): x plain, or a tuple of one int, or an empty list -/
def ReprG (K : PySem.W.Frag) (g : List Code) (H : Hp) (v : V) (z : Str) : Prop := ReprV v z ∨ (∃ a i, v = .ref a ∧ H a = some (.tup [.int i]) ∧ i.natAbs.log2 < 1920 ∧ (tupleText [Str.ofString (toString i)]).length ≤ sizeLine ∧ z = tupZ g a [Str.ofString (toString i)]) ∨ ∃ a, v = .ref a ∧ H a = some (.lst []) ∧ z = "[]"
theorem ReprG.mono {K : PySem.W.Frag} {g : List Code} {H H' : Hp} {v : V} {z : Str} (h : ReprG K g H v z) (s : Same H H') : ReprG K g H' v z := by
  rcases h with h | ⟨a, i, e1, e2, e3⟩ | ⟨a, e1, e2, e3⟩
  · exact .inl h
  · exact .inr (.inl ⟨a, i, e1, s _ _ e2, e3⟩)
  · exact .inr (.inr ⟨a, e1, s _ _ e2, e3⟩)
def rReprG (K : PySem.W.Frag) (g : List Code) : List V → Hp → VK → Prop := fun xs H Q => ∃ x s, xs = [x] ∧ ReprG K g H x s ∧ Q (.str s) H
theorem call_reprG {X : Cx} {g : List Code} {K : PySem.W.Frag} (eK : X.K = K) (hu : X.A.units + 1 < cLine) (hg : X.A.guards = some g) : CallR X (.builtin "repr") (rReprG K g) := by
  intro pins s σ H xs us Q I r h
  obtain ⟨x, z, rfl, hz, q⟩ := h
  rcases hz with hz | ⟨a, i, rfl, ha, hi, hl, rfl⟩ | ⟨a, rfl, ha, rfl⟩
  · exact call_reprN pins s σ H [x] us Q I r ⟨x, z, rfl, hz, q⟩
  · cases r with
    | cons rx rr =>
      cases rr
      cases rx
      obtain ⟨its, rv, pl, hz⟩ := I.tuple (SqT.of (K := X.K) ha)
      obtain ⟨o, ho, hc, n, hd⟩ := pl
      cases rv with
      | cons r1 r2 =>
        cases r2
        obtain ⟨t, rfl⟩ := r1
        refine repr_tupZ hu ⟨o, ho, hc⟩ hg ho hd (.cons (ReprIs.int t hi) .nil) (fun u tk => ?_) hl
        exact ⟨.str _, H, I.kept (t' := tk) fun _ _ z => z, ⟨_, rfl⟩, q⟩
  · cases r with
    | cons rx rr =>
      cases rr
      cases rx
      obtain ⟨its, rv, pl, hz⟩ := I.list (SqL.of (K := X.K) ha)
      obtain ⟨o, n, ho, hc, hdd, hd⟩ := pl
      cases rv
      refine repr_nil hu ⟨o, ho, hc⟩ ho (by simpa using hd) (fun u tk => ?_)
      exact ⟨.str _, H, I.kept (t' := tk) fun _ _ z => z, ⟨_, rfl⟩, q⟩
theorem tyX_at {K : PySem.W.Frag} {H H' : Hp} {x : V} {t : Value} (h : TyX K H x t) (s : ∀ b o, x = .ref b → H b = some o → H' b = some o) : TyX K H' x t := by
  cases h with
  | base b =>
    cases b with
    | non => exact .base .non
    | bl b => exact .base (.bl b)
    | int i => exact .base (.int i)
    | str y => exact .base (.str y)
    | flt y => exact .base (.flt y)
    | lst e => exact .base (.lst (s _ _ rfl e))
    | frz e => exact .base (.frz (s _ _ rfl e))
    | tup e => exact .base (.tup (s _ _ rfl e))
    | dK e => exact .base (.dK (s _ _ rfl e))
    | dT e => exact .base (.dT (s _ _ rfl e))
    | ins e a b c d f => exact .base (.ins (s _ _ rfl e) a b c d f)
  | byt b => exact .byt b
  | set e => exact .set (s _ _ rfl e)
  | kList e c => exact .kList e c
  | kTuple e c => exact .kTuple e c
  | kDict e c => exact .kDict e c
  | fTuple e => exact .fTuple (s _ _ rfl e)
  | fDict e => exact .fDict (s _ _ rfl e)
theorem wh_at {K : PySem.W.Frag} {H H' : Hp} {x : V} (h : Wh K H x) (s : ∀ b o, x = .ref b → H b = some o → H' b = some o) : Wh K H' x := let ⟨t, b, c, ty, r⟩ := h; ⟨t, b, c, tyX_at ty s, r⟩
/-- a pair of ends, or None -/
def PV (H : Hp) (v : V) : Option PP → Prop
  | none => v = .non
  | some (x, y) => ∃ a, v = .ref a ∧ H a = some (.tup [ov x, ov y])
def dPO : Option PP → PyData
  | none => .none
  | some (x, y) => .tuple [dO x, dO y]
theorem PV.mono {H H' : Hp} {v : V} {o : Option PP} (h : PV H v o) (s : Same H H') : PV H' v o := by
  cases o with
  | none => exact h
  | some p => obtain ⟨a, e, q⟩ := h; exact ⟨a, e, s _ _ q⟩
theorem PV.dp {K : PySem.W.Frag} {H : Hp} {v : V} {o : Option PP} (h : PV H v o) : Dp K H v (dPO o) := by
  cases o with
  | none => cases h; exact .non
  | some p => obtain ⟨a, rfl, q⟩ := h; exact .tup (SqT.of q) (.cons dp_ov (.cons dp_ov .nil))
theorem sh_dPO {n : Nat} {o : Option PP} : ShN (n + 1) (dPO o) := by
  cases o with
  | none => exact .non
  | some p => exact (ShN.tuple (n := 0) fun d hd => by
      simp only [List.mem_cons, List.not_mem_nil, or_false] at hd
      rcases hd with rfl | rfl <;> exact sh_dO).up (by omega)
theorem eqv_dO {a b : Option Int} : PyData.eqv (dO a) (dO b) = decide (a = b) := by
  cases a <;> cases b <;> simp [dO, PyData.eqv]
  rename_i x y
  by_cases h : x = y <;> simp [h]
theorem eqv_dPO {a b : Option PP} : PyData.eqv (dPO a) (dPO b) = decide (a = b) := by
  cases a with
  | none => cases b <;> simp [dPO, PyData.eqv]
  | some p => cases b with
    | none => simp [dPO, PyData.eqv]
    | some q =>
      obtain ⟨x, y⟩ := p
      obtain ⟨u, v⟩ := q
      simp only [dPO, PyData.eqv, PyData.eqvAll, eqv_dO, Bool.and_true]
      by_cases h1 : x = u <;> by_cases h2 : y = v <;> simp [h1, h2]
theorem eqP {K : PySem.W.Frag} {H : Hp} {R : VK} {v v' : V} {o o' : Option PP} (h : PV H v o) (h' : PV H v' o') (r : R (.bl (decide (o = o'))) H) : rEqD K v v' H R := ⟨_, _, h.dp, h'.dp, (sh_dPO (n := 0)).ok, (sh_dPO (n := 0)).ok, by rw [eqv_dPO]; exact r⟩
theorem neP {K : PySem.W.Frag} {H : Hp} {R : VK} {v v' : V} {o o' : Option PP} (h : PV H v o) (h' : PV H v' o') (r : R (.bl (!decide (o = o'))) H) : rNeD K v v' H R := ⟨_, _, h.dp, h'.dp, (sh_dPO (n := 0)).ok, (sh_dPO (n := 0)).ok, by rw [eqv_dPO]; exact r⟩
/-- as LamF.okF; the body knows which calls that tell are under way -/
theorem LamF.okFg {P : Program} {w : World} {K : PySem.W.Frag} {mg : Str → Option Value} {base : Heap} {x : Str} {st : Stmt} {N ps : List Str} {k : Nat} {sp : Sp} (F : LamF K mg x st) (S : FnScope N ps (defScope st))
    (hbind : ∀ (kV doc pm : Value) (an : Option Addr) (cdv ct : Value) (us : List Value), us.length = ps.length → bindArgs (PySem.W.fnOf x x (defArgs st) (defBody st) (defScope st) .none kV doc pm an cdv ct) ⟨us, []⟩ = pure (ps.zip us))
    (len : ∀ vs H Q E, sp vs H Q E → vs.length = ps.length)
    (hbody : ∀ (f : Addr) (A : Around) (outer : List Env) (s : Shared) (H : Hp) (vs : List V) (Q : VK) (E : XK) (g : List Code), A.guards = some g → Room k (A.deeper (envOfC x (defScope st) s.heap.objs.size f (.ref (cOf K x)))) → sp vs H Q E →
      ∃ t, PSs (cxOf (L2.CX P w) P w K mg base N x (defScope st) f (.ref (cOf K x)) A outer s H E) (defBody st) t ∧ t { nx := fun _ H' => Q .non H', rt := Q } (L2.start N vs) H) : OkF P w K mg base (L2.CX P w) (k + 1) x ps sp := by
  obtain ⟨f, oc, od, kV, doc, pm, an, ct, osl, g, kp, lk, hcd⟩ := F.ex
  refine ⟨f, _, g, kp,   .all (hbind kV doc pm an (.ref (cOf K x)) ct), len, fun A outer s H args us vs Q E hr e0 hb r hsp => codeAny_guards fun g => ?_⟩
  refine LamX.run_ofS (N := N) (vs := vs) lk hcd S (A := { A with guards := some g }) ⟨hr.hd, hr.dp, hr.un⟩ ⟨e0.frames, e0.mod, e0.bs, e0.bsz, e0.funs, e0.frf, e0.hok, e0.bare⟩ hb r (len _ _ _ _ hsp) fun hr2 => ?_
  exact hbody f { A with guards := some g } outer s H vs Q E g rfl hr2 hsp
end Iz
/-! La -/
set_option Elab.async false
set_option linter.all false
set_option maxRecDepth 100000
set_option maxHeartbeats 4000000
namespace LamX
open PySem PySem.Spec PyProof.Rows L2
/-! ### a lambda of one parameter, handed to a def that calls it -/
/-- one parameter, no other name of its own: captured ones and globals -/
structure LamP (sc scope : Scope) (p : Str) : Prop where
  kind : scope.kind = .function
  co : scope.isCoroutine = false
  gen : scope.isGenerator = false
  par : scope.names.lookup p = some .local
  own : ∀ y ∈ scope.names, (y.2 = .local → y.1 = p) ∧ y.2 ≠ .cell
  free : ∀ y ∈ scope.names, y.2 = .free → sc.names.lookup y.1 = some .cell ∨ sc.names.lookup y.1 = some .free
def lamPB (sc scope : Scope) (p : Str) : Bool :=
  decide (scope.kind = .function) && !scope.isCoroutine && !scope.isGenerator && decide (scope.names.lookup p = some .local) && scope.names.all fun y => (!decide (y.2 = .local) || decide (y.1 = p)) && !decide (y.2 = .cell) && (!decide (y.2 = .free) || decide (sc.names.lookup y.1 = some .cell) || decide (sc.names.lookup y.1 = some .free))
theorem lamP_by {sc scope : Scope} {p : Str} (h : lamPB sc scope p = true) : LamP sc scope p := by
  unfold lamPB at h
  simp only [Bool.and_eq_true, Bool.or_eq_true, Bool.not_eq_true', decide_eq_true_eq, decide_eq_false_iff_not, List.all_eq_true] at h
  obtain ⟨⟨⟨⟨h1, h2⟩, h3⟩, h5⟩, h4⟩ := h
  refine ⟨h1, h2, h3, h5, fun y hy => ⟨fun e => ?_, (h4 y hy).1.2⟩, fun y hy e => ?_⟩
  · rcases (h4 y hy).1.1 with z | z
    · exact absurd e z
    · exact z
  · rcases (h4 y hy).2 with (z | z) | z
    · exact absurd e z
    · exact .inl z
    · exact .inr z
theorem LamP.has {X : Cx} {scope : Scope} {p : Str} (L : LamP X.env.scope scope p) (ok : X.Ok) : ∀ y ∈ scope.names, y.2 = .free → ∃ c, X.env.cells.lookup y.1 = some c := fun y hy e => by
  rcases L.free y hy e with k | k
  · exact ok.has _ (.inl k)
  · exact ok.has _ (.inr k)
/-- the context of the lambda's body: the maker's slots, behind them the parameter's -/
def lamCxP (X : Cx) (A : Around) (outer : List Env) (s : Shared) (H : Hp) (E : XK) (scope : Scope) (f c' : Addr) (p : Str) : Cx where
  prog := X.prog
  w := X.w
  K := X.K
  mg := X.mg
  base := X.base
  A := A.deeper (lamEnv X scope s.heap.objs.size f c')
  N := X.N ++ [p]
  s_0 := s
  H_0 := H
  env := lamEnv X scope s.heap.objs.size f c'
  outer := outer
  stack := lamEnv X scope s.heap.objs.size f c' :: outer
  ex := []
  fn := fun _ => false
  calm := true
  pn := []
  xe := fun e s' => wpAny (model X.prog X.w) (A.deeper (lamEnv X scope s.heap.objs.size f c')) (leaving (lamEnv X scope s.heap.objs.size f c') e) (fun _ s'' => L2.CX X.prog X.w outer H s E e s'') (fun e' s'' => L2.CX X.prog X.w outer H s E e' s'') s'
section
variable {X : Cx} {pins : List (Addr × Obj)} {σ : L2.St} {H HZ : Hp} {s s1 : Shared}
theorem lam_startP {A : Around} {outer : List Env} {E : XK} {scope : Scope} {f c' : Addr} {h₁ : Heap} {tk : Nat} {p : Str} {u : Value} {v : V} (I : Inv X pins σ H s) (L : LamP X.env.scope scope p) (hp : p ∉ X.N) (e0 : Env0 X.prog X.w X.K X.mg X.base A outer s1 HZ) (hd : A.handled = none)
    (un : Un (frs X.stack) [] H HZ s.heap s1.heap) (hns : h₁.Ns s1.heap.objs.size fun y => ([(p, u)] : List (Str × Value)).reverse.lookup y) (rv : RelV v u) (kp : ∀ b o, s1.heap.get? b = some o → h₁.get? b = some o) :
    Inv (lamCxP X A outer s1 HZ E scope f c' p) [] (σ ++ [some v]) HZ { s1 with heap := h₁, toks := tk } := by
  have hfree := L.has I.ok
  have cm : ∀ {y c}, (cloFrom X.env.cells scope.names []).lookup y = some c → X.env.cells.lookup y = some c := fun {y c} e => by
    rcases cloFrom_mem (PySem.mem_of_lookup e) with hm | ⟨h1, h2⟩
    · cases hm
    · obtain ⟨c1, hc⟩ := hfree _ h1 rfl
      have hc : X.env.cells.lookup y = some c1 := hc
      have e2 : c = c1 := by
        rw [h2, hc] <;> rfl
      rw [e2]
      exact hc
  have look : ∀ {y}, scope.names.lookup y = some .free → ∃ c, (cloFrom X.env.cells scope.names []).lookup y = some c := fun {y} hl => by
    have hy : (y, NameKind.free) ∈ scope.names := PySem.mem_of_lookup hl
    exact mem_lookup (cloFrom_has (cells := X.env.cells) (acc := []) hy)
  have cellK : ∀ {c : Addr} {v : Option Value}, H c = none → s.heap.IsCell c v → h₁.IsCell c v := fun {c v} n ⟨o, ho, hd⟩ => by
    obtain ⟨sl, q⟩ := un.any ho n (by simp)
    exact ⟨_, kp _ _ q, hd⟩
  have noA : ∀ b : Addr, b ∉ (lamCxP X A outer s1 HZ E scope f c' p).ex := fun b z => absurd (show b ∈ ([] : List Addr) from z) (by simp)
  refine ⟨⟨e0.mod, L.kind, rfl, rfl, Nat.le_refl _, fun y z c e1 e2 => I.ok.inj y z c (cm e1) (cm e2), fun y hy => ?_, fun y c z _ => ?_, fun _ => hd, Around.frames_deeper e0.frames, .inr ⟨rfl, rfl⟩, fun b z => absurd z (noA b), e0.bs, e0.bsz, fun b _ _ => noA b,
      fun b z => absurd z (noA b), e0.funs, e0.frf⟩,
    rfl, e0.bare, Un.kept kp, ⟨_, hns, fun i y v' e1 e2 e3 => ?_⟩, fun y c e => ?_, e0.hok.fresh (Nat.le_refl _), fun y c e => ?_, fun q hq => absurd (show q ∈ ([] : List (Addr × Obj)) ++ [] from hq) (by simp), e0.hok.kept kp, ?_⟩
  · have hy : scope.names.lookup y = some .cell ∨ scope.names.lookup y = some .free := hy
    rcases hy with hy | hy
    · exact absurd rfl (L.own _ (PySem.mem_of_lookup hy)).2
    · exact look hy
  · have z : false = true := z
    cases z
  · have e3 : Vis scope y := e3
    have e1 : (X.N ++ [p])[i]? = some y := e1
    have hl := I.len
    by_cases hi : i < X.N.length
    · rw [List.getElem?_append_left hi] at e1
      rw [List.getElem?_append_left (by omega)] at e2
      rcases e3 with k | k | k
      · have := (L.own _ (PySem.mem_of_lookup k)).1 rfl
        exact absurd (List.mem_of_getElem? e1) (by rw [show y = p from this]; exact hp)
      · exact absurd rfl (L.own _ (PySem.mem_of_lookup k)).2
      · obtain ⟨m, hn, hl⟩ := I.loc
        have hvis : Vis X.env.scope y := (L.free _ (PySem.mem_of_lookup k) rfl).elim (fun k => .inr (.inl k)) (fun k => .inr (.inr k))
        obtain ⟨w', r, q⟩ := hl i y v' e1 e2 hvis
        obtain ⟨c2, h2⟩ := look k
        refine ⟨w', r, .inr ⟨.inr k, c2, h2, ?_⟩⟩
        have c1 := cm h2
        rcases q with ⟨k', _⟩ | ⟨_, c3, e', z⟩
        · have k' : X.env.scope.names.lookup y = some .local := k'
          rcases L.free _ (PySem.mem_of_lookup k) rfl with k2 | k2 <;> rw [show X.env.scope.names.lookup y = _ from k2] at k' <;> cases k'
        · rw [c1] at e'
          cases e'
          exact cellK (I.freeC y _ c1) z
    · rw [List.getElem?_append_right (by omega)] at e1 e2
      have h0 : i - X.N.length = 0 := by
        have := (List.getElem?_eq_some_iff.mp e1).1
        simp at this
        omega
      rw [h0] at e1
      rw [show i - σ.length = 0 by omega] at e2
      simp at e1 e2
      subst e1 e2
      exact ⟨u, rv, .inl ⟨L.par, by simp⟩⟩
  · obtain ⟨w', z⟩ := I.cell y c (cm e)
    exact ⟨w', cellK (I.freeC y c (cm e)) z⟩
  · obtain ⟨v, o, ho, hd⟩ := I.cell y c (cm e)
    exact un.free c o ho (I.freeC y c (cm e)) (by simp)
  · show (σ ++ [some v]).length = (X.N ++ [p]).length
    rw [List.length_append, List.length_append, I.len]
    rfl
/-- a(e), in the def that got the lambda -/
theorem pe_actP {CXg : CXT} {Eg : XK} {Ng : List Str} {qg : Str} {sg : Scope} {g f c' : Addr} {cdg pm ctv : Value} {params : Arguments} {body : Expr} {scope : Scope} {k i : Nat} {a p : Str} {tb : TE} {p1 p2 : Pos} {e : Expr} {ta : TA}
    (I : Inv X pins σ H s) (L : LamP X.env.scope scope p) (hp : p ∉ X.N) (hf : s.heap.get? f = some (PySem.W.kla_obj "<lambda>" (X.env.qual ++ "<lambda>") params body scope (cloFrom X.env.cells scope.names []) pm c' ctv)) (hfn : H f = none) (hfr : f ∉ frs X.stack)
    (hbind : ∀ u : Value, bindArgs (PySem.W.kla_fn "<lambda>" (X.env.qual ++ "<lambda>") params body scope (cloFrom X.env.cells scope.names []) pm (.ref c') ctv) ⟨[u], []⟩ = pure [(p, u)])
    (hr : Room (k + 1) (X.A.deeper (envOfC qg sg s.heap.objs.size g cdg)))
    (hbody : ∀ (A : Around) (outer : List Env) (s : Shared) (H : Hp), Room k (A.deeper (lamEnv X scope s.heap.objs.size f c')) → PE (lamCxP X A outer s H (fun _ _ _ => False) scope f c' p) body tb)
    (hN : Ng[i]? = some a) (hv : Vis sg a) (hd : (a == ("__debug__" : Str)) = false) (hcd : (a == ("__classdict__" : Str)) = false)
    (ha : PA (cxOf CXg X.prog X.w X.K X.mg X.base Ng qg sg g cdg X.A X.stack s H Eg).nox [e] ta)
    (he : starEach [e] (envOfC qg sg s.heap.objs.size g cdg) = (false, eval e (envOfC qg sg s.heap.objs.size g cdg)) :: starEach [] (envOfC qg sg s.heap.objs.size g cdg)) :
    PE (cxOf CXg X.prog X.w X.K X.mg X.base Ng qg sg g cdg X.A X.stack s H Eg).nox (.Call (.Name a p1) [e] [] p2)
      (fun σZ HZ Q => σZ[i]? = some (some (.ref f)) ∧ ta σZ HZ fun vs H1 => ∃ v, vs = [v] ∧ H1 c' = some (CodeO c' (X.env.qual ++ "<lambda>")) ∧ tb (σ ++ [some v]) H1 Q) := by
  refine ⟨fun pinsZ sZ σZ HZ Q IZ h => ?_⟩
  obtain ⟨hs, ht⟩ := h
  refine wpAny_Call_Name_kw (thn ((pe_var (X := (cxOf CXg X.prog X.w X.K X.mg X.base Ng qg sg g cdg X.A X.stack s H Eg).nox) (pos := p1) (i := i) hN hv hd hcd).run pinsZ sZ σZ HZ (fun v H1 => v = .ref f ∧ H1 = HZ) IZ ⟨.ref f, hs, rfl, rfl⟩) fun u s1 ⟨v, H1, I1, r1, q1⟩ => ?_)
  obtain ⟨ev, eH⟩ := q1
  subst ev
  rw [eH] at I1
  obtain rfl : u = Value.ref f := r1
  have of1 : s1.heap.get? f = some (PySem.W.kla_obj "<lambda>" (X.env.qual ++ "<lambda>") params body scope (cloFrom X.env.cells scope.names []) pm c' ctv) := I1.base.keep f _ hf hfn hfr (fun z => nomatch (show f ∈ ([] : List Addr) from z))
  refine PySem.W.callWith_F (first := []) ⟨_, _, _, _, of1⟩ (thn (ha.run p2 pinsZ s1 σZ HZ _ I1 ht) fun us s2 ⟨vs, H2, I2, r2, v, ev, hc, ht2⟩ => ?_) he rfl
  subst ev
  have of2 : s2.heap.get? f = some (PySem.W.kla_obj "<lambda>" (X.env.qual ++ "<lambda>") params body scope (cloFrom X.env.cells scope.names []) pm c' ctv) := I2.base.keep f _ hf hfn hfr (fun z => nomatch (show f ∈ ([] : List Addr) from z))
  refine ⟨⟨_, _, _, _, of2⟩, ?_⟩
  obtain ⟨u, rfl, rv⟩ := vals1 r2
  show wpAny _ _ (call (.ref f) [u]) _ _ _
  have un : Un (frs X.stack) [] H H2 s.heap s2.heap := I2.base
  obtain ⟨⟨oc, vs, t, hoc, hdc, hvc⟩, _, _⟩ := I2.hok c' _ hc
  have rc : codeAny (model X.prog X.w) (X.A.deeper (envOfC qg sg s.heap.objs.size g cdg)) (.call (.ref f) ⟨[u], []⟩) (CR (L2.CX X.prog X.w) (envOfC qg sg s.heap.objs.size g cdg :: X.stack) X.prog X.w H2 s2 Q (fun _ _ _ => False)) s2 := by
    refine PySem.W.kla_callFunE hr.depth of2 rfl L.co L.gen rfl ⟨c', oc, vs, t, rfl, hoc, hdc, hvc⟩ ?_
    rw [hbind]
    refine wpAny_pure (wpAny_newFunctionEnv (fun y hy => (L.own y hy).2) (fun y hy => by rw [List.mem_singleton.mp hy]; exact L.par) (fun h₁ hns hsb => ⟨I2.nolimit.fresh _ hsb, ?_⟩) L.kind)
    show codeAny _ _ (.expr body (lamEnv X scope s2.heap.objs.size f c')) _ _
    have kp : ∀ b o, s2.heap.get? b = some o → h₁.get? b = some o := fun b o e => hsb.extBut b o (Nat.ne_of_lt (Heap.lt_size e)) (Heap.get?_push_of_some _ e)
    have J : Inv (lamCxP X (X.A.deeper (envOfC qg sg s.heap.objs.size g cdg)) (envOfC qg sg s.heap.objs.size g cdg :: X.stack) s2 H2 (fun _ _ _ => False) scope f c' p) [] (σ ++ [some v]) H2 { s2 with heap := h₁, toks := s2.toks + ([(p, u)] : List (Str × Value)).length } :=
      lam_startP I L hp I2.env0 hr.hd un hns rv kp
    refine PySem.W.kla_codeExpr (wpAny_mono ((hbody _ _ s2 H2 (hr.deeper _)).run [] _ _ H2 Q J ht2) (fun v s' hq => ?_) fun e s' hq => hq)
    obtain ⟨w', H', J', rv, q⟩ := hq
    exact ⟨w', H', J'.os, J'.bare, J'.base, J'.hok, rv, q⟩
  refine wpAny_call (codeAny_mono rc fun r s' hq => ?_)
  cases r with
  | error e => obtain ⟨_, _, _, _, _, _, _, _, _, _, _, _, z⟩ := hq; exact z.elim
  | ok fl =>
    cases fl with
    | ret u => exact I2.after hq
    | next => exact False.elim hq
    | brk => exact False.elim hq
    | cont => exact False.elim hq
end
/-- the def that calls what it got at its i-th place (of three): TT: what it makes of the lambda's reading -/
def GivesP (X : Cx) (Ng : List Str) (x : Str) (sg : Scope) (g : Addr) (cdg : Value) (bg : List Stmt) (a : Str) (q : Str) (TT : (V → Hp → VK → Prop) → V → V → Hp → VK → Prop) : Prop :=
  ∀ (f c' : Addr) (s : Shared) (H : Hp) (v1 v3 : V) (Q : VK) (tl : V → Hp → VK → Prop),
    (∀ (e : Expr) (ta : TA) (p1 p2 : Pos), PA (cxOf C8.CX0 X.prog X.w X.K X.mg X.base Ng x sg g cdg X.A X.stack s H C8.E0).nox [e] ta →
      starEach [e] (envOfC x sg s.heap.objs.size g cdg) = (false, eval e (envOfC x sg s.heap.objs.size g cdg)) :: starEach [] (envOfC x sg s.heap.objs.size g cdg) →
      PE (cxOf C8.CX0 X.prog X.w X.K X.mg X.base Ng x sg g cdg X.A X.stack s H C8.E0).nox (.Call (.Name a p1) [e] [] p2) (fun σZ HZ Q => σZ[1]? = some (some (.ref f)) ∧ ta σZ HZ fun vs H1 => ∃ v, vs = [v] ∧ H1 c' = some (CodeO c' q) ∧ tl v H1 Q)) →
    H c' = some (CodeO c' q) → Room 8 (X.A.deeper (envOfC x sg s.heap.objs.size g cdg)) → TT tl v1 v3 H Q →
    ∃ t, PSs (cxOf C8.CX0 X.prog X.w X.K X.mg X.base Ng x sg g cdg X.A X.stack s H C8.E0).nox bg t ∧ t { nx := fun _ H' => Q .non H', rt := Q } (L2.start Ng [v1, .ref f, v3]) H
def tLam3 (T : List (Addr × Str)) (q : Str) (TT : (V → Hp → VK → Prop) → V → V → Hp → VK → Prop) (t1 t3 t : TE) : TE := fun σ H Q => t1 σ H fun v1 H1 => Tabs T H1 ∧ ∀ H2 c', ExtN H1 H2 → Tabs T H2 → H2 c' = some (CodeO c' q) →
  t3 σ H2 fun v3 H3 => H3 c' = some (CodeO c' q) ∧ TT (fun v H' Q' => t (σ ++ [some v]) H' Q') v1 v3 H3 Q
section
variable {X : Cx}
/-- x(e1, lambda p: body, e3) -/
theorem pe_lamcall3 {T : List (Addr × Str)} {TT : (V → Hp → VK → Prop) → V → V → Hp → VK → Prop} {x a p0 : Str} {g c P : Addr} {pg : Arguments} {bg : List Stmt} {sg : Scope} {dV kV doc pm cdv ct oc : Value} {an od : Option Addr} {osl : Array (Option Value)} {Ng ps : List Str}
    {params : Arguments} {body e1 e3 : Expr} {scope : Scope} {t1 t3 t : TE} {p lpos pos : Pos} (hg : Gl X x) (hm : X.mg x = some (.ref g)) (hk : PySem.W.keepIn X.K (.ref g) = true)
    (lk : X.K.lookup g = some ⟨oc, od, .func (PySem.W.fnOf x x pg bg sg dV kV doc pm an cdv ct), osl⟩) (hcg : PySem.W.codeIn X.K cdv x = true) (hb : L2.Binds X.K (PySem.W.fnOf x x pg bg sg dV kV doc pm an cdv ct) ps []) (Sg : FnScope Ng ps sg) (hps : ps.length = 3) (hNg : Ng[1]? = some a) (hva : Vis sg a)
    (hG : GivesP X Ng x sg g cdv bg a (X.env.qual ++ "<lambda>") TT)
    (TB : TabB X.base X.mg c P) (hcode : X.env.code = .ref c) (hmT : (P, X.env.qual ++ "<lambda>") ∈ T) (hu : ∀ p ∈ T, p.1 = P → p.2 = X.env.qual ++ "<lambda>") (hr : Room 9 X.A) (L : LamP X.env.scope scope p0) (hp0 : p0 ∉ X.N) (hdef : defaultsOf params X.env = ([], []))
    (hbind : ∀ (q : Str) (cl : List (Str × Addr)) (pm cv ctv u : Value), bindArgs (PySem.W.kla_fn "<lambda>" q params body scope cl pm cv ctv) ⟨[u], []⟩ = pure [(p0, u)])
    (h1 : PE X e1 t1) (h3 : PE X e3 t3)
    (hbody : ∀ (A : Around) (outer : List Env) (s : Shared) (H : Hp) (f c' : Addr), Room 7 (A.deeper (lamEnv X scope s.heap.objs.size f c')) → PE (lamCxP X A outer s H (fun _ _ _ => False) scope f c' p0) body t)
    (he1 : starEach [e1, .Lambda params body scope lpos, e3] X.env = (false, eval e1 X.env) :: starEach [.Lambda params body scope lpos, e3] X.env := by rfl) (he2 : starEach [.Lambda params body scope lpos, e3] X.env = (false, eval (.Lambda params body scope lpos) X.env) :: starEach [e3] X.env := by rfl)
    (he3 : starEach [e3] X.env = (false, eval e3 X.env) :: starEach [] X.env := by rfl) (hpl : (backTo pos (starEach [.Lambda params body scope lpos, e3] X.env)).any (·.1) = false := by rfl)
    (hdb : (x == ("__debug__" : Str)) = false := by decide) (hd : (a == ("__debug__" : Str)) = false := by decide) (hcd : (a == ("__classdict__" : Str)) = false := by decide) :
    PE X (.Call (.Name x p) [e1, .Lambda params body scope lpos, e3] [] pos) (tLam3 T (X.env.qual ++ "<lambda>") TT t1 t3 t) := by
  refine ⟨fun pins s σ H Q I h => ?_⟩
  refine wpAny_Call_Name_kw (ld_glob I hg hm ?_ hdb)
  refine PySem.W.callWith_K (h₀ := X.base) I.ok.mod.kin hk ?_ he1 hpl
  rw [he1]
  show wpAny _ _ (spliced ((false, eval e1 X.env) :: backTo pos (starEach [.Lambda params body scope lpos, e3] X.env))) _ _ s
  rw [he2]
  show wpAny _ _ (spliced ((false, eval e1 X.env) :: (false, eval (.Lambda params body scope lpos) X.env) :: backTo pos (starEach [e3] X.env))) _ _ s
  rw [he3]
  show wpAny _ _ (spliced ((false, eval e1 X.env) :: (false, eval (.Lambda params body scope lpos) X.env) :: (false, eval e3 X.env) :: backTo pos (starEach [] X.env))) _ _ s
  refine Calls.spliced_cons (thn (h1.run pins s σ H _ I h) fun u1 s1 ⟨v1, H1, I1, r1, hT, h⟩ => ?_)
  refine Calls.spliced_cons (lam_make2 I1 TB hcode hmT hu hT hdef (L.has I1.ok) fun f c' pm' ctv H2 s2 I2 eN T2 hf hfn hfr hco => ?_)
  have nl : f ≠ X.env.locals := by
    rintro rfl
    obtain ⟨m, hn, _⟩ := I2.loc
    obtain ⟨o, es, ep, ho, hc, hd, _⟩ := hn
    rw [hf] at ho
    cases ho
    cases hc
  have nfs : f ∉ X.fs := by
    rcases I2.ok.stk with e | ⟨e, _⟩
    · rw [e] at hfr; exact hfr
    · rw [e] at hfr; exact fun z => hfr (List.mem_filterMap.mpr (let ⟨e, he, q⟩ := List.mem_filterMap.mp z; ⟨e, .tail _ he, q⟩))
  generalize ho : PySem.W.kla_obj "<lambda>" (X.env.qual ++ "<lambda>") params body scope (cloFrom X.env.cells scope.names []) pm' c' ctv = ob at hf
  have nd : ∀ v, ob.data ≠ .cell v := fun v z => by rw [← ho] at z; cases z
  have pin2 : ∀ q ∈ X.pn ++ (f, ob) :: pins, s2.heap.get? q.1 = some q.2 ∧ H2 q.1 = none ∧ q.1 ≠ X.env.locals ∧ q.1 ∉ X.fs ∧ ∀ v, q.2.data ≠ .cell v := fun q hq => by
    rcases List.mem_append.mp hq with h | h
    · exact I2.pin q (List.mem_append.mpr (.inl h))
    · rcases List.mem_cons.mp h with rfl | h
      · exact ⟨hf, hfn, nl, nfs, nd⟩
      · exact I2.pin q (List.mem_append.mpr (.inr h))
  have I2p : Inv X ((f, ob) :: pins) σ H2 s2 := { I2 with pin := pin2 }
  refine Calls.spliced_cons (thn (h3.run ((f, ob) :: pins) s2 σ H2 _ I2p (h H2 c' eN T2 hco)) fun u3 s3 ⟨v3, H3, I3p, r3, hco3, h⟩ => ?_)
  have pin3 : ∀ q ∈ X.pn ++ pins, s3.heap.get? q.1 = some q.2 ∧ H3 q.1 = none ∧ q.1 ≠ X.env.locals ∧ q.1 ∉ X.fs ∧ ∀ v, q.2.data ≠ .cell v := fun q hq => by
    rcases List.mem_append.mp hq with h | h
    · exact I3p.pin q (List.mem_append.mpr (.inl h))
    · exact I3p.pin q (List.mem_append.mpr (.inr (.tail _ h)))
  have I3 : Inv X pins σ H3 s3 := { I3p with pin := pin3 }
  obtain ⟨hf3, hfn3, _⟩ := I3p.pin (f, ob) (List.mem_append.mpr (.inr (.head _)))
  subst ho
  refine Calls.spliced_nil ⟨I3.kIn, ?_⟩
  have rc : codeAny (model X.prog X.w) X.A (.call (.ref g) ⟨[u1, .ref f, u3], []⟩) (CR C8.CX0 X.stack X.prog X.w H3 s3 Q C8.E0) s3 := by
    refine run_ofS (N := Ng) (ps := ps) (us := [u1, .ref f, u3]) (vs := [v1, .ref f, v3]) lk hcg Sg hr I3.env0 (hb s3 [u1, .ref f, u3] I3.kIn (by simp [hps])) (.cons r1 (.cons rfl (.cons r3 .nil))) (by simp [hps]) fun hr' => ?_
    obtain ⟨t', ht', hq'⟩ := hG f c' s3 H3 v1 v3 Q (fun v H' Q' => t (σ ++ [some v]) H' Q') (fun e ta p1 p2 ha he => pe_actP I3 L hp0 hf3 hfn3 hfr (fun u => hbind _ _ _ _ _ u) hr' (fun A outer s H hr2 => hbody A outer s H f c' hr2) hNg hva hd hcd ha he) hco3 hr' h
    exact ⟨t', ht'.nox, hq'⟩
  refine wpAny_call (codeAny_mono rc fun r s4 hq => ?_)
  cases r with
  | error e => exact (show False from hq).elim
  | ok fl =>
    cases fl with
    | ret u => exact I3.after hq
    | next => exact False.elim hq
    | brk => exact False.elim hq
    | cont => exact False.elim hq
end
end LamX
namespace Iz
open PySem PySem.Spec PyProof.Rows L2 LamX
/-- told(e1, lambda p: body, e3), told a def of the text -/
theorem plam3 {X : Cx} {TS : List (Addr × Str)} {x a p0 : Str} {st : Stmt} {N ps : List Str} {TT : (V → Hp → VK → Prop) → V → V → Hp → VK → Prop} {c P : Addr} {qn : Str} {params : Arguments} {body e1 e3 : Expr} {scope : Scope} {t1 t3 t : TE} {p lpos pos : Pos}
    (F : ∃ (f : Addr) (fd : FuncData), X.mg x = some (.ref f) ∧ Fun X.K x x st f fd) (S : FnScope N ps (defScope st))
    (hb : ∀ (kV doc pm : Value) (an : Option Addr) (cdv ct : Value) (us : List Value), us.length = ps.length → bindArgs (PySem.W.fnOf x x (defArgs st) (defBody st) (defScope st) .none kV doc pm an cdv ct) ⟨us, []⟩ = pure (ps.zip us))
    (hG : ∀ (g : Addr) (cdg : Value), GivesP X N x (defScope st) g cdg (defBody st) a qn TT)
    (hm : (P, qn) ∈ TS) (hu : ∀ q ∈ TS, q.1 = P → q.2 = qn) (TB : TabB X.base X.mg c P) (hcode : X.env.code = .ref c) (hq : X.env.qual ++ "<lambda>" = qn) (hr : Room 9 X.A) (L : lamPB X.env.scope scope p0 = true) (hp0 : p0 ∉ X.N)
    (h1 : PE X e1 t1) (h3 : PE X e3 t3)
    (hbody : ∀ (A : Around) (outer : List Env) (s : Shared) (H : Hp) (f c' : Addr), Room 7 (A.deeper (lamEnv X scope s.heap.objs.size f c')) → PE (lamCxP X A outer s H (fun _ _ _ => False) scope f c' p0) body t)
    (hps : ps.length = 3 := by rfl) (hdef : defaultsOf params X.env = ([], []) := by rfl) (hg : Gl X x := by rfl) (hv : Vis (defScope st) a := by first | exact Or.inl rfl | exact Or.inr (Or.inl rfl)) (hNa : N[1]? = some a := by rfl)
    (hbind : ∀ (q : Str) (cl : List (Str × Addr)) (pm cv ctv u : Value), bindArgs (PySem.W.kla_fn "<lambda>" q params body scope cl pm cv ctv) ⟨[u], []⟩ = pure [(p0, u)] := by intros; rfl)
    (he1 : starEach [e1, .Lambda params body scope lpos, e3] X.env = (false, eval e1 X.env) :: starEach [.Lambda params body scope lpos, e3] X.env := by rfl) (he2 : starEach [.Lambda params body scope lpos, e3] X.env = (false, eval (.Lambda params body scope lpos) X.env) :: starEach [e3] X.env := by rfl)
    (he3 : starEach [e3] X.env = (false, eval e3 X.env) :: starEach [] X.env := by rfl) (hpl : (backTo pos (starEach [.Lambda params body scope lpos, e3] X.env)).any (·.1) = false := by rfl)
    (hdb : (x == ("__debug__" : Str)) = false := by decide) (hd : (a == ("__debug__" : Str)) = false := by decide) (hcd : (a == ("__classdict__" : Str)) = false := by decide) :
    PE X (.Call (.Name x p) [e1, .Lambda params body scope lpos, e3] [] pos) (tLam3 TS qn TT t1 t3 t) := by
  subst hq
  obtain ⟨g, fd, hmg, F⟩ := F
  obtain ⟨oc, od, kV, doc, pm, an, cdv, ct, osl, rfl, lk, hcg⟩ := F.ex
  exact pe_lamcall3 hg hmg F.kp lk hcg (.all (hb kV doc pm an cdv ct)) S hps hNa hv (hG g cdv) TB hcode hm hu hr (lamP_by L) hp0 hdef hbind h1 h3 hbody he1 he2 he3 hpl hdb hd hcd
def rSlTN : V → Option Int → Option Int → Hp → VK → Prop := fun x lo hi H Q => ∃ a xs, x = .ref a ∧ H a = some (.tup xs) ∧ ¬ (HT.sIx xs.length 0 lo = 0 ∧ HT.sIx xs.length xs.length hi = xs.length) ∧ News H (.tup (cutV xs lo hi)) Q
theorem sl_tupN {X : Cx} : SlR X rSlTN := fun pins s σ H x v vl vu lo hi sl Q I rx hs pl pu ⟨a, xs, e, h, w, n⟩ => sl_tup pins s σ H x v vl vu lo hi sl Q I rx hs pl pu ⟨a, xs, e, SqT.of h, w, n.all⟩
def rCatTN : R2 := fun x y H Q => ∃ a b xs ys, x = .ref a ∧ y = .ref b ∧ H a = some (.tup xs) ∧ H b = some (.tup ys) ∧ xs ≠ [] ∧ ys ≠ [] ∧ xs.length + ys.length ≤ sizeLine ∧ News H (.tup (xs ++ ys)) Q
theorem op_catTN {X : Cx} : OpR X (binaryOp .Add) rCatTN := fun pins s σ H x y v u Q I rx ry ⟨a, b, xs, ys, e1, e2, ha, hb, hx, hy, hz, n⟩ => op_catT pins s σ H x y v u Q I rx ry ⟨a, b, xs, ys, e1, e2, SqT.of ha, SqT.of hb, hx, hz, fun e => absurd e hy, fun _ => n.all⟩
theorem st_lcT {K : PySem.W.Frag} {tl : TE} {g : TG} {tt : TT} {te : TE} {vs : List Nat} {σ : L2.St} {H : Hp} {Q : VK} {a : Addr} {xs : List V} (ha : ∀ R : V → Hp → Prop, R (.ref a) H → tl σ H R) (hx : H a = some (.tup xs)) (Pv : Addr → Nat → Hp → Prop)
    (h0 : ∀ D H1, H D = none → Same H H1 → H1 D = some (.lst []) → Pv D 0 H1) (hl : ∀ D i H, Pv D i H → H a = some (.tup xs))
    (hs : ∀ D i x H, xs[i]? = some x → Pv D i H → g x (wipe σ vs) H fun σ2 H2 => wipe σ2 vs = wipe σ vs ∧ tt σ2 H2 fun b H3 => if b = true then te σ2 H3 fun y H4 => ∃ acc, H4 D = some (.lst acc) ∧ acc.length < sizeLine ∧ Pv D (i + 1) (upd H4 D (.lst (acc ++ [y]))) else Pv D (i + 1) H3)
    (hd : ∀ D H, Pv D xs.length H → Q (.ref D) H) : tLc (iTup K tl) g tt te vs σ H Q :=
  ha _ ⟨a, rfl, ⟨xs, SqT.of hx⟩, fun D hD => lc_tup (Pv D) (h0 D _ hD (Same.upd hD) upd_same) (fun i H _ p => SqT.of (hl D i H p)) (hs D) (hd D)⟩
theorem passLamP {X : Cx} {A : Around} {outer : List Env} {s : Shared} {H : Hp} {scope : Scope} {f c : Addr} {p : Str} : Passes CX0 (lamCxP X A outer s H (fun _ _ _ => False) scope f c p) E0 := pass0
end Iz
/-! Te -/
set_option Elab.async false
set_option linter.all false
set_option maxRecDepth 100000
set_option maxHeartbeats 4000000
namespace Iz
open PySem PySem.Spec PyProof.Rows L2 LamX
open He (ga)
/-! ### tuples whose items have an own ==, alike or not -/
theorem tuple_eqB {prog : Program} {w : World} {A : Around} {R : Result → Shared → Prop} (l b : Addr) (items items2 : Array Value) (n n2 : Nat) (dd dd2 : Option Addr) (sl sl2 : Array (Option Value)) (I : Nat → Shared → Prop)
    (turn : ∀ (i : Nat) (h1 : i < items.size) (h2 : i < items2.size) (s : Shared), I i s → wpAny (model prog w) A.in1 (eqBool items[i] items2[i]) (fun r s' => (r = true ∧ I (i + 1) s') ∨ (r = false ∧ R (.ok (.ret (.bool false))) s')) (fun e s' => R (.error e) s') s)
    (fin : ∀ s, I (min items.size items2.size) s → R (.ok (.ret (.bool (items.size == items2.size)))) s) {s : Shared}
    (hl1 : s.heap.get? l = some { cls := .type "tuple", dict := dd, data := .seq items n, slots := sl }) (hb1 : s.heap.get? b = some { cls := .type "tuple", dict := dd2, data := .seq items2 n2, slots := sl2 }) (h : I 0 s) :
    wpAny (model prog w) A.in1 (Builtin.«tuple.__eq__» ⟨[.ref l, .ref b], []⟩) (GQ.FinOf prog w A R) (fun e s' => R (.error e) s') s := by
  have f2 := AutoSeq1.sub_tuple_tuple
  have hZ : (items.toList.zip items2.toList).length = min items.size items2.size := by simp
  cases s with
  | mk hp g d tk os =>
  refine wpAny_bind ?_
  refine wpAny_of_eq (show slotArgs "__eq__" 1 ⟨[.ref l, .ref b], []⟩ = pure (.ref l, [.ref b]) from rfl) ?_
  refine wpAny_bind ?_
  change wpAny _ _ (_ >>= _) _ _ _
  refine wpAny_bind ?_
  change wpAny _ _ (_ >>= _) _ _ _
  refine wpAny_bind ?_
  refine wpAny_loadPart' hb1 ?_
  refine wpAny_pure ?_
  refine wpAny_of_eq f2 ?_
  refine wpAny_ite_false (by rfl) ?_
  refine wpAny_bind ?_
  change wpAny _ _ (_ >>= _) _ _ _
  refine wpAny_bind ?_
  change wpAny _ _ (_ >>= _) _ _ _
  refine wpAny_bind ?_
  refine wpAny_load' hl1 ?_
  refine wpAny_pure (wpAny_pure ?_)
  refine wpAny_bind ?_
  change wpAny _ _ (_ >>= _) _ _ _
  refine wpAny_bind ?_
  change wpAny _ _ (_ >>= _) _ _ _
  refine wpAny_bind ?_
  refine wpAny_load' hb1 ?_
  refine wpAny_pure (wpAny_pure ?_)
  refine wpAny_bind ?_
  clear hl1 hb1
  refine wpAny_forIn_list _ (fun rest b s' => b.1 = none ∧ ∃ i, rest = (items.toList.zip items2.toList).drop i ∧ i ≤ min items.size items2.size ∧ I i s') _ ?_ ?_ _ _ ⟨rfl, 0, rfl, Nat.zero_le _, h⟩
  · rintro ⟨x, y⟩ rest ⟨b1, b2⟩ s ⟨rfl, i, e, hi, hI⟩
    have hlt : i < (items.toList.zip items2.toList).length := by
      by_cases c : i < (items.toList.zip items2.toList).length
      · exact c
      · rw [List.drop_of_length_le (by omega)] at e; cases e
    rw [List.drop_eq_getElem_cons hlt] at e
    injection e with e1 e2
    rw [List.getElem_zip] at e1
    injection e1 with ex ey
    have hm : i < items.size ∧ i < items2.size := by rw [hZ] at hlt; omega
    have t := turn i hm.1 hm.2 s hI
    have gx : x = items[i] := by rw [ex]; simp
    have gy : y = items2[i] := by rw [ey]; simp
    rw [← gx, ← gy] at t
    change wpAny _ _ (_ >>= _) _ _ _
    refine wpAny_bind (wpAny_mono t (fun r s' q => ?_) fun _ _ z => z)
    rcases q with ⟨rfl, q⟩ | ⟨rfl, q⟩
    · change wpAny _ _ (if (!true) = true then _ else _) _ _ _
      refine wpAny_ite_false (by rfl) (wpAny_pure ?_)
      exact ⟨rfl, i + 1, e2, by omega, q⟩
    · change wpAny _ _ (if (!false) = true then _ else _) _ _ _
      refine wpAny_ite_true (by rfl) ?_
      change wpAny _ _ (_ >>= _) _ _ _
      refine wpAny_bind (wpAny_pure (wpAny_pure (wpAny_pure ?_)))
      exact q
  · rintro ⟨b1, b2⟩ s ⟨rfl, i, e, hi, hI⟩
    have : i = min items.size items2.size := by
      have := congrArg List.length e
      rw [List.length_drop, hZ] at this
      simp at this
      omega
    subst this
    exact wpAny_pure (fin s hI)
theorem rc_tupB {prog : Program} {w : World} {A : Around} {E : Value → Shared → Prop} {s : Shared} {l b : Addr} {items items2 : Array Value} {Q : Value → Shared → Prop} (hu : A.units < cLine) (I : Nat → Shared → Prop) (hl : s.heap.IsTuple l items) (hb : s.heap.IsTuple b items2)
    (turn : ∀ (i : Nat) (h1 : i < items.size) (h2 : i < items2.size) (s : Shared), I i s → wpAny (model prog w) A.in1 (eqBool items[i] items2[i]) (fun r s' => (r = true ∧ I (i + 1) s') ∨ (r = false ∧ Q (.bool false) s')) E s)
    (fin : ∀ s, I (min items.size items2.size) s → Q (.bool (items.size == items2.size)) s) (h : I 0 s) : wpAny (model prog w) A (richCompare .Eq (.ref l) (.ref b)) Q E s := by
  obtain ⟨⟨cls, dd, data, sl⟩, ho, hc, n, hd⟩ := hl
  obtain ⟨⟨cls2, dd2, data2, sl2⟩, ho2, hc2, n2, hd2⟩ := hb
  dsimp only at hc hd hc2 hd2
  subst hc hd hc2 hd2
  refine wpAny_richCompare_same_room ⟨_, ho, rfl⟩ ⟨_, ho2, rfl⟩ F.slot_tuple_eq (GQ.call_here F.slot_tuple_eq ⟨_, ho, rfl⟩ F.entry_tuple_eq (F.args_tuple_eq_2 _ _) (tuple_eqB (R := wants (fun v s' => v ≠ Value.notImplemented ∧ Q v s') E) l b items items2 n n2 dd dd2 sl sl2 I (fun i h1 h2 s' q => wpAny_mono (turn i h1 h2 s' q) (fun r s2 z => ?_) fun _ _ z => z) (fun s' q => show Value.bool _ ≠ Value.notImplemented ∧ Q _ s' from ⟨(by intro x; cases x), fin s' q⟩) ho ho2 h)) hu
  rcases z with z | ⟨z1, z2⟩
  · exact .inl z
  · exact .inr ⟨z1, show Value.bool _ ≠ Value.notImplemented ∧ Q _ s2 from ⟨(by intro x; cases x), z2⟩⟩
/-- how two rows of things compare, thing by thing -/
def allEq (r : V → V → Bool) (xs ys : List V) : Bool := ((xs.zip ys).all fun p => r p.1 p.2) && (xs.length == ys.length)
def rEqTo (K : PySem.W.Frag) (C : Addr) (sp : Sp) (E : XK) : R2 := fun x y H Q => ∃ a b xs ys, x = .ref a ∧ y = .ref b ∧ H a = some (.tup xs) ∧ H b = some (.tup ys) ∧ ∃ r : V → V → Bool,
  (∀ u ∈ xs, ∀ v ∈ ys, (u = v → r u v = true) ∧ (∃ p q, u = .ref p ∧ v = .ref q) ∧ rOwn K C sp E u v H fun w H' => w = .bl (r u v) ∧ H' = H) ∧ Q (.bl (allEq r xs ys)) H
section
variable {X : Cx} {CX : CXT} {k : Nat} {x : Str} {ps : List Str} {sp : Sp} {E : XK}
theorem op_eqTo (O : OkM X.prog X.w X.K X.mg X.base CX k x "__eq__" ps [] sp) (hr : Room (k + 1) X.A) (hx : Passes CX X E) : OpR X (compareOp .Eq) (rEqTo X.K (ga X.K x) sp E) := by
  intro pins s σ H v0 y v u Q I rx ry h
  obtain ⟨a, b, xs, ys, rfl, rfl, ha, hb, r, hp, q⟩ := h
  cases rx
  cases ry
  obtain ⟨its, r1, e1, z1⟩ := I.tuple (SqT.of ha)
  obtain ⟨its2, r2, e2, z2⟩ := I.tuple (SqT.of hb)
  obtain ⟨f, fd, M, b0, F⟩ := O.ex
  obtain ⟨ds, hd, hbi⟩ := b0 0 (Nat.le_refl _)
  cases hd
  show wpAny _ _ (richCompare .Eq (.ref a) (.ref b)) _ _ _
  refine rc_tupB hr.units0 (fun i s' => Inv X pins σ H s' ∧ (((xs.zip ys).take i).all fun p => r p.1 p.2) = true) e1 e2 ?_ ?_ ⟨I, rfl⟩
  · rintro i h1 h2 s' ⟨I', hall⟩
    have k1 : i < xs.length := by have := r1.length; simp at h1; omega
    have k2 : i < ys.length := by have := r2.length; simp at h2; omega
    obtain ⟨u, hu, ru⟩ := r1.get (List.getElem?_eq_getElem k1)
    obtain ⟨v, hv, rv⟩ := r2.get (List.getElem?_eq_getElem k2)
    have g1 : its.toArray[i] = u := by simp only [List.getElem_toArray]; exact (List.getElem?_eq_some_iff.mp hu).2
    have g2 : its2.toArray[i] = v := by simp only [List.getElem_toArray]; exact (List.getElem?_eq_some_iff.mp hv).2
    rw [g1, g2]
    obtain ⟨hs, ⟨p, q', ep, eq'⟩, ho⟩ := hp xs[i] (List.getElem_mem k1) ys[i] (List.getElem_mem k2)
    have et : ((xs.zip ys).take (i + 1)).all (fun p => r p.1 p.2) = (((xs.zip ys).take i).all (fun p => r p.1 p.2) && r xs[i] ys[i]) := by
      rw [List.take_succ, List.getElem?_eq_getElem (by simp; omega), List.all_append, List.getElem_zip]
      simp
    have nay : ∀ s2, Inv X pins σ H s2 → r xs[i] ys[i] = false → EP X pins σ Q (Value.bool false) s2 := fun s2 I2 e => by
      have : allEq r xs ys = false := by
        unfold allEq
        rw [Bool.and_eq_false_iff]
        left
        rw [List.all_eq_false]
        exact ⟨(xs[i], ys[i]), List.mem_iff_getElem.mpr ⟨i, by simp; omega, by simp⟩, by simp [e]⟩
      rw [this] at q
      exact ⟨.bl false, H, I2, rfl, q⟩
    rw [et, hall, Bool.true_and]
    rw [ep] at ru ho hs nay
    rw [eq'] at rv ho hs nay
    rw [ep, eq']
    cases ru
    cases rv
    by_cases c : p = q'
    · subst c
      exact SeqAt.EqAt.same (.ref p) X.prog X.w X.xe _ (.inl ⟨rfl, I', hs rfl⟩)
    · refine GQ.eqBool_refG c ?_
      obtain ⟨a', dx, fs, ea, ha', ⟨t, ty, nf⟩, hsp⟩ := ho
      cases ea
      obtain ⟨mA, O', _⟩ := ins_get I'.hok ha'
      obtain ⟨od, J, _⟩ := O'.look
      obtain ⟨mm, hF⟩ := I'.fr
      refine PySem.W.cmp_K hr.in1.units0 hF I'.ok.mod.kin J (looksTy I' (show RelV (.ref q') (.ref q') from rfl) ty) nf M.at_ M.fn (own_callA I' F hbi hr.in1 rfl hx (show RelV (.ref q') (.ref q') from rfl) hsp fun v w H' s2 I2 rv q2 => ?_)
      obtain ⟨b2, rfl, hw, rfl⟩ := q2
      cases rv
      cases hw
      cases e : r (.ref p) (.ref q') with
      | true => exact ⟨true, rfl, .inl ⟨rfl, I2, rfl⟩⟩
      | false => exact ⟨false, rfl, .inr ⟨rfl, nay _ I2 e⟩⟩
  · rintro s' ⟨I', hall⟩
    have e : allEq r xs ys = (its.toArray.size == its2.toArray.size) := by
      unfold allEq
      have h1 := r1.length
      have h2 := r2.length
      rw [List.take_of_length_le (by simp; omega)] at hall
      rw [hall, Bool.true_and]
      simp only [List.size_toArray]
      rw [show xs.length = its.length by omega, show ys.length = its2.length by omega]
    rw [e] at q
    exact ⟨.bl _, H, I', rfl, q⟩
end
end Iz
/-! En -/
set_option Elab.async false
set_option linter.all false
set_option maxRecDepth 100000
set_option maxHeartbeats 4000000
namespace Iz
open PySem PySem.Spec PyProof.Rows L2 LamX
open He (ga)
/-! ### enumerate over a tuple -/
theorem meets_enumT (v : Value) (o : Obj) (HP : Heap → Prop) (B : Begins v o HP) : Meets (Builtin.«enumerate.__new__» ⟨[.type "enumerate", v], []⟩) fun _ R s => HP s.heap ∧
    R (.ok (.ret (.ref (s.heap.push o).objs.size))) { heap := (s.heap.push o).push { cls := .type "enumerate", data := .fields #[.none, .bool false, .ref s.heap.objs.size, rawInt 0, .none, .none] }, gens := s.gens, drawn := s.drawn, toks := s.toks, os := s.os } := by
  refine Meets.of_wp fun prog w A R s h => ?_
  obtain ⟨hl, h⟩ := h
  have hsub := sub_enumerate
  cases s with
  | mk hp g d tk os =>
  refine wpAny_bind ?_
  refine wpAny_bind ?_
  refine wpAny_pure ?_
  refine wpAny_ite_false (by rfl) ?_
  refine wpAny_bind (wpAny_of_eq hsub ?_)
  refine wpAny_ite_false (by rfl) ?_
  refine wpAny_pure ?_
  refine wpAny_ite_true (by rfl) ?_
  refine wpAny_bind ?_
  refine wpAny_bind (wpAny_stack_any fun st => ?_)
  refine wpAny_pure ?_
  have key : ∀ short : Bool, wpAny (model prog w) A.in1 (do
      let it ← pyIter v
      let r ← Builtin.SmallTypes.newRecord (Value.type "enumerate") (Builtin.SmallTypes.ownedTupleFields ++ [it, rawInt 0, Value.none, Value.none])
      PySem.ret r) (fun fin s' => ∃ v, fin = Fin.done (Flow.ret v) ∧ R (Except.ok (Flow.ret v)) s') (fun e s' => R (Except.error e) s') { heap := hp, gens := g, drawn := d, toks := tk, os := os } := fun _ => by
    refine wpAny_bind (B.iter _ _ _ _ _ _ hl ?_)
    refine wpAny_bind ?_
    refine wpAny_bind (wpAny_alloc ?_)
    exact wpAny_pure (wpAny_pure ⟨_, rfl, h⟩)
  split
  · rename_i c _ _ _ _ _
    cases c == Value.type "enumerate" with
    | false =>
      refine wpAny_ite_false (by rfl) ?_
      refine wpAny_bind ?_
      refine wpAny_of_eq (a := (v, none)) rfl ?_
      exact key false
    | true =>
      refine wpAny_ite_true (by rfl) ?_
      refine wpAny_bind ?_
      refine wpAny_of_eq (a := (v, none)) rfl ?_
      exact key true
  · refine wpAny_ite_false (by rfl) ?_
    refine wpAny_bind ?_
    refine wpAny_of_eq (a := (v, none)) rfl ?_
    exact key false
theorem call_enumT {prog : Program} {w : World} {A : Around} {E : Value → Shared → Prop} {s : Shared} {v : Value} {o : Obj} {HP : Heap → Prop} {Q : Value → Shared → Prop} (B : Begins v o HP) (hl : HP s.heap)
    (h : ∀ h' : Heap, IsEnum h' (s.heap.objs.size + 1) s.heap.objs.size 0 .none → h'.get? s.heap.objs.size = some o → h'.objs.size = s.heap.objs.size + 2 → (∀ b o, s.heap.get? b = some o → h'.get? b = some o) → Q (.ref (s.heap.objs.size + 1)) { heap := h', gens := s.gens, drawn := s.drawn, toks := s.toks, os := s.os }) :
    wpAny (model prog w) A (call (.type "enumerate") [v]) Q E s := by
  have hz := Heap.size_push s.heap o
  have he := Heap.get?_push_size (s.heap.push o) (o := { cls := .type "enumerate", data := .fields #[.none, .bool false, .ref s.heap.objs.size, rawInt 0, .none, .none] }) rfl
  rw [hz] at he
  refine callType_new F.called_enumerate (by decide) (F.typeCall_enumerate_1 v) (F.newCall_enumerate_1 v) (fun obj => F.args_object_init_2 obj v) F.entry_enumerate_new (meets_enumT v o HP B) ⟨hl, ?_⟩
  rw [hz]
  refine ⟨⟨_, he, rfl⟩, h _ he (Heap.get?_push_of_some _ (Heap.get?_push_size s.heap B.free)) ?_ fun b o x => Heap.get?_push_of_some _ (Heap.get?_push_of_some _ x)⟩
  rw [Heap.size_push, hz]
theorem inv_turned {X : Cx} {pins : List (Addr × Obj)} {σ : L2.St} {H : Hp} {s : Shared} {h' : Heap} {t' : Nat} {ch : List Addr} (I : Inv X pins σ H s) (k : ∀ b o, b ∉ ch → s.heap.get? b = some o → h'.get? b = some o) (hf : ∀ b ∈ ch, FpOk X pins H b) :
    Inv X pins σ H { heap := h', gens := s.gens, drawn := s.drawn, toks := t', os := s.os } := by
  have nit : ∀ b u, H b = some u → b ∉ ch := fun b u e z => by rw [(hf b z).1] at e; cases e
  refine Inv.step (ch := ch) I (fun b hb => ?_) (fun b o _ _ hc e _ => k b o hc e) (fun b o _ _ hc e _ => ⟨o.slots, k b o hc e⟩) (fun _ _ _ _ n => n) (fun b o hc e => ⟨o, k b o hc e⟩) (fun _ _ e => e) (fun _ _ _ e => e) (fun b ps e => ⟨#[], by rw [e]; simp⟩) (fun m hm => ?_)
    (fun b u e => ObjOk.stay (I.hok b u e) (fun c v hc q => k c v (hc.elim (fun z => by rw [z]; exact nit b u e) fun z => nit c (.own b) z) q) (fun x q => q) fun x _ q => q) I.bare
  · obtain ⟨f1, f2, f3, f4, f5, f6⟩ := hf b hb
    exact ⟨f4, f2, f5, f6⟩
  · obtain ⟨o, es, ep, ho, r⟩ := hm
    exact ⟨o, es, ep, k _ o (fun z => (hf _ z).2.1 rfl) ho, r⟩
/-- what enumerate hands out of a tuple: served is its end -/
def Iet (K : PySem.W.Frag) (a : Addr) : It := { go := fun _ _ => False, yld := fun _ _ _ _ => False, stop := fun i H => ∃ xs, SqT K H a xs ∧ xs.length = i }
theorem turn_enumT {P : Program} {w : World} {K : PySem.W.Frag} {elts : List Expr} {kk : Nat} {tpos : Pos} (a e it : Addr) :
    Turn P w K (.Tuple elts kk tpos) (Iet K a) [e, it] e fun i h => (∃ old, IsEnum h e it (i : Int) old) ∧ h.IsTupleIter it a i ∧ e ≠ it := by
  refine ⟨.head _, ?_, ?_, ?_, ?_, ?_⟩
  · rintro i h ⟨⟨old, he⟩, ⟨o, ho, hc, hd⟩, ne⟩ b hb
    simp only [List.mem_cons, List.not_mem_nil, or_false] at hb
    rcases hb with rfl | rfl
    · exact ⟨_, he, fun v z => by cases z⟩
    · exact ⟨_, ho, fun v z => by rw [hd] at z; cases z⟩
  · rintro i h h' ⟨⟨old, he⟩, ⟨o, ho, hc, hd⟩, ne⟩ k
    exact ⟨⟨old, k e (.head _) _ he⟩, ⟨o, k it (.tail _ (.head _)) _ ho, hc, hd⟩, ne⟩
  · intro X _ _ _ _ i pins s σ H E I hf tn g
    exact g.elim
  · rintro X rfl rfl rfl hc i pins s σ H E I hf ⟨⟨old, he⟩, hit, ne⟩ ⟨xs, hq, hl⟩
    obtain ⟨its, rv, htup, z⟩ := I.tuple hq
    have hn : its.toArray.size = i := by rw [List.size_toArray, ← hl]; exact rv.length.symm
    have htup2 := htup
    obtain ⟨o, ho, hcl, n, hd⟩ := htup
    have ea : e ≠ a := fun z => by subst z; rw [he] at ho; cases ho; simp at hcl
    have ia : it ≠ a := fun z => by subst z; obtain ⟨o2, ho2, hc2, _⟩ := hit; rw [ho] at ho2; cases ho2; rw [hcl] at hc2; simp at hc2
    have hnd : X.A.in1.handled = none := I.ok.hd hc
    refine (Goes.enumFrom (x1 := kk) (pos := tpos) (elts := elts) 0 (Draws.tuple (prog := X.prog) (w := X.w) hnd it a ia.symm its.toArray) e ne (by simp [ne, ea]) (by simp)).stops s (fun s1 => Inv X pins σ H s1) E ?_ (fun h' tk k _ => inv_turned I k hf)
    rw [hn]
    exact ⟨⟨old, by rw [Int.zero_add]; exact he⟩, hit, htup2⟩
  · rintro A i s Q E ⟨⟨old, he⟩, _, _⟩ q
    exact wpAny_pyIter_enum he q
def iEnumT (K : PySem.W.Frag) (ta : TA) : TI := fun σ H R => ta σ H fun vs H1 => ∃ a xs, vs = [.ref a] ∧ SqT K H1 a xs ∧ R (Iet K a) H1
theorem pi_enumT {X : Cx} {e : Expr} {ta : TA} {p pos tpos : Pos} {elts : List Expr} {kk : Nat} (hg : Gl X "enumerate") (hm : X.mg "enumerate" = none) (ha : PA X [e] ta) (hs : starEach [e] X.env = [(false, eval e X.env)] := by rfl) :
    PI X (.Tuple elts kk tpos) (.Call (.Name "enumerate" p) [e] [] pos) (iEnumT X.K ta) := by
  refine ⟨fun pins s σ H R I h => ?_⟩
  refine PyProof.Rows.Call_ (L2.ld_blt I hg hm PyProof.Rows.boot_enumerate (PyProof.Rows.callWith_type1 (thn (ha.run pos pins s σ H _ I h) fun us s1 ⟨vs, H1, I1, r1, q1⟩ => ?_) hs rfl) (by decide) (by decide)) rfl
  obtain ⟨a, xs, rfl, hq, q⟩ := q1
  obtain ⟨u, rfl, rv⟩ := vals1 r1
  cases rv
  obtain ⟨its, rv, htup, z⟩ := I1.tuple hq
  refine call_enumT (begins_tuple a its.toArray) htup fun h' he hit hsz hk => ?_
  have I2 := Inv.kept (t' := s1.toks) I1 hk
  refine wpAny_pyIter_enum he ?_
  refine ⟨s1.heap.objs.size + 1, [s1.heap.objs.size + 1, s1.heap.objs.size], _, Iet X.K a, H1, rfl, I2, turn_enumT a (s1.heap.objs.size + 1) s1.heap.objs.size, ⟨⟨_, he⟩, ⟨_, hit, rfl, rfl⟩, Nat.succ_ne_self _⟩, fun b hb => ?_, q⟩
  have hle : s1.heap.objs.size ≤ b := by
    simp only [List.mem_cons, List.not_mem_nil, or_false] at hb
    rcases hb with rfl | rfl
    · exact Nat.le_succ _
    · exact Nat.le_refl _
  exact I1.fpOk hle (I1.hok.fresh hle)
/-- the empty tuple that stands for an argument that is not given -/
def EmpT (K : PySem.W.Frag) (t : Addr) : Prop := ∃ o n, K.lookup t = some o ∧ o.cls = .type "tuple" ∧ o.data = .seq #[] n
theorem EmpT.sq {K : PySem.W.Frag} {t : Addr} {H : Hp} (h : EmpT K t) : SqT K H t [] := let ⟨o, n, h1, h2, h3⟩ := h; .inr ⟨o, #[], n, h1, h2, h3, Nat.zero_le _, .nil⟩
theorem SqT.same {K : PySem.W.Frag} {t : Addr} {H H' : Hp} {xs : List V} (h : SqT K H t xs) (s : Same H H') : SqT K H' t xs := by
  rcases h with (h | ⟨o, h⟩) | h
  · exact .inl (.inl (s _ _ h))
  · exact .inl (.inr ⟨o, s _ _ h⟩)
  · exact .inr h
/-- a list, or an empty tuple -/
def LT (K : PySem.W.Frag) (H : Hp) (a : Addr) (xs : List V) : Prop := H a = some (.lst xs) ∨ (xs = [] ∧ SqT K H a [])
theorem LT.same {K : PySem.W.Frag} {a : Addr} {H H' : Hp} {xs : List V} (h : LT K H a xs) (s : Same H H') : LT K H' a xs := h.elim (fun h => .inl (s _ _ h)) fun h => .inr ⟨h.1, SqT.same h.2 s⟩
theorem LT.lst {K : PySem.W.Frag} {a : Addr} {H : Hp} {xs : List V} (h : LT K H a xs) (n : xs ≠ []) : H a = some (.lst xs) := h.elim id fun h => absurd h.1 n
theorem LT.ty {K : PySem.W.Frag} {a : Addr} {H : Hp} {xs : List V} (h : LT K H a xs) : ∃ t, TyX K H (.ref a) t ∧ PySem.W.kitAny K t [.type "list", .type "tuple"] = some true := by
  rcases h with h | ⟨_, (h | ⟨o, h⟩) | ⟨o, its, n, h1, h2, _⟩⟩
  · exact ⟨_, .base (.lst h), kitAny_ll⟩
  · exact ⟨_, .base (.tup h), kitAny_tl⟩
  · exact ⟨_, .fTuple h, kitAny_tl⟩
  · exact ⟨_, .kTuple h1 h2, kitAny_tl⟩
/-- either walk -/
theorem pi_or {X : Cx} {tg it : Expr} {w1 w2 : TI} (h1 : PI X tg it w1) (h2 : PI X tg it w2) : PI X tg it fun σ H R => w1 σ H R ∨ w2 σ H R :=
  ⟨fun pins s σ H R I h => h.elim (h1.run pins s σ H R I) (h2.run pins s σ H R I)⟩
theorem st_forLT {K : PySem.W.Frag} {g : TG} {tb : TS} {D : Ends} {σ : L2.St} {H : Hp} {tl : TE} {a : Addr} {xs : List V} (ha : ∀ R : V → Hp → Prop, R (.ref a) H → tl σ H R) (hx : LT K H a xs) (Pv : Nat → L2.St → Hp → Prop) (h0 : Pv 0 σ H) (hl : xs ≠ [] → ∀ i σ H', Pv i σ H' → H' a = some (.lst xs))
    (hs : ∀ i x σ H, xs[i]? = some x → Pv i σ H → g x σ H fun σ2 H2 => tb { nx := Pv (i + 1), rt := D.rt, bk := D.nx, ct := Pv (i + 1) } σ2 H2) (hd : ∀ σ H, Pv xs.length σ H → D.nx σ H) : tFor (fun σ H R => iList K tl σ H R ∨ iTup K tl σ H R) g tb D σ H := by
  rcases hx with hx | ⟨rfl, hx⟩
  · by_cases n : xs = []
    · subst n
      exact .inl (st_forL ha hx (fun i σ' H' => i = 0 ∧ σ' = σ ∧ H' = H) ⟨rfl, rfl, rfl⟩ (fun i σ' H' ⟨_, _, e⟩ => by rw [e]; exact hx) (fun i x σ' H' h => by simp at h) (fun σ' H' ⟨_, e1, e2⟩ => by subst e1 e2; exact hd _ _ h0))
    · exact .inl (st_forL ha hx Pv h0 (hl n) hs hd)
  · exact .inr (ha _ ⟨a, rfl, ⟨_, hx⟩, for_tup (xs := []) (fun i σ' H' => i = 0 ∧ σ' = σ ∧ H' = H) ⟨rfl, rfl, rfl⟩ (fun i σ' H' _ ⟨_, _, e⟩ => e ▸ hx) (fun i x σ' H' h => by simp at h) (fun σ' H' ⟨_, e1, e2⟩ => by subst e1 e2; exact hd _ _ h0)⟩)
theorem st_forET {K : PySem.W.Frag} {g : TG} {tb : TS} {D : Ends} {σ : L2.St} {H : Hp} {ta : TA} {a : Addr} {xs : List V} (ha : ∀ R : List V → Hp → Prop, R [.ref a] H → ta σ H R) (hx : LT K H a xs) (Pv : Nat → L2.St → Hp → Prop) (h0 : Pv 0 σ H) (hl : xs ≠ [] → ∀ i σ H', Pv i σ H' → H' a = some (.lst xs))
    (hs : ∀ i x T σ H H', xs[i]? = some x → Pv i σ H → Same H H' → H' T = some (.tup [.int (i : Nat), x]) → g (.ref T) σ H' fun σ2 H2 => tb { D with nx := Pv (i + 1), ct := Pv (i + 1), bk := D.nx } σ2 H2) (hd : ∀ σ H, Pv xs.length σ H → D.nx σ H) : tFor (fun σ H R => iEnum K ta σ H R ∨ iEnumT K ta σ H R) g tb D σ H := by
  rcases hx with hx | ⟨rfl, hx⟩
  · by_cases n : xs = []
    · subst n
      exact .inl (st_forE ha hx (fun i σ' H' => i = 0 ∧ σ' = σ ∧ H' = H) ⟨rfl, rfl, rfl⟩ (fun i σ' H' ⟨_, _, e⟩ => by rw [e]; exact hx) (fun i x T σ' H1 H2 h => by simp at h) (fun σ' H' ⟨_, e1, e2⟩ => by subst e1 e2; exact hd _ _ h0))
    · exact .inl (st_forE ha hx Pv h0 (hl n) hs hd)
  · exact .inr (ha _ ⟨a, [], rfl, hx, fun i _ σ' H' => i = 0 ∧ σ' = σ ∧ H' = H, ⟨0, rfl, rfl, rfl⟩, fun i m σ' H' ⟨e, e1, e2⟩ => by subst e e1 e2; exact .inl ⟨⟨[], hx, rfl⟩, hd _ _ h0⟩⟩)
def rListT : List V → Hp → VK → Prop := fun xs H Q => ∃ p ys, xs = [.ref p] ∧ H p = some (.tup ys) ∧ News H (.lst ys) Q
theorem call_listT {X : Cx} : CallR X (.type "list") rListT := CallR.imp call_list_of fun xs H Q ⟨p, ys, a, b, n⟩ => ⟨p, ys, a, .inr (SqT.of b), n.all⟩
theorem atI_lastG {xs : List V} {x : V} (h : xs[xs.length - 1]? = some x) : atI xs (-1) = some x := by
  have h0 : 0 < xs.length := by have := (List.getElem?_eq_some_iff.mp h).1; omega
  unfold atI ixN
  rw [if_neg (by decide), if_pos (by omega), show ((-1 : Int) + xs.length).toNat = xs.length - 1 by omega]
  simpa using h
theorem pe_never {X : Cx} {e : Expr} : PE X e (fun _ _ _ => False) := ⟨fun _ _ _ _ _ _ h => h.elim⟩
/-- {} -/
def tDictE : TE := fun _ H Q => News H (.dK []) Q
theorem pe_dictN {X : Cx} {pos : Pos} : PE X (.Dict [] [] pos) tDictE := PE.imp pe_dnewK fun σ H Q n p hp => n p _ hp (Same.upd hp) upd_same
theorem kitAny_no {K : PySem.W.Frag} {n : String} (h1 : PySem.W.kitOne K (.type n) (.type "list") = some false) (h2 : PySem.W.kitOne K (.type n) (.type "tuple") = some false) : PySem.W.kitAny K (.type n) [.type "list", .type "tuple"] = some false :=
  kitAny_cons (b := false) h1 (fun _ => kitAny_cons (b := false) h2 (fun _ => rfl) (fun h => by cases h)) (fun h => by cases h)
/-- a raising call within a try -/
theorem passTr {X : Cx} {W : WX} {E : XK} (tk : Takes X W) (hE : ∀ cls d σ' H', E cls d H' → W cls d σ' H') : Passes (L2.CX X.prog X.w) X E := by
  intro pins σ H s e s' I h
  exact (passAt tk σ) pins H s e s' I (by
    obtain ⟨a, B, H', cls, d, h1, h2, h3, h4, h5, h6, h7, h8⟩ := h
    exact ⟨a, B, H', cls, d, h1, h2, h3, h4, h5, h6, h7, hE _ _ _ _ h8⟩)
end Iz
/-! Ob -/
set_option Elab.async false
set_option linter.all false
set_option maxRecDepth 100000
set_option maxHeartbeats 4000000
namespace Iz
open PySem PySem.Spec PyProof.Rows L2 LamX
open He (ga)
/-! ### own classes' + - | & between two of one class -/
theorem back_of {v : V} {w : Value} {s : Shared} {R : Value → Shared → Prop} (rv : RelV v w) (q : R w s) : PySem.W.CmpBack R w s := by
  unfold PySem.W.CmpBack
  split
  · cases v <;> first
      | (exfalso; exact nomatch rv)
      | (exfalso; obtain ⟨_, z⟩ := rv; cases z)
      | (exfalso; cases rv)
  · exact q
def rOwnB (C : Addr) (sp : Sp) (E : XK) : R2 := fun x y H Q => ∃ a b dx fs dy gs, x = .ref a ∧ y = .ref b ∧ H a = some (.ins C dx fs) ∧ H b = some (.ins C dy gs) ∧ sp [.ref a, .ref b] H Q E
theorem op_ownB {X : Cx} {CX : CXT} {k : Nat} {x m : Str} {ps : List Str} {sp : Sp} {E : XK} {op : Operator} (O : OkM X.prog X.w X.K X.mg X.base CX k x m ps [] sp) (hm : PySem.dunder op.info.2 = m) (sf : PySem.W.selfFirst X.K (ga X.K x) = true) (hr : Room k X.A) (hx : Passes CX X E) : OpR X (binaryOp op) (rOwnB (ga X.K x) sp E) := by
  intro pins s σ H v0 y v u Q I rx ry h
  obtain ⟨a, b, dx, fs, dy, gs, rfl, rfl, ha, hb, hsp⟩ := h
  cases rx
  obtain ⟨f, fd, M, bd, F⟩ := O.ex
  obtain ⟨ds, hd, hbi⟩ := bd 0 (Nat.le_refl _)
  cases hd
  obtain ⟨mA, O', _⟩ := ins_get I.hok ha
  obtain ⟨od, J, _⟩ := O'.look
  obtain ⟨mB, OB, _⟩ := ins_get I.hok hb
  obtain ⟨odB, JB, _⟩ := OB.look
  obtain ⟨mm, hF⟩ := I.fr
  subst hm
  cases ry
  exact PySem.W.binop_K hF I.ok.mod.kin J JB.type sf M.at_ M.fn (own_call I F hbi hr hx (show RelV (.ref b) (.ref b) from rfl) hsp fun v w H' s' I' rv q => back_of rv ⟨v, H', I', rv, q⟩)
/-! ### tuples cut, put together -/
def rSlG (K : PySem.W.Frag) : V → Option Int → Option Int → Hp → VK → Prop := fun x lo hi H Q => ∃ a xs ys, x = .ref a ∧ SqT K H a xs ∧ cutV xs lo hi = ys ∧ (HT.sIx xs.length 0 lo = 0 ∧ HT.sIx xs.length xs.length hi = xs.length → xs = ys) ∧ ∀ p H', Same H H' → SqT K H' p ys → Q (.ref p) H'
theorem sl_tupG {X : Cx} : SlR X (rSlG X.K) := fun pins s σ H x v vl vu lo hi sl Q I rx hs pl pu ⟨a, xs, ys, e, h, ec, ew, k⟩ => sl_tupA pins s σ H x v vl vu lo hi sl Q I rx hs pl pu
  ⟨a, xs, e, h, fun w => k a H (fun _ _ h => h) (ew w ▸ h), fun _ p hp => k p _ (Same.upd hp) (SqT.of (by rw [upd_same, ec]))⟩
def rCatG (K : PySem.W.Frag) : R2 := fun x y H Q => ∃ a b xs ys, x = .ref a ∧ y = .ref b ∧ SqT K H a xs ∧ SqT K H b ys ∧ xs.length + ys.length ≤ sizeLine ∧ ∀ p H', Same H H' → SqT K H' p (xs ++ ys) → Q (.ref p) H'
theorem op_catG {X : Cx} : OpR X (binaryOp .Add) (rCatG X.K) := fun pins s σ H x y v u Q I rx ry ⟨a, b, xs, ys, e1, e2, ha, hb, hz, k⟩ => op_catA pins s σ H x y v u Q I rx ry
  ⟨a, b, xs, ys, e1, e2, ha, hb, hz, fun e => k b H (fun _ _ h => h) (by rw [e]; exact hb), fun _ e => k a H (fun _ _ h => h) (by rw [e, List.append_nil]; exact ha), fun _ _ p hp => k p _ (Same.upd hp) (SqT.of upd_same)⟩
/-! ### a comprehension over zip of two tuples -/
theorem walk_zipT {K : PySem.W.Frag} {a b : Addr} {xs ys : List V} {n : Nat} (hn : n = min xs.length ys.length) : Walk (RZ.ItzT K a b) n (fun H => SqT K H a xs ∧ SqT K H b ys) (YPair (fun i => xs[i]?) (fun i => ys[i]?)) := by
  subst hn
  refine ⟨fun i _ hi q => ?_, fun _ q => ⟨xs, ys, q.1, q.2, by omega⟩, fun i H v H' _ q y => ?_⟩
  · have h1 : i < xs.length := by omega
    have h2 : i < ys.length := by omega
    exact ⟨xs, ys, xs[i], ys[i], q.1, q.2, by simp [h1], by simp [h2]⟩
  · obtain ⟨T, x, z, h1, h2, h3, h4, h5⟩ := y
    exact ⟨T, x, z, h1, h2, h3, h4 xs q.1, h5 ys q.2⟩
theorem lc_zip {K : PySem.W.Frag} {ta : TA} {g : TG} {tt : TT} {te : TE} {vs : List Nat} {σ : L2.St} {H : Hp} {Q : VK} (h : ta σ H fun us H1 => ∃ a b xs ys, us = [.ref a, .ref b] ∧
    ((SqL K H1 a xs ∧ SqL K H1 b ys ∧ tLc (fun _ H R => R (L2.Itz K a b) H) g tt te vs σ H1 Q) ∨ (SqT K H1 a xs ∧ SqT K H1 b ys ∧ tLc (fun _ H R => R (RZ.ItzT K a b) H) g tt te vs σ H1 Q))) : tLc (RZ.iZipA K ta) g tt te vs σ H Q := h
theorem st_zipT {K : PySem.W.Frag} {g : TG} {tt : TT} {te : TE} {vs : List Nat} {σ : L2.St} {H : Hp} {Q : VK} {a b : Addr} {xs ys : List V} {n : Nat} (hn : n = min xs.length ys.length) (Pv : Addr → Nat → Hp → Prop)
    (h0 : ∀ D H1, H D = none → Same H H1 → H1 D = some (.lst []) → Pv D 0 H1) (hl : ∀ D i H, Pv D i H → SqT K H a xs ∧ SqT K H b ys)
    (hs : ∀ D i x y T H H', xs[i]? = some x → ys[i]? = some y → Pv D i H → Same H H' → H' T = some (.tup [x, y]) → g (.ref T) (wipe σ vs) H' fun σ2 H2 => wipe σ2 vs = wipe σ vs ∧ tt σ2 H2 fun b H3 => if b = true then te σ2 H3 fun y H4 => ∃ acc, H4 D = some (.lst acc) ∧ acc.length < sizeLine ∧ Pv D (i + 1) (upd H4 D (.lst (acc ++ [y]))) else Pv D (i + 1) H3)
    (hd : ∀ D H, Pv D n H → Q (.ref D) H) : tLc (fun _ H R => R (RZ.ItzT K a b) H) g tt te vs σ H Q := fun D hD =>
  lc_it (walk_zipT hn) (Pv D) (h0 D _ hD (Same.upd hD) upd_same) (fun i H _ p => hl D i H p) (fun i x H1 H2 hi p y => by
    obtain ⟨T, u, z, rfl, hT, rfl, e1, e2⟩ := y
    exact hs D i u z T H1 _ e1 e2 p (Same.upd hT) upd_same) (hd D)
/-! ### enumerate over a tuple, items handed out -/
def IteT (K : PySem.W.Frag) (a : Addr) : It :=
  ⟨fun i H => ∃ (xs : List V) (x : V), SqT K H a xs ∧ xs[i]? = some x, fun i H v H' => ∃ T x, v = .ref T ∧ H T = none ∧ H' = upd H T (.tup [.int (i : Nat), x]) ∧ ∀ xs, SqT K H a xs → xs[i]? = some x, fun i H => ∃ xs : List V, SqT K H a xs ∧ xs.length = i⟩
theorem turn_enumG {P : Program} {w : World} {K : PySem.W.Frag} {elts : List Expr} {kk : Nat} {tpos : Pos} (a e it : Addr) :
    Turn P w K (.Tuple elts kk tpos) (IteT K a) [e, it] e fun i h => (∃ old, IsEnum h e it ((i : Nat) : Int) old) ∧ h.IsTupleIter it a i ∧ e ≠ it := by
  refine ⟨.head _, ?_, ?_, ?_, ?_, ?_⟩
  · rintro i h ⟨⟨old, he⟩, ⟨o, ho, hc, hd⟩, ne⟩ b hb
    simp only [List.mem_cons, List.not_mem_nil, or_false] at hb
    rcases hb with rfl | rfl
    · exact ⟨_, he, fun v z => by cases z⟩
    · exact ⟨_, ho, fun v z => by rw [hd] at z; cases z⟩
  · rintro i h h' ⟨⟨old, he⟩, ⟨o, ho, hc, hd⟩, ne⟩ k
    exact ⟨⟨old, k e (.head _) _ he⟩, ⟨o, k it (.tail _ (.head _)) _ ho, hc, hd⟩, ne⟩
  · rintro X rfl rfl rfl hc i pins s σ H E I hf ⟨⟨old, he⟩, hit, ne⟩ ⟨xs, x, hq, hx⟩
    obtain ⟨its, rv, htup, hz⟩ := I.tuple hq
    obtain ⟨u, hu, ru⟩ := rv.get hx
    have htup2 := htup
    obtain ⟨o, ho, hcl, n, hd⟩ := htup
    have ia : it ≠ a := fun z => by subst z; obtain ⟨o2, ho2, hc2, _⟩ := hit; rw [ho] at ho2; cases ho2; rw [hcl] at hc2; simp at hc2
    have ea : e ≠ a := fun z => by subst z; rw [he] at ho; cases ho; simp at hcl
    have hnd : X.A.in1.handled = none := I.ok.hd hc
    have hel : e < s.heap.objs.size := Heap.lt_size he
    have hil : it < s.heap.objs.size := by obtain ⟨_, q, _⟩ := hit; exact Heap.lt_size q
    have hlt : i < its.toArray.size := by rw [List.size_toArray]; exact (List.getElem?_eq_some_iff.mp hu).1
    refine wpAny_pyNext_enum_itemC (Draws.tuple (prog := X.prog) (w := X.w) hnd it a ia.symm its.toArray) he ⟨hit, htup2⟩ hlt ne (by simp [ne, ea]) fun z h' tk hP ho' hs' hT hsz hk => ?_
    have ez : z = u := by
      have h1 : its.toArray[i]? = some z := hP
      rw [List.getElem?_toArray, hu] at h1
      exact (Option.some.inj h1).symm
    subst ez
    refine ⟨_, rfl, wpAny_letOwnedTupleGo_enum (s := { s with heap := h', toks := tk + 1 }) ho' fun h'' he' sb => ?_⟩
    have hT2 : h''.get? s.heap.objs.size = some { cls := .type "tuple", data := .seq #[.int i tk, z] } := (sb.2 _ (Nat.ne_of_gt hel)).trans hT
    have new : ObjOk X.prog X.w (upd H s.heap.objs.size (.tup [.int (i : Nat), x])) h'' s.heap.objs.size (.tup [.int (i : Nat), x]) :=
      ⟨by show 2 ≤ sizeLine; decide, [.int i tk, z], .cons ⟨_, rfl⟩ (.cons ru .nil), ⟨_, hT2, rfl, _, rfl⟩⟩
    have I1 : Inv X pins σ (upd H s.heap.objs.size (.tup [.int (i : Nat), x])) { s with heap := h'', toks := tk + 1 } :=
      I.turnedNew (ch := [e, it]) (fun b ob hb q => (sb.2 b (fun z => hb (by simp [z]))).trans (hk b ob (fun z => hb (by simp [z])) (fun z => hb (by simp [z])) q)) hf (Nat.le_refl _) new
    refine ⟨.ref s.heap.objs.size, _, I1, rfl, ⟨_, x, rfl, I.hok.fresh (Nat.le_refl _), rfl, fun ys hy => by rw [I.tuple_inj hy hq]; exact hx⟩, ⟨⟨z, ?_⟩, hs'.1.at fun o q => (sb.2 it (Ne.symm ne)).trans q, ne⟩, fun b hb => ?_⟩
    · have e1 : ((i + 1 : Nat) : Int) = (i : Int) + 1 := by omega
      rw [e1]; exact he'
    · have hb' : b < s.heap.objs.size := by
        have e' : b = e ∨ b = it := by simpa using hb
        rcases e' with z | z
        · rw [z]; exact hel
        · rw [z]; exact hil
      rw [upd_ne (Nat.ne_of_lt hb')]
      exact (hf b hb).1
  · rintro X rfl rfl rfl hc i pins s σ H E I hf ⟨⟨old, he⟩, hit, ne⟩ ⟨xs, hq, hl⟩
    exact (turn_enumT (elts := elts) (kk := kk) (tpos := tpos) a e it).done X rfl rfl rfl hc i pins s σ H E I hf ⟨⟨old, he⟩, hit, ne⟩ ⟨xs, hq, hl⟩
  · rintro A i s Q E ⟨⟨old, he⟩, _, _⟩ q
    exact wpAny_pyIter_enum he q
def iEnumG (K : PySem.W.Frag) (ta : TA) : TI := fun σ H R => ta σ H fun vs H1 => ∃ a xs, vs = [.ref a] ∧ SqT K H1 a xs ∧ R (IteT K a) H1
theorem pi_enumG {X : Cx} {e : Expr} {ta : TA} {p pos tpos : Pos} {elts : List Expr} {kk : Nat} (hg : Gl X "enumerate") (hm : X.mg "enumerate" = none) (ha : PA X [e] ta) (hs : starEach [e] X.env = [(false, eval e X.env)] := by rfl) :
    PI X (.Tuple elts kk tpos) (.Call (.Name "enumerate" p) [e] [] pos) (iEnumG X.K ta) := by
  refine ⟨fun pins s σ H R I h => ?_⟩
  refine PyProof.Rows.Call_ (L2.ld_blt I hg hm PyProof.Rows.boot_enumerate (PyProof.Rows.callWith_type1 (thn (ha.run pos pins s σ H _ I h) fun us s1 ⟨vs, H1, I1, r1, q1⟩ => ?_) hs rfl) (by decide) (by decide)) rfl
  obtain ⟨a, xs, rfl, hq, q⟩ := q1
  obtain ⟨u, rfl, rv⟩ := vals1 r1
  cases rv
  obtain ⟨its, rv, htup, z⟩ := I1.tuple hq
  refine call_enumT (begins_tuple a its.toArray) htup fun h' he hit hsz hk => ?_
  have I2 := Inv.kept (t' := s1.toks) I1 hk
  refine wpAny_pyIter_enum he ?_
  refine ⟨s1.heap.objs.size + 1, [s1.heap.objs.size + 1, s1.heap.objs.size], _, IteT X.K a, H1, rfl, I2, turn_enumG a (s1.heap.objs.size + 1) s1.heap.objs.size, ⟨⟨_, he⟩, ⟨_, hit, rfl, rfl⟩, Nat.succ_ne_self _⟩, fun b hb => ?_, q⟩
  have hle : s1.heap.objs.size ≤ b := by
    simp only [List.mem_cons, List.not_mem_nil, or_false] at hb
    rcases hb with rfl | rfl
    · exact Nat.le_succ _
    · exact Nat.le_refl _
  exact I1.fpOk hle (I1.hok.fresh hle)
theorem walk_enumG {K : PySem.W.Frag} {a : Addr} {xs : List V} : Walk (IteT K a) xs.length (fun H => SqT K H a xs) (YPair (fun i => some (.int (i : Nat))) (fun i => xs[i]?)) := by
  refine ⟨fun i _ hi q => ⟨xs, xs[i], q, by simp [hi]⟩, fun _ q => ⟨xs, q, rfl⟩, fun i H v H' _ q y => ?_⟩
  obtain ⟨T, x, h1, h2, h3, h4⟩ := y
  exact ⟨T, _, x, h1, h2, h3, rfl, h4 xs q⟩
/-! ### a list or a tuple -/
def LG (K : PySem.W.Frag) (H : Hp) (a : Addr) (xs : List V) : Prop := H a = some (.lst xs) ∨ SqT K H a xs
section
variable {K : PySem.W.Frag} {a : Addr} {H H' : Hp} {xs : List V}
theorem LG.same (h : LG K H a xs) (s : Same H H') : LG K H' a xs := h.elim (fun h => .inl (s _ _ h)) fun h => .inr (SqT.same h s)
theorem LG.ty (h : LG K H a xs) : ∃ t, TyX K H (.ref a) t ∧ PySem.W.kitAny K t [.type "list", .type "tuple"] = some true := by
  rcases h with h | (h | ⟨o, h⟩) | ⟨o, its, n, h1, h2, _⟩
  · exact ⟨_, .base (.lst h), kitAny_ll⟩
  · exact ⟨_, .base (.tup h), kitAny_tl⟩
  · exact ⟨_, .fTuple h, kitAny_tl⟩
  · exact ⟨_, .kTuple h1 h2, kitAny_tl⟩
theorem st_forLG {g : TG} {tb : TS} {D : Ends} {σ : L2.St} {tl : TE} {H0 : Hp} (ha : ∀ R : V → Hp → Prop, R (.ref a) H → tl σ H R) (hx : LG K H0 a xs) (s0 : Same H0 H) (Pv : Nat → L2.St → Hp → Prop) (h0 : Pv 0 σ H) (hl : ∀ i σ H', Pv i σ H' → Same H0 H')
    (hs : ∀ i x σ H, xs[i]? = some x → Pv i σ H → g x σ H fun σ2 H2 => tb { nx := Pv (i + 1), rt := D.rt, bk := D.nx, ct := Pv (i + 1) } σ2 H2) (hd : ∀ σ H, Pv xs.length σ H → D.nx σ H) : tFor (fun σ H R => iList K tl σ H R ∨ iTup K tl σ H R) g tb D σ H := by
  rcases hx with hx | hx
  · exact .inl (st_forL ha (s0 _ _ hx) Pv h0 (fun i σ' H' p => hl i σ' H' p _ _ hx) hs hd)
  · exact .inr (ha _ ⟨a, rfl, ⟨_, SqT.same hx s0⟩, for_tup Pv h0 (fun i σ' H' _ p => SqT.same hx (hl i σ' H' p)) hs hd⟩)
theorem st_forEG {g : TG} {tb : TS} {D : Ends} {σ : L2.St} {ta : TA} {H0 : Hp} (ha : ∀ R : List V → Hp → Prop, R [.ref a] H → ta σ H R) (hx : LG K H0 a xs) (s0 : Same H0 H) (Pv : Nat → L2.St → Hp → Prop) (h0 : Pv 0 σ H) (hl : ∀ i σ H', Pv i σ H' → Same H0 H')
    (hs : ∀ i x T σ H H', xs[i]? = some x → Pv i σ H → Same H H' → H' T = some (.tup [.int (i : Nat), x]) → g (.ref T) σ H' fun σ2 H2 => tb { D with nx := Pv (i + 1), ct := Pv (i + 1), bk := D.nx } σ2 H2) (hd : ∀ σ H, Pv xs.length σ H → D.nx σ H) : tFor (fun σ H R => iEnum K ta σ H R ∨ iEnumG K ta σ H R) g tb D σ H := by
  rcases hx with hx | hx
  · exact .inl (st_forE ha (s0 _ _ hx) Pv h0 (fun i σ' H' p => hl i σ' H' p _ _ hx) hs hd)
  · exact .inr (ha _ ⟨a, xs, rfl, SqT.same hx s0, for_it walk_enumG Pv h0 (fun i σ H' _ p => SqT.same hx (hl i σ H' p)) (fun i v σ H1 H2 hi p y => by
      obtain ⟨T, x, z, rfl, hT, rfl, e1, e2⟩ := y
      cases e1
      exact hs i z T σ H1 _ e2 p (Same.upd hT) upd_same) hd⟩)
end
end Iz
/-! Lb -/
set_option Elab.async false
set_option linter.all false
set_option maxRecDepth 100000
set_option maxHeartbeats 4000000
namespace LamX
open PySem PySem.Spec PyProof.Rows L2
/-- a name's slot is empty -/
def slotFree (N : List Str) (p : Str) (σ : L2.St) : Bool := (N.zip σ).all fun q => !(q.1 == p) || q.2.isNone
theorem slotFree_at {N : List Str} {p : Str} {σ : L2.St} (h : slotFree N p σ = true) : ∀ (i : Nat) (v : V), N[i]? = some p → σ[i]? ≠ some (some v) := by
  intro i v h1 h2
  have hm : (p, some v) ∈ N.zip σ := by
    refine List.mem_of_getElem? (i := i) ?_
    rw [List.getElem?_zip_eq_some]
    exact ⟨h1, h2⟩
  have := List.all_eq_true.mp h _ hm
  simp at this
section
variable {X : Cx} {pins : List (Addr × Obj)} {σ : L2.St} {H HZ : Hp} {s s1 : Shared}
theorem lam_startS {A : Around} {outer : List Env} {E : XK} {scope : Scope} {f c' : Addr} {h₁ : Heap} {tk : Nat} {p : Str} {u : Value} {v : V} (I : Inv X pins σ H s) (L : LamP X.env.scope scope p) (hp : ∀ (i : Nat) (v : V), X.N[i]? = some p → σ[i]? ≠ some (some v)) (e0 : Env0 X.prog X.w X.K X.mg X.base A outer s1 HZ) (hd : A.handled = none)
    (un : Un (frs X.stack) [] H HZ s.heap s1.heap) (hns : h₁.Ns s1.heap.objs.size fun y => ([(p, u)] : List (Str × Value)).reverse.lookup y) (rv : RelV v u) (kp : ∀ b o, s1.heap.get? b = some o → h₁.get? b = some o) :
    Inv (lamCxP X A outer s1 HZ E scope f c' p) [] (σ ++ [some v]) HZ { s1 with heap := h₁, toks := tk } := by
  have hfree := L.has I.ok
  have cm : ∀ {y c}, (cloFrom X.env.cells scope.names []).lookup y = some c → X.env.cells.lookup y = some c := fun {y c} e => by
    rcases cloFrom_mem (PySem.mem_of_lookup e) with hm | ⟨h1, h2⟩
    · cases hm
    · obtain ⟨c1, hc⟩ := hfree _ h1 rfl
      have hc : X.env.cells.lookup y = some c1 := hc
      have e2 : c = c1 := by
        rw [h2, hc] <;> rfl
      rw [e2]
      exact hc
  have look : ∀ {y}, scope.names.lookup y = some .free → ∃ c, (cloFrom X.env.cells scope.names []).lookup y = some c := fun {y} hl => by
    have hy : (y, NameKind.free) ∈ scope.names := PySem.mem_of_lookup hl
    exact mem_lookup (cloFrom_has (cells := X.env.cells) (acc := []) hy)
  have cellK : ∀ {c : Addr} {v : Option Value}, H c = none → s.heap.IsCell c v → h₁.IsCell c v := fun {c v} n ⟨o, ho, hd⟩ => by
    obtain ⟨sl, q⟩ := un.any ho n (by simp)
    exact ⟨_, kp _ _ q, hd⟩
  have noA : ∀ b : Addr, b ∉ (lamCxP X A outer s1 HZ E scope f c' p).ex := fun b z => absurd (show b ∈ ([] : List Addr) from z) (by simp)
  refine ⟨⟨e0.mod, L.kind, rfl, rfl, Nat.le_refl _, fun y z c e1 e2 => I.ok.inj y z c (cm e1) (cm e2), fun y hy => ?_, fun y c z _ => ?_, fun _ => hd, Around.frames_deeper e0.frames, .inr ⟨rfl, rfl⟩, fun b z => absurd z (noA b), e0.bs, e0.bsz, fun b _ _ => noA b,
      fun b z => absurd z (noA b), e0.funs, e0.frf⟩,
    rfl, e0.bare, Un.kept kp, ⟨_, hns, fun i y v' e1 e2 e3 => ?_⟩, fun y c e => ?_, e0.hok.fresh (Nat.le_refl _), fun y c e => ?_, fun q hq => absurd (show q ∈ ([] : List (Addr × Obj)) ++ [] from hq) (by simp), e0.hok.kept kp, ?_⟩
  · have hy : scope.names.lookup y = some .cell ∨ scope.names.lookup y = some .free := hy
    rcases hy with hy | hy
    · exact absurd rfl (L.own _ (PySem.mem_of_lookup hy)).2
    · exact look hy
  · have z : false = true := z
    cases z
  · have e3 : Vis scope y := e3
    have e1 : (X.N ++ [p])[i]? = some y := e1
    have hl := I.len
    by_cases hi : i < X.N.length
    · rw [List.getElem?_append_left hi] at e1
      rw [List.getElem?_append_left (by omega)] at e2
      rcases e3 with k | k | k
      · have := (L.own _ (PySem.mem_of_lookup k)).1 rfl
        exact absurd e2 (hp i v' (by rw [← (show y = p from this)]; exact e1))
      · exact absurd rfl (L.own _ (PySem.mem_of_lookup k)).2
      · obtain ⟨m, hn, hl⟩ := I.loc
        have hvis : Vis X.env.scope y := (L.free _ (PySem.mem_of_lookup k) rfl).elim (fun k => .inr (.inl k)) (fun k => .inr (.inr k))
        obtain ⟨w', r, q⟩ := hl i y v' e1 e2 hvis
        obtain ⟨c2, h2⟩ := look k
        refine ⟨w', r, .inr ⟨.inr k, c2, h2, ?_⟩⟩
        have c1 := cm h2
        rcases q with ⟨k', _⟩ | ⟨_, c3, e', z⟩
        · have k' : X.env.scope.names.lookup y = some .local := k'
          rcases L.free _ (PySem.mem_of_lookup k) rfl with k2 | k2 <;> rw [show X.env.scope.names.lookup y = _ from k2] at k' <;> cases k'
        · rw [c1] at e'
          cases e'
          exact cellK (I.freeC y _ c1) z
    · rw [List.getElem?_append_right (by omega)] at e1 e2
      have h0 : i - X.N.length = 0 := by
        have := (List.getElem?_eq_some_iff.mp e1).1
        simp at this
        omega
      rw [h0] at e1
      rw [show i - σ.length = 0 by omega] at e2
      simp at e1 e2
      subst e1 e2
      exact ⟨u, rv, .inl ⟨L.par, by simp⟩⟩
  · obtain ⟨w', z⟩ := I.cell y c (cm e)
    exact ⟨w', cellK (I.freeC y c (cm e)) z⟩
  · obtain ⟨v, o, ho, hd⟩ := I.cell y c (cm e)
    exact un.free c o ho (I.freeC y c (cm e)) (by simp)
  · show (σ ++ [some v]).length = (X.N ++ [p]).length
    rw [List.length_append, List.length_append, I.len]
    rfl
/-- a(e), in the def that got the lambda -/
theorem pe_actS {CXg : CXT} {Eg : XK} {Ng : List Str} {qg : Str} {sg : Scope} {g f c' : Addr} {cdg pm ctv : Value} {params : Arguments} {body : Expr} {scope : Scope} {k i : Nat} {a p : Str} {tb : TE} {p1 p2 : Pos} {e : Expr} {ta : TA}
    (I : Inv X pins σ H s) (L : LamP X.env.scope scope p) (hp : ∀ (i : Nat) (v : V), X.N[i]? = some p → σ[i]? ≠ some (some v)) (hf : s.heap.get? f = some (PySem.W.kla_obj "<lambda>" (X.env.qual ++ "<lambda>") params body scope (cloFrom X.env.cells scope.names []) pm c' ctv)) (hfn : H f = none) (hfr : f ∉ frs X.stack)
    (hbind : ∀ u : Value, bindArgs (PySem.W.kla_fn "<lambda>" (X.env.qual ++ "<lambda>") params body scope (cloFrom X.env.cells scope.names []) pm (.ref c') ctv) ⟨[u], []⟩ = pure [(p, u)])
    (hr : Room (k + 1) (X.A.deeper (envOfC qg sg s.heap.objs.size g cdg)))
    (hbody : ∀ (A : Around) (outer : List Env) (s : Shared) (H : Hp), Room k (A.deeper (lamEnv X scope s.heap.objs.size f c')) → PE (lamCxP X A outer s H (fun _ _ _ => False) scope f c' p) body tb)
    (hN : Ng[i]? = some a) (hv : Vis sg a) (hd : (a == ("__debug__" : Str)) = false) (hcd : (a == ("__classdict__" : Str)) = false)
    (ha : PA (cxOf CXg X.prog X.w X.K X.mg X.base Ng qg sg g cdg X.A X.stack s H Eg).nox [e] ta)
    (he : starEach [e] (envOfC qg sg s.heap.objs.size g cdg) = (false, eval e (envOfC qg sg s.heap.objs.size g cdg)) :: starEach [] (envOfC qg sg s.heap.objs.size g cdg)) :
    PE (cxOf CXg X.prog X.w X.K X.mg X.base Ng qg sg g cdg X.A X.stack s H Eg).nox (.Call (.Name a p1) [e] [] p2)
      (fun σZ HZ Q => σZ[i]? = some (some (.ref f)) ∧ ta σZ HZ fun vs H1 => ∃ v, vs = [v] ∧ H1 c' = some (CodeO c' (X.env.qual ++ "<lambda>")) ∧ tb (σ ++ [some v]) H1 Q) := by
  refine ⟨fun pinsZ sZ σZ HZ Q IZ h => ?_⟩
  obtain ⟨hs, ht⟩ := h
  refine wpAny_Call_Name_kw (thn ((pe_var (X := (cxOf CXg X.prog X.w X.K X.mg X.base Ng qg sg g cdg X.A X.stack s H Eg).nox) (pos := p1) (i := i) hN hv hd hcd).run pinsZ sZ σZ HZ (fun v H1 => v = .ref f ∧ H1 = HZ) IZ ⟨.ref f, hs, rfl, rfl⟩) fun u s1 ⟨v, H1, I1, r1, q1⟩ => ?_)
  obtain ⟨ev, eH⟩ := q1
  subst ev
  rw [eH] at I1
  obtain rfl : u = Value.ref f := r1
  have of1 : s1.heap.get? f = some (PySem.W.kla_obj "<lambda>" (X.env.qual ++ "<lambda>") params body scope (cloFrom X.env.cells scope.names []) pm c' ctv) := I1.base.keep f _ hf hfn hfr (fun z => nomatch (show f ∈ ([] : List Addr) from z))
  refine PySem.W.callWith_F (first := []) ⟨_, _, _, _, of1⟩ (thn (ha.run p2 pinsZ s1 σZ HZ _ I1 ht) fun us s2 ⟨vs, H2, I2, r2, v, ev, hc, ht2⟩ => ?_) he rfl
  subst ev
  have of2 : s2.heap.get? f = some (PySem.W.kla_obj "<lambda>" (X.env.qual ++ "<lambda>") params body scope (cloFrom X.env.cells scope.names []) pm c' ctv) := I2.base.keep f _ hf hfn hfr (fun z => nomatch (show f ∈ ([] : List Addr) from z))
  refine ⟨⟨_, _, _, _, of2⟩, ?_⟩
  obtain ⟨u, rfl, rv⟩ := vals1 r2
  show wpAny _ _ (call (.ref f) [u]) _ _ _
  have un : Un (frs X.stack) [] H H2 s.heap s2.heap := I2.base
  obtain ⟨⟨oc, vs, t, hoc, hdc, hvc⟩, _, _⟩ := I2.hok c' _ hc
  have rc : codeAny (model X.prog X.w) (X.A.deeper (envOfC qg sg s.heap.objs.size g cdg)) (.call (.ref f) ⟨[u], []⟩) (CR (L2.CX X.prog X.w) (envOfC qg sg s.heap.objs.size g cdg :: X.stack) X.prog X.w H2 s2 Q (fun _ _ _ => False)) s2 := by
    refine PySem.W.kla_callFunE hr.depth of2 rfl L.co L.gen rfl ⟨c', oc, vs, t, rfl, hoc, hdc, hvc⟩ ?_
    rw [hbind]
    refine wpAny_pure (wpAny_newFunctionEnv (fun y hy => (L.own y hy).2) (fun y hy => by rw [List.mem_singleton.mp hy]; exact L.par) (fun h₁ hns hsb => ⟨I2.nolimit.fresh _ hsb, ?_⟩) L.kind)
    show codeAny _ _ (.expr body (lamEnv X scope s2.heap.objs.size f c')) _ _
    have kp : ∀ b o, s2.heap.get? b = some o → h₁.get? b = some o := fun b o e => hsb.extBut b o (Nat.ne_of_lt (Heap.lt_size e)) (Heap.get?_push_of_some _ e)
    have J : Inv (lamCxP X (X.A.deeper (envOfC qg sg s.heap.objs.size g cdg)) (envOfC qg sg s.heap.objs.size g cdg :: X.stack) s2 H2 (fun _ _ _ => False) scope f c' p) [] (σ ++ [some v]) H2 { s2 with heap := h₁, toks := s2.toks + ([(p, u)] : List (Str × Value)).length } :=
      lam_startS I L hp I2.env0 hr.hd un hns rv kp
    refine PySem.W.kla_codeExpr (wpAny_mono ((hbody _ _ s2 H2 (hr.deeper _)).run [] _ _ H2 Q J ht2) (fun v s' hq => ?_) fun e s' hq => hq)
    obtain ⟨w', H', J', rv, q⟩ := hq
    exact ⟨w', H', J'.os, J'.bare, J'.base, J'.hok, rv, q⟩
  refine wpAny_call (codeAny_mono rc fun r s' hq => ?_)
  cases r with
  | error e => obtain ⟨_, _, _, _, _, _, _, _, _, _, _, _, z⟩ := hq; exact z.elim
  | ok fl =>
    cases fl with
    | ret u => exact I2.after hq
    | next => exact False.elim hq
    | brk => exact False.elim hq
    | cont => exact False.elim hq
end
/-! ### a lambda of one parameter, handed as the third of three -/
def GivesP2 (X : Cx) (Ng : List Str) (x : Str) (sg : Scope) (g : Addr) (cdg : Value) (bg : List Stmt) (a : Str) (q : Str) (TT : (V → Hp → VK → Prop) → V → V → Hp → VK → Prop) : Prop :=
  ∀ (f c' : Addr) (s : Shared) (H : Hp) (v1 v2 : V) (Q : VK) (tl : V → Hp → VK → Prop),
    (∀ (e : Expr) (ta : TA) (p1 p2 : Pos), PA (cxOf C8.CX0 X.prog X.w X.K X.mg X.base Ng x sg g cdg X.A X.stack s H C8.E0).nox [e] ta →
      starEach [e] (envOfC x sg s.heap.objs.size g cdg) = (false, eval e (envOfC x sg s.heap.objs.size g cdg)) :: starEach [] (envOfC x sg s.heap.objs.size g cdg) →
      PE (cxOf C8.CX0 X.prog X.w X.K X.mg X.base Ng x sg g cdg X.A X.stack s H C8.E0).nox (.Call (.Name a p1) [e] [] p2) (fun σZ HZ Q => σZ[2]? = some (some (.ref f)) ∧ ta σZ HZ fun vs H1 => ∃ v, vs = [v] ∧ H1 c' = some (CodeO c' q) ∧ tl v H1 Q)) →
    H c' = some (CodeO c' q) → Room 8 (X.A.deeper (envOfC x sg s.heap.objs.size g cdg)) → TT tl v1 v2 H Q →
    ∃ t, PSs (cxOf C8.CX0 X.prog X.w X.K X.mg X.base Ng x sg g cdg X.A X.stack s H C8.E0).nox bg t ∧ t { nx := fun _ H' => Q .non H', rt := Q } (L2.start Ng [v1, v2, .ref f]) H
def tLam3b (N : List Str) (p : Str) (T : List (Addr × Str)) (q : Str) (TT : (V → Hp → VK → Prop) → V → V → Hp → VK → Prop) (t1 t2 t : TE) : TE := fun σ H Q => slotFree N p σ = true ∧ t1 σ H fun v1 H1 => t2 σ H1 fun v2 H2 => Tabs T H2 ∧ ∀ H3 c', ExtN H2 H3 → Tabs T H3 → H3 c' = some (CodeO c' q) →
  TT (fun v H' Q' => t (σ ++ [some v]) H' Q') v1 v2 H3 Q
section
variable {X : Cx}
/-- x(e1, e2, lambda p: body) -/
theorem pe_lamcall3b {T : List (Addr × Str)} {TT : (V → Hp → VK → Prop) → V → V → Hp → VK → Prop} {x a p0 : Str} {g c P : Addr} {pg : Arguments} {bg : List Stmt} {sg : Scope} {dV kV doc pm cdv ct oc : Value} {an od : Option Addr} {osl : Array (Option Value)} {Ng ps : List Str}
    {params : Arguments} {body e1 e2 : Expr} {scope : Scope} {t1 t2 t : TE} {p lpos pos : Pos} (hg : Gl X x) (hm : X.mg x = some (.ref g)) (hk : PySem.W.keepIn X.K (.ref g) = true)
    (lk : X.K.lookup g = some ⟨oc, od, .func (PySem.W.fnOf x x pg bg sg dV kV doc pm an cdv ct), osl⟩) (hcg : PySem.W.codeIn X.K cdv x = true) (hb : L2.Binds X.K (PySem.W.fnOf x x pg bg sg dV kV doc pm an cdv ct) ps []) (Sg : FnScope Ng ps sg) (hps : ps.length = 3) (hNg : Ng[2]? = some a) (hva : Vis sg a)
    (hG : GivesP2 X Ng x sg g cdv bg a (X.env.qual ++ "<lambda>") TT)
    (TB : TabB X.base X.mg c P) (hcode : X.env.code = .ref c) (hmT : (P, X.env.qual ++ "<lambda>") ∈ T) (hu : ∀ p ∈ T, p.1 = P → p.2 = X.env.qual ++ "<lambda>") (hr : Room 9 X.A) (L : LamP X.env.scope scope p0) (hdef : defaultsOf params X.env = ([], []))
    (hbind : ∀ (q : Str) (cl : List (Str × Addr)) (pm cv ctv u : Value), bindArgs (PySem.W.kla_fn "<lambda>" q params body scope cl pm cv ctv) ⟨[u], []⟩ = pure [(p0, u)])
    (h1 : PE X e1 t1) (h2 : PE X e2 t2)
    (hbody : ∀ (A : Around) (outer : List Env) (s : Shared) (H : Hp) (f c' : Addr), Room 7 (A.deeper (lamEnv X scope s.heap.objs.size f c')) → PE (lamCxP X A outer s H (fun _ _ _ => False) scope f c' p0) body t)
    (he1 : starEach [e1, e2, .Lambda params body scope lpos] X.env = (false, eval e1 X.env) :: starEach [e2, .Lambda params body scope lpos] X.env := by rfl) (he2 : starEach [e2, .Lambda params body scope lpos] X.env = (false, eval e2 X.env) :: starEach [.Lambda params body scope lpos] X.env := by rfl)
    (he3 : starEach [.Lambda params body scope lpos] X.env = (false, eval (.Lambda params body scope lpos) X.env) :: starEach [] X.env := by rfl) (hpl : (backTo pos (starEach [e2, .Lambda params body scope lpos] X.env)).any (·.1) = false := by rfl)
    (hdb : (x == ("__debug__" : Str)) = false := by decide) (hd : (a == ("__debug__" : Str)) = false := by decide) (hcd : (a == ("__classdict__" : Str)) = false := by decide) :
    PE X (.Call (.Name x p) [e1, e2, .Lambda params body scope lpos] [] pos) (tLam3b X.N p0 T (X.env.qual ++ "<lambda>") TT t1 t2 t) := by
  refine ⟨fun pins s σ H Q I ⟨hfree, h⟩ => ?_⟩
  have hp0 := slotFree_at hfree
  refine wpAny_Call_Name_kw (ld_glob I hg hm ?_ hdb)
  refine PySem.W.callWith_K (h₀ := X.base) I.ok.mod.kin hk ?_ he1 hpl
  rw [he1]
  show wpAny _ _ (spliced ((false, eval e1 X.env) :: backTo pos (starEach [e2, .Lambda params body scope lpos] X.env))) _ _ s
  rw [he2]
  show wpAny _ _ (spliced ((false, eval e1 X.env) :: (false, eval e2 X.env) :: backTo pos (starEach [.Lambda params body scope lpos] X.env))) _ _ s
  rw [he3]
  show wpAny _ _ (spliced ((false, eval e1 X.env) :: (false, eval e2 X.env) :: (false, eval (.Lambda params body scope lpos) X.env) :: backTo pos (starEach [] X.env))) _ _ s
  refine Calls.spliced_cons (thn (h1.run pins s σ H _ I h) fun u1 s1 ⟨v1, H1, I1, r1, h⟩ => ?_)
  refine Calls.spliced_cons (thn (h2.run pins s1 σ H1 _ I1 h) fun u2 s2 ⟨v2, H2, I2, r2, hT, h⟩ => ?_)
  refine Calls.spliced_cons (lam_make2 I2 TB hcode hmT hu hT hdef (L.has I2.ok) fun f c' pm' ctv H3 s3 I3 eN T3 hf hfn hfr hco => ?_)
  have h := h H3 c' eN T3 hco
  refine Calls.spliced_nil ⟨I3.kIn, ?_⟩
  have rc : codeAny (model X.prog X.w) X.A (.call (.ref g) ⟨[u1, u2, .ref f], []⟩) (CR C8.CX0 X.stack X.prog X.w H3 s3 Q C8.E0) s3 := by
    refine run_ofS (N := Ng) (ps := ps) (us := [u1, u2, .ref f]) (vs := [v1, v2, .ref f]) lk hcg Sg hr I3.env0 (hb s3 [u1, u2, .ref f] I3.kIn (by simp [hps])) (.cons r1 (.cons r2 (.cons rfl .nil))) (by simp [hps]) fun hr' => ?_
    obtain ⟨t', ht', hq'⟩ := hG f c' s3 H3 v1 v2 Q (fun v H' Q' => t (σ ++ [some v]) H' Q') (fun e ta p1 p2 ha he => pe_actS I3 L hp0 hf hfn hfr (fun u => hbind _ _ _ _ _ u) hr' (fun A outer s H hr2 => hbody A outer s H f c' hr2) hNg hva hd hcd ha he) hco hr' h
    exact ⟨t', ht'.nox, hq'⟩
  refine wpAny_call (codeAny_mono rc fun r s4 hq => ?_)
  cases r with
  | error e => exact (show False from hq).elim
  | ok fl =>
    cases fl with
    | ret u => exact I3.after hq
    | next => exact False.elim hq
    | brk => exact False.elim hq
    | cont => exact False.elim hq
end
end LamX
namespace Iz
open PySem PySem.Spec PyProof.Rows L2 LamX
theorem plam3b {X : Cx} {TS : List (Addr × Str)} {x a p0 : Str} {st : Stmt} {N ps : List Str} {TT : (V → Hp → VK → Prop) → V → V → Hp → VK → Prop} {c P : Addr} {qn : Str} {params : Arguments} {body e1 e2 : Expr} {scope : Scope} {t1 t2 t : TE} {p lpos pos : Pos}
    (F : ∃ (f : Addr) (fd : FuncData), X.mg x = some (.ref f) ∧ Fun X.K x x st f fd) (S : FnScope N ps (defScope st))
    (hb : ∀ (kV doc pm : Value) (an : Option Addr) (cdv ct : Value) (us : List Value), us.length = ps.length → bindArgs (PySem.W.fnOf x x (defArgs st) (defBody st) (defScope st) .none kV doc pm an cdv ct) ⟨us, []⟩ = pure (ps.zip us))
    (hG : ∀ (g : Addr) (cdg : Value), GivesP2 X N x (defScope st) g cdg (defBody st) a qn TT)
    (hm : (P, qn) ∈ TS) (hu : ∀ q ∈ TS, q.1 = P → q.2 = qn) (TB : TabB X.base X.mg c P) (hcode : X.env.code = .ref c) (hq : X.env.qual ++ "<lambda>" = qn) (hr : Room 9 X.A) (L : lamPB X.env.scope scope p0 = true)
    (h1 : PE X e1 t1) (h2 : PE X e2 t2)
    (hbody : ∀ (A : Around) (outer : List Env) (s : Shared) (H : Hp) (f c' : Addr), Room 7 (A.deeper (lamEnv X scope s.heap.objs.size f c')) → PE (lamCxP X A outer s H (fun _ _ _ => False) scope f c' p0) body t)
    (hps : ps.length = 3 := by rfl) (hdef : defaultsOf params X.env = ([], []) := by rfl) (hg : Gl X x := by rfl) (hv : Vis (defScope st) a := by first | exact Or.inl rfl | exact Or.inr (Or.inl rfl)) (hNa : N[2]? = some a := by rfl)
    (hbind : ∀ (q : Str) (cl : List (Str × Addr)) (pm cv ctv u : Value), bindArgs (PySem.W.kla_fn "<lambda>" q params body scope cl pm cv ctv) ⟨[u], []⟩ = pure [(p0, u)] := by intros; rfl)
    (he1 : starEach [e1, e2, .Lambda params body scope lpos] X.env = (false, eval e1 X.env) :: starEach [e2, .Lambda params body scope lpos] X.env := by rfl) (he2 : starEach [e2, .Lambda params body scope lpos] X.env = (false, eval e2 X.env) :: starEach [.Lambda params body scope lpos] X.env := by rfl)
    (he3 : starEach [.Lambda params body scope lpos] X.env = (false, eval (.Lambda params body scope lpos) X.env) :: starEach [] X.env := by rfl) (hpl : (backTo pos (starEach [e2, .Lambda params body scope lpos] X.env)).any (·.1) = false := by rfl)
    (hdb : (x == ("__debug__" : Str)) = false := by decide) (hd : (a == ("__debug__" : Str)) = false := by decide) (hcd : (a == ("__classdict__" : Str)) = false := by decide) :
    PE X (.Call (.Name x p) [e1, e2, .Lambda params body scope lpos] [] pos) (tLam3b X.N p0 TS qn TT t1 t2 t) := by
  subst hq
  obtain ⟨g, fd, hmg, F⟩ := F
  obtain ⟨oc, od, kV, doc, pm, an, cdv, ct, osl, rfl, lk, hcg⟩ := F.ex
  exact pe_lamcall3b hg hmg F.kp lk hcg (.all (hb kV doc pm an cdv ct)) S hps hNa hv (hG g cdv) TB hcode hm hu hr (lamP_by L) hdef hbind h1 h2 hbody he1 he2 he3 hpl hdb hd hcd
/-! ### a method called within a try, the slots known -/
def tMtS (C : Addr) (m : Str) (sp : Sp) (dv : List V) (E : L2.St → XK) (ta : TE) (t : TA) : TE := fun σ H Q => ta σ H fun x H1 => ∃ a dx fs, x = .ref a ∧ H1 a = some (.ins C dx fs) ∧ fs.lookup m = none ∧ t σ H1 fun vs H2 => sp (x :: (vs ++ dv)) H2 Q (E σ)
theorem pmtS {X : Cx} {CX : CXT} {k j : Nat} {x m : Str} {ps : List Str} {dvs : List V} {sp : Sp} {E : L2.St → XK} {o e : Expr} {es : List Expr} {ta : TE} {t : TA} {pos apos : Pos} {pl : Sem Bool} (O : OkM X.prog X.w X.K X.mg X.base CX k x m ps dvs sp) (C : Cls X.K (He.ga X.K x)) (he : PE X o ta) (hj : j ≤ dvs.length) (hr : Room k X.A) (hx : ∀ σ, PassesAt CX X σ (E σ)) (ha : PA X (e :: es) t)
    (hst : starEach (e :: es) X.env = (false, eval e X.env) :: starEach es X.env := by rfl) (hpl : (backTo pos (starEach es X.env)).any (·.1) = false := by rfl)
    (ht : eval (.Call (.Attribute o m apos) (e :: es) [] pos) X.env = (do
      let ov ← eval o X.env; standAt apos.atName
      let (f, first) ← holding [ov] (getMethod ov m pl)
      callWith pos f first (backTo pos (starEach (e :: es) X.env)) (backToKw pos (keywordEach [] X.env))) := by rfl) :
    PE X (.Call (.Attribute o m apos) (e :: es) [] pos) (tMtS (He.ga X.K x) m sp (dvs.drop j) E ta t) := by
  obtain ⟨f, fd, M, b, F⟩ := O.ex
  obtain ⟨ds, hd, hb⟩ := b j hj
  refine ⟨fun pins s σ H Q I h => ?_⟩
  refine PySem.W.methodCall_KW (pl := pl) (thn (he.run pins s σ H _ I h) fun u s1 ⟨x, H1, I1, rx, a, dx, fs, ex, ea, l, q⟩ => ?_) ht
  subst ex
  obtain rfl : u = Value.ref a := rx
  refine getmeth_ok I1 ea C M l ?_
  refine PySem.W.callWith_K (first := [.ref a]) (h₀ := X.base) I.ok.mod.kin M.kp (thn (ha.run pos pins s1 σ H1 _ I1 q) fun us s2 ⟨vs, H2, I2, r, q2⟩ => ⟨I2.kIn, ?_⟩) hst hpl
  exact run_fnSD (us := .ref a :: us) (vs := .ref a :: vs) F hr hb hd (hx σ) I2 (.cons rfl r) q2
end Iz
/-! Oe -/
set_option Elab.async false
set_option linter.all false
set_option maxRecDepth 100000
set_option maxHeartbeats 4000000
namespace Iz
open PySem PySem.Spec PyProof.Rows L2
open He (ga)
/-! ### own errors over OverflowError, with one field -/
/-- what stands behind the class itself -/
def oeT : List Value := [.type "OverflowError", .type "ArithmeticError", .type "Exception", .type "BaseException", .type "object"]
theorem oeT_pass (v : Value) : refuseLoop v "__setattr__" oeT = pure () := by unfold oeT; kernel_rfl
section
open Builtin Builtin.ObjectAttr PySem.HandSPX
variable {prog : Program} {w : World} {A : Around} {E : Value → Shared → Prop} {R : Result → Shared → Prop} {hp : Heap} {g : Array GenState} {dr : Drawn} {n : Nat} {os : OsState}
/-- the first field of such an error -/
theorem first_field {K : PySem.W.Frag} {f : Str} {tk : Tok} {v : Value} {x C : Addr} {fv : Array Value} {cd : ClassData} (kin : K.In hp) (at_ : hp.get? x = some { cls := .ref C, data := .fields fv }) (cl : PySem.W.clsIn K C = some cd) (mr : cd.mro = .ref C :: oeT) (di : cd.hasDict = true) (no : PySem.W.findIn K (.ref C) f = some none)
    (go : ∀ h' tk' dx, (∀ b o, b ≠ x → hp.get? b = some o → h'.get? b = some o) → hp.objs.size ≤ dx → dx ≠ x → h'.get? x = some { cls := .ref C, dict := some dx, data := .fields fv } → h'.Ns1 dx (fun y => if y = f then some v else none) → R (.ok (.ret .none)) ⟨h', g, dr, tk', os⟩) :
    codeAny (model prog w) A (.call (.builtin "object.__setattr__") ⟨[.ref x, .str f tk, v], []⟩) R ⟨hp, g, dr, n, os⟩ := by
  have inst : PySem.W.InstAt hp x { cls := .ref C, data := .fields fv } C none := ⟨at_, rfl, rfl, trivial⟩
  have hasO : (Value.ref C :: oeT).contains (.type "object") = true := by rw [List.contains_cons, show oeT.contains (.type "object") = true from by decide +kernel, Bool.or_true]
  have xs : x ≠ hp.objs.size := Nat.ne_of_lt (Heap.lt_size at_)
  have isO : PySem.W.Looks (model prog w) hp (isInstance (.ref x) (.type "object")) true := inst.type.andThen (PySem.W.looks_mroIn kin (by unfold PySem.W.mroIn; rw [cl, Option.bind_some, mr, if_neg (show ¬ (Value.ref C :: oeT).isEmpty = true from by simp), hasO]))
  have look : PySem.W.Looks (model prog w) hp (classData C) cd := PySem.W.looks_clsIn kin cl
  have order : PySem.W.Looks (model prog w) hp (mroOf (.ref C)) cd.mro := look.andThen .now
  have taker : PySem.W.Looks (model prog w) hp (storeTaker? none) none := .now
  refine codeAny_call_builtin F.store_object.slot.plain F.store_object.entry (@PySem.W.check_slot (model prog w) _ _ ⟨hp, g, dr, n, os⟩ "object.__setattr__" "object" "__setattr__" (.ref x) [.str f tk, v] [] _ F.store_object.kind F.store_object.split isO (F.store_object.args (.ref x) (.str f tk) v) ?_)
  rw [PySem.W.osa_eq, refuse_eq]
  refine wpAny_bind (wpAny_bind (inst.type.at (wpAny_bind (order.at (by
    rw [mr, refuseLoop_ref, oeT_pass]
    refine wpAny_pure (wpAny_bind (inst.type.at (wpAny_bind ((PySem.W.looks_findIn kin no).at (wpAny_bind (taker.at ?_))))))
    show wpAny _ _ (storeInOwnDict (.ref x) (.ref C) (.str f tk) f v false) _ _ _
    obtain ⟨c1, c2, c3, c4, c5, c6, c7, c8, c9, c10, c11⟩ := cd
    have di' : c6 = true := di
    subst di'
    unfold storeInOwnDict ownDictForStores
    repeat (first | with_reducible refine store_in_new ?_ ?_ | with_reducible refine wpAny_loadPart_at at_ ?_ | with_reducible refine look.at ?_ | wp_step)
    · exact ⟨_, #[], _, (Heap.get?_update_ne _ _ _ _ xs.symm).trans (Heap.get?_push_at rfl rfl), rfl, fun e he => absurd he (by simp), fun _ => rfl⟩
    · intro h' tk' ns same
      have up := Heap.get?_push_of_some { cls := .type "dict", data := .dict #[] } at_
      exact go h' tk' hp.objs.size (fun b o nb ob => (same.2 b (Nat.ne_of_lt (Heap.lt_size ob))).trans ((Heap.get?_update_ne _ _ _ _ nb).trans (Heap.get?_push_of_some _ ob))) (Nat.le_refl _) xs.symm ((same.2 x xs).trans (Heap.get?_update_self _ up rfl)) ns)))))
end
/-- what the top says of the class -/
structure OexO (K : PySem.W.Frag) (C : Addr) : Prop where
  cls : ∃ nm q N bs sn sub ab col dd k0 k1 k2 k3 k5, K.lookup C = some (excClassObj nm q C N bs oeT true sn sub ab col dd k0 k1 k2 k3 k5 "OverflowError.__new__")
  sa : PySem.W.findIn K (.ref C) "__setattr__" = some (some (.builtin "object.__setattr__"))
  exC : PySem.W.subIn K (.ref C) (.type "BaseException") = some true
  tyC : PySem.W.typeIn K (.ref C) = some (.type "type")
  kC : PySem.W.keepIn K (.ref C) = true
section
variable {X : Cx} {pins : List (Addr × Obj)} {σ : L2.St} {H : Hp} {s : Shared} {a C : Addr} {f : Str} {y : V} {u : Value} {E : Value → Shared → Prop} {A : Around}
theorem sto_first {Q : Unit → Shared → Prop} (T : OexO X.K C) (I : Inv X pins σ H s) (e : H a = some (exo a C none)) (no : PySem.W.findIn X.K (.ref C) f = some none) (ry : RelV y u)
    (k : ∀ dx s', H dx = none → dx ≠ a → Inv X pins σ (upd (upd H dx (exd dx [(f, y)])) a (exo a C (some dx))) s' → Q () s') : wpAny (model X.prog X.w) A (setAttr (.ref a) f u) Q E s := by
  obtain ⟨nm, q, N, bs, sn, sub, ab, col, dd, k0, k1, k2, k3, k5, hC⟩ := T.cls
  have cl : PySem.W.clsIn X.K C = some { name := nm, bases := bs, mro := .ref C :: oeT, ns := N, qualname := q, hasDict := true, slotNames := sn, subclasses := sub, abstract := ab, collection := col, hasDel := false } := by unfold PySem.W.clsIn; rw [hC] <;> rfl
  obtain ⟨t1, ho⟩ := exo_at I.hok e
  obtain ⟨hp, g, dr, tk, os⟩ := s
  refine PySem.W.set_plain I.kIn (ox := { cls := .ref C, dict := none, data := .fields #[.ref t1, .none, .none, .none, .bool false, .none] }) (od := none) ⟨ho, rfl, rfl, trivial⟩ T.sa (first_field I.kIn ho cl rfl rfl no fun h' tk' dx keep fresh ndx hx ns => ?_)
  have free : H dx = none := I.hok.fresh fresh
  have old : ∀ {b : Addr} {o : Obj}, hp.get? b = some o → b ≠ dx := fun {b o} z => Nat.ne_of_lt (Nat.lt_of_lt_of_le (Heap.lt_size z) fresh)
  have apart : ∀ {b : Addr}, H b = none → b ≠ a := fun {b} z z2 => by rw [z2, e] at z; cases z
  refine k dx _ free ndx (I.un (t' := tk') ?_ fun b o z => ?_)
  · exact ⟨fun b o z z1 _ _ => keep b o (apart z1) z, fun b o z z1 _ _ => ⟨o.slots, keep b o (apart z1) z⟩, fun b o z z1 _ => by rw [upd_ne (apart z1), upd_ne (old z)]; exact z1,
      fun b o z _ => (by by_cases hb : b = a; · { subst hb; exact ⟨_, hx⟩ }; · exact ⟨o, keep b o hb z⟩), fun b xs z => by rw [upd_ne (at_ne e z exo_tup), upd_ne (ne_of_none z free)]; exact z,
      fun b o v z => by rw [upd_ne (at_ne e z exo_frz), upd_ne (ne_of_none z free)]; exact z, fun b ps z => ⟨#[], by rw [upd_ne (at_ne e z exo_tbl), upd_ne (ne_of_none z free), z]; simp⟩⟩
  · by_cases hb : b = a
    · subst hb; rw [upd_same] at z; cases z; exact exo_ok hx
    · rw [upd_ne hb] at z
      by_cases hd : b = dx
      · subst hd; rw [upd_same] at z; cases z; exact exd_ok ns (relO_put (fs := []) ry fun g => True.intro)
      · rw [upd_ne hd] at z
        refine (I.hok b o z).stay (fun c v hc z2 => keep c v (fun z3 => ?_) z2) (fun c hc => by rw [upd_ne (at_ne e hc exo_own), upd_ne (ne_of_none hc free)]; exact hc) (fun c xs hc => by rw [upd_ne (at_ne e hc exo_tup), upd_ne (ne_of_none hc free)]; exact hc)
        rcases hc with hc | hc
        · exact hb (hc ▸ z3)
        · exact at_ne e hc exo_own z3
end
/-- self.f = e -/
def tOstO (K : PySem.W.Frag) (f : Str) (to te : TE) : TS := fun D σ H => te σ H fun y H1 => to σ H1 fun x H2 => ∃ a C : Addr, x = .ref a ∧ OexO K C ∧ PySem.W.findIn K (.ref C) f = some none ∧ H2 a = some (exo a C none) ∧ ∀ dx, H2 dx = none → dx ≠ a → D.nx σ (upd (upd H2 dx (exd dx [(f, y)])) a (exo a C (some dx)))
theorem ps_ostO {X : Cx} {o e : Expr} {to te : TE} {f : Str} {p' pos : Pos} (ho : PE X o to) (he : PE X e te) (hs : swapsWith e (some (.Attribute o f p')) pos.line X.env = pure false := by rfl) : PS X (.Assign [.Attribute o f p'] e pos) (tOstO X.K f to te) :=
  ⟨fun pins s σ H D I h => plainObj_wpAny_Assign_Attribute (thn (he.run pins s σ H _ I h) fun v s1 ⟨y, H1, I1, r1, q1⟩ => thn (ho.run pins s1 σ H1 _ I1 q1) fun u s2 ⟨x, H2, I2, r2, a, C, ex, T, no, ea, q⟩ => by
    subst ex; obtain rfl : u = Value.ref a := r2
    exact sto_first T I2 ea no r1 fun dx s' n1 n2 J => ⟨σ, _, J, q dx n1 n2⟩) hs⟩
/-- such an error, made by its class -/
theorem pmk_over {X : Cx} {CX : CXT} {x : Str} {C fI : Addr} {k : Nat} {fd : FuncData} {ps : List Str} {sp : Sp} {e : Expr} {es : List Expr} {ta : TA} {p pos : Pos} (T : OexO X.K C) (iC : PySem.W.findIn X.K (.ref C) "__init__" = some (some (.ref fI))) (tI : PySem.W.typeIn X.K (.ref fI) = some (.type "function"))
    (G : FnOk X.prog X.w X.K X.mg X.base CX k fI fd ps sp) (hr : Room (k + 1) X.A) (hb : Binds X.K fd ps []) (hx : Passes CX X (fun _ _ _ => False)) (hg : Gl X x) (hm : X.mg x = some (.ref C)) (ha : PA X (e :: es) ta)
    (hdb : (x == ("__debug__" : Str)) = false := by decide) (he : starEach (e :: es) X.env = (false, eval e X.env) :: starEach es X.env := by rfl) (hpl : (backTo pos (starEach es X.env)).any (·.1) = false := by rfl) :
    PMk X (.Call (.Name x p) (e :: es) [] pos) (tMkO C sp [] ta) := fun pins s σ H Q I h => by
  obtain ⟨nm, q, N, bs, sn, sub, ab, col, dd, k0, k1, k2, k3, k5, hC⟩ := T.cls
  refine wpAny_Call_Name_kw (ld_glob I hg hm (PySem.W.callWith_K (h₀ := X.base) I.ok.mod.kin T.kC (thn (ha.run pos pins s σ H _ I h) fun us s1 ⟨vs, H1, I1, r1, hz, q1⟩ => ⟨I1.kIn, ?_⟩) he hpl) hdb)
  obtain ⟨hp, g, dr, tk, os⟩ := s1
  show wpAny _ _ (call (.ref C) us) _ _ _
  have big : hp.objs.size ≤ hp.objs.size + 1 := Nat.le_succ _
  have want := q1 (hp.objs.size + 1) (I1.hok.fresh big)
  have keep : ∀ b o, hp.get? b = some o → ((hp.push (PySem.W.kdv_tup us)).push (PySem.HandSPX.excO C hp.objs.size)).get? b = some o := fun b o z => Heap.get?_push_of_some _ (Heap.get?_push_of_some _ z)
  have there : ((hp.push (PySem.W.kdv_tup us)).push (PySem.HandSPX.excO C hp.objs.size)).get? (hp.objs.size + 1) = some (PySem.HandSPX.excO C hp.objs.size) := by heap_get
  have I2 : Inv X pins σ (upd H1 (hp.objs.size + 1) (exo (hp.objs.size + 1) C none)) ⟨(hp.push (PySem.W.kdv_tup us)).push (PySem.HandSPX.excO C hp.objs.size), g, dr, tk, os⟩ := I1.laid (t' := tk) (a := hp.objs.size + 1) (o := exo (hp.objs.size + 1) C none) (h' := (hp.push (PySem.W.kdv_tup us)).push (PySem.HandSPX.excO C hp.objs.size)) keep big (exo_ok there)
  have rv : Vals (V.ref (hp.objs.size + 1) :: (vs ++ [])) (Value.ref (hp.objs.size + 1) :: (us ++ [])) := .cons rfl (r1.append .nil)
  have len : (Value.ref (hp.objs.size + 1) :: us ++ []).length = ps.length := by have z := rv.length; rw [G.len _ _ _ _ want] at z; exact z.symm
  have few : us.length ≤ sizeLine := by rw [← Paired.length r1, sizeLine_eq]; omega
  have bnd := hb _ (Value.ref (hp.objs.size + 1) :: us) I2.kIn len
  rw [List.append_nil] at bnd
  have rv : Vals (V.ref (hp.objs.size + 1) :: (vs ++ [])) (Value.ref (hp.objs.size + 1) :: us) := .cons rfl (by rw [List.append_nil]; exact r1)
  have mro : ∀ Y : String, oeT.contains (.type Y) = ([.type "OverflowError", .type "ArithmeticError", .type "Exception", .type "BaseException", .type "object"] : List Value).contains (.type Y) := fun Y => rfl
  refine wpAny_call (PySem.HandSPX.call_own F.excBase_OverflowError mro (I1.kIn _ _ hC) (PySem.W.looks_findIn I1.kIn iC) (fun self => PySem.W.bind_fn I1.kIn self tI) few (codeAny_mono (G.run _ X.stack _ _ ⟨Value.ref (hp.objs.size + 1) :: us, []⟩ (Value.ref (hp.objs.size + 1) :: us) _ _ (fun _ _ _ => False)
    (hr.make C us []) (I2.env0.make C us []) bnd rv want) fun r s' z => ?_))
  match r, z with
  | .error er, z => exact hx pins σ _ _ er s' I2 z
  | .ok (.ret u), ⟨v, H2, os2, bare2, un2, hok2, r0, ev, d, fs, ea, ed, hd1, q2⟩ =>
    subst ev
    obtain ⟨h2, g2, d2, t2, os'⟩ := s'
    exact ⟨r0, mk_end (raises_own T.exC T.tyC) I1 big keep un2 hok2 os2 bare2 ea ed hd1 q2⟩
  | .ok .next, z => exact False.elim z
  | .ok .brk, z => exact False.elim z
  | .ok .cont, z => exact False.elim z
/-- the own __init__: it keeps its argument -/
def spXO (K : PySem.W.Frag) (fld : Str) : Sp := fun vs H Q _ => ∃ (a C : Addr) (v : V), vs = [.ref a, v] ∧ OexO K C ∧ PySem.W.findIn K (.ref C) fld = some none ∧ H a = some (exo a C none) ∧
  ∀ dx, H dx = none → dx ≠ a → Q .non (upd (upd H dx (exd dx [(fld, v)])) a (exo a C (some dx)))
section
variable {P : Program} {w : World} {K : PySem.W.Frag} {mg : Str → Option Value} {base : Heap}
theorem ok_xo {qual fld : Str} {st : Stmt} {f : Addr} {fd : FuncData} {p1 p2 p3 p4 : Pos} (F : Fun K "__init__" qual st f fd) (S : FnScope ["self", fld] ["self", fld] (defScope st))
    (hb : defBody st = [.Assign [.Attribute (.Name "self" p1) fld p2] (.Name fld p3) p4]) (h1 : (fld == ("__debug__" : Str)) = false) (h2 : (fld == ("__classdict__" : Str)) = false) : FnOk P w K mg base CX0 1 f fd ["self", fld] (spXO K fld) := by
  refine F.ok S (fun vs H Q E h => ?_) (fun cdv A outer s H vs Q E hr h => ?_)
  · obtain ⟨a, C, v, rfl, _⟩ := h; rfl
  · obtain ⟨a, C, v, rfl, T, hn, ha, k⟩ := h
    rw [hb]
    exact ⟨_, pss_one (ps_ostO (pe_var (i := 0) rfl (vis_of S (by simp))) (pe_var (i := 1) rfl (vis_of S (by simp)) h1 h2)), v, rfl, .ref a, rfl, a, C, rfl, T, hn, ha, k⟩
end
/-- what the top has made of the class x -/
structure ExTO (K : PySem.W.Frag) (mg : Str → Option Value) (x fld : Str) : Prop where
  g : mg x = some (.ref (ga K x))
  ox : OexO K (ga K x)
  xf : XfC K (ga K x)
  no : PySem.W.findIn K (.ref (ga K x)) fld = some none
  ini : ∃ (qual : Str) (st : Stmt) (f : Addr) (fd : FuncData) (p1 p2 p3 p4 : Pos), PySem.W.findIn K (.ref (ga K x)) "__init__" = some (some (.ref f)) ∧ PySem.W.typeIn K (.ref f) = some (.type "function") ∧ Fun K "__init__" qual st f fd ∧ FnScope ["self", fld] ["self", fld] (defScope st) ∧
    defBody st = [.Assign [.Attribute (.Name "self" p1) fld p2] (.Name fld p3) p4] ∧ Binds K fd ["self", fld] []
theorem ps_raiseO {X : Cx} {x fld : Str} {W : WX} {e : Expr} {te : TE} {p pos pos2 : Pos} (T : ExTO X.K X.mg x fld) (hr : Room 2 X.A) (tk : Takes X W) (he : PE X e te) (hc : X.calm = true := by rfl) (hg : Gl X x := by rfl) (hdb : (x == ("__debug__" : Str)) = false := by decide)
    (hd1 : (fld == ("__debug__" : Str)) = false := by decide) (hd2 : (fld == ("__classdict__" : Str)) = false := by decide)
    (hs : starEach [e] X.env = (false, eval e X.env) :: starEach [] X.env := by rfl) (hpl : (backTo pos (starEach [] X.env)).any (·.1) = false := by rfl) : PS X (.Raise (some (.Call (.Name x p) [e] [] pos)) none pos2) (tRaiseX X.K x fld W te) := by
  obtain ⟨qual, st, f, fd, p1, p2, p3, p4, hi, ht, F, S, hb, B⟩ := T.ini
  have G : FnOk X.prog X.w X.K X.mg X.base CX0 1 f fd ["self", fld] (spXO X.K fld) := ok_xo F S hb hd1 hd2
  refine PS.imp (ps_raise hc tk (pmk_over (k := 1) T.ox hi ht G hr B (pass0) hg T.g (pa_cons (PE.mcl he) pa_nil hs) hdb hs hpl)) fun D σ H q => ⟨_, q, fun v H1 k => ⟨by show 1 ≤ 1000; decide, fun a ha => ⟨a, _, v, rfl, T.ox, T.no, upd_same, fun dx hdx hne => ⟨rfl, dx, _, upd_same, by rw [upd_ne hne, upd_same], ?_, ?_⟩⟩⟩⟩
  · rw [upd_ne hne] at hdx; exact hdx
  · have hdn : H1 dx = none := by rw [upd_ne hne] at hdx; exact hdx
    refine k dx _ hdn (fun b u e => ?_) upd_same
    have h1 := ne_of_none e hdn
    have h2 := ne_of_none e ha
    rw [upd_ne h1, del_ne h2, upd_ne h2, upd_ne h1, upd_ne h2]
    exact e
theorem exto_mk {K : PySem.W.Frag} {mg : Str → Option Value} {h : Heap} (X : K.In h) (G : h.Ns mainGlobals mg) {x fld qual nm q : Str} {st : Stmt} {C f N : Addr} {bs bm sub : List Value} {sn : List Str} {ab : Bool} {col : Option Bool} {dd od an : Option Addr} {m0 m1 m2 m3 m5 : Option Value} {oc kV dc pm cd ct : Value} {sl : Array (Option Value)} {p1 p2 p3 p4 : Pos}
    (aC : PySem.W.nsIn K mainGlobals x = some (some (.ref C))) (xL : K.lookup C = some (excClassObj nm q C N bs bm true sn sub ab col dd m0 m1 m2 m3 m5 "OverflowError.__new__")) (hbm : bm = oeT)
    (sa : PySem.W.findIn K (.ref C) "__setattr__" = some (some (.builtin "object.__setattr__"))) (exC : PySem.W.subIn K (.ref C) (.type "BaseException") = some true) (tyC : PySem.W.typeIn K (.ref C) = some (.type "type")) (kC : PySem.W.keepIn K (.ref C) = true)
    (gA : PySem.W.findIn K (.ref C) "__getattribute__" = some (some (.builtin "BaseException.__getattribute__"))) (gG : PySem.W.findIn K (.ref C) "__getattr__" = some none) (hd : PySem.W.hasDictIn K C = true) (no : PySem.W.findIn K (.ref C) fld = some none)
    (iC : PySem.W.findIn K (.ref C) "__init__" = some (some (.ref f))) (tI : PySem.W.typeIn K (.ref f) = some (.type "function"))
    (lI : K.lookup f = some ⟨oc, od, .func (PySem.W.fnOf "__init__" qual (defArgs st) (defBody st) (defScope st) .none kV dc pm an cd ct), sl⟩) (cI : PySem.W.codeIn K cd qual = true) (kI : PySem.W.keepIn K (.ref f) = true)
    (S : FnScope ["self", fld] ["self", fld] (defScope st)) (hb : defBody st = [.Assign [.Attribute (.Name "self" p1) fld p2] (.Name fld p3) p4])
    (hB : ∀ (kV doc pm : Value) (an : Option Addr) (cdv ct : Value) (us : List Value), us.length = (["self", fld] : List Str).length → bindArgs (PySem.W.fnOf "__init__" qual (defArgs st) (defBody st) (defScope st) .none kV doc pm an cdv ct) ⟨us, []⟩ = pure ((["self", fld] : List Str).zip us)) : ExTO K mg x fld := by
  have e := ga_of aC
  subst hbm
  refine ⟨?_, ?_, ?_, ?_, ?_⟩
  · rw [e]; exact PySem.W.mg_of X G aC
  · rw [e]; exact ⟨⟨_, _, _, _, _, _, _, _, _, _, _, _, _, _, xL⟩, sa, exC, tyC, kC⟩
  · rw [e]; exact ⟨gA, gG, exC, hd⟩
  · rw [e]; exact no
  · rw [e]; exact ⟨qual, st, f, _, p1, p2, p3, p4, iC, tI, fun_mk lI cI kI, S, hb, (fun_mk (st := st) lI cI kI).binds hB⟩
end Iz
/-! Cp -/
set_option Elab.async false
set_option linter.all false
set_option maxRecDepth 100000
set_option maxHeartbeats 4000000
namespace Iz
/-! ### carpets: the mathematics -/
/-- the colour of a cell, told by b and the rows -/
def colR (b : Int) (rows : List (List Nat)) (x y : Int) : Nat :=
  let r := rows.getD (y % rows.length).toNat []
  r.getD ((x - b * (y / rows.length)) % r.length).toNat 0
structure RowsOk (a d : Nat) (rows : List (List Nat)) : Prop where
  a1 : 1 ≤ a
  d1 : 1 ≤ d
  len : rows.length = d
  all : ∀ r ∈ rows, r.length = a
def Per (C : Int → Int → Nat) (s t : Int) : Prop := ∀ x y, C (x + s) (y + t) = C x y
theorem Per.zero {C : Int → Int → Nat} : Per C 0 0 := fun x y => by rw [Int.add_zero, Int.add_zero]
theorem Per.add {C : Int → Int → Nat} {s t s' t' : Int} (p : Per C s t) (q : Per C s' t') : Per C (s + s') (t + t') := fun x y => by
  rw [← Int.add_assoc, ← Int.add_assoc, q, p]
theorem Per.neg {C : Int → Int → Nat} {s t : Int} (p : Per C s t) : Per C (-s) (-t) := fun x y => by
  have := p (x + -s) (y + -t)
  rw [Int.neg_add_cancel_right, Int.neg_add_cancel_right] at this
  exact this.symm
theorem Per.nsmul {C : Int → Int → Nat} {s t : Int} (p : Per C s t) (n : Nat) : Per C (n * s) (n * t) := by
  induction n with
  | zero => simpa using Per.zero
  | succ n ih => have := ih.add p; rwa [show ((n + 1 : Nat) : Int) * s = n * s + s by rw [Int.natCast_add, Int.add_mul]; simp, show ((n + 1 : Nat) : Int) * t = n * t + t by rw [Int.natCast_add, Int.add_mul]; simp]
theorem Per.smul {C : Int → Int → Nat} {s t : Int} (p : Per C s t) (n : Int) : Per C (n * s) (n * t) := by
  rcases Int.eq_nat_or_neg n with ⟨m, rfl | rfl⟩
  · exact p.nsmul m
  · have := (p.nsmul m).neg; rwa [← Int.neg_mul, ← Int.neg_mul] at this
theorem Per.sub {C : Int → Int → Nat} {s t s' t' : Int} (p : Per C s t) (q : Per C s' t') : Per C (s - s') (t - t') := p.add q.neg
/-- rows in their places -/
theorem RowsOk.row {a d : Nat} {rows : List (List Nat)} (R : RowsOk a d rows) (y : Int) : ∃ r, rows[(y % (d : Int)).toNat]? = some r ∧ r.length = a ∧ rows.getD (y % rows.length).toNat [] = r := by
  have d1 := R.d1
  have m0 := Int.emod_nonneg y (b := (d : Int)) (by omega)
  have m1 := Int.emod_lt_of_pos y (b := (d : Int)) (by omega)
  have hl : (y % (d : Int)).toNat < rows.length := by have := R.len; omega
  refine ⟨rows[(y % (d : Int)).toNat], List.getElem?_eq_getElem hl, R.all _ (List.getElem_mem hl), ?_⟩
  rw [R.len, List.getD_eq_getElem?_getD, List.getElem?_eq_getElem hl]; rfl
theorem RowsOk.col {a d : Nat} {rows : List (List Nat)} (R : RowsOk a d rows) {b x y : Int} {r : List Nat} (h : rows[(y % (d : Int)).toNat]? = some r) : colR b rows x y = r.getD ((x - b * (y / d)) % (a : Int)).toNat 0 := by
  obtain ⟨r', e, l, g⟩ := R.row y
  rw [h] at e; cases e
  rw [R.len] at g
  simp only [colR, R.len, g, l]
theorem RowsOk.per_a {a d : Nat} {rows : List (List Nat)} (R : RowsOk a d rows) {b : Int} : Per (colR b rows) a 0 := fun x y => by
  obtain ⟨r, e, l, g⟩ := R.row y
  rw [Int.add_zero, R.col e, R.col e]
  have : x + (a : Int) - b * (y / d) = (x - b * (y / d)) + a := by omega
  rw [this, Int.add_emod_right]
theorem RowsOk.per_bd {a d : Nat} {rows : List (List Nat)} (R : RowsOk a d rows) {b : Int} : Per (colR b rows) b d := fun x y => by
  have d1 := R.d1
  obtain ⟨r, e, l, g⟩ := R.row y
  have e' : rows[((y + (d : Int)) % (d : Int)).toNat]? = some r := by rw [Int.add_emod_right]; exact e
  rw [R.col e', R.col e]
  have h1 : (y + (d : Int)) / d = y / d + 1 := by rw [Int.add_ediv_of_dvd_right (Int.dvd_refl _), Int.ediv_self (by omega)]
  have : x + b - b * (y / d + 1) = x - b * (y / d) := by rw [Int.mul_add, Int.mul_one]; omega
  rw [h1, this]
/-- a place's own colour -/
theorem RowsOk.at {a d : Nat} {rows : List (List Nat)} (R : RowsOk a d rows) {b : Int} {j : Nat} {r : List Nat} (h : rows[j]? = some r) (i : Nat) (hi : i < a) : colR b rows i j = r.getD i 0 := by
  have hj : j < d := by have := (List.getElem?_eq_some_iff.mp h).1; have := R.len; omega
  have hm : ((j : Int) % (d : Int)) = j := Int.emod_eq_of_lt (by omega) (by omega)
  have hd : ((j : Int) / (d : Int)) = 0 := Int.ediv_eq_zero_of_lt (by omega) (by omega)
  have h' : rows[((j : Int) % (d : Int)).toNat]? = some r := by rw [hm]; exact h
  rw [R.col h', hd, Int.mul_zero, Int.sub_zero, Int.emod_eq_of_lt (by omega) (by omega), Int.toNat_natCast]
/-- a row turned by w signs -/
def tn (w : Nat) (r : List Nat) : List Nat := r.drop w ++ r.take w
theorem tn_length {w : Nat} {r : List Nat} : (tn w r).length = r.length := by
  simp only [tn, List.length_append, List.length_drop, List.length_take]; omega
theorem tn_get {w i : Nat} {r : List Nat} (hw : w ≤ r.length) (hi : i < r.length) : (tn w r).getD i 0 = r.getD ((i + w) % r.length) 0 := by
  unfold tn
  simp only [List.getD_eq_getElem?_getD]
  congr 1
  by_cases h : i < r.length - w
  · rw [List.getElem?_append_left (by rw [List.length_drop]; exact h), List.getElem?_drop, Nat.mod_eq_of_lt (by omega), Nat.add_comm]
  · rw [List.getElem?_append_right (by rw [List.length_drop]; omega), List.length_drop, List.getElem?_take, if_pos (by omega)]
    congr 1
    rw [Nat.mod_eq_sub_mod (by omega), Nat.mod_eq_of_lt (by omega)]
    omega
theorem getD_ext {r r' : List Nat} (hl : r.length = r'.length) (h : ∀ i, i < r.length → r.getD i 0 = r'.getD i 0) : r = r' := by
  refine List.ext_getElem hl fun i h1 h2 => ?_
  have := h i h1
  simpa only [List.getD_eq_getElem?_getD, List.getElem?_eq_getElem h1, List.getElem?_eq_getElem h2, Option.getD_some] using this
/-- the shift (s, y) leads each row to itself -/
def again (b : Int) (rows : List (List Nat)) (s : Int) (y : Nat) : Prop :=
  ∀ j r, rows[j]? = some r → ∃ o, rows[(j + y) % rows.length]? = some o ∧ tn ((s - b * (((j + y) / rows.length : Nat) : Int)) % (r.length : Int)).toNat o = r
theorem again_iff {a d : Nat} {rows : List (List Nat)} (R : RowsOk a d rows) {b s : Int} {y : Nat} : again b rows s y ↔ Per (colR b rows) s y := by
  have d1 := R.d1
  have a1 := R.a1
  have key : ∀ (j : Nat) (r o : List Nat), rows[j]? = some r → rows[(j + y) % d]? = some o → ∀ i, i < a → colR b rows ((i : Int) + s) ((j : Int) + y) = (tn ((s - b * (((j + y) / d : Nat) : Int)) % (a : Int)).toNat o).getD i 0 := by
    intro j r o hj ho i hi
    have lo : o.length = a := R.all _ (List.mem_of_getElem? ho)
    have ho' : rows[(((j : Int) + y) % (d : Int)).toNat]? = some o := by
      rw [show (((j : Int) + y) % (d : Int)) = (((j + y) % d : Nat) : Int) by simp, Int.toNat_natCast]; exact ho
    have m0 := Int.emod_nonneg (s - b * (((j + y) / d : Nat) : Int)) (b := (a : Int)) (by omega)
    have m1 := Int.emod_lt_of_pos (s - b * (((j + y) / d : Nat) : Int)) (b := (a : Int)) (by omega)
    rw [R.col ho', tn_get (by omega) (by omega), lo]
    congr 1
    rw [show (((j : Int) + y) / (d : Int)) = (((j + y) / d : Nat) : Int) by simp]
    generalize hu : s - b * (((j + y) / d : Nat) : Int) = u at *
    have e1 : (i : Int) + s - b * (((j + y) / d : Nat) : Int) = i + u := by omega
    rw [e1]
    have e2 : (((i + (u % (a : Int)).toNat) % a : Nat) : Int) = ((i : Int) + u) % a := by
      rw [Int.natCast_emod, Int.natCast_add, Int.toNat_of_nonneg m0, Int.add_emod_emod]
    omega
  constructor
  · intro h x z
    -- reduce (x, z) to a place
    have P1 : Per (colR b rows) a 0 := R.per_a
    have P2 : Per (colR b rows) b d := R.per_bd
    obtain ⟨u, hu⟩ : ∃ u, u = z / (d : Int) := ⟨_, rfl⟩
    obtain ⟨v, hv⟩ : ∃ v, v = (x - b * u) / (a : Int) := ⟨_, rfl⟩
    have m0 := Int.emod_nonneg z (b := (d : Int)) (by omega)
    have m1 := Int.emod_lt_of_pos z (b := (d : Int)) (by omega)
    have n0 := Int.emod_nonneg (x - b * u) (b := (a : Int)) (by omega)
    have n1 := Int.emod_lt_of_pos (x - b * u) (b := (a : Int)) (by omega)
    have Q := (P2.smul u).add (P1.smul v)
    have ez : z = (z % (d : Int)) + (u * d + v * 0) := by have := Int.emod_add_mul_ediv z d; rw [← hu] at this; rw [Int.mul_zero, Int.add_zero, Int.mul_comm u]; exact this.symm
    have ex : x = ((x - b * u) % (a : Int)) + (u * b + v * a) := by
      have := Int.emod_add_mul_ediv (x - b * u) a
      rw [← hv] at this
      rw [Int.mul_comm u, Int.mul_comm v]; omega
    have e1 := Q ((x - b * u) % (a : Int)) (z % (d : Int))
    have e2 := Q ((x - b * u) % (a : Int) + s) (z % (d : Int) + y)
    rw [← ex, ← ez] at e1
    rw [show (x - b * u) % (a : Int) + s + (u * b + v * a) = x + s by omega, show z % (d : Int) + y + (u * d + v * 0) = z + y by omega] at e2
    rw [e1, e2]
    have hj : (z % (d : Int)).toNat < rows.length := by have := R.len; omega
    have hjr := List.getElem?_eq_getElem hj
    obtain ⟨o, ho, ht⟩ := h _ _ hjr
    have lr : (rows[(z % (d : Int)).toNat]).length = a := R.all _ (List.getElem_mem hj)
    rw [R.len] at ho
    rw [R.len, lr] at ht
    have k := key _ _ _ hjr ho ((x - b * u) % (a : Int)).toNat (by omega)
    rw [ht, ← R.at hjr (b := b) _ (by omega)] at k
    rw [Int.toNat_of_nonneg m0, Int.toNat_of_nonneg n0] at k
    exact k
  · intro p j r hj
    have hlt : (j + y) % d < rows.length := by rw [R.len]; exact Nat.mod_lt _ (by omega)
    refine ⟨rows[(j + y) % d], by rw [R.len]; exact List.getElem?_eq_getElem hlt, ?_⟩
    have lr : r.length = a := R.all _ (List.mem_of_getElem? hj)
    have lo : (rows[(j + y) % d]).length = a := R.all _ (List.getElem_mem hlt)
    rw [R.len, lr]
    refine getD_ext (by rw [tn_length, lo, lr]) fun i hi => ?_
    rw [tn_length, lo] at hi
    rw [← key _ _ _ hj (List.getElem?_eq_getElem hlt) i hi, p, R.at hj i hi]
theorem again0 {a d : Nat} {rows : List (List Nat)} (R : RowsOk a d rows) {b : Int} {w : Nat} (hw : w ≤ a) : (∀ r ∈ rows, tn w r = r) ↔ Per (colR b rows) w 0 := by
  have d1 := R.d1
  have hj : ∀ {j : Nat} {r : List Nat}, rows[j]? = some r → j < d ∧ r.length = a := fun h => ⟨by have := (List.getElem?_eq_some_iff.mp h).1; have := R.len; omega, R.all _ (List.mem_of_getElem? h)⟩
  have tna : ∀ r : List Nat, r.length = a → tn (((w : Int)) % (a : Int)).toNat r = tn w r := by
    intro r hr
    by_cases e : w = a
    · subst e; simp [tn, ← hr]
    · rw [Int.emod_eq_of_lt (by omega) (by omega), Int.toNat_natCast]
  have := again_iff R (b := b) (s := w) (y := 0)
  rw [show ((0 : Nat) : Int) = 0 from rfl] at this
  rw [← this]
  constructor
  · intro h j r hr
    obtain ⟨h1, h2⟩ := hj hr
    refine ⟨r, by rw [R.len, Nat.add_zero, Nat.mod_eq_of_lt h1]; exact hr, ?_⟩
    rw [R.len, Nat.add_zero, Nat.div_eq_of_lt h1, h2]
    rw [show (w : Int) - b * ((0 : Nat) : Int) = w by simp, tna r h2]
    exact h r (List.mem_of_getElem? hr)
  · intro h r hr
    obtain ⟨j, hr⟩ := List.getElem?_of_mem hr
    obtain ⟨h1, h2⟩ := hj hr
    obtain ⟨o, ho, ht⟩ := h j r hr
    rw [R.len, Nat.add_zero, Nat.mod_eq_of_lt h1, hr] at ho
    cases ho
    rw [R.len, Nat.add_zero, Nat.div_eq_of_lt h1, h2] at ht
    rwa [show (w : Int) - b * ((0 : Nat) : Int) = w by simp, tna r h2] at ht
/-- the colours of the first w cells of the first h rows -/
def cells (C : Int → Int → Nat) (w h : Nat) : List (List Nat) := (List.range h).map fun (j : Nat) => (List.range w).map fun (i : Nat) => C i j
/-- the normal form of a colouring -/
structure NF (C : Int → Int → Nat) (w s h : Int) (R : List (List Nat)) : Prop where
  w1 : 1 ≤ w
  pw : Per C w 0
  lw : ∀ v, 1 ≤ v → v < w → ¬ Per C v 0
  s0 : 0 ≤ s
  sw : s < w
  h1 : 1 ≤ h
  ph : Per C s h
  lh : ∀ y v, 1 ≤ y → y < h → ¬ Per C v y
  rows : R = cells C w.toNat h.toNat
theorem NF.uniq {C : Int → Int → Nat} {w s h w' s' h' : Int} {R R' : List (List Nat)} (A : NF C w s h R) (B : NF C w' s' h' R') : w = w' ∧ s = s' ∧ h = h' ∧ R = R' := by
  have e1 : w = w' := by
    have := A.lw w' B.w1; have := B.lw w A.w1
    have p := A.pw; have q := B.pw
    by_cases h1 : w < w'
    · exact absurd p (B.lw w A.w1 h1)
    · by_cases h2 : w' < w
      · exact absurd q (A.lw w' B.w1 h2)
      · omega
  have e2 : h = h' := by
    have p := A.ph; have q := B.ph
    by_cases h1 : h < h'
    · exact absurd p (B.lh h s A.h1 h1)
    · by_cases h2 : h' < h
      · exact absurd q (A.lh h' s' B.h1 h2)
      · omega
  subst e1 e2
  have e3 : s = s' := by
    have p := A.ph.sub B.ph
    rw [Int.sub_self] at p
    have a0 := A.s0; have a1 := A.sw; have b0 := B.s0; have b1 := B.sw
    by_cases h1 : s < s'
    · have := p.neg
      rw [Int.neg_zero] at this
      exact absurd this (A.lw _ (by omega) (by omega))
    · by_cases h2 : s' < s
      · exact absurd p (A.lw _ (by omega) (by omega))
      · omega
  exact ⟨rfl, e3, rfl, A.rows.trans B.rows.symm⟩
theorem cells_get {C : Int → Int → Nat} {w h i j : Nat} (hi : i < w) (hj : j < h) : ((cells C w h).getD j []).getD i 0 = C i j := by
  simp [cells, List.getD_eq_getElem?_getD, hi, hj]
theorem NF.same {C C' : Int → Int → Nat} {w s h : Int} {R : List (List Nat)} (A : NF C w s h R) (B : NF C' w s h R) : C = C' := by
  have w1 := A.w1
  have h1 := A.h1
  have red : ∀ {D : Int → Int → Nat}, NF D w s h R → ∀ x y, D x y = (R.getD (y % h).toNat []).getD ((x - s * (y / h)) % w).toNat 0 := by
    intro D N x y
    have m0 := Int.emod_nonneg y (b := h) (by omega)
    have m1 := Int.emod_lt_of_pos y (b := h) (by omega)
    have n0 := Int.emod_nonneg (x - s * (y / h)) (b := w) (by omega)
    have n1 := Int.emod_lt_of_pos (x - s * (y / h)) (b := w) (by omega)
    rw [N.rows, cells_get (by omega) (by omega), Int.toNat_of_nonneg m0, Int.toNat_of_nonneg n0]
    have Q := (N.ph.smul (y / h)).add (N.pw.smul ((x - s * (y / h)) / w))
    have e := Q ((x - s * (y / h)) % w) (y % h)
    have q1 := Int.emod_add_mul_ediv y h
    have q2 := Int.emod_add_mul_ediv (x - s * (y / h)) w
    rw [show (x - s * (y / h)) % w + (y / h * s + (x - s * (y / h)) / w * w) = x by rw [Int.mul_comm (y / h) s, Int.mul_comm _ w]; omega, show y % h + (y / h * h + (x - s * (y / h)) / w * 0) = y by rw [Int.mul_zero, Int.add_zero, Int.mul_comm]; omega] at e
    exact e
  funext x y
  rw [red A, red B]
/-- what the search finds is the normal form -/
theorem nf_found {a d : Nat} {rows : List (List Nat)} (R : RowsOk a d rows) {b : Int} {w h : Nat} {s : Int} (w1 : 1 ≤ w) (wa : w ≤ a) (pw : ∀ r ∈ rows, tn w r = r) (lw : ∀ v, 1 ≤ v → v < w → ¬ ∀ r ∈ rows, tn v r = r)
    (s0 : 0 ≤ s) (sw : s < w) (h1 : 1 ≤ h) (hd : h ≤ d) (ph : Per (colR b rows) s h) (lh : ∀ y : Nat, 1 ≤ y → y < h → d % y = 0 → ∀ v : Nat, v < w → ¬ again b rows v y) :
    NF (colR b rows) w s h ((rows.take h).map (List.take w)) := by
  have d1 := R.d1
  have pw' := (again0 R (b := b) wa).mp pw
  refine ⟨by omega, pw', ?_, s0, sw, by omega, ph, ?_, ?_⟩
  · intro v v1 v2 p
    obtain ⟨n, rfl⟩ := Int.eq_ofNat_of_zero_le (show 0 ≤ v by omega)
    exact lw n (by omega) (by omega) ((again0 R (b := b) (by omega)).mpr p)
  · -- the least y of a period divides d
    have least : ∀ n : Nat, ∀ y : Nat, y ≤ n → 1 ≤ y → y < h → ∀ v : Int, ¬ Per (colR b rows) v y := by
      intro n
      induction n with
      | zero => intro y h0 h1; omega
      | succ n ih =>
        intro y hy y1 yh v p
        by_cases e : d % y = 0
        · -- v modulo w
          have q : Per (colR b rows) (v % w) y := by
            have := p.sub (pw'.smul (v / w))
            rw [Int.mul_zero, Int.sub_zero] at this
            have ev := Int.emod_add_mul_ediv v w
            rw [show v - v / w * w = v % w by rw [Int.mul_comm (v / (w : Int))]; omega] at this
            exact this
          have m0 := Int.emod_nonneg v (b := (w : Int)) (by omega)
          have m1 := Int.emod_lt_of_pos v (b := (w : Int)) (by omega)
          refine lh y y1 yh e (v % w).toNat (by omega) ((again_iff R).mpr ?_)
          rw [Int.toNat_of_nonneg m0]; exact q
        · have q := (R.per_bd (b := b)).sub (p.smul ((d / y : Nat) : Int))
          have ed := Nat.mod_add_div d y
          rw [show (d : Int) - ((d / y : Nat) : Int) * y = ((d % y : Nat) : Int) by
            have : (d : Int) = ((d % y : Nat) : Int) + (y : Int) * ((d / y : Nat) : Int) := by exact_mod_cast ed.symm
            rw [Int.mul_comm (((d / y : Nat) : Int))]; omega] at q
          have lt := Nat.mod_lt d (show y > 0 by omega)
          exact ih (d % y) (by omega) (by omega) (by omega) _ q
    intro y v y1 yh
    obtain ⟨n, rfl⟩ := Int.eq_ofNat_of_zero_le (show 0 ≤ y by omega)
    exact least n n (Nat.le_refl _) (by omega) (by omega) v
  · rw [Int.toNat_natCast, Int.toNat_natCast]
    refine List.ext_getElem ?_ fun j j1 j2 => ?_
    · simp [cells, R.len]; omega
    · have jh : j < h := by simpa [cells] using j2
      have jr : j < rows.length := by rw [R.len]; omega
      have lr : (rows[j]).length = a := R.all _ (List.getElem_mem jr)
      rw [List.getElem_map, List.getElem_take]
      simp only [cells, List.getElem_map, List.getElem_range]
      refine getD_ext (by simp [lr]; omega) fun i hi => ?_
      have iw : i < w := by rw [List.length_take] at hi; omega
      rw [List.getD_eq_getElem?_getD, List.getD_eq_getElem?_getD, List.getElem?_take, if_pos iw, List.getElem?_map, List.getElem?_range iw]
      simp only [Option.map_some, Option.getD_some]
      rw [R.at (List.getElem?_eq_getElem jr) i (by omega), List.getD_eq_getElem?_getD]
/-- told by other periods -/
theorem cells_ok {C : Int → Int → Nat} {w h : Nat} (hw : 1 ≤ w) (hh : 1 ≤ h) : RowsOk w h (cells C w h) := ⟨hw, hh, by simp [cells], fun r hr => by
  simp only [cells, List.mem_map] at hr
  obtain ⟨j, _, rfl⟩ := hr
  simp⟩
theorem cells_col {C : Int → Int → Nat} {w h : Nat} {b : Int} (hw : 1 ≤ w) (hh : 1 ≤ h) (pw : Per C w 0) (ph : Per C b h) : colR b (cells C w h) = C := by
  funext x y
  have R := cells_ok (C := C) hw hh
  obtain ⟨r, e, l, g⟩ := R.row y
  have m0 := Int.emod_nonneg y (b := (h : Int)) (by omega)
  have m1 := Int.emod_lt_of_pos y (b := (h : Int)) (by omega)
  have n0 := Int.emod_nonneg (x - b * (y / h)) (b := (w : Int)) (by omega)
  have n1 := Int.emod_lt_of_pos (x - b * (y / h)) (b := (w : Int)) (by omega)
  rw [R.len] at g
  rw [R.col e, ← g, cells_get (by omega) (by omega), Int.toNat_of_nonneg m0, Int.toNat_of_nonneg n0]
  have Q := (ph.smul (y / h)).add (pw.smul ((x - b * (y / h)) / w))
  have e := Q ((x - b * (y / h)) % w) (y % h)
  have q1 := Int.emod_add_mul_ediv y h
  have q2 := Int.emod_add_mul_ediv (x - b * (y / h)) w
  rw [show (x - b * (y / h)) % w + (y / h * b + (x - b * (y / h)) / w * w) = x by rw [Int.mul_comm (y / h) b, Int.mul_comm _ (w : Int)]; omega, show y % h + (y / h * h + (x - b * (y / h)) / w * 0) = y by rw [Int.mul_zero, Int.add_zero, Int.mul_comm]; omega] at e
  exact e.symm
theorem colR_inj {a d : Nat} {rows rows' : List (List Nat)} (R : RowsOk a d rows) (R' : RowsOk a d rows') {b : Int} (e : colR b rows = colR b rows') : rows = rows' := by
  refine List.ext_getElem (by rw [R.len, R'.len]) fun j h1 h2 => ?_
  have l1 := R.all _ (List.getElem_mem h1)
  have l2 := R'.all _ (List.getElem_mem h2)
  refine getD_ext (l1.trans l2.symm) fun i hi => ?_
  rw [← R.at (b := b) (List.getElem?_eq_getElem h1) i (by omega), ← R'.at (b := b) (List.getElem?_eq_getElem h2) i (by omega), e]
theorem NF.iff {C C' : Int → Int → Nat} {w s h w' s' h' : Int} {R R' : List (List Nat)} (A : NF C w s h R) (B : NF C' w' s' h' R') : C = C' ↔ (w = w' ∧ s = s' ∧ h = h' ∧ R = R') := by
  constructor
  · rintro rfl; exact A.uniq B
  · rintro ⟨rfl, rfl, rfl, rfl⟩; exact A.same B
end Iz
/-! St -/
set_option Elab.async false
set_option linter.all false
set_option maxRecDepth 100000
set_option maxHeartbeats 4000000
namespace Iz
open PySem PySem.Spec PyProof.Rows L2
open He (ga)
open SX (S S_len S_inj S_cat)
/-! ### texts told by their signs -/
theorem S_eq {a b : List Nat} : S a = S b ↔ a = b := ⟨S_inj, fun h => h ▸ rfl⟩
theorem S_len' {a : List Nat} : (S a).length = a.length := S_len a
theorem pe_strZ {X : Cx} {x : Str} {j} {pos : Pos} (l : List Nat) (h : x = S l := by decide +kernel) : PE X (.Constant (.str x) j pos) (tC (.str (S l))) := by subst h; exact pe_str
def rAddZ : R2 := fun x y H Q => ∃ l m, x = .str (S l) ∧ y = .str (S m) ∧ l.length + m.length ≤ sizeLine ∧ Q (.str (S (l ++ m))) H
theorem op_addZ {X : Cx} : OpR X (binaryOp .Add) rAddZ := fun pins s σ H x y v u Q I rx ry ⟨l, m, e1, e2, hz, q⟩ => op_add_str pins s σ H x y v u Q I rx ry ⟨S l, S m, e1, e2, by rw [S_len, S_len]; exact hz, by rw [S_cat]; exact q⟩
/-- l[lo:hi] -/
def cutZ (l : List Nat) (lo hi : Option Int) : List Nat := (l.drop (HT.sIx l.length 0 lo)).take (HT.sIx l.length l.length hi - HT.sIx l.length 0 lo)
theorem cutS_S {l : List Nat} {lo hi : Option Int} : cutS (S l) lo hi = S (cutZ l lo hi) := by unfold cutS cutZ; rw [S_len]
theorem cutZ_from {l : List Nat} {i : Int} (h : 0 ≤ i) : cutZ l (some i) none = l.drop i.toNat := SX.S_inj (by rw [← cutS_S, C8.cutS_slice, SX.slice_from h])
theorem cutZ_to {l : List Nat} {i : Int} (h : 0 ≤ i) : cutZ l none (some i) = l.take i.toNat := SX.S_inj (by rw [← cutS_S, C8.cutS_slice, SX.slice_to h])
def rSlZ : V → Option Int → Option Int → Hp → VK → Prop := fun x lo hi H Q => ∃ l, x = .str (S l) ∧ l.length ≤ sizeLine ∧ Q (.str (S (cutZ l lo hi))) H
theorem sl_strZ {X : Cx} : SlR X rSlZ := fun pins s σ H x v vl vu lo hi sl Q I rx hs pl pu ⟨l, e, hz, q⟩ => sl_str pins s σ H x v vl vu lo hi sl Q I rx hs pl pu ⟨S l, e, by rw [S_len]; exact hz, by rw [cutS_S]; exact q⟩
def rIxZ : R2 := fun x y H Q => ∃ l i c, x = .str (S l) ∧ y = .int i ∧ l.length ≤ sizeLine ∧ atI l i = some c ∧ Q (.str (S [c])) H
theorem ix_strZ {X : Cx} : IxR X rIxZ := fun value slice pins s σ H x y v u Q I rx ry ⟨l, i, c, e1, e2, hz, ha, q⟩ hs => ix_str value slice pins s σ H x y v u Q I rx ry ⟨S l, i, c, e1, e2, by rw [S_len]; exact hz, ha, q⟩ hs
def rInZ (neg : Bool) : R2 := fun x y H Q => ∃ (c : Nat) (l : List Nat), x = .str (S [c]) ∧ y = .str (S l) ∧ Q (.bl (if neg then !decide (c ∈ l) else decide (c ∈ l))) H
theorem op_inZ {X : Cx} : OpR X (compareOp .In) (rInZ false) := fun pins s σ H x y v u Q I rx ry ⟨c, l, e1, e2, q⟩ => op_in_sign pins s σ H x y v u Q I rx ry ⟨c, S l, e1, e2, q⟩
def rIntZ : List V → Hp → VK → Prop := fun xs H Q => ∃ c : Nat, xs = [.str (S [c])] ∧ 48 ≤ c ∧ c ≤ 57 ∧ Q (.int ((c : Int) - 48)) H
theorem call_intZ {X : Cx} : CallR X (.type "int") rIntZ := CallR.imp call_int_str fun xs H Q ⟨c, e, h1, h2, q⟩ => ⟨S [c], _, e, SX.int_S (a := [c]) (by simp [h1, h2]) (by simp) (by simp), by rw [S_len]; exact (by decide : 1 ≤ 640), by
  have : (NumText.digitsVal [c] : Int) = (c : Int) - 48 := by
    have : NumText.digitsVal [c] = c - 48 := by
      have h : c = 48 ∨ c = 49 ∨ c = 50 ∨ c = 51 ∨ c = 52 ∨ c = 53 ∨ c = 54 ∨ c = 55 ∨ c = 56 ∨ c = 57 := by omega
      rcases h with rfl | rfl | rfl | rfl | rfl | rfl | rfl | rfl | rfl | rfl <;> rfl
    rw [this]; omega
  rw [this]; exact q⟩
theorem num_dig {n : Nat} (h : n ≤ 9) : (toString ((n : Nat) : Int) : String) = String.ofList [Char.ofNat (48 + n)] := by
  have : n = 0 ∨ n = 1 ∨ n = 2 ∨ n = 3 ∨ n = 4 ∨ n = 5 ∨ n = 6 ∨ n = 7 ∨ n = 8 ∨ n = 9 := by omega
  rcases this with rfl | rfl | rfl | rfl | rfl | rfl | rfl | rfl | rfl | rfl <;> decide +kernel
theorem str_dig {n : Nat} (h : n ≤ 9) : Str.ofString (toString ((n : Nat) : Int)) = S [48 + n] := by
  have : n = 0 ∨ n = 1 ∨ n = 2 ∨ n = 3 ∨ n = 4 ∨ n = 5 ∨ n = 6 ∨ n = 7 ∨ n = 8 ∨ n = 9 := by omega
  rcases this with rfl | rfl | rfl | rfl | rfl | rfl | rfl | rfl | rfl | rfl <;> decide +kernel
def rStrZ : List V → Hp → VK → Prop := fun xs H Q => ∃ i : Int, xs = [.int i] ∧ 0 ≤ i ∧ i ≤ 9 ∧ Q (.str (S [48 + i.toNat])) H
theorem call_strZ {X : Cx} : CallR X (.type "str") rStrZ := CallR.imp call_str_int fun xs H Q ⟨i, e, h0, h9, q⟩ => ⟨i, e, log_lt (n := 4) (by omega) (by decide) (by decide), by
  obtain ⟨n, rfl⟩ := Int.eq_ofNat_of_zero_le h0
  rw [Int.toNat_natCast] at q
  rw [show (toString (n : Int) : String) = toString ((n : Nat) : Int) from rfl] at *
  have := str_dig (n := n) (by omega)
  exact this ▸ q⟩
def rLenZ : List V → Hp → VK → Prop := fun xs H Q => ∃ l, xs = [.str (S l)] ∧ l.length ≤ sizeLine ∧ Q (.int (l.length : Nat)) H
/-- a text times an int of 1 or more -/
def rRepZ : R2 := fun x y H Q => ∃ l i, x = .str (S l) ∧ y = .int i ∧ 1 ≤ i ∧ i ≤ 1000 ∧ l.length ≤ 1000 ∧ Q (.str (S (List.replicate i.toNat l).flatten)) H
theorem foldl_cat (l : List Nat) : ∀ (n : Nat) (acc : List Nat), (List.replicate n l.toArray).foldl (· ++ ·) acc.toArray = (acc ++ (List.replicate n l).flatten).toArray
  | 0, acc => by simp
  | n + 1, acc => by
    rw [List.replicate_succ, List.foldl_cons, List.replicate_succ, List.flatten_cons]
    have := foldl_cat l n (acc ++ l)
    rw [List.append_assoc] at this
    rw [← this]
    congr 1
    simp
theorem op_repZ {X : Cx} : OpR X (binaryOp .Mult) rRepZ := by
  intro pins s σ H x y v u Q I rx ry ⟨l, i, e1, e2, h1, h2, hl, q⟩
  subst e1 e2
  obtain ⟨t, rfl⟩ := rx
  obtain ⟨t', rfl⟩ := ry
  have hq : EP X pins σ Q (.str (S (List.replicate i.toNat l).flatten) s.toks) { s with toks := s.toks + 1 } := ⟨.str (S (List.replicate i.toNat l).flatten), H, I.tok _, ⟨_, rfl⟩, q⟩
  have hlen : (S l).length = l.length := S_len l
  have sm : l.length * i.toNat ≤ 1000000 := by
    have : i.toNat ≤ 1000 := by omega
    calc l.length * i.toNat ≤ 1000 * 1000 := Nat.mul_le_mul hl this
      _ = 1000000 := rfl
  refine P.mul_str (by
      rw [decide_eq_false (show ¬ i < -(2 ^ 63 : Int) by omega), decide_eq_false (show ¬ i ≥ 2 ^ 63 by omega)]; rfl) (fun _ _ => ?_) (fun _ _ => ?_) ?_
  · rw [hlen]
    have : (1000 : Int) ≤ (2 ^ 63 - 1) / i := (Int.le_ediv_iff_mul_le (by omega)).mpr (by omega)
    omega
  · rw [hlen]
    exact decide_eq_false (by rw [sizeLine_eq]; omega)
  · rw [if_neg (by omega)]
    have few : (S (List.replicate i.toNat l).flatten).length ≤ sizeLine := by
      rw [S_len, sizeLine_eq, List.length_flatten, List.map_replicate, List.sum_replicate_nat, Nat.mul_comm]
      omega
    by_cases c : (i == 1 || (S l).length == 0) = true
    · rw [if_pos c]
      have e : (List.replicate i.toNat l).flatten = l := by
        rw [Bool.or_eq_true, beq_iff_eq, beq_iff_eq, hlen] at c
        rcases c with rfl | c
        · simp
        · rw [List.eq_nil_of_length_eq_zero c]; simp
      rw [e] at q
      exact ⟨.str (S l), H, I, ⟨_, rfl⟩, q⟩
    · rw [if_neg c]
      have e : (⟨(List.replicate i.toNat (S l).cps).foldl (· ++ ·) #[]⟩ : Str) = S (List.replicate i.toNat l).flatten := by
        have := foldl_cat l i.toNat []
        rw [List.nil_append] at this
        exact congrArg Str.mk this
      rw [e]
      exact ⟨few, hq⟩
theorem call_lenZ {X : Cx} : CallR X (.builtin "len") rLenZ := CallR.imp call_len_str fun xs H Q ⟨l, e, hz, q⟩ => ⟨S l, e, by rw [S_len]; exact hz, by rw [S_len]; exact q⟩
/-- "".join(texts) -/
theorem joinL_nil : ∀ ls : List (List Nat), TL.joinL [] ls = ls.flatten
  | [] => rfl
  | [a] => by simp [TL.joinL]
  | a :: b :: r => by
    have := joinL_nil (b :: r)
    rw [List.flatten_cons, ← this]
    simp [TL.joinL]
def strsV (ls : List (List Nat)) : List V := ls.map fun l => V.str (S l)
theorem strsV_len {ls : List (List Nat)} : (strsV ls).length = ls.length := List.length_map _
theorem strsV_get {ls : List (List Nat)} {i : Nat} {l : List Nat} (h : ls[i]? = some l) : (strsV ls)[i]? = some (.str (S l)) := by unfold strsV; rw [List.getElem?_map, h]; rfl
theorem strsV_get' {ls : List (List Nat)} {i : Nat} {v : V} (h : (strsV ls)[i]? = some v) : ∃ l, ls[i]? = some l ∧ v = .str (S l) := by
  unfold strsV at h
  rw [List.getElem?_map] at h
  obtain ⟨l, h1, h2⟩ := Option.map_eq_some_iff.mp h
  exact ⟨l, h1, h2.symm⟩
def tJoinZ (te : TE) : TE := fun σ H Q => te σ H fun y H1 => ∃ p ls, y = .ref p ∧ H1 p = some (.lst (strsV ls)) ∧ (ls.map (·.length)).sum ≤ 1000000 ∧ Q (.str (S ls.flatten)) H1
theorem pe_joinZ {X : Cx} {e : Expr} {te : TE} {x : Str} {j : Nat} {p2 apos pos : Pos} (hx : x = S [] := by decide +kernel) (he : PE X e te) (hs : starEach [e] X.env = [(false, eval e X.env)] := by rfl)
    (hbase : attributeBase (.Constant (.str x) j p2) "join" X.env (eval (.Constant (.str x) j p2) X.env) = eval (.Constant (.str x) j p2) X.env := by rfl) (hline : (apos.endLine == pos.line) = true := by rfl) : PE X (.Call (.Attribute (.Constant (.str x) j p2) "join" apos) [e] [] pos) (tJoinZ te) := by
  subst hx
  refine PE.imp (pe_join pe_str (PE.mcl he) hs hbase hline) fun σ H Q h => ?_
  refine ⟨⟨_, rfl⟩, _, h, fun v H1 ⟨p, ls, e1, e2, e3, q⟩ => ?_⟩
  refine ⟨S [], p, ls.map S, rfl, by rw [e1], .inl ?_, ?_, ?_⟩
  · rw [List.map_map]; exact SqL.of e2
  · rw [SX.lens, S_len, List.length_nil, Nat.mul_zero, Nat.add_zero]; omega
  · rw [SX.join_S, joinL_nil]; exact q
/-! ### globals that hold a text or an int -/
theorem pe_glS {X : Cx} {x : Str} {l : List Nat} {pos : Pos} (h : ∃ t, X.mg x = some (.str (S l) t)) (hg : Gl X x := by rfl) (hd : (x == ("__debug__" : Str)) = false := by decide) : PE X (.Name x pos) (tC (.str (S l))) := let ⟨t, e⟩ := h; pe_glob hg e ⟨t, rfl⟩ hd
theorem pe_glI {X : Cx} {x : Str} {i : Int} {pos : Pos} (h : ∃ t, X.mg x = some (.int i t)) (hg : Gl X x := by rfl) (hd : (x == ("__debug__" : Str)) = false := by decide) : PE X (.Name x pos) (tC (.int i)) := let ⟨t, e⟩ := h; pe_glob hg e ⟨t, rfl⟩ hd
/-- tuple(x) of a list or a tuple -/
def rTupG (K : PySem.W.Frag) : List V → Hp → VK → Prop := fun xs H Q => ∃ p ys, xs = [.ref p] ∧ LG K H p ys ∧ ∀ q H', Same H H' → SqT K H' q ys → Q (.ref q) H'
theorem call_tupG {X : Cx} : CallR X (.type "tuple") (rTupG X.K) := CallR.imp call_tuple_of fun xs H Q ⟨p, ys, e, hp, n⟩ => ⟨p, ys, e, hp.elim (fun h => .inl ⟨SqL.of h, fun l hl => n l _ (Same.upd hl) (SqT.of upd_same)⟩) fun h => .inr ⟨h, n p H (fun _ _ h => h) h⟩⟩
/-! ### rows of texts, compared -/
def dStrs (ls : List (List Nat)) : List PyData := ls.map fun l => PyData.str (S l)
theorem dpA_strs {K : PySem.W.Frag} {H : Hp} : ∀ ls : List (List Nat), DpAll K H (strsV ls) (dStrs ls)
  | [] => .nil
  | l :: r => .cons (.str _) (dpA_strs r)
theorem eqvA_strs : ∀ ls ms : List (List Nat), PyData.eqvAll (dStrs ls) (dStrs ms) = decide (ls = ms)
  | [], [] => by simp [dStrs, PyData.eqvAll]
  | [], m :: ms => by simp [dStrs, PyData.eqvAll]
  | l :: ls, [] => by simp [dStrs, PyData.eqvAll]
  | l :: ls, m :: ms => by
    have ih := eqvA_strs ls ms
    simp only [dStrs, List.map_cons, PyData.eqvAll, PyData.eqv] at ih ⊢
    rw [ih, SX.S_beq_eq]
    by_cases h1 : l = m <;> by_cases h2 : ls = ms <;> simp [h1, h2]
/-- the signs are figures -/
def figs (ls : List (List Nat)) : Prop := ∀ l ∈ ls, ∀ c ∈ l, 48 ≤ c ∧ c ≤ 57
theorem figs_ok {ls : List (List Nat)} (h : figs ls) : ∀ l ∈ ls, PyData.strOk (S l) = true := fun l hl => by
  unfold PyData.strOk
  rw [Array.all_eq_true']
  intro c hc
  have := h l hl c (by simpa using hc)
  exact decide_eq_true (by omega)
theorem sh_strsT {n : Nat} {ls : List (List Nat)} (h : figs ls) : ShN (n + 1) (.tuple (dStrs ls)) := (ShN.tuple (n := 0) fun d hd => by
  obtain ⟨l, hl, rfl⟩ := List.mem_map.mp hd; exact ShN.str (figs_ok h l hl)).up (by omega)
theorem sh_strsL {n : Nat} {ls : List (List Nat)} (h : figs ls) : ShN (n + 1) (.list (dStrs ls)) := (ShN.list (n := 0) fun d hd => by
  obtain ⟨l, hl, rfl⟩ := List.mem_map.mp hd; exact ShN.str (figs_ok h l hl)).up (by omega)
theorem dp_strsT {K : PySem.W.Frag} {H : Hp} {p : Addr} {ls : List (List Nat)} (h : H p = some (.tup (strsV ls))) : Dp K H (.ref p) (.tuple (dStrs ls)) := .tup (SqT.of h) (dpA_strs ls)
theorem dp_strsL {K : PySem.W.Frag} {H : Hp} {p : Addr} {ls : List (List Nat)} (h : H p = some (.lst (strsV ls))) : Dp K H (.ref p) (.list (dStrs ls)) := .lst (SqL.of h) (dpA_strs ls)
/-- two lists of texts -/
theorem eq_strsL {K : PySem.W.Frag} {H : Hp} {p q : Addr} {ls ms : List (List Nat)} {R : VK} (h1 : H p = some (.lst (strsV ls))) (h2 : H q = some (.lst (strsV ms))) (f1 : figs ls) (f2 : figs ms) (r : R (.bl (decide (ls = ms))) H) : rEqD K (.ref p) (.ref q) H R :=
  ⟨_, _, dp_strsL h1, dp_strsL h2, (sh_strsL (n := 0) f1).ok, (sh_strsL (n := 0) f2).ok, by simp only [PyData.eqv]; rw [eqvA_strs]; exact r⟩
/-- a normal form as data -/
def dNF (w s h : Int) (R : List (List Nat)) : PyData := .tuple [.int w, .int s, .int h, .tuple (dStrs R)]
structure NFAt (H : Hp) (n q : Addr) (w s h : Int) (R : List (List Nat)) : Prop where
  n : H n = some (.tup [.int w, .int s, .int h, .ref q])
  q : H q = some (.tup (strsV R))
theorem NFAt.same {H H' : Hp} {n q : Addr} {w s h : Int} {R : List (List Nat)} (x : NFAt H n q w s h R) (e : Same H H') : NFAt H' n q w s h R := ⟨e _ _ x.n, e _ _ x.q⟩
theorem NFAt.dp {K : PySem.W.Frag} {H : Hp} {n q : Addr} {w s h : Int} {R : List (List Nat)} (x : NFAt H n q w s h R) : Dp K H (.ref n) (dNF w s h R) := .tup (SqT.of x.n) (.cons (.int w) (.cons (.int s) (.cons (.int h) (.cons (dp_strsT x.q) .nil))))
theorem sh_dNF {n : Nat} {w s h : Int} {R : List (List Nat)} (f : figs R) : ShN (n + 2) (dNF w s h R) := (ShN.tuple (n := 1) fun d hd => by
  simp only [List.mem_cons, List.not_mem_nil, or_false] at hd
  rcases hd with rfl | rfl | rfl | rfl
  · exact .int
  · exact .int
  · exact .int
  · exact sh_strsT (n := 0) f).up (by omega)
theorem eqv_dNF {w s h w' s' h' : Int} {R R' : List (List Nat)} : PyData.eqv (dNF w s h R) (dNF w' s' h' R') = decide (w = w' ∧ s = s' ∧ h = h' ∧ R = R') := by
  simp only [dNF, PyData.eqv, PyData.eqvAll, Bool.and_true, eqvA_strs]
  by_cases h1 : w = w' <;> by_cases h2 : s = s' <;> by_cases h3 : h = h' <;> by_cases h4 : R = R' <;> simp [h1, h2, h3, h4]
theorem eq_NF {K : PySem.W.Frag} {H : Hp} {n q n' q' : Addr} {w s h w' s' h' : Int} {R R' : List (List Nat)} {k : VK} (x : NFAt H n q w s h R) (y : NFAt H n' q' w' s' h' R') (f : figs R) (f' : figs R') (r : k (.bl (decide (w = w' ∧ s = s' ∧ h = h' ∧ R = R'))) H) : rEqD K (.ref n) (.ref n') H k :=
  ⟨_, _, x.dp, y.dp, (sh_dNF (n := 0) f).ok, (sh_dNF (n := 0) f').ok, by rw [eqv_dNF]; exact r⟩
/-! ### a comprehension over a text's signs -/
theorem st_lcZ {tl : TE} {g : TG} {tt : TT} {te : TE} {vs : List Nat} {σ : L2.St} {H : Hp} {Q : VK} {l : List Nat} (ha : ∀ R : V → Hp → Prop, R (.str (S l)) H → tl σ H R) (hz : l.length ≤ 1000) (f : Nat → V)
    (hs : ∀ (c : Nat) H' (R : V → Hp → Prop) (R2 : Hp → Prop), c ∈ l → Same H H' → R (f c) H' → g (.str (S [c])) (wipe σ vs) H' fun σ2 H2 => wipe σ2 vs = wipe σ vs ∧ tt σ2 H2 fun b H3 => if b = true then te σ2 H3 R else R2 H3)
    (hd : ∀ D H', Same H H' → H' D = some (.lst (l.map f)) → Q (.ref D) H') : tLc (iStr tl) g tt te vs σ H Q := by
  have e1 : (S l).cps.size = l.length := by simp
  refine ha _ ⟨S l, rfl, fun D hD => ?_⟩
  refine L2.lc_it (walk_str (z := S l)) (fun i H' => Same H H' ∧ H' D = some (.lst ((l.take i).map f))) ⟨Same.upd hD, by rw [upd_same]; simp⟩ (fun _ _ _ _ => trivial) ?_ ?_
  · rintro i x H1 _ hi ⟨s1, h1⟩ ⟨rfl, c, hc, rfl⟩
    have hc' : l[i]? = some c := by simpa using hc
    have hlt : ((l.take i).map f).length < sizeLine := by
      rw [List.length_map, List.length_take, sizeLine_eq]; omega
    refine hs c _ _ _ (List.mem_of_getElem? hc') s1 ⟨_, h1, hlt, fun b o hb => ?_, ?_⟩
    · rw [upd_ne (ne_of_none hb hD)]; exact s1 _ _ hb
    · rw [upd_same, List.take_succ, hc', List.map_append]; rfl
  · rintro H1 ⟨s1, h1⟩
    rw [e1, List.take_length] at h1
    exact hd D H1 s1 h1
/-- a test that may be asked for less -/
theorem PTm {X : Cx} {e : Expr} {t : TT} (h : PT X e t) : PT X e (mcl t) := ⟨fun pins s σ H Q I ⟨Q0, q, k⟩ => thn (h.run pins s σ H Q0 I q) fun b s1 ⟨H1, I1, q1⟩ => ⟨H1, I1, k b H1 q1⟩⟩
theorem mono_mcl {t : TT} (σ : L2.St) (H : Hp) (Q Q' : Bool → Hp → Prop) (k : ∀ b H1, Q b H1 → Q' b H1) (h : mcl t σ H Q) : mcl t σ H Q' := let ⟨Q0, q, m⟩ := h; ⟨Q0, q, fun b H1 z => k b H1 (m b H1 z)⟩
/-! ### rows walked -/
theorem st_lcQ {K : PySem.W.Frag} {tl : TE} {g : TG} {tt : TT} {te : TE} {vs : List Nat} {σ : L2.St} {H : Hp} {Q : VK} {a : Addr} {ls : List (List Nat)} (ha : ∀ R : V → Hp → Prop, R (.ref a) H → tl σ H R) (hx : SqT K H a (strsV ls)) (hz : ls.length ≤ 1000) (f : List Nat → V)
    (hs : ∀ (l : List Nat) H' (R : V → Hp → Prop) (R2 : Hp → Prop), l ∈ ls → Same H H' → R (f l) H' → g (.str (S l)) (wipe σ vs) H' fun σ2 H2 => wipe σ2 vs = wipe σ vs ∧ tt σ2 H2 fun b H3 => if b = true then te σ2 H3 R else R2 H3)
    (hd : ∀ D H', Same H H' → H' D = some (.lst (ls.map f)) → Q (.ref D) H') : tLc (iTup K tl) g tt te vs σ H Q := by
  refine ha _ ⟨a, rfl, ⟨_, hx⟩, fun D hD => ?_⟩
  refine lc_tup (xs := strsV ls) (fun i H' => Same H H' ∧ H' D = some (.lst ((ls.take i).map f))) ⟨Same.upd hD, by rw [upd_same]; simp⟩ (fun i H' _ p => SqT.same hx p.1) ?_ ?_
  · rintro i x H1 hi ⟨s1, h1⟩
    obtain ⟨l, hl, rfl⟩ := strsV_get' hi
    have hlt : ((ls.take i).map f).length < sizeLine := by rw [List.length_map, List.length_take, sizeLine_eq]; omega
    refine hs l _ _ _ (List.mem_of_getElem? hl) s1 ⟨_, h1, hlt, fun b o hb => ?_, ?_⟩
    · rw [upd_ne (ne_of_none hb hD)]; exact s1 _ _ hb
    · rw [upd_same, List.take_succ, hl, List.map_append]; rfl
  · rintro H1 ⟨s1, h1⟩
    rw [strsV_len, List.take_length] at h1
    exact hd D H1 s1 h1
/-- {i: z} -/
def tD1 (i : Int) (z : Str) : TE := fun _ H Q => News H (.dK (mergeK [] [(.inl i, .str z)])) Q
theorem pe_d1 {X : Cx} {i : Int} {z : Str} {a b : Expr} {pos : Pos} (ha : PE X a (tC (.int i))) (hb : PE X b (tC (.str z))) : PE X (.Dict [some a] [b] pos) (tD1 i z) :=
  PE.imp (pe_disp (pps_cons ha hb pps_nil) rfl rfl (by simp) (by simp)) fun σ H Q n p hp => ⟨upd_same, [(.inl i, .str z)], rfl, by simp, n p _ hp (fun b o hb => by rw [upd_ne (ne_of_none hb hp), upd_ne (ne_of_none hb hp)]; exact hb) upd_same⟩
theorem sl_listNk {X : Cx} {K : PySem.W.Frag} (e : X.K = K) : SlR X (rSlLN K) := e ▸ sl_listN
end Iz
/-! Cq -/
set_option Elab.async false
set_option linter.all false
set_option maxRecDepth 100000
set_option maxHeartbeats 4000000
namespace Iz
/-! ### carpets: places gone through, colours counted -/
theorem per_places {C : Int → Int → Nat} {a d : Nat} {b x y : Int} (a1 : 1 ≤ a) (d1 : 1 ≤ d) (P1 : Per C a 0) (P2 : Per C b d) (h : ∀ i j : Nat, i < a → j < d → C (i + x) (j + y) = C i j) : Per C x y := by
  intro u z
  obtain ⟨q, hq⟩ : ∃ q, q = z / (d : Int) := ⟨_, rfl⟩
  obtain ⟨v, hv⟩ : ∃ v, v = (u - b * q) / (a : Int) := ⟨_, rfl⟩
  have m0 := Int.emod_nonneg z (b := (d : Int)) (by omega)
  have m1 := Int.emod_lt_of_pos z (b := (d : Int)) (by omega)
  have n0 := Int.emod_nonneg (u - b * q) (b := (a : Int)) (by omega)
  have n1 := Int.emod_lt_of_pos (u - b * q) (b := (a : Int)) (by omega)
  have Q := (P2.smul q).add (P1.smul v)
  have ez : z = (z % (d : Int)) + (q * d + v * 0) := by have := Int.emod_add_mul_ediv z d; rw [← hq] at this; rw [Int.mul_zero, Int.add_zero, Int.mul_comm q]; exact this.symm
  have ex : u = ((u - b * q) % (a : Int)) + (q * b + v * a) := by
    have := Int.emod_add_mul_ediv (u - b * q) a
    rw [← hv] at this
    rw [Int.mul_comm q, Int.mul_comm v]; omega
  have e1 := Q ((u - b * q) % (a : Int)) (z % (d : Int))
  have e2 := Q ((u - b * q) % (a : Int) + x) (z % (d : Int) + y)
  rw [← ex, ← ez] at e1
  rw [show (u - b * q) % (a : Int) + x + (q * b + v * a) = u + x by omega, show z % (d : Int) + y + (q * d + v * 0) = z + y by omega] at e2
  rw [e1, e2]
  have := h ((u - b * q) % (a : Int)).toNat (z % (d : Int)).toNat (by omega) (by omega)
  rwa [Int.toNat_of_nonneg m0, Int.toNat_of_nonneg n0] at this
theorem RowsOk.cells {a d : Nat} {rows : List (List Nat)} (R : RowsOk a d rows) {b : Int} : rows = Iz.cells (colR b rows) a d := by
  refine List.ext_getElem (by simp [Iz.cells, R.len]) fun j h1 h2 => ?_
  have lr := R.all _ (List.getElem_mem h1)
  simp only [Iz.cells, List.getElem_map, List.getElem_range]
  refine List.ext_getElem (by simp [lr]) fun i h3 h4 => ?_
  simp only [List.getElem_map, List.getElem_range]
  rw [R.at (List.getElem?_eq_getElem h1) i (by omega), List.getD_eq_getElem?_getD, List.getElem?_eq_getElem h3]; rfl
/-- how often k comes among n neighbours of a row from s on -/
def rowN (f : Int → Nat) (k n : Nat) (s : Int) : Nat := ((List.range n).map fun (i : Nat) => f (s + i)).count k
theorem rowN_succ {f : Int → Nat} {k n : Nat} {s : Int} : rowN f k (n + 1) s = rowN f k n s + (if f (s + n) = k then 1 else 0) := by
  unfold rowN
  rw [List.range_succ, List.map_append, List.count_append]
  simp [List.count_cons]
theorem rowN_cons {f : Int → Nat} {k n : Nat} {s : Int} : rowN f k (n + 1) s = (if f s = k then 1 else 0) + rowN f k n (s + 1) := by
  induction n with
  | zero => rw [rowN_succ]; simp [rowN]
  | succ n ih =>
    rw [rowN_succ, ih, rowN_succ, show s + 1 + (n : Int) = s + ((n + 1 : Nat) : Int) by omega]; omega
theorem rowN_turn {f : Int → Nat} {k w : Nat} (p : ∀ x, f (x + w) = f x) (s : Int) : rowN f k w (s + 1) = rowN f k w s := by
  have h1 := rowN_succ (f := f) (k := k) (n := w) (s := s)
  have h2 := rowN_cons (f := f) (k := k) (n := w) (s := s)
  rw [p] at h1
  omega
theorem rowN_any {f : Int → Nat} {k w : Nat} (p : ∀ x, f (x + w) = f x) (n : Nat) : rowN f k w n = rowN f k w 0 := by
  induction n with
  | zero => rfl
  | succ n ih => rw [show ((n + 1 : Nat) : Int) = (n : Int) + 1 by omega, rowN_turn p, ih]
theorem rowN_add {f : Int → Nat} {k m n : Nat} {s : Int} : rowN f k (m + n) s = rowN f k m s + rowN f k n (s + m) := by
  induction n with
  | zero => simp [rowN]
  | succ n ih => rw [← Nat.add_assoc, rowN_succ, ih, rowN_succ, show s + ((m + n : Nat) : Int) = s + m + n by omega]; omega
theorem rowN_mul {f : Int → Nat} {k w : Nat} (p : ∀ x, f (x + w) = f x) (m : Nat) : rowN f k (w * m) 0 = m * rowN f k w 0 := by
  induction m with
  | zero => simp [rowN]
  | succ m ih =>
    rw [Nat.mul_succ, rowN_add, ih, Int.zero_add, show ((w * m : Nat) : Int) = ((w * m : Nat) : Int) from rfl, rowN_any p, Nat.succ_mul]
/-- how often k comes among the first w cells of the first h rows -/
def cntC (C : Int → Int → Nat) (k w : Nat) : Nat → Nat
  | 0 => 0
  | h + 1 => cntC C k w h + rowN (fun x => C x h) k w 0
theorem cntC_cells {C : Int → Int → Nat} {k w h : Nat} : (cells C w h).flatten.count k = cntC C k w h := by
  induction h with
  | zero => rfl
  | succ h ih =>
    rw [show cells C w (h + 1) = cells C w h ++ [(List.range w).map fun (i : Nat) => C i h] by unfold cells; rw [List.range_succ, List.map_append]; rfl, List.flatten_append, List.count_append, ih]
    simp [cntC, rowN]
theorem cntC_add {C : Int → Int → Nat} {k w m n : Nat} (p : ∀ j : Nat, rowN (fun x => C x ((m + j : Nat) : Int)) k w 0 = rowN (fun x => C x j) k w 0) : cntC C k w (m + n) = cntC C k w m + cntC C k w n := by
  induction n with
  | zero => rfl
  | succ n ih => rw [← Nat.add_assoc]; simp only [cntC]; rw [ih, p n]; omega
theorem count_all {C : Int → Int → Nat} {w s h : Int} {R : List (List Nat)} {a d : Nat} {b : Int} (N : NF C w s h R) (a1 : 1 ≤ a) (d1 : 1 ≤ d) (P1 : Per C a 0) (P2 : Per C b d) :
    ∃ m n : Nat, a = w.toNat * m ∧ d = h.toNat * n ∧ ∀ k, (cells C a d).flatten.count k = m * n * R.flatten.count k := by
  have w1 := N.w1; have h1 := N.h1; have s0 := N.s0
  have dw : (a : Int) % w = 0 := by
    have q := P1.sub (N.pw.smul ((a : Int) / w))
    have e := Int.emod_add_mul_ediv (a : Int) w
    rw [Int.mul_zero, Int.sub_zero, show (a : Int) - (a : Int) / w * w = (a : Int) % w by rw [Int.mul_comm ((a : Int) / w)]; omega] at q
    have m0 := Int.emod_nonneg (a : Int) (b := w) (by omega)
    have m1 := Int.emod_lt_of_pos (a : Int) (b := w) (by omega)
    by_cases c : (a : Int) % w = 0
    · exact c
    · exact absurd q (N.lw _ (by omega) m1)
  have dh : (d : Int) % h = 0 := by
    have q := P2.sub (N.ph.smul ((d : Int) / h))
    have e := Int.emod_add_mul_ediv (d : Int) h
    rw [show (d : Int) - (d : Int) / h * h = (d : Int) % h by rw [Int.mul_comm ((d : Int) / h)]; omega] at q
    have m0 := Int.emod_nonneg (d : Int) (b := h) (by omega)
    have m1 := Int.emod_lt_of_pos (d : Int) (b := h) (by omega)
    by_cases c : (d : Int) % h = 0
    · exact c
    · exact absurd q (N.lh _ _ (by omega) m1)
  obtain ⟨W, rfl⟩ := Int.eq_ofNat_of_zero_le (show 0 ≤ w by omega)
  obtain ⟨Hh, rfl⟩ := Int.eq_ofNat_of_zero_le (show 0 ≤ h by omega)
  obtain ⟨S, rfl⟩ := Int.eq_ofNat_of_zero_le s0
  have dw' : W ∣ a := Int.natCast_dvd_natCast.mp (Int.dvd_of_emod_eq_zero dw)
  have dh' : Hh ∣ d := Int.natCast_dvd_natCast.mp (Int.dvd_of_emod_eq_zero dh)
  obtain ⟨m, rfl⟩ := dw'
  obtain ⟨n, rfl⟩ := dh'
  refine ⟨m, n, by rw [Int.toNat_natCast], by rw [Int.toNat_natCast], fun k => ?_⟩
  have pw : ∀ j x : Int, C (x + W) j = C x j := fun j x => by have := N.pw x j; rwa [Int.add_zero] at this
  rw [N.rows, cntC_cells, cntC_cells, Int.toNat_natCast, Int.toNat_natCast]
  have rowM : ∀ e : Nat, cntC C k (W * m) e = m * cntC C k W e := fun e => by
    induction e with
    | zero => rfl
    | succ e ih => simp only [cntC]; rw [ih, rowN_mul (pw e), Nat.mul_add]
  have shift : ∀ j : Nat, rowN (fun x => C x ((Hh + j : Nat) : Int)) k W 0 = rowN (fun x => C x j) k W 0 := fun j => by
    rw [← rowN_any (pw ((Hh + j : Nat) : Int)) S]
    unfold rowN
    congr 1
    refine List.map_congr_left fun i _ => ?_
    have := N.ph (i : Int) (j : Int)
    rw [show (j : Int) + (Hh : Int) = ((Hh + j : Nat) : Int) by omega, Int.add_comm] at this
    show C ((S : Int) + (i : Int)) ((Hh + j : Nat) : Int) = C (0 + (i : Int)) j
    rw [this, Int.zero_add]
  have colM : ∀ e : Nat, cntC C k W (Hh * e) = e * cntC C k W Hh := fun e => by
    induction e with
    | zero => simp [cntC]
    | succ e ih =>
      rw [Nat.mul_succ, Nat.add_comm (Hh * e) Hh, cntC_add shift, ih, Nat.succ_mul]; omega
  rw [rowM, colM, Nat.mul_assoc]
end Iz
/-! Sc -/
set_option Elab.async false
set_option linter.all false
set_option maxRecDepth 100000
set_option maxHeartbeats 4000000
namespace Iz
open PySem PySem.Spec PyProof.Rows L2
open He (ga)
open SX (S S_len S_inj S_cat)
open PySem.StrLaws PySem.Builtin.Str
/-! ### a sign counted -/
theorem occ_run (l : List Nat) (c : Nat) : ∀ (k i : Nat) (st : Array Nat × Nat), i + k = l.length + 1 → st.snd ≤ i → st.fst.size ≤ i →
    (forIn (List.range' i k) st (occBody (S l) (S [c]) l.length (l.length + 1))).run.fst.size = st.fst.size + (l.drop i).count c
  | 0, i, st, h, _, _ => by
    rw [List.drop_eq_nil_of_le (by omega)]; rfl
  | k + 1, i, st, h, h1, h2 => by
    rw [List.range'_succ, List.forIn_cons]
    have one := subAt_one (S l) c i
    rw [S_len] at one
    have key : ((st.fst.size < l.length + 1 ∧ st.snd ≤ i) ∧ i + (S [c]).length ≤ l.length) ∧ subAt (S l) (S [c]) i = true ↔ l[i]? = some c := ⟨fun x => one.mp ⟨x.1.2, x.2⟩, fun x => by
      have y := one.mpr x
      exact ⟨⟨⟨by omega, h1⟩, y.1⟩, y.2⟩⟩
    unfold occBody
    by_cases e : l[i]? = some c
    · rw [if_pos (key.mpr e)]
      have ih := occ_run l c k (i + 1) (st.fst.push i, i + (S [c]).length) (by omega) (by show i + (S [c]).length ≤ i + 1; rw [S_len]; exact Nat.le_refl _) (by simp; omega)
      refine Eq.trans ih ?_
      have hd : l.drop i = c :: l.drop (i + 1) := drop_of e
      rw [hd, List.count_cons_self, Array.size_push]; omega
    · rw [if_neg (fun z => e (key.mp z))]
      have ih := occ_run l c k (i + 1) st (by omega) (by omega) (by omega)
      refine Eq.trans ih ?_
      cases e2 : l[i]? with
      | none => 
        have : l.length ≤ i := List.getElem?_eq_none_iff.mp e2
        rw [List.drop_eq_nil_of_le (by omega), List.drop_eq_nil_of_le this]
      | some a =>
        have hd : l.drop i = a :: l.drop (i + 1) := drop_of e2
        rw [hd, List.count_cons_of_ne (fun z => e (by rw [e2, z]))]
theorem count_S (l : List Nat) (c : Nat) : Txt.count (S l) (S [c]) = ((l.count c : Nat) : Int) := by
  show (((occurrences (S l) (S [c]) 0 (S l).length ((S l).length + 1)).length : Nat) : Int) = _
  rw [S_len, occ_eq, Nat.sub_zero, Array.length_toList]
  have := occ_run l c (l.length + 1) 0 (#[], 0) (by omega) (Nat.le_refl _) (Nat.le_refl _)
  rw [this]
  simp
def rCntZ (te ta : TE) : TE := fun σ H Q => te σ H fun x H1 => ∃ l : List Nat, x = .str (S l) ∧ ta σ H1 fun y H2 => ∃ c : Nat, y = .str (S [c]) ∧ Q (.int ((l.count c : Nat) : Int)) H2
theorem pe_cntZ {X : Cx} {o e : Expr} {to te : TE} {apos pos : Pos} (ho : PE X o to) (he : PE X e te) (hs : starEach [e] X.env = [(false, eval e X.env)] := by rfl) (hbase : attributeBase o "count" X.env (eval o X.env) = eval o X.env := by rfl) (hline : (apos.endLine == pos.line) = true := by rfl) :
    PE X (.Call (.Attribute o "count" apos) [e] [] pos) (rCntZ to te) :=
  PE.imp (pe_m1 F.slot_str_count F.type_str_count mt_count (PE.mcl ho) (PE.mcl he) hs hbase hline) fun σ H Q h =>
    ⟨_, h, fun x H1 ⟨l, e, q⟩ => ⟨⟨_, e⟩, _, q, fun y H2 ⟨c, e2, q2⟩ => ⟨S l, S [c], e, by rw [e2], by rw [count_S]; exact q2⟩⟩⟩
/-- "".join(texts), of a list or a tuple -/
def tJoinG (K : PySem.W.Frag) (te : TE) : TE := fun σ H Q => te σ H fun y H1 => ∃ p ls, y = .ref p ∧ SqT K H1 p (strsV ls) ∧ (ls.map (·.length)).sum ≤ 1000000 ∧ Q (.str (S ls.flatten)) H1
theorem pe_joinG {X : Cx} {e : Expr} {te : TE} {x : Str} {j : Nat} {p2 apos pos : Pos} (hx : x = S [] := by decide +kernel) (he : PE X e te) (hs : starEach [e] X.env = [(false, eval e X.env)] := by rfl)
    (hbase : attributeBase (.Constant (.str x) j p2) "join" X.env (eval (.Constant (.str x) j p2) X.env) = eval (.Constant (.str x) j p2) X.env := by rfl) (hline : (apos.endLine == pos.line) = true := by rfl) : PE X (.Call (.Attribute (.Constant (.str x) j p2) "join" apos) [e] [] pos) (tJoinG X.K te) := by
  subst hx
  refine PE.imp (pe_join pe_str (PE.mcl he) hs hbase hline) fun σ H Q h => ⟨⟨_, rfl⟩, _, h, fun v H1 ⟨p, ls, e1, e2, e3, q⟩ => ?_⟩
  refine ⟨S [], p, ls.map S, rfl, by rw [e1], .inr ?_, ?_, ?_⟩
  · rw [List.map_map]; exact e2
  · rw [SX.lens, S_len, List.length_nil, Nat.mul_zero, Nat.add_zero]; omega
  · rw [SX.join_S, joinL_nil]; exact q
/-! ### a comprehension over a range from 0, some left out -/
theorem st_lcR1F {ta : TA} {g : TG} {tt : TT} {te : TE} {vs : List Nat} {σ : L2.St} {H : Hp} {Q : VK} (n : Int) (hn : -(2 ^ 62) ≤ n ∧ n < 2 ^ 62) (ha : ∀ R : List V → Hp → Prop, R [.int n] H → ta σ H R) (hz : n.toNat ≤ sizeLine) (p : Int → Bool) (f : Int → V)
    (hs : ∀ x H' (A : Hp → Prop) (B : VK), 0 ≤ x → x < n → Same H H' → (p x = false → ∀ H3, Same H' H3 → A H3) → (p x = true → ∀ H4, Same H' H4 → B (f x) H4) →
      g (.int x) (wipe σ vs) H' fun σ2 H2 => wipe σ2 vs = wipe σ vs ∧ tt σ2 H2 fun b H3 => if b = true then te σ2 H3 B else A H3)
    (hd : ∀ D H', H D = none → Same H H' → H' D = some (.lst (((intsB 0 n).filter p).map f)) → Q (.ref D) H') : tLc (iRng1 ta) g tt te vs σ H Q := by
  have ln : (intsB 0 n).length = n.toNat := by simp [intsB]
  refine ha _ ⟨n, rfl, hn.1, hn.2, fun D hD => lc_range (fun i H' => Same H H' ∧ H' D = some (.lst ((((intsB 0 n).take i).filter p).map f))) ⟨Same.upd hD, upd_same⟩ (fun i H' hi q => ?_) (fun H' q => hd D H' hD q.1 (by rw [q.2, ← ln, List.take_length]))⟩
  have hi' : (intsB 0 n)[i]? = some (0 + (i : Int)) := by
    have : i < (n - 0).toNat := by omega
    unfold intsB
    rw [List.getElem?_map, List.getElem?_range this]; rfl
  refine hs (0 + i) H' _ _ (by omega) (by omega) q.1 (fun e H3 s3 => ⟨q.1.trans s3, ?_⟩) (fun e H4 s4 => ⟨_, s4 _ _ q.2, ?_, ?_, ?_⟩)
  · rw [s3 _ _ q.2, take_filter_succ hi', e]; simp
  · have h1 : (((intsB 0 n).take i).filter p).length ≤ ((intsB 0 n).take i).length := List.length_filter_le _ _
    have h2 : ((intsB 0 n).take i).length ≤ i := by rw [List.length_take]; exact Nat.min_le_left _ _
    rw [List.length_map]; omega
  · exact fun b u e2 => by
      have hb : b ≠ D := ne_of_none e2 hD
      rw [upd_ne hb]; exact s4 _ _ (q.1 _ _ e2)
  · rw [upd_same, take_filter_succ hi', e]; simp
theorem first_range (p : Int → Bool) (lo : Int) : ∀ n : Nat, (∃ v r, ((List.range n).map fun (k : Nat) => lo + (k : Int)).filter p = v :: r ∧ p v = true ∧ lo ≤ v ∧ v < lo + n ∧ ∀ u, lo ≤ u → u < v → p u = false) ∨
    (((List.range n).map fun (k : Nat) => lo + (k : Int)).filter p = [] ∧ ∀ u, lo ≤ u → u < lo + n → p u = false)
  | 0 => .inr ⟨rfl, fun u h1 h2 => by omega⟩
  | n + 1 => by
    rw [List.range_succ, List.map_append, List.filter_append]
    rcases first_range p lo n with ⟨v, r, e, pv, h1, h2, h3⟩ | ⟨e, h⟩
    · exact .inl ⟨v, _, by rw [e]; rfl, pv, h1, by omega, h3⟩
    · rw [e]
      by_cases c : p (lo + (n : Int)) = true
      · exact .inl ⟨lo + n, [], by simp [c], c, by omega, by omega, fun u h1 h2 => h u h1 h2⟩
      · refine .inr ⟨by simp [c], fun u h1 h2 => ?_⟩
        by_cases d : u = lo + n
        · subst d; simpa using c
        · exact h u h1 (by omega)
theorem first_ints (p : Int → Bool) (lo j : Int) : (∃ v r, (intsB lo j).filter p = v :: r ∧ p v = true ∧ lo ≤ v ∧ v < j ∧ ∀ u, lo ≤ u → u < v → p u = false) ∨ ((intsB lo j).filter p = [] ∧ ∀ u, lo ≤ u → u < j → p u = false) := by
  rcases first_range p lo (j - lo).toNat with ⟨v, r, e, pv, h1, h2, h3⟩ | ⟨e, h⟩
  · exact .inl ⟨v, r, e, pv, h1, by omega, h3⟩
  · exact .inr ⟨e, fun u h1 h2 => h u h1 (by omega)⟩
/-- list(x) of a list or a tuple -/
def rListG (K : PySem.W.Frag) : List V → Hp → VK → Prop := fun xs H Q => ∃ p ys, xs = [.ref p] ∧ LG K H p ys ∧ News H (.lst ys) Q
theorem call_listG {X : Cx} : CallR X (.type "list") (rListG X.K) := CallR.imp call_list_of fun xs H Q ⟨p, ys, a, b, n⟩ => ⟨p, ys, a, b.imp SqL.of id, n.all⟩
/-- normal forms compared by != -/
theorem ne_NF {K : PySem.W.Frag} {H : Hp} {n q n' q' : Addr} {w s h w' s' h' : Int} {R R' : List (List Nat)} {k : VK} (x : NFAt H n q w s h R) (y : NFAt H n' q' w' s' h' R') (f : figs R) (f' : figs R') (r : k (.bl (!decide (w = w' ∧ s = s' ∧ h = h' ∧ R = R'))) H) : rNeD K (.ref n) (.ref n') H k :=
  ⟨_, _, x.dp, y.dp, (sh_dNF (n := 0) f).ok, (sh_dNF (n := 0) f').ok, by rw [eqv_dNF]; exact r⟩
end Iz
/-! Dq -/
set_option Elab.async false
set_option linter.all false
set_option maxRecDepth 100000
set_option maxHeartbeats 4000000
namespace Iz
open PySem PySem.Spec PyProof.Rows L2
/-! ### in, deep -/
theorem u65 {k : Nat} {A : Around} (r : Room k A) : A.units + 65 < cLine := by have := r.un; omega
theorem op_inDk {X : Cx} {K : PySem.W.Frag} (e : X.K = K) (hu : X.A.units + 65 < cLine) : OpR X (compareOp .In) (rInD K) := e ▸ op_inD hu
/-- a list of normal forms, by what each is -/
theorem inD_NF {K : PySem.W.Frag} {H : Hp} {L n q : Addr} {w s h : Int} {R : List (List Nat)} {Q : VK} {xs : List V} {Rs : List (List (List Nat))} (hL : H L = some (.lst xs)) (x : NFAt H n q w s h R) (f : figs R)
    (hx : xs.length = Rs.length) (ha : ∀ (i : Nat) R', Rs[i]? = some R' → figs R' ∧ R' ≠ R ∧ ∃ n' q', xs[i]? = some (.ref n') ∧ NFAt H n' q' w s h R') (r : Q (.bl false) H) : rInD K (.ref n) (.ref L) H Q := by
  refine ⟨dNF w s h R, Rs.map (dNF w s h), x.dp, .lst (SqL.of hL) ?_, (sh_dNF (n := 0) f).ok, (ShN.list (n := 2) fun d hd => ?_).ok, ?_⟩
  · clear hL r
    induction Rs generalizing xs with
    | nil => match xs, hx with | [], _ => exact .nil
    | cons R1 Rs ih =>
      match xs, hx with
      | v :: xs, hx =>
        obtain ⟨_, _, n', q', e, y⟩ := ha 0 R1 rfl
        cases e
        exact .cons y.dp (ih (by simpa using hx) fun i R' hi => ha (i + 1) R' hi)
  · obtain ⟨R1, h1, rfl⟩ := List.mem_map.mp hd
    obtain ⟨i, hi⟩ := List.getElem?_of_mem h1
    exact sh_dNF (n := 0) (ha i R1 hi).1
  · have e : ((Rs.map (dNF w s h)).any fun z => PyData.eqv z (dNF w s h R)) = false := by
      rw [List.any_eq_false]
      intro z hz
      obtain ⟨R1, h1, rfl⟩ := List.mem_map.mp hz
      obtain ⟨i, hi⟩ := List.getElem?_of_mem h1
      rw [eqv_dNF]
      have := (ha i R1 hi).2.1
      simp [this]
    rw [e]; exact r
end Iz
/-! Dd -/
set_option Elab.async false
set_option linter.all false
set_option maxRecDepth 100000
set_option maxHeartbeats 4000000
namespace Iz
open PySem PySem.Spec PyProof.Rows L2
section
variable {X : Cx}
/-! ### {None: v}, d.get(k, x): dicts whose keys are None or ints -/
def tDN1 (P : Program) (w : World) (te : TE) : TE := fun σ H Q => ∀ p H1, H p = none → Same H H1 → H1 p = some (DN P w p [] 0) → te σ H1 fun v H2 => H2 p = some (DN P w p [] 0) ∧ ∀ ep H3, Put H2 H3 p (DN P w p [(none, v)] ep) → Q (.ref p) H3
theorem pe_dn1 {e : Expr} {te : TE} {j : Nat} {p1 pos : Pos} (he : PE X e te) : PE X (.Dict [some (.Constant .none j p1)] [e] pos) (tDN1 X.prog X.w te) := by
  refine ⟨fun pins s σ H Q I q => ?_⟩
  have hn := I.hok.fresh (Nat.le_refl s.heap.objs.size)
  have I1 := I.laid (a := s.heap.objs.size) (o := DN X.prog X.w s.heap.objs.size [] 0) (h' := s.heap.push { cls := .type "dict", data := .dict #[] }) (t' := s.toks) (fun _ _ q => Heap.get?_push_of_some _ q) (Nat.le_refl _)
    (dn_new (Nat.zero_le _) (beq_eq_false_iff_ne.mpr (Ne.symm (Nat.ne_of_lt I.big))) .nil ⟨_, #[], Heap.get?_push_size _ rfl, ⟨rfl, rfl, rfl⟩, rfl, fun _ he => by simp at he, Pairs.nil, List.nodup_nil⟩)
  refine wpAny_Dict_walk (knd := noneKind X.prog X.w) rfl rfl (by simp) (by simp) (thn ((pps_cons (pos := pos) pe_non he pps_nil).run pins _ σ _ (fun ps H2 => match ps with
    | [(.non, v)] => H2 s.heap.objs.size = some (DN X.prog X.w s.heap.objs.size [] 0) ∧ ∀ ep H3, Put H2 H3 s.heap.objs.size (DN X.prog X.w s.heap.objs.size [(none, v)] ep) → Q (.ref s.heap.objs.size) H3
    | _ => False) I1 (q _ _ hn (Same.upd hn) upd_same)) fun ws s2 ⟨ps, H2, I2, rel, q2⟩ => ?_)
  match ps, rel, q2 with
  | [(.non, v)], .cons (b := (u, b)) ⟨r1, r2⟩ .nil, ⟨e, q3⟩ =>
    obtain ⟨z, hd, vs0, r0, dd⟩ := dn_get I2 e
    cases r0
    refine ⟨[(none, b)], ⟨kN_is (k := none) r1, rfl, trivial⟩, dd.dictOf, fun h' dd' hs => ?_⟩
    obtain ⟨ep', dd2⟩ := dd'.dictAt
    have hx : ∃ q, h'.get? s.heap.objs.size = some q := let ⟨q, _, _, hq, _⟩ := dd'; ⟨q, hq⟩
    exact ⟨.ref s.heap.objs.size, upd H2 s.heap.objs.size (DN X.prog X.w s.heap.objs.size [(none, v)] ep'), d_write I2 (by rw [e]; exact True.intro) hs hx (dn_new (by rw [sizeLine_eq]; simp) hd (vs := [(none, b)]) (.cons ⟨rfl, r2⟩ .nil) dd2), rfl, q3 ep' _ ⟨upd_same, fun c hc => upd_ne hc⟩⟩
/-- d.get(k, x) -/
def tDGetN (P : Program) (w : World) (td ty tx : TE) : TE := fun σ H Q => td σ H fun x H1 => ∃ a kvs ep, x = .ref a ∧ H1 a = some (DN P w a kvs ep) ∧ ty σ H1 fun y H2 => tx σ H2 fun z H3 => ∃ kvs ep k, H3 a = some (DN P w a kvs ep) ∧ y = ov k ∧ Q ((valV kvs k).getD z) H3
theorem pe_dgetN {o e f : Expr} {td ty tx : TE} {apos cpos : Pos} (ho : PE X o td) (he : PE X e ty) (hf : PE X f tx) (m : M2 X o "get" apos e f cpos) : PE X (.Call (.Attribute o "get" apos) [e, f] [] cpos) (tDGetN X.prog X.w td ty tx) := by
  refine ⟨fun pins s σ H Q I h => ?_⟩
  refine wpAny_Call_method m.base m.few m.line PySem.F.plainAttrs_dict PySem.F.slot_dict_get PySem.F.type_dict_get (thn (ho.run pins s σ H _ I h) fun u s1 ⟨x, H1, I1, rx, a, kvs, ep, ex, d, q1⟩ => ?_)
  subst ex
  obtain rfl : u = Value.ref a := rx
  obtain ⟨z, hd, vs, rel, dd⟩ := dn_get I1 d
  refine ⟨dd.dictOf.typeIs, fun b q => ?_, ?_⟩
  · cases q
    obtain ⟨ob, _, h1, h2, _⟩ := dd
    exact ⟨ob, h1, h2.2.1⟩
  rw [m.trees]
  refine Calls.callWith_builtin rfl (Calls.evalArgs_plain (Calls.spliced_cons (thn (he.run pins s1 σ H1 _ I1 q1) fun iv s2 ⟨y, H2, I2, ry, q2⟩ =>
    Calls.spliced_cons (thn (hf.run pins s2 σ H2 _ I2 q2) fun fv s3 ⟨z, H3, I3, rz, kvs3, ep3, k, e3, ey, q3⟩ => Calls.spliced_nil ?_))))
  subst ey
  obtain ⟨z3, hd3, vs3, rel3, dd3⟩ := dn_get I3 e3
  refine call_meetsIn PySem.F.slot_dict_get dd3.dictOf.typeIs PySem.F.entry_dict_get (PySem.F.args_dict_get_3 _ _ _) (meets_dict_get_default (noneKind X.prog X.w) a (kN_is ry) hd3 fv) ⟨_, dd3.dictOf.mapOf, _, H3, I3.tok _, ?_, q3⟩
  have := (rel3.val (kk k)).getD rz
  rw [valV_kvK] at this
  exact this
theorem pe_dn1k {P : Program} {w : World} (h1 : X.prog = P) (h2 : X.w = w) {e : Expr} {te : TE} {j : Nat} {p1 pos : Pos} (he : PE X e te) : PE X (.Dict [some (.Constant .none j p1)] [e] pos) (tDN1 P w te) := by subst h1 h2; exact pe_dn1 he
theorem pe_dgetNk {P : Program} {w : World} (h1 : X.prog = P) (h2 : X.w = w) {o e f : Expr} {td ty tx : TE} {apos cpos : Pos} (ho : PE X o td) (he : PE X e ty) (hf : PE X f tx) (m : M2 X o "get" apos e f cpos) : PE X (.Call (.Attribute o "get" apos) [e, f] [] cpos) (tDGetN P w td ty tx) := by subst h1 h2; exact pe_dgetN ho he hf m
/-- x in a tuple, deep -/
def rInDT (K : PySem.W.Frag) : R2 := fun x y H Q => ∃ d ds, Dp K H x d ∧ Dp K H y (.tuple ds) ∧ SeqAt.shaped d = true ∧ SeqAt.shaped (.tuple ds) = true ∧ Q (.bl (ds.any fun z => PyData.eqv z d)) H
theorem op_inDTk {K : PySem.W.Frag} (ek : X.K = K) (hu : X.A.units + 65 < cLine) : OpR X (compareOp .In) (rInDT K) := by
  subst ek
  intro pins s σ H x y v u Q I rx ry h
  obtain ⟨d, ds, hd, he, sd, se, q⟩ := h
  obtain ⟨as, r1⟩ := Dp.reads I d x v hd rx
  obtain ⟨bs, r2⟩ := Dp.reads I (.tuple ds) y u he ry
  exact SeqAt.in_tuple_reads r2 r1 (SeqAt.canLay_of_shaped se) (SeqAt.canLay_of_shaped sd) (room_in_shaped sd hu) ⟨.bl _, H, I, rfl, q⟩
end
end Iz
/-! Sb -/
set_option Elab.async false
set_option linter.all false
set_option maxRecDepth 100000
set_option maxHeartbeats 4000000
namespace Iz
/-! ### bands: ascending pieces of the integers, each with a worth -/
abbrev Bd (α : Type) := Option Int × Option Int × α
def lowOk (lo : Option Int) (y : Int) : Bool := match lo with | none => true | some l => decide (l ≤ y)
def highOk (hi : Option Int) (y : Int) : Bool := match hi with | none => true | some h => decide (y < h)
def lies (lo hi : Option Int) (y : Int) : Bool := lowOk lo y && highOk hi y
section
variable {α : Type}
/-- the worth at a number -/
def valB (z : α) : List (Bd α) → Int → α
  | [], _ => z
  | b :: r, y => if lies b.1 b.2.1 y then b.2.2 else valB z r y
def okE (lo hi : Option Int) : Prop := ∀ l h, lo = some l → hi = some h → l < h
/-- ascending, none empty, none over another -/
def AscB : List (Bd α) → Prop
  | [] => True
  | b :: r => okE b.1 b.2.1 ∧ (match r with | [] => True | b' :: _ => ∃ h l, b.2.1 = some h ∧ b'.1 = some l ∧ h ≤ l) ∧ AscB r
/-- and touching ones have unlike worths -/
def Can : List (Bd α) → Prop
  | [] => True
  | b :: r => okE b.1 b.2.1 ∧ (match r with | [] => True | b' :: _ => ∃ h l, b.2.1 = some h ∧ b'.1 = some l ∧ h ≤ l ∧ (h = l → b.2.2 ≠ b'.2.2)) ∧ Can r
theorem Can.asc : ∀ {xs : List (Bd α)}, Can xs → AscB xs
  | [], _ => trivial
  | [b], h => ⟨h.1, trivial, trivial⟩
  | b :: b' :: r, h => by
    obtain ⟨h1, ⟨hh, l, e1, e2, e3, _⟩, h3⟩ := h
    exact ⟨h1, ⟨hh, l, e1, e2, e3⟩, h3.asc⟩
theorem lies_iff {lo hi : Option Int} {y : Int} : lies lo hi y = true ↔ (∀ l, lo = some l → l ≤ y) ∧ ∀ h, hi = some h → y < h := by
  unfold lies lowOk highOk
  cases lo <;> cases hi <;> simp
/-- what begins at l or above is worth nothing below l -/
theorem AscB.below {z : α} : ∀ {xs : List (Bd α)} {l y : Int}, AscB xs → (∀ b r, xs = b :: r → ∃ k, b.1 = some k ∧ l ≤ k) → y < l → valB z xs y = z
  | [], _, _, _, _, _ => rfl
  | b :: r, l, y, h, hl, hy => by
    obtain ⟨k, e, lk⟩ := hl b r rfl
    have no : ¬ lies b.1 b.2.1 y = true := fun q => by
      have := (lies_iff.mp q).1 k e
      omega
    simp only [valB, if_neg no]
    refine AscB.below h.2.2 (l := l) (fun b' r' e' => ?_) hy
    subst e'
    obtain ⟨h1, ⟨hh, m, e1, e2, e3⟩, _⟩ := h
    have := h1 k hh e e1
    exact ⟨m, e2, by omega⟩
theorem AscB.tail {b : Bd α} {r : List (Bd α)} (h : AscB (b :: r)) : AscB r := h.2.2
theorem Can.tail {b : Bd α} {r : List (Bd α)} (h : Can (b :: r)) : Can r := h.2.2
/-- behind the head's end nothing of the head -/
theorem AscB.next {b : Bd α} {r : List (Bd α)} {hh : Int} (h : AscB (b :: r)) (e : b.2.1 = some hh) : ∀ b' r', r = b' :: r' → ∃ k, b'.1 = some k ∧ hh ≤ k := by
  intro b' r' er
  subst er
  obtain ⟨_, ⟨h1, l, e1, e2, e3⟩, _⟩ := h
  rw [e] at e1; cases e1
  exact ⟨l, e2, e3⟩
theorem AscB.last {b : Bd α} {r : List (Bd α)} (h : AscB (b :: r)) (e : b.2.1 = none) : r = [] := by
  cases r with
  | nil => rfl
  | cons b' r' =>
    obtain ⟨_, ⟨h1, l, e1, _, _⟩, _⟩ := h
    rw [e] at e1; cases e1
theorem valB_in {z : α} {b : Bd α} {r : List (Bd α)} {y : Int} (h : lies b.1 b.2.1 y = true) : valB z (b :: r) y = b.2.2 := by simp only [valB, if_pos h]
theorem valB_out {z : α} {b : Bd α} {r : List (Bd α)} {y : Int} (h : ¬ lies b.1 b.2.1 y = true) : valB z (b :: r) y = valB z r y := by simp only [valB, if_neg h]
/-- at the head's end another worth -/
theorem Can.at_end {z : α} {b : Bd α} {r : List (Bd α)} {hh : Int} (h : Can (b :: r)) (nz : ∀ c ∈ b :: r, c.2.2 ≠ z) (e : b.2.1 = some hh) : valB z (b :: r) hh ≠ b.2.2 := by
  have no : ¬ lies b.1 b.2.1 hh = true := fun q => by
    have := (lies_iff.mp q).2 hh e
    omega
  rw [valB_out no]
  cases r with
  | nil => exact fun q => nz b (by simp) q.symm
  | cons b' r' =>
    obtain ⟨h1, ⟨h2, l, e1, e2, e3, e4⟩, h5⟩ := h
    rw [e] at e1; cases e1
    by_cases c : hh = l
    · have yes : lies b'.1 b'.2.1 hh = true := lies_iff.mpr ⟨fun m em => by rw [e2] at em; cases em; omega, fun m em => by have := h5.1 l m e2 em; omega⟩
      rw [valB_in yes]
      exact fun q => e4 c q.symm
    · rw [AscB.below h5.asc (l := l) (fun c r e' => by cases e'; exact ⟨l, e2, Int.le_refl _⟩) (by omega)]
      exact fun q => nz b (by simp) q.symm
/-- a number below all ends -/
theorem low_point : ∀ xs : List (Bd α), ∃ m : Int, ∀ b ∈ xs, (∀ l, b.1 = some l → m < l) ∧ ∀ h, b.2.1 = some h → m < h
  | [] => ⟨0, fun b h => by cases h⟩
  | b :: r => by
    obtain ⟨m, hm⟩ := low_point r
    obtain ⟨k, k1, k2⟩ : ∃ k : Int, (∀ l, b.1 = some l → k < l) ∧ ∀ h, b.2.1 = some h → k < h := by
      obtain ⟨lo, hi, w⟩ := b
      cases lo with
      | none => cases hi with
        | none => exact ⟨0, (fun l e => by cases e), (fun h e => by cases e)⟩
        | some h => exact ⟨h - 1, (fun l e => by cases e), (fun h e => by cases e; omega)⟩
      | some l => cases hi with
        | none => exact ⟨l - 1, (fun l e => by cases e; omega), (fun h e => by cases e)⟩
        | some h => exact ⟨min l h - 1, (fun l e => by cases e; omega), (fun h e => by cases e; omega)⟩
    refine ⟨min m k, fun c hc => ?_⟩
    rcases List.mem_cons.mp hc with rfl | hc
    · exact ⟨fun l e => by have := k1 l e; omega, fun h e => by have := k2 h e; omega⟩
    · exact ⟨fun l e => by have := (hm c hc).1 l e; omega, fun h e => by have := (hm c hc).2 h e; omega⟩
/-- the same worths, the same bands -/
theorem Can.uniq {z : α} : ∀ {xs ys : List (Bd α)}, Can xs → Can ys → (∀ c ∈ xs, c.2.2 ≠ z) → (∀ c ∈ ys, c.2.2 ≠ z) → (∀ y, valB z xs y = valB z ys y) → xs = ys
  | [], [], _, _, _, _, _ => rfl
  | [], b :: r, _, h2, _, n2, e => by
    exfalso
    obtain ⟨y, hy⟩ : ∃ y, lies b.1 b.2.1 y = true := by
      obtain ⟨lo, hi, w⟩ := b
      have ok := h2.1
      cases lo with
      | none => cases hi with
        | none => exact ⟨0, by simp [lies, lowOk, highOk]⟩
        | some h => exact ⟨h - 1, by simp [lies, lowOk, highOk]; omega⟩
      | some l => cases hi with
        | none => exact ⟨l, by simp [lies, lowOk, highOk]⟩
        | some h => exact ⟨l, by have := ok l h rfl rfl; simp [lies, lowOk, highOk]; omega⟩
    have := e y
    rw [valB_in hy] at this
    exact n2 b (by simp) this.symm
  | b :: r, [], h1, _, n1, _, e => by
    exfalso
    obtain ⟨y, hy⟩ : ∃ y, lies b.1 b.2.1 y = true := by
      obtain ⟨lo, hi, w⟩ := b
      have ok := h1.1
      cases lo with
      | none => cases hi with
        | none => exact ⟨0, by simp [lies, lowOk, highOk]⟩
        | some h => exact ⟨h - 1, by simp [lies, lowOk, highOk]; omega⟩
      | some l => cases hi with
        | none => exact ⟨l, by simp [lies, lowOk, highOk]⟩
        | some h => exact ⟨l, by have := ok l h rfl rfl; simp [lies, lowOk, highOk]; omega⟩
    have := e y
    rw [valB_in hy] at this
    exact n1 b (by simp) this
  | b :: r, b' :: r', h1, h2, n1, n2, e => by
    obtain ⟨lo, hi, w⟩ := b
    obtain ⟨lo', hi', w'⟩ := b'
    have ok := h1.1
    have ok' := h2.1
    have nw : w ≠ z := n1 _ (List.mem_cons_self ..)
    have nw' : w' ≠ z := n2 _ (List.mem_cons_self ..)
    -- the beginnings
    have start : ∀ {lo lo' hi hi' : Option Int} {w w' : α} {r r' : List (Bd α)}, Can ((lo, hi, w) :: r) → Can ((lo', hi', w') :: r') → w ≠ z → (∀ y, valB z ((lo, hi, w) :: r) y = valB z ((lo', hi', w') :: r') y) → ∀ l', lo' = some l' → ∃ l, lo = some l ∧ l' ≤ l := by
      intro lo lo' hi hi' w w' r r' h1 h2 nw e l' el
      have key : ∀ y, y < l' → ¬ lies lo hi y = true := fun y hy q => by
        have h := e y
        rw [valB_in q, AscB.below h2.asc (l := l') (fun b r e' => by cases e'; exact ⟨l', el, Int.le_refl _⟩) hy] at h
        exact nw h
      cases lo with
      | none => cases hi with
        | none => exact absurd (by simp [lies, lowOk, highOk]) (key (l' - 1) (by omega))
        | some h => exact absurd (by simp [lies, lowOk, highOk]; omega) (key (min l' h - 1) (by omega))
      | some l =>
        refine ⟨l, rfl, ?_⟩
        by_cases c : l' ≤ l
        · exact c
        · refine absurd ?_ (key l (by omega))
          cases hi with
          | none => simp [lies, lowOk, highOk]
          | some h => have := h1.1 l h rfl rfl; simp [lies, lowOk, highOk]; omega
    have elo : lo = lo' := by
      cases lo with
      | none => cases lo' with
        | none => rfl
        | some l' => obtain ⟨l, q, _⟩ := start h1 h2 nw e l' rfl; cases q
      | some l => cases lo' with
        | none => obtain ⟨l', q, _⟩ := start h2 h1 nw' (fun y => (e y).symm) l rfl; cases q
        | some l' =>
          obtain ⟨m, q, a⟩ := start h1 h2 nw e l' rfl; cases q
          obtain ⟨m, q, b⟩ := start h2 h1 nw' (fun y => (e y).symm) l rfl; cases q
          congr 1; omega
    subst elo
    -- a common point
    obtain ⟨y, hy, hy'⟩ : ∃ y, lies lo hi y = true ∧ lies lo hi' y = true := by
      cases lo with
      | some l => exact ⟨l, lies_iff.mpr ⟨fun k q => by cases q; omega, fun h q => ok l h rfl q⟩, lies_iff.mpr ⟨fun k q => by cases q; omega, fun h q => ok' l h rfl q⟩⟩
      | none => cases hi with
        | none => cases hi' with
          | none => exact ⟨0, by simp [lies, lowOk, highOk], by simp [lies, lowOk, highOk]⟩
          | some h' => exact ⟨h' - 1, by simp [lies, lowOk, highOk], by simp [lies, lowOk, highOk]; omega⟩
        | some h => cases hi' with
          | none => exact ⟨h - 1, by simp [lies, lowOk, highOk]; omega, by simp [lies, lowOk, highOk]⟩
          | some h' => exact ⟨min h h' - 1, by simp [lies, lowOk, highOk]; omega, by simp [lies, lowOk, highOk]; omega⟩
    have ew : w = w' := by
      have := e y
      rwa [valB_in hy, valB_in hy'] at this
    subst ew
    -- the ends
    have fin : ∀ {hi hi' : Option Int} {r r' : List (Bd α)}, Can ((lo, hi, w) :: r) → Can ((lo, hi', w) :: r') → (∀ c ∈ (lo, hi, w) :: r, c.2.2 ≠ z) → (∀ y, valB z ((lo, hi, w) :: r) y = valB z ((lo, hi', w) :: r') y) → ∀ h, hi = some h → ∃ h', hi' = some h' ∧ h' ≤ h := by
      intro hi hi' r r' h1 h2 n1 e h eh
      have ne := h1.at_end n1 eh
      have key : ¬ lies lo hi' h = true := fun q => by
        rw [e h, valB_in q] at ne
        exact ne rfl
      cases hi' with
      | none =>
        refine absurd (lies_iff.mpr ⟨fun l q => ?_, fun k q => by cases q⟩) key
        have := h1.1 l h q eh; omega
      | some h' =>
        refine ⟨h', rfl, ?_⟩
        by_cases c : h' ≤ h
        · exact c
        · refine absurd (lies_iff.mpr ⟨fun l q => ?_, fun k q => by cases q; omega⟩) key
          have := h1.1 l h q eh; omega
    have ehi : hi = hi' := by
      cases hi with
      | none => cases hi' with
        | none => rfl
        | some h' => obtain ⟨h, q, _⟩ := fin h2 h1 n2 (fun y => (e y).symm) h' rfl; cases q
      | some h => cases hi' with
        | none => obtain ⟨h', q, _⟩ := fin h1 h2 n1 e h rfl; cases q
        | some h' =>
          obtain ⟨m, q, a⟩ := fin h1 h2 n1 e h rfl; cases q
          obtain ⟨m, q, b⟩ := fin h2 h1 n2 (fun y => (e y).symm) h' rfl; cases q
          congr 1; omega
    subst ehi
    congr 1
    cases hi with
    | none => rw [h1.asc.last rfl, h2.asc.last rfl]
    | some h =>
      refine Can.uniq h1.tail h2.tail (fun c hc => n1 c (List.mem_cons_of_mem _ hc)) (fun c hc => n2 c (List.mem_cons_of_mem _ hc)) fun y => ?_
      by_cases c : y < h
      · rw [AscB.below h1.tail.asc (l := h) (h1.asc.next rfl) c, AscB.below h2.tail.asc (l := h) (h2.asc.next rfl) c]
      · have no : ¬ lies lo (some h) y = true := fun q => by
          have := (lies_iff.mp q).2 h rfl
          omega
        have := e y
        rwa [valB_out no, valB_out no] at this
/-! ### bands joined -/
theorem can_snoc {b c : Bd α} : ∀ {xs : List (Bd α)}, Can (xs ++ [c]) → okE b.1 b.2.1 → (∃ h l, c.2.1 = some h ∧ b.1 = some l ∧ h ≤ l ∧ (h = l → c.2.2 ≠ b.2.2)) → Can (xs ++ [c, b])
  | [], h, ok, k => ⟨h.1, k, ok, trivial, trivial⟩
  | [x], h, ok, k => ⟨h.1, h.2.1, h.2.2.1, k, ok, trivial, trivial⟩
  | x :: x' :: xs, h, ok, k => ⟨h.1, h.2.1, can_snoc (xs := x' :: xs) h.2.2 ok k⟩
theorem can_last {c : Bd α} {hi : Option Int} : ∀ {xs : List (Bd α)}, Can (xs ++ [c]) → okE c.1 hi → Can (xs ++ [(c.1, hi, c.2.2)])
  | [], h, ok => ⟨ok, trivial, trivial⟩
  | [x], h, ok => ⟨h.1, h.2.1, ok, trivial, trivial⟩
  | x :: x' :: xs, h, ok => ⟨h.1, h.2.1, can_last (xs := x' :: xs) h.2.2 ok⟩
theorem valB_right {z : α} {y : Int} : ∀ {xs ys : List (Bd α)}, (∀ b ∈ xs, ¬ lies b.1 b.2.1 y = true) → valB z (xs ++ ys) y = valB z ys y
  | [], _, _ => rfl
  | b :: xs, ys, h => by
    rw [List.cons_append, valB_out (h b (by simp)), valB_right fun c hc => h c (by simp [hc])]
theorem valB_none {z : α} {y : Int} : ∀ {xs : List (Bd α)}, (∀ b ∈ xs, ¬ lies b.1 b.2.1 y = true) → valB z xs y = z
  | [], _ => rfl
  | b :: xs, h => by rw [valB_out (h b (by simp)), valB_none fun c hc => h c (by simp [hc])]
theorem valB_left {z : α} {y : Int} : ∀ {xs ys : List (Bd α)}, (∀ b ∈ ys, ¬ lies b.1 b.2.1 y = true) → valB z (xs ++ ys) y = valB z xs y
  | [], ys, h => valB_none h
  | b :: xs, ys, h => by
    by_cases c : lies b.1 b.2.1 y = true
    · rw [List.cons_append, valB_in c, valB_in c]
    · rw [List.cons_append, valB_out c, valB_out c, valB_left h]
/-- one band more -/
def stepJ [DecidableEq α] (z : α) (acc : List (Bd α)) (b : Bd α) : List (Bd α) :=
  if b.2.2 = z then acc else match acc.getLast? with
    | some c => if c.2.1 = b.1 ∧ c.2.2 = b.2.2 then acc.dropLast ++ [(c.1, b.2.1, b.2.2)] else acc ++ [b]
    | none => acc ++ [b]
def joinB [DecidableEq α] (z : α) (bs : List (Bd α)) : List (Bd α) := bs.foldl (stepJ z) []
/-- bands side by side, from here on without end -/
def Tile : Option Int → List (Bd α) → Prop
  | _, [] => False
  | lo, b :: r => b.1 = lo ∧ okE b.1 b.2.1 ∧ (match b.2.1 with | none => r = [] | some h => Tile (some h) r)
/-- all ends at this number or below it -/
def Upto (xs : List (Bd α)) (lo : Option Int) : Prop := match lo with | none => xs = [] | some l => ∀ b ∈ xs, ∃ h, b.2.1 = some h ∧ h ≤ l
theorem Upto.no {xs : List (Bd α)} {l y : Int} (u : Upto xs (some l)) (h : l ≤ y) : ∀ b ∈ xs, ¬ lies b.1 b.2.1 y = true := fun b hb q => by
  obtain ⟨k, e, hk⟩ := u b hb
  have := (lies_iff.mp q).2 k e
  omega
theorem stepJ_ok [DecidableEq α] {z : α} {acc : List (Bd α)} {b : Bd α} (cn : Can acc) (nz : ∀ c ∈ acc, c.2.2 ≠ z) (up : Upto acc b.1) (ok : okE b.1 b.2.1) :
    Can (stepJ z acc b) ∧ (∀ c ∈ stepJ z acc b, c.2.2 ≠ z) ∧ (∀ h, b.2.1 = some h → Upto (stepJ z acc b) (some h)) ∧ ∀ y, valB z (stepJ z acc b) y = if lies b.1 b.2.1 y then b.2.2 else valB z acc y := by
  obtain ⟨lo, hi, w⟩ := b
  have upw : ∀ h, hi = some h → ∀ b ∈ acc, ∃ k, b.2.1 = some k ∧ k ≤ h := fun h eh b hb => by
    cases lo with
    | none => rw [show acc = [] from up] at hb; cases hb
    | some l =>
      obtain ⟨k, e, hk⟩ := up b hb
      have := ok l h rfl eh
      exact ⟨k, e, by omega⟩
  have clear_ : ∀ y, lies lo hi y = true → ∀ b ∈ acc, ¬ lies b.1 b.2.1 y = true := fun y hy b hb => by
    cases lo with
    | none => rw [show acc = [] from up] at hb; cases hb
    | some l => exact Upto.no (l := l) up ((lies_iff.mp hy).1 l rfl) b hb
  unfold stepJ
  by_cases cw : w = z
  · rw [if_pos cw]
    refine ⟨cn, nz, fun h eh => upw h eh, fun y => ?_⟩
    split
    · rename_i hy
      rw [valB_none (clear_ y hy)]; exact cw.symm
    · rfl
  · rw [if_neg cw]
    rcases List.eq_nil_or_concat acc with rfl | ⟨init, c, rfl⟩
    · refine ⟨⟨ok, trivial, trivial⟩, fun c hc => ?_, fun h eh b hb => ?_, fun y => ?_⟩
      · have : c = (lo, hi, w) := by simpa using hc
        rw [this]; exact cw
      · have : b = (lo, hi, w) := by simpa using hb
        rw [this]; exact ⟨h, eh, Int.le_refl _⟩
      · rfl
    · rw [List.concat_eq_append] at *
      have hl : (init ++ [c]).getLast? = some c := by simp
      rw [hl]
      simp only
      obtain ⟨l, rfl⟩ : ∃ l, lo = some l := by
        cases lo with
        | none => have : init ++ [c] = [] := up; simp at this
        | some l => exact ⟨l, rfl⟩
      obtain ⟨h1, e1, hl1⟩ := up c (by simp)
      by_cases m : c.2.1 = some l ∧ c.2.2 = w
      · rw [if_pos m, List.dropLast_concat]
        obtain ⟨m1, m2⟩ := m
        obtain ⟨clo, chi, cw'⟩ := c
        simp only at m1 m2 e1
        subst m1 m2
        cases e1
        have okc : okE clo hi := fun a h ea eh => by
          have h2 := ok l h rfl eh
          have h3 : okE clo (some l) := by
            clear up upw clear_ nz hl hl1
            induction init with
            | nil => exact cn.1
            | cons x xs ih => exact ih (by cases xs <;> exact cn.2.2)
          have := h3 a l ea rfl
          omega
        refine ⟨can_last cn okc, fun d hd => ?_, fun h eh d hd => ?_, fun y => ?_⟩
        · rcases List.mem_append.mp hd with hd | hd
          · exact nz d (by simp [hd])
          · rw [List.mem_singleton.mp hd]; exact cw
        · rcases List.mem_append.mp hd with hd | hd
          · exact upw h eh d (by simp [hd])
          · rw [List.mem_singleton.mp hd]; exact ⟨h, eh, Int.le_refl _⟩
        · by_cases hy : lies (some l) hi y = true
          · rw [if_pos hy, valB_right fun b hb => clear_ y hy b (by simp [hb])]
            refine valB_in (lies_iff.mpr ⟨fun a ea => ?_, (lies_iff.mp hy).2⟩)
            have := (lies_iff.mp hy).1 l rfl
            have ea : clo = some a := ea
            have h3 : okE clo (some l) := by
              clear up upw clear_ nz hl okc
              induction init with
              | nil => exact cn.1
              | cons x xs ih => exact ih (by cases xs <;> exact cn.2.2)
            have := h3 a l ea rfl
            omega
          · rw [if_neg hy]
            by_cases hc : lies clo (some l) y = true
            · by_cases ex : ∀ b ∈ init, ¬ lies b.1 b.2.1 y = true
              · rw [valB_right ex, valB_right ex, valB_in (b := (clo, some l, cw')) hc]
                refine valB_in (lies_iff.mpr ⟨(lies_iff.mp hc).1, fun h eh => ?_⟩)
                have := (lies_iff.mp hc).2 l rfl
                have := ok l h rfl eh
                omega
              · have go : ∀ (xs : List (Bd α)) (t t' : List (Bd α)), (¬ ∀ b ∈ xs, ¬ lies b.1 b.2.1 y = true) → valB z (xs ++ t) y = valB z (xs ++ t') y := by
                  intro xs t t'
                  induction xs with
                  | nil => intro h; exact absurd (fun b hb => by cases hb) h
                  | cons x xs ih =>
                    intro h
                    by_cases cx : lies x.1 x.2.1 y = true
                    · rw [List.cons_append, List.cons_append, valB_in cx, valB_in cx]
                    · rw [List.cons_append, List.cons_append, valB_out cx, valB_out cx]
                      refine ih fun q => h fun b hb => ?_
                      rcases List.mem_cons.mp hb with rfl | hb
                      · exact cx
                      · exact q b hb
                exact go init _ _ ex
            · rw [valB_left (ys := [(clo, hi, cw')]) fun b hb => ?_, valB_left (ys := [(clo, some l, cw')]) fun b hb => ?_]
              · rw [List.mem_singleton.mp hb]; exact hc
              · rw [List.mem_singleton.mp hb]
                intro q
                refine hc (lies_iff.mpr ⟨(lies_iff.mp q).1, fun h eh => ?_⟩)
                cases eh
                by_cases cy : y < l
                · exact cy
                · exact absurd (lies_iff.mpr ⟨fun a ea => by cases ea; omega, (lies_iff.mp q).2⟩) hy
      · rw [if_neg m]
        refine ⟨?_, fun d hd => ?_, fun h eh d hd => ?_, fun y => ?_⟩
        · rw [List.append_assoc]
          refine can_snoc cn ok ⟨h1, l, e1, rfl, hl1, fun e q => m ⟨by rw [e1, e], q⟩⟩
        · rcases List.mem_append.mp hd with hd | hd
          · exact nz d hd
          · rw [List.mem_singleton.mp hd]; exact cw
        · rcases List.mem_append.mp hd with hd | hd
          · exact upw h eh d hd
          · rw [List.mem_singleton.mp hd]; exact ⟨h, eh, Int.le_refl _⟩
        · by_cases hy : lies (some l) hi y = true
          · rw [if_pos hy, valB_right (clear_ y hy)]
            exact valB_in hy
          · rw [if_neg hy]
            exact valB_left fun b hb => by rw [List.mem_singleton.mp hb]; exact hy
/-- what joining makes of bands side by side: the bands of their worths -/
theorem join_ok [DecidableEq α] {z : α} : ∀ {T acc : List (Bd α)} {lo : Option Int}, Tile lo T → Can acc → (∀ c ∈ acc, c.2.2 ≠ z) → Upto acc lo →
    Can (T.foldl (stepJ z) acc) ∧ (∀ c ∈ T.foldl (stepJ z) acc, c.2.2 ≠ z) ∧ ∀ y, valB z (T.foldl (stepJ z) acc) y = if lowOk lo y then valB z T y else valB z acc y
  | [], _, _, h, _, _, _ => h.elim
  | b :: r, acc, lo, h, cn, nz, up => by
    obtain ⟨e, ok, h3⟩ := h
    subst e
    obtain ⟨s1, s2, s3, s4⟩ := stepJ_ok cn nz up ok
    rw [List.foldl_cons]
    cases hb : b.2.1 with
    | none =>
      rw [hb] at h3
      simp only at h3
      subst h3
      refine ⟨s1, s2, fun y => ?_⟩
      rw [List.foldl_nil, s4 y]
      unfold lies
      rw [hb]
      have : highOk none y = true := rfl
      rw [this, Bool.and_true]
      split
      · rename_i q
        exact (valB_in (by unfold lies; rw [hb, this, Bool.and_true]; exact q)).symm
      · rfl
    | some hh =>
      rw [hb] at h3
      simp only at h3
      obtain ⟨t1, t2, t3⟩ := join_ok h3 s1 s2 (s3 hh hb)
      refine ⟨t1, t2, fun y => ?_⟩
      rw [t3 y, s4 y]
      have ls : lies b.1 b.2.1 y = (lowOk b.1 y && decide (y < hh)) := by unfold lies; rw [hb]; rfl
      have low : lowOk (some hh) y = true → lowOk b.1 y = true := fun q => by
        have q : hh ≤ y := by simpa [lowOk] using q
        cases hl : b.1 with
        | none => rfl
        | some l => have := ok l hh hl hb; simp [lowOk]; omega
      by_cases c1 : lowOk (some hh) y = true
      · rw [if_pos c1, if_pos (low c1)]
        refine (valB_out fun q => ?_).symm
        have := (lies_iff.mp q).2 hh hb
        have c1 : hh ≤ y := by simpa [lowOk] using c1
        omega
      · rw [if_neg c1]
        have c1' : y < hh := by simp [lowOk] at c1; omega
        by_cases c2 : lowOk b.1 y = true
        · have yes : lies b.1 b.2.1 y = true := by rw [ls, c2]; simpa using c1'
          rw [if_pos yes, if_pos c2, valB_in yes]
        · rw [if_neg c2, if_neg (fun q => c2 (by rw [ls] at q; simp at q; exact q.1))]
theorem joinB_ok [DecidableEq α] {z : α} {T : List (Bd α)} (h : Tile none T) : Can (joinB z T) ∧ (∀ c ∈ joinB z T, c.2.2 ≠ z) ∧ ∀ y, valB z (joinB z T) y = valB z T y := by
  obtain ⟨a, b, c⟩ := join_ok (z := z) h (acc := []) trivial (fun c hc => by cases hc) rfl
  exact ⟨a, b, fun y => c y⟩
/-! ### changes -/
def putA : List (Option Int × α) → Option Int → α → List (Option Int × α)
  | [], k, v => [(k, v)]
  | p :: r, k, v => if p.1 = k then (p.1, v) :: r else p :: putA r k v
def valA : List (Option Int × α) → Option Int → Option α
  | [], _ => none
  | p :: r, k => if p.1 = k then some p.2 else valA r k
theorem valA_put {kvs : List (Option Int × α)} {k j : Option Int} {v : α} : valA (putA kvs k v) j = if k = j then some v else valA kvs j := by
  induction kvs with
  | nil => simp [putA, valA]
  | cons p r ih =>
    unfold putA
    by_cases c : p.1 = k
    · rw [if_pos c]
      simp only [valA]
      by_cases d : p.1 = j
      · rw [if_pos d, if_pos (by rw [← c, d])]
      · rw [if_neg d, if_neg (fun q => d (c.trans q)), if_neg d]
    · rw [if_neg c]
      simp only [valA]
      by_cases d : p.1 = j
      · rw [if_pos d, if_pos d, if_neg (fun q => c (d.trans q.symm))]
      · rw [if_neg d, if_neg d, ih]
def stepC (z : α) (kv : List (Option Int × α)) (b : Bd α) : List (Option Int × α) := match b.2.1 with
  | none => putA kv b.1 b.2.2
  | some h => putA (putA kv b.1 b.2.2) (some h) z
def chgA (z : α) (bs : List (Bd α)) : List (Option Int × α) := bs.foldl (stepC z) [(none, z)]
/-- the worth below all ends -/
def botB (z : α) : List (Bd α) → α
  | [] => z
  | b :: _ => if b.1 = none then b.2.2 else z
structure Chg (z : α) (kv : List (Option Int × α)) (bs : List (Bd α)) : Prop where
  a : ∀ e v, valA kv (some e) = some v → v = valB z bs e ∧ ∃ b ∈ bs, b.1 = some e ∨ b.2.1 = some e
  b : ∀ e, valA kv (some e) = none → ∀ b ∈ bs, b.1 ≠ some e ∧ b.2.1 ≠ some e
  c : valA kv none = some (botB z bs)
theorem Chg.start {z : α} : Chg z [(none, z)] [] := ⟨fun e v h => by simp [valA] at h, fun e h b hb => (by cases hb), rfl⟩
theorem botB_snoc {z : α} {bs : List (Bd α)} {b : Bd α} : botB z (bs ++ [b]) = if bs = [] then (if b.1 = none then b.2.2 else z) else botB z bs := by
  cases bs with
  | nil => simp [botB]
  | cons c r => simp [botB]
theorem Chg.step {z : α} {kv : List (Option Int × α)} {bs : List (Bd α)} {b : Bd α} (C : Chg z kv bs) (up : Upto bs b.1) (oks : ∀ c ∈ bs, okE c.1 c.2.1) (ok : okE b.1 b.2.1) : Chg z (stepC z kv b) (bs ++ [b]) := by
  obtain ⟨lo, hi, w⟩ := b
  have le : ∀ e, (∃ c ∈ bs, c.1 = some e ∨ c.2.1 = some e) → ∃ l, lo = some l ∧ e ≤ l := by
    intro e ⟨c, hc, h⟩
    cases lo with
    | none => rw [show bs = [] from up] at hc; cases hc
    | some l =>
      obtain ⟨k, ek, hk⟩ := up c hc
      refine ⟨l, rfl, ?_⟩
      rcases h with h | h
      · have := oks c hc e k h ek; omega
      · rw [ek] at h; cases h; exact hk
  have free : ∀ y, lowOk lo y = true → ∀ c ∈ bs, ¬ lies c.1 c.2.1 y = true := fun y hy c hc => by
    cases lo with
    | none => rw [show bs = [] from up] at hc; cases hc
    | some l => exact Upto.no (l := l) up (by simpa [lowOk] using hy) c hc
  have vin : ∀ y, lies lo hi y = true → valB z (bs ++ [(lo, hi, w)]) y = w := fun y hy => by
    have := lies_iff.mp hy
    rw [valB_right (free y (by cases lo with | none => rfl | some l => simpa [lowOk] using this.1 l rfl))]
    exact valB_in hy
  have vout : ∀ y, ¬ lies lo hi y = true → valB z (bs ++ [(lo, hi, w)]) y = valB z bs y := fun y hy => valB_left fun c hc => by rw [List.mem_singleton.mp hc]; exact hy
  -- what stands at a key
  have key : ∀ j, valA (stepC z kv (lo, hi, w)) j = if (∃ h, hi = some h ∧ j = some h) then some z else if j = lo then some w else valA kv j := by
    intro j
    cases hi with
    | none =>
      show valA (putA kv lo w) j = _
      have n : ¬ ∃ h, (none : Option Int) = some h ∧ j = some h := fun ⟨h, e, _⟩ => by cases e
      rw [valA_put, if_neg n]
      by_cases c : lo = j
      · rw [if_pos c, if_pos c.symm]
      · rw [if_neg c, if_neg fun q => c q.symm]
    | some h =>
      show valA (putA (putA kv lo w) (some h) z) j = _
      rw [valA_put, valA_put]
      by_cases c : some h = j
      · rw [if_pos c, if_pos ⟨h, rfl, c.symm⟩]
      · have n : ¬ ∃ k, (some h : Option Int) = some k ∧ j = some k := fun ⟨k, e, q⟩ => c (by cases e; exact q.symm)
        rw [if_neg c, if_neg n]
        by_cases d : lo = j
        · rw [if_pos d, if_pos d.symm]
        · rw [if_neg d, if_neg fun q => d q.symm]
  refine ⟨fun e v h => ?_, fun e h c hc => ?_, ?_⟩
  · rw [key] at h
    by_cases c1 : ∃ h, hi = some h ∧ (some e : Option Int) = some h
    · rw [if_pos c1] at h
      obtain ⟨k, ek, q⟩ := c1
      cases q; cases h
      refine ⟨?_, _, List.mem_append_right _ (List.mem_singleton.mpr rfl), .inr ek⟩
      have low : lowOk lo e = true := by
        cases lo with
        | none => rfl
        | some l => have := ok l e rfl ek; simp [lowOk]; omega
      rw [vout e fun q => by have := (lies_iff.mp q).2 e ek; omega, valB_none (free e low)]
    · rw [if_neg c1] at h
      by_cases c2 : some e = lo
      · rw [if_pos c2] at h
        cases h
        refine ⟨(vin e (lies_iff.mpr ⟨fun l el => ?_, fun k ek => ?_⟩)).symm, _, List.mem_append_right _ (List.mem_singleton.mpr rfl), .inl c2.symm⟩
        · rw [← c2] at el; cases el; omega
        · exact ok e k c2.symm ek
      · rw [if_neg c2] at h
        obtain ⟨h1, h2⟩ := C.a e v h
        obtain ⟨l, el, q⟩ := le e h2
        refine ⟨?_, let ⟨c, hc, q⟩ := h2; ⟨c, List.mem_append_left _ hc, q⟩⟩
        rw [vout e fun q2 => by have := (lies_iff.mp q2).1 l el; exact c2 (by rw [el]; congr 1; omega)]
        exact h1
  · rw [key] at h
    by_cases c1 : ∃ h, hi = some h ∧ (some e : Option Int) = some h
    · rw [if_pos c1] at h; cases h
    · rw [if_neg c1] at h
      by_cases c2 : some e = lo
      · rw [if_pos c2] at h; cases h
      · rw [if_neg c2] at h
        rcases List.mem_append.mp hc with hc | hc
        · exact C.b e h c hc
        · rw [List.mem_singleton.mp hc]
          exact ⟨fun q => c2 q.symm, fun q => c1 ⟨e, q, rfl⟩⟩
  · rw [key, if_neg (fun ⟨h, _, q⟩ => by cases q), botB_snoc]
    cases lo with
    | none =>
      rw [if_pos rfl, if_pos (show bs = [] from up), if_pos rfl]
    | some l =>
      rw [if_neg (by simp), C.c]
      by_cases c : bs = []
      · rw [if_pos c, if_neg (by simp), c]; rfl
      · rw [if_neg c]
theorem AscB.oks : ∀ {bs : List (Bd α)}, AscB bs → ∀ c ∈ bs, okE c.1 c.2.1
  | b :: r, h, c, hc => by
    rcases List.mem_cons.mp hc with rfl | hc
    · exact h.1
    · exact AscB.oks h.2.2 c hc
theorem chg_go {z : α} : ∀ {bs : List (Bd α)} {kv : List (Option Int × α)} {dn : List (Bd α)}, AscB bs → Chg z kv dn → (∀ c ∈ dn, okE c.1 c.2.1) → (∀ b r, bs = b :: r → Upto dn b.1) → Chg z (bs.foldl (stepC z) kv) (dn ++ bs)
  | [], kv, dn, _, C, _, _ => by rw [List.append_nil]; exact C
  | b :: r, kv, dn, h, C, ok, up => by
    rw [List.foldl_cons, show dn ++ b :: r = (dn ++ [b]) ++ r by simp]
    refine chg_go h.2.2 (C.step (up b r rfl) ok h.1) (fun c hc => ?_) (fun b' r' e => ?_)
    · rcases List.mem_append.mp hc with hc | hc
      · exact ok c hc
      · rw [List.mem_singleton.mp hc]; exact h.1
    · subst e
      obtain ⟨h1, ⟨hh, l, e1, e2, e3⟩, _⟩ := h
      rw [e2]
      intro c hc
      rcases List.mem_append.mp hc with hc | hc
      · have u := up b (b' :: r') rfl
        cases hb : b.1 with
        | none => rw [hb] at u; rw [show dn = [] from u] at hc; cases hc
        | some m =>
          rw [hb] at u
          obtain ⟨k, ek, hk⟩ := u c hc
          have := h1 m hh hb e1
          exact ⟨k, ek, by omega⟩
      · rw [List.mem_singleton.mp hc]; exact ⟨hh, e1, e3⟩
theorem chg_ok {z : α} {bs : List (Bd α)} (h : AscB bs) : Chg z (chgA z bs) bs := by
  have := chg_go h (Chg.start (z := z)) (fun c hc => by cases hc) (fun b r e => by
    cases b.1 with
    | none => rfl
    | some l => exact fun c hc => by cases hc)
  simpa [chgA] using this
/-- the worth from a cut on -/
def atC (z : α) (bs : List (Bd α)) : Option Int → α
  | none => botB z bs
  | some c => valB z bs c
/-- no end of a band behind the first and up to the second -/
def Gap (bs : List (Bd α)) (lo : Option Int) (y : Int) : Prop := ∀ b ∈ bs, ∀ x, (b.1 = some x ∨ b.2.1 = some x) → lowOk lo x = true → (∀ l, lo = some l → x ≠ l) → y < x
theorem gap_val {z : α} : ∀ {bs : List (Bd α)} {lo : Option Int} {y : Int}, AscB bs → lowOk lo y = true → Gap bs lo y → valB z bs y = atC z bs lo
  | [], none, _, _, _, _ => rfl
  | [], some _, _, _, _, _ => rfl
  | b :: r, none, y, h, _, g => by
    have hb := g b (by simp)
    by_cases c : b.1 = none
    · have yes : lies b.1 b.2.1 y = true := lies_iff.mpr ⟨(fun l e => by rw [c] at e; cases e), (fun k e => hb k (.inr e) rfl (fun _ q => by cases q))⟩
      rw [valB_in yes]
      show _ = if b.1 = none then b.2.2 else z
      rw [if_pos c]
    · obtain ⟨l, e⟩ : ∃ l, b.1 = some l := by cases q : b.1 with | none => exact absurd q c | some l => exact ⟨l, rfl⟩
      show _ = if b.1 = none then b.2.2 else z
      rw [if_neg c]
      exact AscB.below h (l := l) (fun b' r' e' => by cases e'; exact ⟨l, e, Int.le_refl _⟩) (hb l (.inl e) rfl (fun _ q => by cases q))
  | b :: r, some l, y, h, hy, g => by
    have hy : l ≤ y := by simpa [lowOk] using hy
    have same : ∀ {bs : List (Bd α)}, Gap bs (some l) y → valB z bs y = valB z bs l := by
      intro bs g
      induction bs with
      | nil => rfl
      | cons b r ih =>
        have gb := g b (by simp)
        have e : lies b.1 b.2.1 y = lies b.1 b.2.1 l := by
          rw [Bool.eq_iff_iff, lies_iff, lies_iff]
          constructor
          · intro ⟨h1, h2⟩
            refine ⟨fun k e => ?_, fun k e => by have := h2 k e; omega⟩
            by_cases c : k ≤ l
            · exact c
            · have := gb k (.inl e) (by simp [lowOk]; omega) (fun m q => by cases q; omega)
              have := h1 k e
              omega
          · intro ⟨h1, h2⟩
            refine ⟨fun k e => by have := h1 k e; omega, fun k e => ?_⟩
            have := h2 k e
            exact gb k (.inr e) (by simp [lowOk]; omega) (fun m q => by cases q; omega)
        simp only [valB, e]
        rw [ih fun c hc => g c (by simp [hc])]
    exact same g
/-- the cut at or below a number -/
def cutAt (lo : Option Int) : List Int → Int → Option Int
  | [], _ => lo
  | e :: r, y => if e ≤ y then cutAt (some e) r y else lo
def tileF (f : Option Int → α) (lo : Option Int) : List Int → List (Bd α)
  | [] => [(lo, none, f lo)]
  | e :: r => (lo, some e, f lo) :: tileF f (some e) r
def Up : Option Int → List Int → Prop
  | _, [] => True
  | lo, e :: r => (∀ l, lo = some l → l < e) ∧ Up (some e) r
theorem tile_ok {f : Option Int → α} : ∀ {E : List Int} {lo : Option Int}, Up lo E → Tile lo (tileF f lo E)
  | [], lo, _ => ⟨rfl, (fun l h _ q => by cases q), rfl⟩
  | e :: r, lo, h => ⟨rfl, (fun l k el ek => by cases ek; exact h.1 l el), tile_ok h.2⟩
theorem tile_val {z : α} {f : Option Int → α} : ∀ {E : List Int} {lo : Option Int} {y : Int}, Up lo E → lowOk lo y = true → valB z (tileF f lo E) y = f (cutAt lo E y)
  | [], lo, y, _, hy => valB_in (by unfold lies; rw [hy]; rfl)
  | e :: r, lo, y, h, hy => by
    unfold cutAt tileF
    by_cases c : e ≤ y
    · rw [if_pos c, valB_out fun q => by have := (lies_iff.mp q).2 e rfl; omega]
      exact tile_val h.2 (by simpa [lowOk] using c)
    · rw [if_neg c]
      exact valB_in (by unfold lies; rw [hy]; simp [highOk]; omega)
theorem cut_gap : ∀ {E : List Int} {lo : Option Int} {y : Int}, Up lo E → lowOk lo y = true → lowOk (cutAt lo E y) y = true ∧ ∀ x ∈ E, lowOk (cutAt lo E y) x = true → (∀ l, cutAt lo E y = some l → x ≠ l) → y < x
  | [], lo, y, _, hy => ⟨hy, fun x hx => by cases hx⟩
  | e :: r, lo, y, h, hy => by
    unfold cutAt
    have low : ∀ {E : List Int} {c : Option Int} {y : Int} {e : Int}, Up (some e) E → cutAt (some e) E y = c → ∃ l, c = some l ∧ e ≤ l := by
      intro E
      induction E with
      | nil => intro c y e _ q; exact ⟨e, q.symm, Int.le_refl _⟩
      | cons e2 r2 ih =>
        intro c y e h q
        unfold cutAt at q
        split at q
        · obtain ⟨l, e3, h3⟩ := ih h.2 q
          have := h.1 e rfl
          exact ⟨l, e3, by omega⟩
        · exact ⟨e, q.symm, Int.le_refl _⟩
    by_cases c : e ≤ y
    · rw [if_pos c]
      obtain ⟨h1, h2⟩ := cut_gap h.2 (y := y) (by simpa [lowOk] using c)
      refine ⟨h1, fun x hx q1 q2 => ?_⟩
      rcases List.mem_cons.mp hx with rfl | hx
      · obtain ⟨l, el, hl⟩ := low h.2 rfl
        rw [el] at q1
        have q1 : l ≤ x := by simpa [lowOk] using q1
        exact absurd (show x = l by omega) (q2 l el)
      · exact h2 x hx q1 q2
    · rw [if_neg c]
      refine ⟨hy, fun x hx q1 q2 => ?_⟩
      have up : ∀ {E : List Int} {e : Int}, Up (some e) E → ∀ x ∈ E, e < x := by
        intro E
        induction E with
        | nil => intro e _ x hx; cases hx
        | cons e2 r2 ih =>
          intro e h x hx
          have := h.1 e rfl
          rcases List.mem_cons.mp hx with rfl | hx
          · exact this
          · have := ih h.2 x hx; omega
      rcases List.mem_cons.mp hx with rfl | hx
      · omega
      · have := up h.2 x hx; omega
/-- the worths of some rows of bands, side by side -/
theorem side_val {z : α} {zz : List α} {rows : List (List (Bd α))} {E : List Int} (hE : Up none E) (asc : ∀ bs ∈ rows, AscB bs) (all : ∀ bs ∈ rows, ∀ b ∈ bs, ∀ x, (b.1 = some x ∨ b.2.1 = some x) → x ∈ E) (y : Int) :
    valB zz (tileF (fun c => rows.map fun bs => atC z bs c) none E) y = rows.map fun bs => valB z bs y := by
  rw [tile_val hE rfl]
  refine List.map_congr_left fun bs hb => ?_
  obtain ⟨h1, h2⟩ := cut_gap hE (y := y) rfl
  exact (gap_val (asc bs hb) h1 fun b hbb x hx q1 q2 => h2 x (all bs hb b hbb x hx) q1 q2).symm
/-- what the next cut's change makes of the worth -/
theorem run_next {z : α} {bs : List (Bd α)} {lo : Option Int} {e : Int} (h : AscB bs) (hlo : ∀ l, lo = some l → l < e) (g : ∀ b ∈ bs, ∀ x, (b.1 = some x ∨ b.2.1 = some x) → lowOk lo x = true → (∀ l, lo = some l → x ≠ l) → e ≤ x) :
    (valA (chgA z bs) (some e)).getD (atC z bs lo) = atC z bs (some e) := by
  have C := chg_ok (z := z) h
  cases q : valA (chgA z bs) (some e) with
  | some v => exact (C.a e v q).1
  | none =>
    have no := C.b e q
    show atC z bs lo = valB z bs e
    refine (gap_val h ?_ fun b hb x hx q1 q2 => ?_).symm
    · cases lo with
      | none => rfl
      | some l => have := hlo l rfl; simp [lowOk]; omega
    · have h1 := g b hb x hx q1 q2
      have h2 : x ≠ e := fun q => by
        subst q
        rcases hx with hx | hx
        · exact (no b hb).1 hx
        · exact (no b hb).2 hx
      omega
theorem tile_len {f : Option Int → α} : ∀ {E : List Int} {lo : Option Int}, (tileF f lo E).length = E.length + 1
  | [], _ => rfl
  | e :: r, lo => by
    show (tileF f (some e) r).length + 1 = _
    rw [tile_len]; rfl
theorem tile_get {f : Option Int → α} : ∀ {E : List Int} {lo c n : Option Int} {i : Nat}, (lo :: E.map some)[i]? = some c → (E.map some ++ [none])[i]? = some n → (tileF f lo E)[i]? = some (c, n, f c)
  | [], lo, c, n, 0, h1, h2 => by
    simp at h1 h2; subst h1 h2; rfl
  | [], lo, c, n, i + 1, h1, h2 => by simp at h1
  | e :: r, lo, c, n, 0, h1, h2 => by
    simp at h1 h2; subst h1 h2; rfl
  | e :: r, lo, c, n, i + 1, h1, h2 => by
    show (tileF f (some e) r)[i]? = _
    refine tile_get (by simpa using h1) (by simpa using h2)
theorem up_low : ∀ {E : List Int} {e : Int}, Up (some e) E → ∀ x ∈ E, e < x
  | [], _, _, _, hx => by cases hx
  | e2 :: r, e, h, x, hx => by
    have := h.1 e rfl
    rcases List.mem_cons.mp hx with rfl | hx
    · exact this
    · have := up_low h.2 x hx; omega
theorem up_gap : ∀ {E : List Int} {lo c : Option Int} {e : Int} {i : Nat}, Up lo E → (lo :: E.map some)[i]? = some c → E[i]? = some e →
    (∀ l, c = some l → l < e) ∧ ∀ x ∈ E, lowOk c x = true → (∀ l, c = some l → x ≠ l) → e ≤ x
  | [], _, _, _, _, _, _, h2 => by simp at h2
  | a :: r, lo, c, e, 0, h, h1, h2 => by
    simp at h1 h2
    subst h1 h2
    refine ⟨h.1, fun x hx _ _ => ?_⟩
    rcases List.mem_cons.mp hx with rfl | hx
    · exact Int.le_refl _
    · have := up_low h.2 x hx; omega
  | a :: r, lo, c, e, i + 1, h, h1, h2 => by
    have h1' : (some a :: r.map some)[i]? = some c := by simpa using h1
    have h2' : r[i]? = some e := by simpa using h2
    obtain ⟨g1, g2⟩ := up_gap h.2 h1' h2'
    refine ⟨g1, fun x hx q1 q2 => ?_⟩
    rcases List.mem_cons.mp hx with rfl | hx
    · exfalso
      have mem : c = some x ∨ ∃ t ∈ r, c = some t := by
        have := List.mem_of_getElem? h1'
        simpa [eq_comm] using this
      rcases mem with m | ⟨t, ht, m⟩
      · exact q2 x m rfl
      · subst m
        have := up_low h.2 t ht
        have q1 : t ≤ x := by simpa [lowOk] using q1
        omega
    · exact g2 x hx q1 q2
theorem stepJ_len [DecidableEq α] {z : α} {acc : List (Bd α)} {b : Bd α} : (stepJ z acc b).length ≤ acc.length + 1 := by
  unfold stepJ
  split
  · omega
  · split
    · split
      · rw [List.length_append, List.length_dropLast, List.length_singleton]; omega
      · rw [List.length_append, List.length_singleton]; exact Nat.le_refl _
    · rw [List.length_append, List.length_singleton]; exact Nat.le_refl _
theorem joinB_len [DecidableEq α] {z : α} {T : List (Bd α)} : (joinB z T).length ≤ T.length := by
  have go : ∀ (T acc : List (Bd α)), (T.foldl (stepJ z) acc).length ≤ acc.length + T.length := by
    intro T
    induction T with
    | nil => intro acc; simp
    | cons b r ih =>
      intro acc
      rw [List.foldl_cons, List.length_cons]
      have := ih (stepJ z acc b)
      have := stepJ_len (z := z) (acc := acc) (b := b)
      omega
  have := go T []
  simpa [joinB] using this
/-- x is an end of one of the bands -/
def EndB (bs : List (Bd α)) (x : Int) : Prop := ∃ b ∈ bs, b.1 = some x ∨ b.2.1 = some x
theorem stepJ_ends [DecidableEq α] {z : α} {acc : List (Bd α)} {b : Bd α} {x : Int} (h : EndB (stepJ z acc b) x) : EndB acc x ∨ b.1 = some x ∨ b.2.1 = some x := by
  unfold stepJ at h
  split at h
  · exact .inl h
  · split at h
    · rename_i c hc
      split at h
      · obtain ⟨d, hd, hx⟩ := h
        rcases List.mem_append.mp hd with hd | hd
        · exact .inl ⟨d, (List.dropLast_sublist _).subset hd, hx⟩
        · rw [List.mem_singleton.mp hd] at hx
          rcases hx with hx | hx
          · exact .inl ⟨c, List.mem_of_getLast? hc, .inl hx⟩
          · exact .inr (.inr hx)
      · obtain ⟨d, hd, hx⟩ := h
        rcases List.mem_append.mp hd with hd | hd
        · exact .inl ⟨d, hd, hx⟩
        · rw [List.mem_singleton.mp hd] at hx; exact .inr hx
    · obtain ⟨d, hd, hx⟩ := h
      rcases List.mem_append.mp hd with hd | hd
      · exact .inl ⟨d, hd, hx⟩
      · rw [List.mem_singleton.mp hd] at hx; exact .inr hx
theorem joinB_ends [DecidableEq α] {z : α} {T : List (Bd α)} {x : Int} (h : EndB (joinB z T) x) : EndB T x := by
  have go : ∀ (T acc : List (Bd α)), EndB (T.foldl (stepJ z) acc) x → EndB acc x ∨ EndB T x := by
    intro T
    induction T with
    | nil => intro acc h; exact .inl h
    | cons b r ih =>
      intro acc h
      rw [List.foldl_cons] at h
      rcases ih _ h with h | ⟨c, hc, hx⟩
      · rcases stepJ_ends h with h | h
        · exact .inl h
        · exact .inr ⟨b, by simp, h⟩
      · exact .inr ⟨c, by simp [hc], hx⟩
  rcases go T [] h with ⟨b, hb, _⟩ | h
  · cases hb
  · exact h
theorem tileF_ends {f : Option Int → α} {x : Int} : ∀ {E : List Int} {lo : Option Int}, EndB (tileF f lo E) x → lo = some x ∨ x ∈ E
  | [], lo, ⟨b, hb, hx⟩ => by
    have : b = (lo, none, f lo) := by simpa [tileF] using hb
    subst this
    rcases hx with hx | hx
    · exact .inl hx
    · cases hx
  | e :: r, lo, ⟨b, hb, hx⟩ => by
    rcases List.mem_cons.mp hb with rfl | hb
    · rcases hx with hx | hx
      · exact .inl hx
      · cases hx; exact .inr (by simp)
    · rcases tileF_ends ⟨b, hb, hx⟩ with h | h
      · cases h; exact .inr (by simp)
      · exact .inr (by simp [h])
end
end Iz
/-! Mx -/
namespace Iz
/-! ### how great a number is -/
def lg (x : Int) : Nat := if x = 0 then 0 else x.natAbs.log2 + 1
theorem lg_lt {x : Int} {n : Nat} (h : x.natAbs < 2 ^ n) : lg x ≤ n := by
  unfold lg
  split
  · omega
  · rename_i hx
    have := (Nat.log2_lt (n := x.natAbs) (k := n) (by omega)).mpr h
    omega
theorem lg_self (x : Int) : x.natAbs < 2 ^ lg x := by
  unfold lg
  split
  · rename_i h; subst h; decide
  · exact Nat.lt_log2_self
theorem lg_mono {x y : Int} (h : x.natAbs ≤ y.natAbs) : lg x ≤ lg y := lg_lt (Nat.lt_of_le_of_lt h (lg_self y))
theorem lg_half {x y : Int} (h : 2 * x.natAbs < y.natAbs) : lg x + 1 ≤ lg y := by
  have h1 := lg_self y
  have hy : 0 < lg y := by unfold lg; split <;> omega
  obtain ⟨n, hn⟩ : ∃ n, lg y = n + 1 := ⟨lg y - 1, by omega⟩
  rw [hn] at h1 ⊢
  have h2 : x.natAbs < 2 ^ n := by rw [Nat.pow_succ] at h1; omega
  have := lg_lt h2
  omega
def same (d r : Int) : Prop := (0 ≤ d ∧ 0 ≤ r) ∨ (d ≤ 0 ∧ r ≤ 0)
instance (d r : Int) : Decidable (same d r) := by unfold same; infer_instance
def bud (d r : Int) : Nat := if same d r then lg d + lg r + (if d.natAbs < r.natAbs then 1 else 0) else 2 * lg r + 1
/-- the rest of a division by floors -/
theorem rest_pos {d r : Int} (h : 0 < r) : 0 ≤ d - d.fdiv r * r ∧ d - d.fdiv r * r < r := by
  rw [Int.fdiv_eq_ediv_of_nonneg d (by omega)]
  have h1 := Int.emod_nonneg d (b := r) (by omega)
  have h2 := Int.emod_lt_of_pos d h
  have h3 := Int.emod_add_mul_ediv d r
  rw [Int.mul_comm] at h3
  omega
theorem rest_neg {d r : Int} (h : r < 0) : r < d - d.fdiv r * r ∧ d - d.fdiv r * r ≤ 0 := by
  have h1 := rest_pos (d := -d) (r := -r) (by omega)
  rw [Int.neg_fdiv_neg, Int.mul_neg] at h1
  omega
theorem fdiv_le (d r : Int) : (d.fdiv r).natAbs ≤ d.natAbs := by
  by_cases h : 0 ≤ r
  · rw [Int.fdiv_eq_ediv_of_nonneg d h]; exact Int.natAbs_ediv_le_natAbs _ _
  · rw [← Int.neg_fdiv_neg, Int.fdiv_eq_ediv_of_nonneg _ (by omega), ← Int.natAbs_neg d]; exact Int.natAbs_ediv_le_natAbs _ _
theorem fdiv_same {d r : Int} (hr : r ≠ 0) (hs : same d r) (hl : r.natAbs ≤ d.natAbs) : 2 * (d - d.fdiv r * r).natAbs < d.natAbs := by
  rcases Int.lt_or_gt_of_ne hr with h | h
  · have hd : d < 0 := by rcases hs with hs | hs <;> omega
    have h1 := rest_neg (d := d) h
    have ht : 1 ≤ d.fdiv r := by
      rw [← Int.neg_fdiv_neg, Int.fdiv_eq_ediv_of_nonneg _ (by omega)]
      exact (Int.le_ediv_iff_mul_le (by omega)).mpr (by omega)
    have h2 : d.fdiv r * r ≤ 1 * r := Int.mul_le_mul_of_nonpos_right ht (by omega)
    omega
  · have hd : 0 < d := by rcases hs with hs | hs <;> omega
    have h1 := rest_pos (d := d) h
    have ht : 1 ≤ d.fdiv r := by
      rw [Int.fdiv_eq_ediv_of_nonneg _ (by omega)]
      exact (Int.le_ediv_iff_mul_le (by omega)).mpr (by omega)
    have h2 : 1 * r ≤ d.fdiv r * r := Int.mul_le_mul_of_nonneg_right ht (by omega)
    omega
theorem fdiv_small {d r : Int} (hr : r ≠ 0) (hs : same d r) (hl : d.natAbs < r.natAbs) : d - d.fdiv r * r = d := by
  have : d.fdiv r = 0 := by
    rcases Int.lt_or_gt_of_ne hr with h | h
    · rw [← Int.neg_fdiv_neg, Int.fdiv_eq_ediv_of_nonneg _ (by omega)]
      exact Int.ediv_eq_zero_of_lt (by rcases hs with hs | hs <;> omega) (by rcases hs with hs | hs <;> omega)
    · rw [Int.fdiv_eq_ediv_of_nonneg _ (by omega)]
      exact Int.ediv_eq_zero_of_lt (by rcases hs with hs | hs <;> omega) (by rcases hs with hs | hs <;> omega)
  rw [this]; omega
theorem bud_step {d r : Int} (hr : r ≠ 0) : bud r (d - d.fdiv r * r) < bud d r := by
  have hlt : (d - d.fdiv r * r).natAbs < r.natAbs := by
    rcases Int.lt_or_gt_of_ne hr with h | h
    · have := rest_neg (d := d) h; omega
    · have := rest_pos (d := d) h; omega
  have hs' : same r (d - d.fdiv r * r) := by
    rcases Int.lt_or_gt_of_ne hr with h | h
    · have := rest_neg (d := d) h; exact .inr ⟨by omega, by omega⟩
    · have := rest_pos (d := d) h; exact .inl ⟨by omega, by omega⟩
  unfold bud
  rw [if_pos hs', if_neg (by omega)]
  by_cases hs : same d r
  · rw [if_pos hs]
    by_cases hl : d.natAbs < r.natAbs
    · rw [if_pos hl, fdiv_small hr hs hl]; omega
    · rw [if_neg hl]
      have := lg_half (fdiv_same hr hs (by omega))
      omega
  · rw [if_neg hs]
    have := lg_mono (x := d - d.fdiv r * r) (y := r) (by omega)
    omega
theorem bud_le {d r : Int} {n : Nat} (hd : d.natAbs < 2 ^ n) (hr : r.natAbs < 2 ^ n) : bud d r ≤ 2 * n + 1 := by
  have h1 := lg_lt hd
  have h2 := lg_lt hr
  unfold bud
  split
  · split <;> omega
  · omega
/-! ### the weighed divisor's loop -/
structure EI (one other d u v r nu nv : Int) (k : Nat) : Prop where
  e1 : u * one + v * other = d
  e2 : nu * one + nv * other = r
  g : Int.gcd d r = Int.gcd one other
  hd : d.natAbs < 2 ^ 250
  hr : r.natAbs < 2 ^ 250
  bu : u.natAbs ≤ 2 ^ (251 * k)
  bv : v.natAbs ≤ 2 ^ (251 * k)
  bnu : nu.natAbs ≤ 2 ^ (251 * k)
  bnv : nv.natAbs ≤ 2 ^ (251 * k)
  kb : k + bud d r ≤ 501
theorem EI.start {one other : Int} (h1 : one.natAbs < 2 ^ 250) (h2 : other.natAbs < 2 ^ 250) : EI one other one 1 0 other 0 1 0 :=
  ⟨by omega, by omega, rfl, h1, h2, by decide, by decide, by decide, by decide, by have := bud_le h1 h2; omega⟩
theorem grow {u t nu : Int} {k : Nat} (hu : u.natAbs ≤ 2 ^ (251 * k)) (hn : nu.natAbs ≤ 2 ^ (251 * k)) (ht : t.natAbs < 2 ^ 250) : (u - t * nu).natAbs ≤ 2 ^ (251 * (k + 1)) := by
  have h1 : (t * nu).natAbs ≤ 2 ^ 250 * 2 ^ (251 * k) := by rw [Int.natAbs_mul]; exact Nat.mul_le_mul (Nat.le_of_lt ht) hn
  have h2 : (u - t * nu).natAbs ≤ u.natAbs + (t * nu).natAbs := by omega
  have h3 : 2 ^ (251 * (k + 1)) = 2 * 2 ^ 250 * 2 ^ (251 * k) := by rw [Nat.mul_succ, Nat.pow_add, show (251 : Nat) = 250 + 1 from rfl, Nat.pow_succ]; rw [Nat.mul_comm, Nat.mul_comm (2 ^ 250) 2]
  have h4 : (1 : Nat) * 2 ^ (251 * k) ≤ 2 ^ 250 * 2 ^ (251 * k) := Nat.mul_le_mul_right _ (Nat.one_le_two_pow)
  rw [h3, Nat.mul_assoc]
  generalize 2 ^ 250 * 2 ^ (251 * k) = A at *
  omega
theorem EI.next {one other d u v r nu nv : Int} {k : Nat} (I : EI one other d u v r nu nv k) (h : r ≠ 0) :
    EI one other r nu nv (d - d.fdiv r * r) (u - d.fdiv r * nu) (v - d.fdiv r * nv) (k + 1) := by
  have ht : (d.fdiv r).natAbs < 2 ^ 250 := Nat.lt_of_le_of_lt (fdiv_le d r) I.hd
  have hm : ∀ {z : Int}, z.natAbs ≤ 2 ^ (251 * k) → z.natAbs ≤ 2 ^ (251 * (k + 1)) := fun hz => Nat.le_trans hz (Nat.pow_le_pow_right (by decide) (by omega))
  refine ⟨I.e2, ?_, ?_, I.hr, ?_, hm I.bnu, hm I.bnv, grow I.bu I.bnu ht, grow I.bv I.bnv ht, ?_⟩
  · generalize d.fdiv r = t
    rw [← I.e1, ← I.e2, Int.sub_mul, Int.sub_mul, Int.mul_add, Int.mul_assoc, Int.mul_assoc]; omega
  · rw [← I.g, Int.gcd_comm d r, Int.mul_comm]; exact Int.gcd_sub_mul_left_right _ _ _
  · refine Nat.lt_trans (?_ : _ < r.natAbs) I.hr
    rcases Int.lt_or_gt_of_ne h with h | h
    · have := rest_neg (d := d) h; omega
    · have := rest_pos (d := d) h; omega
  · have := bud_step (d := d) h
    have := I.kb
    omega
theorem EI.done {one other d u v nu nv : Int} {k : Nat} (I : EI one other d u v 0 nu nv k) : d.natAbs = Int.gcd one other ∧ u * one + v * other = d ∧ u.natAbs ≤ 2 ^ 130000 := by
  refine ⟨?_, I.e1, Nat.le_trans I.bu (Nat.pow_le_pow_right (by decide) (by have := I.kb; omega))⟩
  have := I.g
  rw [Int.gcd_zero_right] at this
  exact this
theorem EI.quo {one other d u v r nu nv : Int} {k : Nat} (I : EI one other d u v r nu nv k) : (d.fdiv r).natAbs < 2 ^ 250 := Nat.lt_of_le_of_lt (fdiv_le d r) I.hd
theorem EI.big {one other d u v r nu nv z : Int} {k : Nat} (I : EI one other d u v r nu nv k) (h : z.natAbs ≤ 2 ^ (251 * k)) : z.natAbs < 2 ^ 130000 := Nat.lt_of_le_of_lt h (Nat.pow_lt_pow_right (by decide) (by have := I.kb; omega))
end Iz
/-! My -/
namespace Iz
theorem gpos {b p : Int} (hp : 1 ≤ p) : 0 < (Int.gcd b p : Int) := by have := Int.gcd_pos_of_ne_zero_right b (show p ≠ 0 by omega); omega
theorem qpos {b p : Int} (hp : 1 ≤ p) : 0 < p / (Int.gcd b p : Int) := Int.ediv_pos_of_pos_of_dvd (by omega) (by omega) (Int.gcd_dvd_right b p)
theorem line_sol {a b r p u v : Int} (hp : 1 ≤ p) (h : u * b + v * p = (Int.gcd b p : Int)) (hd : (r - a) % (Int.gcd b p : Int) = 0) :
    (a + b * ((r - a) / (Int.gcd b p : Int) * u % (p / (Int.gcd b p : Int))) - r) % p = 0 := by
  have hg := gpos (b := b) hp
  have e1 : (Int.gcd b p : Int) * (p / (Int.gcd b p : Int)) = p := Int.mul_ediv_cancel' (Int.gcd_dvd_right b p)
  have e2 : (Int.gcd b p : Int) * (b / (Int.gcd b p : Int)) = b := Int.mul_ediv_cancel' (Int.gcd_dvd_left b p)
  have e3 : (Int.gcd b p : Int) * ((r - a) / (Int.gcd b p : Int)) = r - a := Int.mul_ediv_cancel' (Int.dvd_of_emod_eq_zero hd)
  generalize (Int.gcd b p : Int) = g at *
  generalize hq : p / g = q at *
  generalize hk : (r - a) / g = k at *
  generalize hb : b / g = b' at *
  have e4 := Int.emod_add_mul_ediv (k * u) q
  generalize k * u % q = s at *
  generalize k * u / q = m at *
  refine Int.emod_eq_zero_of_dvd ⟨-(k * v + b' * m), ?_⟩
  have e5 : s = k * u - q * m := by omega
  have e6 : b * s = b * (k * u) - b * (q * m) := by rw [e5, Int.mul_sub]
  have e7 : b * (q * m) = p * (b' * m) := by rw [← e1, ← e2, Int.mul_assoc g b', Int.mul_assoc g q]; congr 1; rw [← Int.mul_assoc, ← Int.mul_assoc, Int.mul_comm b' q, Int.mul_assoc]
  have e8 : b * (k * u) = k * (u * b) := by rw [Int.mul_comm b, Int.mul_assoc]
  have e9 : k * (u * b) = k * g - k * (v * p) := by rw [← Int.mul_sub]; congr 1; omega
  have e10 : k * (v * p) = p * (k * v) := by rw [← Int.mul_assoc, Int.mul_comm]
  have e11 : k * g = r - a := by rw [Int.mul_comm]; exact e3
  rw [Int.mul_neg, Int.mul_add]
  omega
theorem dvd_line {b p k : Int} (hp : 1 ≤ p) : p ∣ b * k ↔ p / (Int.gcd b p : Int) ∣ k := by
  have hg := gpos (b := b) hp
  have e1 : (Int.gcd b p : Int) * (p / (Int.gcd b p : Int)) = p := Int.mul_ediv_cancel' (Int.gcd_dvd_right b p)
  have e2 : (Int.gcd b p : Int) * (b / (Int.gcd b p : Int)) = b := Int.mul_ediv_cancel' (Int.gcd_dvd_left b p)
  have co := Int.gcd_ediv_gcd_ediv_gcd (i := b) (j := p) (by omega)
  generalize (Int.gcd b p : Int) = g at *
  generalize p / g = q at *
  generalize b / g = b' at *
  rw [← e1, ← e2, Int.mul_assoc, Int.mul_dvd_mul_iff_left (by omega)]
  constructor
  · intro h
    have h2 : q.natAbs ∣ b'.natAbs * k.natAbs := by rw [← Int.natAbs_mul]; exact Int.natAbs_dvd_natAbs.mpr h
    have h3 : Nat.Coprime q.natAbs b'.natAbs := by
      rw [Int.gcd_eq_natAbs_gcd_natAbs, Nat.gcd_comm] at co; exact co
    exact Int.natAbs_dvd_natAbs.mp (h3.dvd_of_dvd_mul_left h2)
  · exact fun h => Int.dvd_mul_of_dvd_right h
/-- of which i a + b i is r modulo p -/
theorem line_iff {a b r p s i : Int} (hp : 1 ≤ p) (h : (a + b * s - r) % p = 0) : (a + b * i - r) % p = 0 ↔ (i - s) % (p / (Int.gcd b p : Int)) = 0 := by
  have h1 := Int.dvd_of_emod_eq_zero h
  have e : a + b * i - r = (a + b * s - r) + b * (i - s) := by rw [Int.mul_sub]; omega
  rw [← Int.dvd_iff_emod_eq_zero, ← Int.dvd_iff_emod_eq_zero, e, ← dvd_line hp]
  exact Int.dvd_add_right h1
theorem gcd_small {b p : Int} {n : Nat} (hp : 1 ≤ p) (h : p.natAbs < 2 ^ n) : (Int.gcd b p : Int).natAbs < 2 ^ n := by
  have := Int.le_of_dvd (by omega) (Int.gcd_dvd_right b p)
  have := gpos (b := b) hp
  omega
theorem ediv_small {x g : Int} {n : Nat} (h : x.natAbs < 2 ^ n) : (x / g).natAbs < 2 ^ n := Nat.lt_of_le_of_lt (Int.natAbs_ediv_le_natAbs _ _) h
theorem pow_small {x m n : Nat} (h : x < 2 ^ m) (hm : m ≤ n) : x < 2 ^ n := Nat.lt_of_lt_of_le h (Nat.pow_le_pow_right (by decide) hm)
theorem mod_sub {a m n r : Int} (h : n ∣ m) (hr : n ∣ a - r) : (a % m - r) % n = 0 := by
  refine Int.emod_eq_zero_of_dvd ?_
  have h1 : n ∣ a - a % m := Int.dvd_trans h Int.dvd_self_sub_emod
  have e : a % m - r = (a - r) - (a - a % m) := by omega
  rw [e]; exact Int.dvd_sub hr h1
theorem both_sol {r p o q s : Int} (hq : 1 ≤ q) (h : (r + p * s - o) % q = 0) :
    ((r + p * s) % (p * (q / (Int.gcd p q : Int))) - r) % p = 0 ∧ ((r + p * s) % (p * (q / (Int.gcd p q : Int))) - o) % q = 0 := by
  refine ⟨mod_sub (Int.dvd_mul_right _ _) (by rw [show r + p * s - r = p * s by omega]; exact Int.dvd_mul_right _ _), mod_sub ?_ (Int.dvd_of_emod_eq_zero h)⟩
  have e1 : (Int.gcd p q : Int) * (q / (Int.gcd p q : Int)) = q := Int.mul_ediv_cancel' (Int.gcd_dvd_right p q)
  obtain ⟨c, hc⟩ := Int.gcd_dvd_left p q
  refine ⟨c, ?_⟩
  have : p * (q / (Int.gcd p q : Int)) = (Int.gcd p q : Int) * (q / (Int.gcd p q : Int)) * c := by
    conv => lhs; rw [hc]
    rw [Int.mul_assoc, Int.mul_assoc, Int.mul_comm c]
    congr 2
    rw [← hc]
  rw [this, e1]
/-! ### Euclid's steps -/
theorem bud_mod {d r : Int} (h : 0 < r) : bud r (d % r) < bud d r := by
  have := bud_step (d := d) (r := r) (by omega)
  rw [Int.fdiv_eq_ediv_of_nonneg d (by omega)] at this
  have e := Int.emod_def d r
  rw [Int.mul_comm] at e
  rw [e]; exact this
theorem mod_swap {a b g : Int} : (a - b) % g = 0 ↔ (b - a) % g = 0 := by
  rw [← Int.dvd_iff_emod_eq_zero, ← Int.dvd_iff_emod_eq_zero, ← Int.dvd_neg]
  rw [show -(a - b) = b - a by omega]
theorem mul_div_gcd {p q : Int} : p * (q / (Int.gcd p q : Int)) = p / (Int.gcd p q : Int) * q := by
  rw [← Int.mul_ediv_assoc _ (Int.gcd_dvd_right p q), Int.mul_comm p q, Int.mul_ediv_assoc _ (Int.gcd_dvd_left p q), Int.mul_comm]
theorem lcm_abs {x y : Int} : (x.natAbs : Int) / (Int.gcd (x.natAbs : Int) (y.natAbs : Int) : Int) * (y.natAbs : Int) = ((x * y).natAbs : Int) / (Int.gcd x y : Int) := by
  have e : Int.gcd (x.natAbs : Int) (y.natAbs : Int) = Int.gcd x y := by rw [Int.gcd_eq_natAbs_gcd_natAbs, Int.gcd_eq_natAbs_gcd_natAbs]; rfl
  have d : (Int.gcd x y : Int) ∣ (y.natAbs : Int) := Int.dvd_natAbs.mpr (Int.gcd_dvd_right x y)
  have d2 : (Int.gcd x y : Int) ∣ (x.natAbs : Int) := Int.dvd_natAbs.mpr (Int.gcd_dvd_left x y)
  rw [e, Int.natAbs_mul, Int.natCast_mul, Int.mul_comm (x.natAbs : Int) (y.natAbs : Int), Int.mul_ediv_assoc _ d2, Int.mul_comm]
end Iz
/-! Lm -/
namespace Iz
theorem EI.doneV {one other d u v nu nv : Int} {k : Nat} (I : EI one other d u v 0 nu nv k) : v.natAbs ≤ 2 ^ 130000 := Nat.le_trans I.bv (Nat.pow_le_pow_right (by decide) (by have := I.kb; omega))
/-! ### lattices as sets of shifts -/
/-- the place of a cell -/
def plX (a b d x y : Int) : Int := (x - b * (y / d)) % a
def plY (d y : Int) : Int := y - d * (y / d)
def inL (a b d : Int) : Option (Int × Int) → Bool
  | none => false
  | some (x, y) => decide (plX a b d x y = 0 ∧ plY d y = 0)
structure LB (a b d : Int) : Prop where
  a1 : 1 ≤ a
  b0 : 0 ≤ b
  ba : b < a
  d1 : 1 ≤ d
  aS : a.natAbs < 2 ^ 500
  dS : d.natAbs < 2 ^ 500
theorem LB.bS {a b d : Int} (h : LB a b d) : b.natAbs < 2 ^ 500 := by have := h.aS; have := h.ba; have := h.b0; omega
/-- j (a, 0) + k (b, d) -/
def Ml (a b d x y : Int) : Prop := ∃ j k : Int, x = a * j + b * k ∧ y = d * k
theorem inL_iff {a b d x y : Int} (a1 : 1 ≤ a) (d1 : 1 ≤ d) : inL a b d (some (x, y)) = true ↔ Ml a b d x y := by
  unfold inL plX plY
  rw [decide_eq_true_eq]
  constructor
  · rintro ⟨h1, h2⟩
    obtain ⟨j, hj⟩ := Int.dvd_of_emod_eq_zero h1
    exact ⟨j, y / d, by omega, by omega⟩
  · rintro ⟨j, k, rfl, rfl⟩
    rw [Int.mul_ediv_cancel_left _ (by omega)]
    exact ⟨Int.emod_eq_zero_of_dvd ⟨j, by omega⟩, by omega⟩
theorem Ml.a {a b d : Int} : Ml a b d a 0 := ⟨1, 0, by omega, by omega⟩
theorem Ml.b {a b d : Int} : Ml a b d b d := ⟨0, 1, by omega, by omega⟩
theorem Ml.zero {a b d : Int} : Ml a b d 0 0 := ⟨0, 0, by omega, by omega⟩
theorem Ml.add {a b d x y u v : Int} (h : Ml a b d x y) (g : Ml a b d u v) : Ml a b d (x + u) (y + v) := by
  obtain ⟨j, k, rfl, rfl⟩ := h
  obtain ⟨m, n, rfl, rfl⟩ := g
  exact ⟨j + m, k + n, by rw [Int.mul_add, Int.mul_add]; omega, by rw [Int.mul_add]⟩
theorem Ml.smul {a b d x y : Int} (n : Int) (h : Ml a b d x y) : Ml a b d (n * x) (n * y) := by
  obtain ⟨j, k, rfl, rfl⟩ := h
  exact ⟨n * j, n * k, by rw [Int.mul_add, Int.mul_left_comm, Int.mul_left_comm n b], by rw [Int.mul_left_comm]⟩
theorem Ml.uniq {a b d a' b' d' : Int} (B : LB a b d) (B' : LB a' b' d') (h : ∀ x y, Ml a b d x y ↔ Ml a' b' d' x y) : a = a' ∧ b = b' ∧ d = d' := by
  have half : ∀ {a b d a' b' d' : Int}, LB a b d → LB a' b' d' → (∀ x y, Ml a b d x y → Ml a' b' d' x y) → a' ∣ a ∧ d' ∣ d := by
    intro a b d a' b' d' B B' h
    obtain ⟨j, k, h1, h2⟩ := h _ _ Ml.a
    have d1 := B'.d1
    have : k = 0 := by rcases Int.mul_eq_zero.mp h2.symm with e | e <;> omega
    subst this
    obtain ⟨j', k', _, h3⟩ := h _ _ Ml.b
    exact ⟨⟨j, by omega⟩, ⟨k', h3⟩⟩
  obtain ⟨p1, p2⟩ := half B B' fun x y => (h x y).mp
  obtain ⟨q1, q2⟩ := half B' B fun x y => (h x y).mpr
  have a1 := B.a1; have a1' := B'.a1; have d1 := B.d1; have d1' := B'.d1
  have ea : a = a' := Int.le_antisymm (Int.le_of_dvd (by omega) q1) (Int.le_of_dvd (by omega) p1)
  have ed : d = d' := Int.le_antisymm (Int.le_of_dvd (by omega) q2) (Int.le_of_dvd (by omega) p2)
  subst ea ed
  obtain ⟨j, k, h1, h2⟩ := (h _ _).mp (Ml.b (a := a) (b := b) (d := d))
  have : k = 1 := by
    have : d * k = d * 1 := by omega
    exact Int.eq_of_mul_eq_mul_left (by omega) this
  subst this
  refine ⟨rfl, ?_, rfl⟩
  have b0 := B.b0; have ba := B.ba; have b0' := B'.b0; have ba' := B'.ba
  have e : b - b' = a * j := by omega
  have : j = 0 := by
    rcases Int.lt_trichotomy j 0 with g | g | g
    · have := Int.mul_le_mul_of_nonneg_left (show j ≤ -1 by omega) (show 0 ≤ a by omega); omega
    · exact g
    · have := Int.mul_le_mul_of_nonneg_left (show 1 ≤ j by omega) (show 0 ≤ a by omega); omega
  subst this
  omega
theorem le_iff {a b d a' b' d' : Int} (B' : LB a' b' d') : (inL a' b' d' (some (a, 0)) && inL a' b' d' (some (b, d))) = true ↔ ∀ x y, Ml a b d x y → Ml a' b' d' x y := by
  rw [Bool.and_eq_true, inL_iff B'.a1 B'.d1, inL_iff B'.a1 B'.d1]
  constructor
  · rintro ⟨h1, h2⟩ x y ⟨j, k, rfl, rfl⟩
    have := (h1.smul j).add (h2.smul k)
    rw [Int.mul_comm a, Int.mul_comm b, Int.mul_comm d]
    rw [show j * 0 + k * d = k * d by omega] at this
    exact this
  · exact fun h => ⟨h _ _ Ml.a, h _ _ Ml.b⟩
theorem bez (x y : Int) : ∃ u v : Int, u * x + v * y = (Int.gcd x y : Int) := by
  have nat : ∀ m n : Nat, ∃ u v : Int, u * m + v * n = (Nat.gcd m n : Int) := by
    intro m n
    induction m, n using Nat.gcd.induction with
    | H0 n => exact ⟨0, 1, by simp⟩
    | H1 m n hm ih =>
      obtain ⟨u, v, h⟩ := ih
      rw [Nat.gcd_rec]
      refine ⟨v - u * ((n / m : Nat) : Int), u, ?_⟩
      have e : ((n % m : Nat) : Int) = (n : Int) - (m : Int) * ((n / m : Nat) : Int) := by
        have := Nat.mod_add_div n m
        have h2 : ((n % m + m * (n / m) : Nat) : Int) = (n : Int) := by rw [this]
        rw [Int.natCast_add, Int.natCast_mul] at h2
        omega
      rw [← h, e, Int.mul_sub, Int.sub_mul, Int.mul_comm (m : Int) _, Int.mul_assoc]
      omega
  obtain ⟨u, v, h⟩ := nat x.natAbs y.natAbs
  have s : ∀ z : Int, ∃ e : Int, e * z = (z.natAbs : Int) := fun z => by
    rcases Int.le_total 0 z with g | g
    · exact ⟨1, by omega⟩
    · exact ⟨-1, by omega⟩
  obtain ⟨e, he⟩ := s x
  obtain ⟨f, hf⟩ := s y
  exact ⟨u * e, v * f, by rw [Int.mul_assoc, Int.mul_assoc, he, hf]; exact h⟩
/-! ### the lattice that two shifts span -/
section
variable {p q r s u v : Int}
/-- the sums of multiples of both -/
def Sp2 (p q r s x y : Int) : Prop := ∃ m n : Int, x = m * p + n * r ∧ y = m * q + n * s
theorem span_iff (hW : p * s - r * q ≠ 0) (h : u * q + v * s = (Int.gcd q s : Int)) : 1 ≤ (Int.gcd q s : Int) ∧ 1 ≤ ((p * s - r * q).natAbs : Int) / (Int.gcd q s : Int) ∧ ((p * s - r * q).natAbs : Int) / (Int.gcd q s : Int) * (Int.gcd q s : Int) = ((p * s - r * q).natAbs : Int) ∧
    ∀ x y, Ml (((p * s - r * q).natAbs : Int) / (Int.gcd q s : Int)) ((u * p + v * r) % (((p * s - r * q).natAbs : Int) / (Int.gcd q s : Int))) (Int.gcd q s : Int) x y ↔ Sp2 p q r s x y := by
  have hD : 1 ≤ (Int.gcd q s : Int) := by
    have : Int.gcd q s ≠ 0 := fun e => by
      obtain ⟨h1, h2⟩ := Int.gcd_eq_zero_iff.mp e
      subst h1 h2
      simp at hW
    omega
  obtain ⟨q', hq⟩ := Int.gcd_dvd_left q s
  obtain ⟨s', hs⟩ := Int.gcd_dvd_right q s
  generalize (Int.gcd q s : Int) = D at *
  subst hq hs
  have e1 : u * q' + v * s' = 1 := by
    have : D * (u * q' + v * s') = D * 1 := by rw [Int.mul_add, Int.mul_left_comm D u, Int.mul_left_comm D v]; omega
    exact Int.eq_of_mul_eq_mul_left (by omega) this
  have eW : p * (D * s') - r * (D * q') = D * (p * s' - r * q') := by rw [Int.mul_sub, Int.mul_left_comm p, Int.mul_left_comm r]
  rw [eW] at hW ⊢
  generalize hw : p * s' - r * q' = w at *
  have hw0 : w ≠ 0 := fun e => by subst e; simp at hW
  have eA : ((D * w).natAbs : Int) = D * (w.natAbs : Int) := by rw [Int.natAbs_mul, Int.natCast_mul]; congr 1; omega
  rw [eA, Int.mul_ediv_cancel_left _ (by omega)]
  obtain ⟨e, he, he2⟩ : ∃ e : Int, (w.natAbs : Int) = e * w ∧ e * e = 1 := by
    rcases Int.le_total 0 w with g | g
    · exact ⟨1, by omega, rfl⟩
    · exact ⟨-1, by omega, rfl⟩
  refine ⟨hD, by omega, Int.mul_comm _ _, fun x y => ?_⟩
  have hA : (w.natAbs : Int) ≠ 0 := by omega
  generalize (w.natAbs : Int) = A at *
  have hB := Int.emod_add_mul_ediv (u * p + v * r) A
  generalize (u * p + v * r) % A = B at *
  generalize (u * p + v * r) / A = t at *
  have hB : B = u * p + v * r - A * t := by omega
  subst hB
  constructor
  · rintro ⟨j, k, rfl, rfl⟩
    exact ⟨u * k + e * s' * (j - t * k), v * k - e * q' * (j - t * k), by grind, by grind⟩
  · rintro ⟨m, n, rfl, rfl⟩
    exact ⟨t * (m * q' + n * s') + e * (m * v - n * u), m * q' + n * s', by grind, by grind⟩
/-- a sum of multiples, told by remainders -/
theorem sum_iff {x y : Int} (hW : p * s - r * q ≠ 0) : ((x * s - y * r) % (p * s - r * q) = 0 ∧ (y * p - x * q) % (p * s - r * q) = 0) ↔ Sp2 p q r s x y := by
  constructor
  · rintro ⟨h1, h2⟩
    obtain ⟨m, hm⟩ := Int.dvd_of_emod_eq_zero h1
    obtain ⟨n, hn⟩ := Int.dvd_of_emod_eq_zero h2
    have e1 : (p * s - r * q) * x = (p * s - r * q) * (m * p + n * r) := by grind
    have e2 : (p * s - r * q) * y = (p * s - r * q) * (m * q + n * s) := by grind
    exact ⟨m, n, Int.eq_of_mul_eq_mul_left hW e1, Int.eq_of_mul_eq_mul_left hW e2⟩
  · rintro ⟨m, n, rfl, rfl⟩
    exact ⟨Int.emod_eq_zero_of_dvd ⟨m, by grind⟩, Int.emod_eq_zero_of_dvd ⟨n, by grind⟩⟩
theorem Sp2.swap {x y : Int} : Sp2 p q r s x y ↔ Sp2 r s p q x y := ⟨fun ⟨m, n, h1, h2⟩ => ⟨n, m, by omega, by omega⟩, fun ⟨m, n, h1, h2⟩ => ⟨n, m, by omega, by omega⟩⟩
theorem Sp2.turn {x y : Int} : Sp2 (p + r) (q + s) (0 - r) (0 - s) x y ↔ Sp2 p q r s x y := by
  constructor
  · rintro ⟨m, n, h1, h2⟩
    exact ⟨m, m - n, by grind, by grind⟩
  · rintro ⟨m, n, h1, h2⟩
    exact ⟨m, m - n, by grind, by grind⟩
end
/-! ### the lattice that two have in common, and the one that both span -/
section
variable {a1 b1 d1 a2 b2 d2 : Int}
theorem lcm_dvd {x y z : Int} (hy : 1 ≤ y) (h1 : x ∣ z) (h2 : y ∣ z) : x * (y / (Int.gcd x y : Int)) ∣ z := by
  obtain ⟨m, rfl⟩ := h1
  exact Int.mul_dvd_mul_left x ((dvd_line hy).mp h2)
theorem lcm_facts {x y : Int} (hx : 1 ≤ x) (hy : 1 ≤ y) : x / (Int.gcd x y : Int) * y = x * (y / (Int.gcd x y : Int)) ∧ x ∣ x * (y / (Int.gcd x y : Int)) ∧ y ∣ x * (y / (Int.gcd x y : Int)) := by
  have e := mul_div_gcd (p := x) (q := y)
  exact ⟨e.symm, Int.dvd_mul_right _ _, by rw [e]; exact Int.dvd_mul_left _ _⟩
theorem div_of {d g e : Int} (hg : g ≠ 0) (h : d = g * e) : d / g = e := by rw [h, Int.mul_ediv_cancel_left _ hg]
theorem cm1 {e1 b1 e2 b2 t a1 j1 a2 j2 g h1 h2 x : Int} (hx1 : x = a1 * j1 + b1 * (e1 * t)) (hx2 : x = a2 * j2 + b2 * (e2 * t)) (hh1 : a1 = g * h1) (hh2 : a2 = g * h2) : (e1 * b1 - e2 * b2) * t = g * (h2 * j2 - h1 * j1) := by subst hh1 hh2; grind
theorem cm2 {x a j b e tm k c c1 : Int} (hx : x = a * j + b * (e * (tm * k))) (hc : c - tm * (e * b) = a * c1) : x - c * k = a * (j - c1 * k) := by
  have : c = tm * (e * b) + a * c1 := by omega
  subst this hx
  grind
/-- lv: the least multiple of both heights -/
theorem common_iff {lv c : Int} (A1 : 1 ≤ a1) (D1 : 1 ≤ d1) (A2 : 1 ≤ a2) (D2 : 1 ≤ d2) (hlv : lv = d1 * (d2 / (Int.gcd d1 d2 : Int)))
    (hc1 : (c - (Int.gcd a1 a2 : Int) / (Int.gcd (Int.gcd a1 a2 : Int) (lv / d1 * b1 - lv / d2 * b2) : Int) * (lv / d1 * b1)) % a1 = 0) (hc2 : (c - (Int.gcd a1 a2 : Int) / (Int.gcd (Int.gcd a1 a2 : Int) (lv / d1 * b1 - lv / d2 * b2) : Int) * (lv / d2 * b2)) % a2 = 0) :
    ∀ x y, Ml (a1 * (a2 / (Int.gcd a1 a2 : Int))) c ((Int.gcd a1 a2 : Int) / (Int.gcd (Int.gcd a1 a2 : Int) (lv / d1 * b1 - lv / d2 * b2) : Int) * lv) x y ↔ Ml a1 b1 d1 x y ∧ Ml a2 b2 d2 x y := by
  obtain ⟨_, l1, l2⟩ := lcm_facts A1 A2
  obtain ⟨_, m1, m2⟩ := lcm_facts D1 D2
  have hld := fun z => lcm_dvd (x := a1) (y := a2) (z := z) A2
  have hmd := fun z => lcm_dvd (x := d1) (y := d2) (z := z) D2
  rw [← hlv] at m1 m2 hmd
  have g1 : (Int.gcd a1 a2 : Int) ∣ a1 := Int.gcd_dvd_left a1 a2
  have g2 : (Int.gcd a1 a2 : Int) ∣ a2 := Int.gcd_dvd_right a1 a2
  have hg : 1 ≤ (Int.gcd a1 a2 : Int) := by have := Int.gcd_pos_of_ne_zero_left a2 (show a1 ≠ 0 by omega); omega
  generalize a1 * (a2 / (Int.gcd a1 a2 : Int)) = A at *
  generalize (Int.gcd a1 a2 : Int) = g at *
  have key := fun t => dvd_line (b := lv / d1 * b1 - lv / d2 * b2) (p := g) (k := t) hg
  rw [Int.gcd_comm _ g] at key
  generalize g / (Int.gcd g (lv / d1 * b1 - lv / d2 * b2) : Int) = tm at *
  obtain ⟨e1, he1⟩ := m1
  obtain ⟨e2, he2⟩ := m2
  have q1 : lv / d1 = e1 := by rw [he1, Int.mul_ediv_cancel_left _ (by omega)]
  have q2 : lv / d2 = e2 := by rw [he2, Int.mul_ediv_cancel_left _ (by omega)]
  rw [q1, q2] at key
  rw [q1] at hc1
  rw [q2] at hc2
  obtain ⟨c1, hc1⟩ := Int.dvd_of_emod_eq_zero hc1
  obtain ⟨c2, hc2⟩ := Int.dvd_of_emod_eq_zero hc2
  obtain ⟨f1, hf1⟩ := l1
  obtain ⟨f2, hf2⟩ := l2
  intro x y
  constructor
  · rintro ⟨j, k, rfl, rfl⟩
    exact ⟨⟨f1 * j + c1 * k, tm * e1 * k, by grind, by grind⟩, ⟨f2 * j + c2 * k, tm * e2 * k, by grind, by grind⟩⟩
  · rintro ⟨⟨j1, k1, hx1, hy1⟩, j2, k2, hx2, hy2⟩
    obtain ⟨t, ht⟩ := hmd y ⟨k1, hy1⟩ ⟨k2, hy2⟩
    have hk1 : k1 = e1 * t := Int.eq_of_mul_eq_mul_left (show d1 ≠ 0 by omega) (by rw [← hy1, ht, he1, Int.mul_assoc])
    have hk2 : k2 = e2 * t := Int.eq_of_mul_eq_mul_left (show d2 ≠ 0 by omega) (by rw [← hy2, ht, he2, Int.mul_assoc])
    obtain ⟨h1, hh1⟩ := g1
    obtain ⟨h2, hh2⟩ := g2
    have hg : g ∣ (e1 * b1 - e2 * b2) * t := ⟨h2 * j2 - h1 * j1, cm1 (x := x) (by rw [← hk1]; exact hx1) (by rw [← hk2]; exact hx2) hh1 hh2⟩
    obtain ⟨k, hk⟩ := (key t).mp hg
    obtain ⟨j, hj⟩ := hld (x - c * k) ⟨j1 - c1 * k, cm2 (x := x) (by rw [← hk, ← hk1]; exact hx1) hc1⟩ ⟨j2 - c2 * k, cm2 (x := x) (by rw [← hk, ← hk2]; exact hx2) hc2⟩
    exact ⟨j, k, by omega, by rw [ht, hk, ← Int.mul_assoc, Int.mul_comm lv tm]⟩
theorem joined_iff {u v a c : Int} (D1 : 1 ≤ d1) (h : u * d1 + v * d2 = (Int.gcd d1 d2 : Int)) (ha : a = (Int.gcd (Int.gcd a1 a2 : Int) (d2 / (Int.gcd d1 d2 : Int) * b1 - d1 / (Int.gcd d1 d2 : Int) * b2) : Int)) (hc : c = (u * b1 + v * b2) % a) :
    ∀ x y, Ml a c (Int.gcd d1 d2 : Int) x y ↔ ∃ x1 y1 x2 y2, Ml a1 b1 d1 x1 y1 ∧ Ml a2 b2 d2 x2 y2 ∧ x = x1 + x2 ∧ y = y1 + y2 := by
  obtain ⟨e1, he1⟩ := Int.gcd_dvd_left d1 d2
  obtain ⟨e2, he2⟩ := Int.gcd_dvd_right d1 d2
  have hg : 1 ≤ (Int.gcd d1 d2 : Int) := by have := Int.gcd_pos_of_ne_zero_left d2 (show d1 ≠ 0 by omega); omega
  have q1 : d1 / (Int.gcd d1 d2 : Int) = e1 := div_of (by omega) he1
  have q2 : d2 / (Int.gcd d1 d2 : Int) = e2 := div_of (by omega) he2
  rw [q1, q2] at ha
  generalize (Int.gcd d1 d2 : Int) = g at *
  have ee : u * e1 + v * e2 = 1 := Int.eq_of_mul_eq_mul_left (show g ≠ 0 by omega) (by grind)
  obtain ⟨α, β, h1⟩ := bez a1 a2
  obtain ⟨γ, δ, h2⟩ := bez (Int.gcd a1 a2 : Int) (e2 * b1 - e1 * b2)
  have k1 : (Int.gcd a1 a2 : Int) ∣ a1 := Int.gcd_dvd_left a1 a2
  have k2 : (Int.gcd a1 a2 : Int) ∣ a2 := Int.gcd_dvd_right a1 a2
  have k3 : a ∣ (Int.gcd a1 a2 : Int) := by rw [ha]; exact Int.gcd_dvd_left _ _
  have k4 : a ∣ e2 * b1 - e1 * b2 := by rw [ha]; exact Int.gcd_dvd_right _ _
  rw [← ha] at h2
  generalize (Int.gcd a1 a2 : Int) = f at *
  obtain ⟨r1, k1⟩ := Int.dvd_trans k3 k1
  obtain ⟨r2, k2⟩ := Int.dvd_trans k3 k2
  obtain ⟨r4, k4⟩ := k4
  have hB := Int.emod_add_mul_ediv (u * b1 + v * b2) a
  rw [← hc] at hB
  generalize (u * b1 + v * b2) / a = t at *
  intro x y
  constructor
  · rintro ⟨j, k, rfl, rfl⟩
    generalize hz : j - t * k = z
    refine ⟨a1 * (γ * α * z) + b1 * (u * k + δ * e2 * z), d1 * (u * k + δ * e2 * z), a2 * (γ * β * z) + b2 * (v * k - δ * e1 * z), d2 * (v * k - δ * e1 * z), ⟨_, _, rfl, rfl⟩, ⟨_, _, rfl, rfl⟩, ?_, ?_⟩
    · grind
    · grind
  · rintro ⟨_, _, _, _, ⟨j1, k1', rfl, rfl⟩, ⟨j2, k2', rfl, rfl⟩, rfl, rfl⟩
    exact ⟨r1 * j1 + r2 * j2 + r4 * (k1' * v - k2' * u) + t * (e1 * k1' + e2 * k2'), e1 * k1' + e2 * k2', by grind, by grind⟩
/-- the areas go together -/
theorem areas {w w2 h h2 z : Int} (hw : 1 ≤ w) (hh : 1 ≤ h) : w * (w2 / (Int.gcd w w2 : Int)) * ((Int.gcd w w2 : Int) / (Int.gcd (Int.gcd w w2 : Int) z : Int) * (h * (h2 / (Int.gcd h h2 : Int)))) * ((Int.gcd (Int.gcd w w2 : Int) z : Int) * (Int.gcd h h2 : Int)) = w * h * (w2 * h2) := by
  have e1 : (Int.gcd w w2 : Int) * (w2 / (Int.gcd w w2 : Int)) = w2 := Int.mul_ediv_cancel' (Int.gcd_dvd_right w w2)
  have e2 : (Int.gcd (Int.gcd w w2 : Int) z : Int) * ((Int.gcd w w2 : Int) / (Int.gcd (Int.gcd w w2 : Int) z : Int)) = (Int.gcd w w2 : Int) := Int.mul_ediv_cancel' (Int.gcd_dvd_left _ _)
  have e3 : (Int.gcd h h2 : Int) * (h2 / (Int.gcd h h2 : Int)) = h2 := Int.mul_ediv_cancel' (Int.gcd_dvd_right h h2)
  generalize (Int.gcd (Int.gcd w w2 : Int) z : Int) = y at *
  generalize (Int.gcd w w2 : Int) / y = x at *
  generalize w2 / (Int.gcd w w2 : Int) = v at *
  generalize (Int.gcd w w2 : Int) = g at *
  generalize h2 / (Int.gcd h h2 : Int) = u at *
  generalize (Int.gcd h h2 : Int) = k at *
  subst e1 e2 e3
  grind
end
theorem com_eq {A C D w s h w2 s2 h2 : Int} (BC : LB A C D) (B1 : LB w s h) (B2 : LB w2 s2 h2) (mem : ∀ x y, Ml A C D x y ↔ Ml w s h x y ∧ Ml w2 s2 h2 x y) :
    decide (A = w ∧ C = s ∧ D = h) = (inL w2 s2 h2 (some (w, 0)) && inL w2 s2 h2 (some (s, h))) := by
  rw [Bool.eq_iff_iff, decide_eq_true_iff, le_iff B2]
  constructor
  · rintro ⟨e1, e2, e3⟩ x y m
    have := (mem x y).mp (by rw [e1, e2, e3]; exact m)
    exact this.2
  · intro g
    exact Ml.uniq BC B1 fun x y => (mem x y).trans ⟨fun m => m.1, fun m => ⟨m, g _ _ m⟩⟩
theorem joi_eq {J I G w s h w2 s2 h2 : Int} (BJ : LB J I G) (B1 : LB w s h) (mem : ∀ x y, Ml J I G x y ↔ ∃ x1 y1 x2 y2, Ml w s h x1 y1 ∧ Ml w2 s2 h2 x2 y2 ∧ x = x1 + x2 ∧ y = y1 + y2) :
    decide (J = w ∧ I = s ∧ G = h) = (inL w s h (some (w2, 0)) && inL w s h (some (s2, h2))) := by
  rw [Bool.eq_iff_iff, decide_eq_true_iff, le_iff B1]
  constructor
  · rintro ⟨e1, e2, e3⟩ x y m
    have := (mem x y).mpr ⟨0, 0, x, y, Ml.zero, m, by omega, by omega⟩
    rwa [e1, e2, e3] at this
  · intro g
    exact Ml.uniq BJ B1 fun x y => (mem x y).trans ⟨fun ⟨x1, y1, x2, y2, m1, m2, ex, ey⟩ => by rw [ex, ey]; exact m1.add (g _ _ m2), fun m => ⟨x, y, 0, 0, m, Ml.zero, by omega, by omega⟩⟩
end Iz
/-! S2 -/
set_option Elab.async false
set_option linter.all false
set_option maxRecDepth 100000
set_option maxHeartbeats 4000000
namespace Iz
open PySem PySem.Spec PyProof.Rows L2
/-! ### every second of a list: xs[::2], xs[1::2] -/
def ev2 {α : Type} : List α → List α
  | [] => []
  | [x] => [x]
  | x :: _ :: r => x :: ev2 r
theorem ev2_range {α : Type} : ∀ (l : List α) (n : Nat), n = (l.length + 1) / 2 → ((List.range n).filterMap fun k => l[2 * k]?) = ev2 l
  | [], n, h => by subst h; simp [ev2]
  | [x], n, h => by subst h; simp [ev2, List.range_succ]
  | x :: y :: r, n, h => by
    obtain ⟨m, rfl⟩ : ∃ m, n = m + 1 := ⟨(r.length + 1) / 2, by rw [h, List.length_cons, List.length_cons]; omega⟩
    rw [List.range_succ_eq_map, List.filterMap_cons, List.filterMap_map]
    show x :: _ = x :: ev2 r
    rw [← ev2_range r m (by rw [List.length_cons, List.length_cons] at h; omega)]
    rfl
theorem fm_congr {α β : Type} {f g : α → Option β} : ∀ {l : List α}, (∀ x ∈ l, f x = g x) → l.filterMap f = l.filterMap g
  | [], _ => rfl
  | x :: l, h => by
    rw [List.filterMap_cons, List.filterMap_cons, h x (List.mem_cons_self ..), fm_congr fun y hy => h y (List.mem_cons_of_mem _ hy)]
theorem pick_ev2 (items : Array Value) : slicePick items none none (some 2) = (ev2 items.toList).toArray := by
  unfold slicePick
  rw [show sliceBounds none none (some 2) items.size = (0, (items.size : Int), 2) from rfl]
  show ((sliceRange 0 (items.size : Int) 2).filterMap (items[·]?)).toArray = _
  rw [← ev2_range items.toList _ rfl]
  unfold sliceRange
  rw [List.filterMap_map]
  congr 1
  have e : (if (2 : Int) > 0 then (if (0 : Int) < (items.size : Int) then ((items.size : Int) - 0 + 2 - 1) / 2 else 0) else (if (0 : Int) > (items.size : Int) then (0 - (items.size : Int) - 2 - 1) / (-2) else 0)).toNat = (items.toList.length + 1) / 2 := by
    rw [Array.length_toList, if_pos (by decide)]
    split <;> omega
  simp only [e]
  refine fm_congr fun k _ => ?_
  show items[((0 : Int) + 2 * (k : Int)).toNat]? = _
  rw [show ((0 : Int) + 2 * (k : Int)).toNat = 2 * k by omega, Array.getElem?_toList]
theorem pick_od2 (items : Array Value) : slicePick items (some 1) none (some 2) = (ev2 items.toList.tail).toArray := by
  unfold slicePick
  rw [show sliceBounds (some 1) none (some 2) items.size = (max 0 (min 1 (items.size : Int)), (items.size : Int), 2) from rfl]
  show ((sliceRange (max 0 (min 1 (items.size : Int))) (items.size : Int) 2).filterMap (items[·]?)).toArray = _
  rw [← ev2_range items.toList.tail _ rfl]
  unfold sliceRange
  rw [List.filterMap_map]
  congr 1
  have e : (if (2 : Int) > 0 then (if max 0 (min 1 (items.size : Int)) < (items.size : Int) then ((items.size : Int) - max 0 (min 1 (items.size : Int)) + 2 - 1) / 2 else 0) else (if max 0 (min 1 (items.size : Int)) > (items.size : Int) then (max 0 (min 1 (items.size : Int)) - (items.size : Int) - 2 - 1) / (-2) else 0)).toNat = (items.toList.tail.length + 1) / 2 := by
    rw [List.length_tail, Array.length_toList, if_pos (by decide)]
    split <;> omega
  simp only [e]
  refine fm_congr fun k hk => ?_
  have hk := List.mem_range.mp hk
  rw [List.length_tail, Array.length_toList] at hk
  show items[((max 0 (min 1 (items.size : Int))) + 2 * (k : Int)).toNat]? = _
  rw [show ((max 0 (min 1 (items.size : Int))) + 2 * (k : Int)).toNat = 2 * k + 1 by omega, List.getElem?_tail, Array.getElem?_toList]
section
variable {X : Cx} {e : Expr} {te : TE}
/-- every second of a list, from the second or the first on -/
def tEv2 (o : Bool) (te : TE) : TE := fun σ H Q => te σ H fun x H1 => ∃ a xs, x = .ref a ∧ H1 a = some (.lst xs) ∧ News H1 (.lst (ev2 (if o = true then xs.tail else xs))) Q
theorem vals_tail : ∀ {xs : List V} {its : List Value}, Vals xs its → Vals xs.tail its.tail
  | _, _, .nil => .nil
  | _, _, .cons _ r => r
theorem vals_ev2 : ∀ {xs : List V} {its : List Value}, Vals xs its → Vals (ev2 xs) (ev2 its)
  | _, _, .nil => .nil
  | _, _, .cons h .nil => .cons h .nil
  | _, _, .cons h (.cons _ r) => .cons h (vals_ev2 r)
theorem ev2_len {α : Type} : ∀ l : List α, (ev2 l).length ≤ l.length
  | [] => Nat.le_refl _
  | [_] => Nat.le_refl _
  | x :: y :: r => by have := ev2_len r; simp only [ev2, List.length_cons]; omega
theorem pe_ev2L {k : Nat} {p1 p3 pos : Pos} (he : PE X e te) : PE X (.Subscript e (.Slice none none (some (.Constant (.int 2) k p1)) p3) pos) (tEv2 false te) := by
  refine ⟨fun pins s σ H Q I h => ?_⟩
  refine Subscript_ (thn (he.run pins s σ H _ I h) fun v s1 ⟨x, H1, I1, r1, q1⟩ => ?_)
  obtain ⟨a, xs, ex, hx, q⟩ := q1
  subst ex
  cases r1
  have hst : PO X (some (.Constant (.int 2) k p1)) (tPart (tC (.int 2))) := po_some pe_int
  refine wpAny_Slice (thn (po_none.run pins s1 σ H1 (fun o H2 => o = none ∧ H2 = H1) I1 ⟨rfl, rfl⟩) fun vl s2 ⟨l, H2, I2, pl, el, e2⟩ => ?_)
  subst el e2
  refine thn (po_none.run pins s2 σ H2 (fun o H3 => o = none ∧ H3 = H2) I2 ⟨rfl, rfl⟩) fun vu s3 ⟨u, H3, I3, pu, eu, e3⟩ => ?_
  subst eu e3
  refine thn (hst.run pins s3 σ H3 (fun o H4 => o = some 2 ∧ H4 = H3) I3 ⟨2, rfl, rfl, rfl⟩) fun vs s4 ⟨o, H4, I4, ps, eo, e4⟩ => ?_
  subst eo e4
  have I5 : Inv X pins σ H4 { s4 with heap := s4.heap.push { cls := .type "slice", data := .fields #[vl, vu, vs] } } := I4.kept (t' := s4.toks) fun b ob q => Heap.get?_push_of_some _ q
  obtain ⟨its, r, ht, hz⟩ := I5.list (SqL.of hx)
  have hlen := r.length
  show wpAny (model X.prog X.w) X.A (subscriptTail e (.Slice none none (some (.Constant (.int 2) k p1)) p3) (.ref a) (.ref s4.heap.objs.size)) (EP X pins σ Q) X.xe { s4 with heap := s4.heap.push { cls := .type "slice", data := .fields #[vl, vu, vs] } }
  refine tail_any (ops := [.ref a, .ref s4.heap.objs.size]) ht.isList.typeIs (PySem.slot_list_getitem.lookup) ?_ (by with_unfolding_all rfl)
  refine wpAny_getItem_list_slice ht.isList (Heap.IsSliceOf.new _ vl vu vs) pl pu ps (by decide) ?_ (by rw [List.size_toArray]; omega)
  rw [pick_ev2]
  refine ⟨.ref _, _, I5.laid (t' := s4.toks) (o := .lst (ev2 xs)) (fun b ob q => Heap.get?_push_of_some _ q) (Nat.le_refl _) ?_, rfl, q.all _ (I5.hok.fresh (Nat.le_refl _))⟩
  exact ⟨Nat.le_trans (ev2_len xs) hz, _, 0, vals_ev2 r, Heap.get?_push_size _ rfl⟩
theorem pe_od2L {k k0 : Nat} {p0 p1 p3 pos : Pos} (he : PE X e te) : PE X (.Subscript e (.Slice (some (.Constant (.int 1) k0 p0)) none (some (.Constant (.int 2) k p1)) p3) pos) (tEv2 true te) := by
  refine ⟨fun pins s σ H Q I h => ?_⟩
  refine Subscript_ (thn (he.run pins s σ H _ I h) fun v s1 ⟨x, H1, I1, r1, q1⟩ => ?_)
  obtain ⟨a, xs, ex, hx, q⟩ := q1
  subst ex
  cases r1
  have hst0 : PO X (some (.Constant (.int 1) k0 p0)) (tPart (tC (.int 1))) := po_some pe_int
  have hst : PO X (some (.Constant (.int 2) k p1)) (tPart (tC (.int 2))) := po_some pe_int
  refine wpAny_Slice (thn (hst0.run pins s1 σ H1 (fun o H2 => o = some 1 ∧ H2 = H1) I1 ⟨1, rfl, rfl, rfl⟩) fun vl s2 ⟨l, H2, I2, pl, el, e2⟩ => ?_)
  subst el e2
  refine thn (po_none.run pins s2 σ H2 (fun o H3 => o = none ∧ H3 = H2) I2 ⟨rfl, rfl⟩) fun vu s3 ⟨u, H3, I3, pu, eu, e3⟩ => ?_
  subst eu e3
  refine thn (hst.run pins s3 σ H3 (fun o H4 => o = some 2 ∧ H4 = H3) I3 ⟨2, rfl, rfl, rfl⟩) fun vs s4 ⟨o, H4, I4, ps, eo, e4⟩ => ?_
  subst eo e4
  have I5 : Inv X pins σ H4 { s4 with heap := s4.heap.push { cls := .type "slice", data := .fields #[vl, vu, vs] } } := I4.kept (t' := s4.toks) fun b ob q => Heap.get?_push_of_some _ q
  obtain ⟨its, r, ht, hz⟩ := I5.list (SqL.of hx)
  have hlen := r.length
  show wpAny (model X.prog X.w) X.A (subscriptTail e (.Slice (some (.Constant (.int 1) k0 p0)) none (some (.Constant (.int 2) k p1)) p3) (.ref a) (.ref s4.heap.objs.size)) (EP X pins σ Q) X.xe { s4 with heap := s4.heap.push { cls := .type "slice", data := .fields #[vl, vu, vs] } }
  refine tail_any (ops := [.ref a, .ref s4.heap.objs.size]) ht.isList.typeIs (PySem.slot_list_getitem.lookup) ?_ (by with_unfolding_all rfl)
  refine wpAny_getItem_list_slice ht.isList (Heap.IsSliceOf.new _ vl vu vs) pl pu ps (by decide) ?_ (by rw [List.size_toArray]; omega)
  rw [pick_od2]
  refine ⟨.ref _, _, I5.laid (t' := s4.toks) (o := .lst (ev2 xs.tail)) (fun b ob q => Heap.get?_push_of_some _ q) (Nat.le_refl _) ?_, rfl, q.all _ (I5.hok.fresh (Nat.le_refl _))⟩
  exact ⟨Nat.le_trans (ev2_len _) (Nat.le_trans (by rw [List.length_tail]; omega) hz), _, 0, vals_ev2 (vals_tail r), Heap.get?_push_size _ rfl⟩
end
end Iz
/-! Sm -/
set_option Elab.async false
set_option linter.all false
set_option maxRecDepth 100000
set_option maxHeartbeats 4000000
namespace Iz
abbrev Row := List (Option Int × Option Int)
def rb (R : List (Option Int × Option Int)) : List (Bd Bool) := R.map fun p => (p.1, p.2, true)
theorem rb_true {R : Row} : ∀ c ∈ rb R, c.2.2 ≠ false := fun c hc => by
  obtain ⟨p, _, rfl⟩ := List.mem_map.mp hc
  exact fun e => by cases e
theorem rb_inj {R S : Row} (h : rb R = rb S) : R = S := by
  have e : ∀ T : Row, (rb T).map (fun b => (b.1, b.2.1)) = T := fun T => by
    unfold rb
    rw [List.map_map]
    exact (List.map_congr_left fun p _ => rfl).trans (List.map_id T)
  rw [← e R, h, e S]
theorem row_uniq {R S : Row} (a : Can (rb R)) (b : Can (rb S)) (h : ∀ x, valB false (rb R) x = valB false (rb S) x) : R = S :=
  rb_inj (Can.uniq a b rb_true rb_true h)
def Mixed (ks : List (List Bool)) (A B R : Row) : Prop := Can (rb R) ∧ (∀ x, valB false (rb R) x = decide ([valB false (rb A) x, valB false (rb B) x] ∈ ks)) ∧ ∀ x, EndB (rb R) x → EndB (rb A) x ∨ EndB (rb B) x
def RowsGood (S : List (Bd Row)) : Prop := ∀ s ∈ S, Can (rb s.2.2) ∧ s.2.2.length ≤ 1000
/-! ### regions: the mathematics -/
section
variable {α : Type}
theorem count_drop {l h k : Int} (h1 : l ≤ k) (h2 : k < h) : ∀ {E : List Int}, k ∈ E → E.countP (fun x => decide (h ≤ x)) + 1 ≤ E.countP (fun x => decide (l ≤ x)) := by
  intro E
  induction E with
  | nil => intro m; simp at m
  | cons e E ih =>
    intro m
    have mono : E.countP (fun x => decide (h ≤ x)) ≤ E.countP (fun x => decide (l ≤ x)) := List.countP_mono_left fun x _ hx => by simp at hx ⊢; omega
    rw [List.countP_cons, List.countP_cons]
    rcases List.mem_cons.mp m with rfl | m
    · rw [if_neg (by simp; omega), if_pos (by simpa using h1)]; omega
    · have := ih m
      by_cases c : h ≤ e
      · rw [if_pos (by simpa using c), if_pos (by simp; omega)]; omega
      · rw [if_neg (by simpa using c)]; omega
theorem asc_count : ∀ {bs : List (Bd α)} {l : Int} {E : List Int}, AscB bs → (∀ b r, bs = b :: r → ∃ k, b.1 = some k ∧ l ≤ k) → (∀ x, EndB bs x → x ∈ E) → bs.length ≤ E.countP (fun x => decide (l ≤ x))
  | [], _, _, _, _, _ => by simp
  | b :: r, l, E, a, lo, en => by
    obtain ⟨k, ek, lk⟩ := lo b r rfl
    have mk : k ∈ E := en k ⟨b, by simp, .inl ek⟩
    cases eh : b.2.1 with
    | none =>
      rw [a.last eh]
      have : 0 < E.countP (fun x => decide (l ≤ x)) := List.countP_pos_iff.mpr ⟨k, mk, by simpa using lk⟩
      simpa using this
    | some h =>
      have kh : k < h := a.1 k h ek eh
      have := asc_count (l := h) (E := E) a.tail (a.next eh) (fun x ⟨c, hc, hx⟩ => en x ⟨c, by simp [hc], hx⟩)
      have := count_drop lk kh mk
      simp only [List.length_cons]; omega
theorem asc_len {bs : List (Bd α)} {E : List Int} (a : AscB bs) (en : ∀ x, EndB bs x → x ∈ E) : bs.length ≤ E.length + 1 := by
  cases bs with
  | nil => simp
  | cons b r =>
    cases eh : b.2.1 with
    | none => rw [a.last eh]; simp
    | some h =>
      have := asc_count (l := h) (E := E) a.tail (a.next eh) (fun x ⟨c, hc, hx⟩ => en x ⟨c, by simp [hc], hx⟩)
      have : E.countP (fun x => decide (h ≤ x)) ≤ E.length := List.countP_le_length
      simp only [List.length_cons]; omega
theorem asc_ge : ∀ {r : List (Bd α)} {b : Bd α} {h : Int}, AscB (b :: r) → b.2.1 = some h → ∀ c ∈ r, ∃ k, c.1 = some k ∧ h ≤ k
  | [], _, _, _, _, c, hc => by simp at hc
  | d :: r, b, h, a, e, c, hc => by
    obtain ⟨k, ek, hk⟩ := a.next e d r rfl
    rcases List.mem_cons.mp hc with rfl | hc
    · exact ⟨k, ek, hk⟩
    · cases ed : d.2.1 with
      | none => rw [a.tail.last ed] at hc; simp at hc
      | some h2 =>
        obtain ⟨k2, e2, l2⟩ := asc_ge a.tail ed c hc
        have := a.tail.1 k h2 ek ed
        exact ⟨k2, e2, by omega⟩
theorem asc_at {z : α} : ∀ {bs : List (Bd α)} {b : Bd α} {y : Int}, AscB bs → b ∈ bs → lies b.1 b.2.1 y = true → valB z bs y = b.2.2
  | c :: r, b, y, a, hb, hy => by
    rcases List.mem_cons.mp hb with rfl | hb
    · exact valB_in hy
    · cases eh : c.2.1 with
      | none => rw [a.last eh] at hb; simp at hb
      | some h =>
        obtain ⟨k, ek, hk⟩ := asc_ge a eh b hb
        have h1 := (lies_iff.mp hy).1 k ek
        rw [valB_out (fun q => by have := (lies_iff.mp q).2 h eh; omega)]
        exact asc_at a.tail hb hy
theorem okE_point {lo hi : Option Int} (h : okE lo hi) : ∃ y, lies lo hi y = true := by
  cases lo with
  | none => cases hi with
    | none => exact ⟨0, rfl⟩
    | some h' => exact ⟨h' - 1, by simp [lies, lowOk, highOk]; omega⟩
  | some l => exact ⟨l, lies_iff.mpr ⟨fun k e => by cases e; omega, fun k e => h l k rfl e⟩⟩
end
/-- whether slabs have a cell -/
def hasS (S : List (Bd Row)) (x y : Int) : Bool := valB false (rb (valB [] S y)) x
abbrev Box := (Option Int × Option Int) × (Option Int × Option Int)
def inBox (b : Box) (x y : Int) : Bool := lies b.1.1 b.1.2 x && lies b.2.1 b.2.2 y
def okBox (b : Box) : Prop := okE b.1.1 b.1.2 ∧ okE b.2.1 b.2.2
/-- slabs as they should be, all ends among these -/
structure GoodS (EX EY : List Int) (S : List (Bd Row)) : Prop where
  can : Can S
  nz : ∀ s ∈ S, s.2.2 ≠ []
  rows : ∀ y, Can (rb (valB [] S y))
  ex : ∀ y x, EndB (rb (valB [] S y)) x → x ∈ EX
  ey : ∀ y, EndB S y → y ∈ EY
section
variable {EX EY : List Int} {A B S : List (Bd Row)}
theorem rb_len {R : Row} : (rb R).length = R.length := by unfold rb; rw [List.length_map]
theorem GoodS.len (g : GoodS EX EY S) : S.length ≤ EY.length + 1 := asc_len g.can.asc g.ey
theorem GoodS.row_len (g : GoodS EX EY S) (y : Int) : (valB [] S y).length ≤ EX.length + 1 := by
  rw [← rb_len]; exact asc_len (g.rows y).asc (g.ex y)
theorem GoodS.rg (g : GoodS EX EY S) (h : EX.length ≤ 900) : RowsGood S := fun s hs => by
  obtain ⟨y, hy⟩ := okE_point (g.can.asc.oks s hs)
  have e := asc_at (z := ([] : Row)) g.can.asc hs hy
  have h1 := g.rows y
  have h2 := g.row_len y
  rw [e] at h1 h2
  exact ⟨h1, by omega⟩
theorem GoodS.uniq {EX' EY' : List Int} (a : GoodS EX EY A) (b : GoodS EX' EY' B) (h : ∀ x y, hasS A x y = hasS B x y) : A = B :=
  Can.uniq (z := ([] : Row)) a.can b.can a.nz b.nz fun y => row_uniq (a.rows y) (b.rows y) fun x => h x y
theorem GoodS.nil : GoodS EX EY [] := ⟨trivial, fun s h => by simp at h, fun y => trivial, fun y x ⟨b, h, _⟩ => by simp [valB, rb] at h, fun y ⟨b, h, _⟩ => by simp at h⟩
theorem hasS_nil {x y : Int} : hasS [] x y = false := rfl
theorem valB_one {α : Type} {z v : α} {lo hi : Option Int} {y : Int} : valB z [(lo, hi, v)] y = if lies lo hi y = true then v else z := rfl
theorem GoodS.one {x0 x1 y0 y1 : Option Int} (hx : okE x0 x1) (hy : okE y0 y1) (ix : ∀ e, x0 = some e ∨ x1 = some e → e ∈ EX) (iy : ∀ e, y0 = some e ∨ y1 = some e → e ∈ EY) : GoodS EX EY [(y0, y1, [(x0, x1)])] := by
  refine ⟨⟨hy, trivial, trivial⟩, fun s h => by rw [List.mem_singleton.mp h]; simp, fun y => ?_, fun y x => ?_, fun y ⟨b, h, e⟩ => by rw [List.mem_singleton.mp h] at e; exact iy y e⟩
  · rw [valB_one]; split
    · exact ⟨hx, trivial, trivial⟩
    · trivial
  · rw [valB_one]; split
    · rintro ⟨b, h, e⟩
      rw [show rb [(x0, x1)] = [(x0, x1, true)] from rfl, List.mem_singleton] at h
      subst h
      exact ix x e
    · rintro ⟨b, h, e⟩
      simp [rb] at h
theorem hasS_one {x0 x1 y0 y1 : Option Int} {x y : Int} : hasS [(y0, y1, [(x0, x1)])] x y = inBox ((x0, x1), (y0, y1)) x y := by
  unfold hasS inBox
  rw [valB_one]
  by_cases c : lies y0 y1 y = true
  · rw [if_pos c, show rb [(x0, x1)] = [(x0, x1, true)] from rfl, valB_one, c]
    by_cases d : lies x0 x1 x = true
    · simp [d]
    · simp [d]
  · rw [if_neg c]; simp only [Bool.not_eq_true] at c; rw [c]; simp [rb, valB]
/-- what is put together of two -/
theorem GoodS.mix {ks : List (List Bool)} (a : GoodS EX EY A) (b : GoodS EX EY B) (c : Can S) (nz : ∀ s ∈ S, s.2.2 ≠ []) (en : ∀ y, EndB S y → EndB A y ∨ EndB B y) (m : ∀ y, Mixed ks (valB [] A y) (valB [] B y) (valB [] S y)) : GoodS EX EY S :=
  ⟨c, nz, fun y => (m y).1, fun y x h => ((m y).2.2 x h).elim (a.ex y x) (b.ex y x), fun y h => (en y h).elim (a.ey y) (b.ey y)⟩
theorem GoodS.wide {EX' EY' : List Int} (a : GoodS EX EY A) (hx : ∀ x ∈ EX, x ∈ EX') (hy : ∀ y ∈ EY, y ∈ EY') : GoodS EX' EY' A := ⟨a.can, a.nz, a.rows, fun y x h => hx x (a.ex y x h), fun y h => hy y (a.ey y h)⟩
theorem has_mix {ks : List (List Bool)} (m : ∀ y, Mixed ks (valB [] A y) (valB [] B y) (valB [] S y)) (x y : Int) : hasS S x y = decide ([hasS A x y, hasS B x y] ∈ ks) := (m y).2.1 x
abbrev ksEither : List (List Bool) := [[true, false], [false, true], [true, true]]
abbrev ksBoth : List (List Bool) := [[true, true]]
abbrev ksButNot : List (List Bool) := [[true, false]]
theorem ks_either (a b : Bool) : decide ([a, b] ∈ ksEither) = (a || b) := by cases a <;> cases b <;> decide
theorem ks_both (a b : Bool) : decide ([a, b] ∈ ksBoth) = (a && b) := by cases a <;> cases b <;> decide
theorem ks_butnot (a b : Bool) : decide ([a, b] ∈ ksButNot) = (a && !b) := by cases a <;> cases b <;> decide
end
/-- the ends of boxes -/
def exB (B : List Box) : List Int := B.flatMap fun b => b.1.1.toList ++ b.1.2.toList
def eyB (B : List Box) : List Int := B.flatMap fun b => b.2.1.toList ++ b.2.2.toList
theorem len_o (o : Option Int) : o.toList.length ≤ 1 := by cases o <;> simp
theorem exB_len : ∀ B : List Box, (exB B).length ≤ 2 * B.length
  | [] => by simp [exB]
  | b :: B => by
    have := exB_len B
    have h1 := len_o b.1.1
    have h2 := len_o b.1.2
    unfold exB at *
    rw [List.flatMap_cons, List.length_append, List.length_append, List.length_cons]; omega
theorem eyB_len : ∀ B : List Box, (eyB B).length ≤ 2 * B.length
  | [] => by simp [eyB]
  | b :: B => by
    have := eyB_len B
    have h1 := len_o b.2.1
    have h2 := len_o b.2.2
    unfold eyB at *
    rw [List.flatMap_cons, List.length_append, List.length_append, List.length_cons]; omega
theorem mem_exB {B : List Box} {b : Box} (h : b ∈ B) {e : Int} (he : b.1.1 = some e ∨ b.1.2 = some e) : e ∈ exB B :=
  List.mem_flatMap.mpr ⟨b, h, List.mem_append.mpr (he.imp (fun q => by rw [q]; simp) (fun q => by rw [q]; simp))⟩
theorem mem_eyB {B : List Box} {b : Box} (h : b ∈ B) {e : Int} (he : b.2.1 = some e ∨ b.2.2 = some e) : e ∈ eyB B :=
  List.mem_flatMap.mpr ⟨b, h, List.mem_append.mpr (he.imp (fun q => by rw [q]; simp) (fun q => by rw [q]; simp))⟩
/-! ### lists halved -/
section
variable {α : Type}
theorem ev2_get : ∀ (l : List α) (i : Nat), (ev2 l)[i]? = l[2 * i]?
  | [], i => by simp [ev2]
  | [x], 0 => rfl
  | [x], i + 1 => by
    rw [show ev2 [x] = [x] from rfl, List.getElem?_eq_none (by simp), List.getElem?_eq_none (by simp; omega)]
  | x :: y :: r, 0 => rfl
  | x :: y :: r, i + 1 => by
    rw [show ev2 (x :: y :: r) = x :: ev2 r from rfl, List.getElem?_cons_succ, ev2_get r i, show 2 * (i + 1) = 2 * i + 1 + 1 by omega, List.getElem?_cons_succ, List.getElem?_cons_succ]
theorem ev2_lenN : ∀ (l : List α), (ev2 l).length = (l.length + 1) / 2
  | [] => by simp [ev2]
  | [x] => by simp [ev2]
  | x :: y :: r => by
    rw [show ev2 (x :: y :: r) = x :: ev2 r from rfl, List.length_cons, ev2_lenN r, List.length_cons, List.length_cons]; omega
theorem od2_get (l : List α) (i : Nat) : (ev2 l.tail)[i]? = l[2 * i + 1]? := by rw [ev2_get, List.getElem?_tail]
theorem od2_lenN (l : List α) : (ev2 l.tail).length = l.length / 2 := by rw [ev2_lenN, List.length_tail]; omega
theorem any_two {p : α → Bool} {l : List α} {i : Nat} {a b : α} (h1 : l[2 * i]? = some a) (h2 : l[2 * i + 1]? = some b) : (l.take (2 * (i + 1))).any p = ((l.take (2 * i)).any p || (p a || p b)) := by
  rw [show 2 * (i + 1) = 2 * i + 1 + 1 by omega, List.take_succ, List.take_succ, h1, h2]
  simp [Bool.or_assoc]
theorem any_split {p : α → Bool} (l : List α) (n : Nat) : l.any p = ((l.take n).any p || (l.drop n).any p) := by
  rw [← List.any_append, List.take_append_drop]
end
section
variable {α : Type}
theorem asc_idx : ∀ {bs : List (Bd α)} {i j : Nat} {b c : Bd α}, AscB bs → i < j → bs[i]? = some b → bs[j]? = some c → ∃ h l, b.2.1 = some h ∧ c.1 = some l ∧ h ≤ l
  | [], _, _, _, _, _, _, h, _ => by simp at h
  | d :: r, 0, j + 1, b, c, a, _, hb, hc => by
    cases hb
    have hc : r[j]? = some c := hc
    cases eh : d.2.1 with
    | none => rw [a.last eh] at hc; simp at hc
    | some h =>
      obtain ⟨k, ek, hk⟩ := asc_ge a eh c (List.mem_of_getElem? hc)
      exact ⟨h, k, rfl, ek, hk⟩
  | d :: r, i + 1, j + 1, b, c, a, ij, hb, hc => asc_idx (bs := r) a.tail (by omega) hb hc
end
/-- how a row is searched -/
structure Srch (E : Row) (n : Int) (lo hi : Nat) : Prop where
  le : lo ≤ hi
  top : hi ≤ E.length
  a : ∀ (i : Nat) p, i < lo → E[i]? = some p → ∃ h, p.2 = some h ∧ h ≤ n
  b : ∀ (i : Nat) p, hi ≤ i → E[i]? = some p → ∀ h, p.2 = some h → n < h
section
variable {E : Row} {n : Int} {lo hi m : Nat} {p : Option Int × Option Int}
theorem Srch.start : Srch E n 0 E.length := ⟨Nat.zero_le _, Nat.le_refl _, fun i p h => absurd h (by omega), fun i p h e => by rw [List.getElem?_eq_none h] at e; cases e⟩
theorem rb_get {i : Nat} (h : E[i]? = some p) : (rb E)[i]? = some (p.1, p.2, true) := by unfold rb; rw [List.getElem?_map, h]; rfl
theorem Srch.right (s : Srch E n lo hi) (asc : AscB (rb E)) (h1 : m < hi) (hm : E[m]? = some p) {h : Int} (eh : p.2 = some h) (hn : h ≤ n) : Srch E n (m + 1) hi := by
  refine ⟨h1, s.top, fun i r hi hr => ?_, s.b⟩
  by_cases c : i = m
  · subst c; rw [hm] at hr; cases hr; exact ⟨h, eh, hn⟩
  · obtain ⟨h', l, e1, e2, e3⟩ := asc_idx asc (show i < m by omega) (rb_get hr) (rb_get hm)
    have := asc.oks _ (List.mem_of_getElem? (rb_get hm)) l h e2 eh
    exact ⟨h', e1, by omega⟩
theorem Srch.left (s : Srch E n lo hi) (asc : AscB (rb E)) (h0 : lo ≤ m) (h1 : m < hi) (hm : E[m]? = some p) (hn : ∀ h, p.2 = some h → n < h) : Srch E n lo m := by
  refine ⟨h0, by have := s.top; omega, s.a, fun i r hi hr h eh => ?_⟩
  by_cases c : i = m
  · subst c; rw [hm] at hr; cases hr; exact hn h eh
  · obtain ⟨h', l, e1, e2, e3⟩ := asc_idx asc (show m < i by omega) (rb_get hm) (rb_get hr)
    have := asc.oks _ (List.mem_of_getElem? (rb_get hr)) l h e2 eh
    have := hn h' e1
    omega
theorem Srch.none (s : Srch E n lo hi) (e : lo = E.length) : ∀ p ∈ E, lies p.1 p.2 n = false := fun p hp => by
  obtain ⟨i, hi⟩ := List.getElem?_of_mem hp
  have := (List.getElem?_eq_some_iff.mp hi).1
  obtain ⟨h, e1, e2⟩ := s.a i p (by omega) hi
  rw [Bool.eq_false_iff]
  intro q
  have := (lies_iff.mp q).2 h e1
  omega
theorem Srch.not (s : Srch E n lo lo) (asc : AscB (rb E)) (hm : E[lo]? = some p) {l : Int} (el : p.1 = some l) (ln : n < l) : ∀ p ∈ E, lies p.1 p.2 n = false := fun r hr => by
  obtain ⟨i, hi⟩ := List.getElem?_of_mem hr
  rw [Bool.eq_false_iff]
  intro q
  obtain ⟨q1, q2⟩ := lies_iff.mp q
  by_cases c : i < lo
  · obtain ⟨h, e1, e2⟩ := s.a i r c hi
    have := q2 h e1
    omega
  · by_cases c2 : i = lo
    · subst c2; rw [hm] at hi; cases hi
      have := q1 l el
      omega
    · obtain ⟨h', l', e1, e2, e3⟩ := asc_idx asc (show lo < i by omega) (rb_get hm) (rb_get hi)
      have := asc.oks _ (List.mem_of_getElem? (rb_get hm)) l h' el e1
      have := q1 l' e2
      omega
theorem Srch.yes (s : Srch E n lo lo) (hm : E[lo]? = some p) (hl : ∀ l, p.1 = some l → l ≤ n) : lies p.1 p.2 n = true := lies_iff.mpr ⟨hl, s.b lo p (Nat.le_refl _) hm⟩
end
section
open PySem PySem.Spec PyProof.Rows L2
variable {X : Cx} {k : Nat} {x : Str} {ps : List Str} {sp : Sp} {E : XK} {p pos : Pos}
/-- f() -/
theorem pcl0 {CX : CXT} (O : OkF X.prog X.w X.K X.mg X.base CX k x ps sp) (hr : Room k X.A) (hx : Passes CX X E) (hg : Gl X x := by rfl) (hdb : (x == ("__debug__" : Str)) = false := by decide) : PE X (.Call (.Name x p) [] [] pos) (tCall sp [] E tNil) := by
  obtain ⟨f, fd, g, kp, b, G⟩ := O.ex
  exact pe_call0 G hr hg g kp b .nil hx hdb
theorem op_ownInK {CX : CXT} {K : PySem.W.Frag} (hK : X.K = K) (O : OkM X.prog X.w X.K X.mg X.base CX k x "__contains__" ps [] sp) (hr : Room k X.A) (hx : Passes CX X E) : OpR X (compareOp .In) (rOwnIn (He.ga K x) false sp E) := hK ▸ op_ownIn O hr hx
end
open PySem PySem.Spec PyProof.Rows L2 in
theorem sqT_fr {K : PySem.W.Frag} {H : Hp} {t : Addr} {od : Option Addr} {its : Array Value} {n : Nat} {sl : Array (Option Value)} {xs : List V} (h : K.lookup t = some ⟨.type "tuple", od, .seq its n, sl⟩) (hz : its.size ≤ sizeLine) (v : Vals xs its.toList) : SqT K H t xs := .inr ⟨_, its, n, h, rfl, rfl, hz, v⟩
end Iz
/-! k21_text -/
set_option Elab.async false
set_option linter.all false
set_option maxRecDepth 100000
set_option maxHeartbeats 4000000
namespace Iz
open PySem PySem.Spec PyProof.Rows L2
open He (ga)
open SX (S S_len)
local macro_rules | `(tactic| walk_at "wp") => `(tactic| simp only [tD1, rTupN, rAll, rMax2, rMin2, tSl, tPart, tNoPart, rSlLN, tYes, rLenS, rRepN, unset, tEv2, calmS, tDNew, rInDN, rIxDN, rSetDN, tDN1, tDGetN, rSorted, cx_K, Value.ref.injEq, HO.xd.injEq, lk0, tSeq, tPar3, tPar, tCons, tNil, tVar, tC, tAsg, gName, gCons, gNil, gTupN, gSub, tOp, rI, rI0, rU, tTest, rNe, rEq, rIxTN, rIxLN, rLenL, rLenT, tLstRg, tRg1, tRg2, rIntI, rIntB, rAbs, rSetLN, tTruL, tRaiseX, rIsTy, rIsOw, ixN0, ixN1, tRet, tIf, tIfS, tNext, tBreak, tCont, tDrop, tTupN, tLstN, tUn, tCB, tCall, tNot, tAnd, tOr, tB, tAndV, tOrV, tNotV, tChain, tApp, LamX.tLam, tRevLN, rCatN, rInTN, rInLN, flatV, inV, List.all_cons, List.all_nil, List.any_cons, List.any_nil, Bool.and_self, Bool.and_true, if_true, Bool.false_eq_true, if_false, tMt, tFldN, tSto, HO.ins.injEq, lkh, List.drop_zero, List.drop_succ_cons, List.drop_nil, rListS, wipe, L2.start, List.map_cons, List.map_nil, List.length_cons, List.length_nil, List.replicate, List.cons_append, List.nil_append, List.append_nil, Nat.reduceAdd, Nat.reduceSub, Nat.zero_add, List.replicate_succ, List.replicate_zero, List.getElem?_cons_zero, List.getElem?_cons_succ, List.set_cons_zero, List.set_cons_succ, Option.some.injEq, V.int.injEq, V.bl.injEq, V.ref.injEq, V.str.injEq, V.ty.injEq, List.cons.injEq, HO.tup.injEq, HO.lst.injEq, and_true, true_and, and_assoc, exists_eq_left, exists_eq_left', exists_and_left, exists_eq', atI0, atI1, atI2, atI3, Int.cast_ofNat_Int, Int.reduceToNat, scal_ii, scal_in, scal_ni, scal_nn, scal_bb, scal_ss, scal_sn, scal_ns, scal_bn, scal_nb, ite_iff, decide_eq_true_eq, decide_eq_false_iff_not, Bool.not_eq_true', Classical.not_not, ne_eq, not_false_eq_true, not_true_eq_false, forall_const, true_implies, false_implies, imp_self, sizeLine_eq, Nat.reduceLeDiff, reduceCtorEq, decide_true, decide_false])
def top (i : Nat) : Stmt := PySem.Challenge.pw_endlessplane_k21_regions_made_and_refuse.main.body.getD i (.Pass ⟨0, 0, 0, 0⟩)
abbrev s_is_whole : Stmt := top 8
abbrev N_is_whole : List Str := ["value"]
theorem sc_is_whole : FnScope ["value"] ["value"] (defScope s_is_whole) := ⟨rfl, rfl, rfl, by decide +kernel, rfl, by decide +kernel, by decide +kernel⟩
abbrev s_is_row : Stmt := top 9
abbrev N_is_row : List Str := ["value"]
theorem sc_is_row : FnScope ["value"] ["value"] (defScope s_is_row) := ⟨rfl, rfl, rfl, by decide +kernel, rfl, by decide +kernel, by decide +kernel⟩
abbrev s_is_pair : Stmt := top 10
abbrev N_is_pair : List Str := ["value"]
theorem sc_is_pair : FnScope ["value"] ["value"] (defScope s_is_pair) := ⟨rfl, rfl, rfl, by decide +kernel, rfl, by decide +kernel, by decide +kernel⟩
abbrev s_is_span : Stmt := top 11
abbrev N_is_span : List Str := ["low", "high"]
theorem sc_is_span : FnScope ["low", "high"] ["low", "high"] (defScope s_is_span) := ⟨rfl, rfl, rfl, by decide +kernel, rfl, by decide +kernel, by decide +kernel⟩
abbrev s_is_box : Stmt := top 12
abbrev N_is_box : List Str := ["value"]
theorem sc_is_box : FnScope ["value"] ["value"] (defScope s_is_box) := ⟨rfl, rfl, rfl, by decide +kernel, rfl, by decide +kernel, by decide +kernel⟩
abbrev s_Region___init__ : Stmt := inClass (top 21) 0
abbrev N_Region___init__ : List Str := ["self", "boxes"]
theorem sc_Region___init__ : FnScope ["self", "boxes"] ["self", "boxes"] (defScope s_Region___init__) := ⟨rfl, rfl, rfl, by decide +kernel, rfl, by decide +kernel, by decide +kernel⟩
abbrev s_Region___eq__ : Stmt := inClass (top 21) 1
abbrev N_Region___eq__ : List Str := ["self", "other"]
theorem sc_Region___eq__ : FnScope ["self", "other"] ["self", "other"] (defScope s_Region___eq__) := ⟨rfl, rfl, rfl, by decide +kernel, rfl, by decide +kernel, by decide +kernel⟩
abbrev s_Region___contains__ : Stmt := inClass (top 21) 3
abbrev N_Region___contains__ : List Str := ["self", "cell"]
theorem sc_Region___contains__ : FnScope ["self", "cell"] ["self", "cell"] (defScope s_Region___contains__) := ⟨rfl, rfl, rfl, by decide +kernel, rfl, by decide +kernel, by decide +kernel⟩
abbrev s_Region_slabs : Stmt := inClass (top 21) 8
abbrev N_Region_slabs : List Str := ["self"]
theorem sc_Region_slabs : FnScope ["self"] ["self"] (defScope s_Region_slabs) := ⟨rfl, rfl, rfl, by decide +kernel, rfl, by decide +kernel, by decide +kernel⟩
abbrev s_row_at : Stmt := top 22
abbrev N_row_at : List Str := ["region", "y", "slab"]
theorem sc_row_at : FnScope ["region", "y", "slab"] ["region", "y"] (defScope s_row_at) := ⟨rfl, rfl, rfl, by decide +kernel, rfl, by decide +kernel, by decide +kernel⟩
abbrev s_require_region : Stmt := top 23
abbrev N_require_region : List Str := ["value"]
theorem sc_require_region : FnScope ["value"] ["value"] (defScope s_require_region) := ⟨rfl, rfl, rfl, by decide +kernel, rfl, by decide +kernel, by decide +kernel⟩
abbrev s_require_whole : Stmt := top 13
abbrev N_require_whole : List Str := ["value"]
theorem sc_require_whole : FnScope ["value"] ["value"] (defScope s_require_whole) := ⟨rfl, rfl, rfl, by decide +kernel, rfl, by decide +kernel, by decide +kernel⟩
abbrev s_slabs_of_boxes : Stmt := top 24
abbrev N_slabs_of_boxes : List Str := ["boxes", "parts", "pairs", "x0", "x1", "y0", "y1", "one", "other"]
theorem sc_slabs_of_boxes : FnScope ["boxes", "parts", "pairs", "x0", "x1", "y0", "y1", "one", "other"] ["boxes"] (defScope s_slabs_of_boxes) := ⟨rfl, rfl, rfl, by decide +kernel, rfl, by decide +kernel, by decide +kernel⟩
abbrev s_row_with : Stmt := top 25
abbrev N_row_with : List Str := ["rows", "number", "first", "last", "middle", "high", "low"]
theorem sc_row_with : FnScope ["rows", "number", "first", "last", "middle", "high", "low"] ["rows", "number"] (defScope s_row_with) := ⟨rfl, rfl, rfl, by decide +kernel, rfl, by decide +kernel, by decide +kernel⟩
abbrev s_slab_changes : Stmt := top 26
abbrev N_slab_changes : List Str := ["slabs"]
theorem sc_slab_changes : FnScope ["slabs"] ["slabs"] (defScope s_slab_changes) := ⟨rfl, rfl, rfl, by decide +kernel, rfl, by decide +kernel, by decide +kernel⟩
abbrev s_stretch_changes : Stmt := top 27
abbrev N_stretch_changes : List Str := ["stretches", "low", "high"]
theorem sc_stretch_changes : FnScope ["stretches", "low", "high"] ["stretches"] (defScope s_stretch_changes) := ⟨rfl, rfl, rfl, by decide +kernel, rfl, by decide +kernel, by decide +kernel⟩
abbrev s_side_by_side : Stmt := top 28
abbrev N_side_by_side : List Str := ["rows", "cuts", "changes", "at", "ends", "worths", "bands", "low", "high", "worth"]
theorem sc_side_by_side : FnScope ["rows", "cuts", "changes", "at", "ends", "worths", "bands", "low", "high", "worth"] ["rows"] (defScope s_side_by_side) := ⟨rfl, rfl, rfl, by decide +kernel, rfl, by decide +kernel, by decide +kernel⟩
abbrev s__changes : Stmt := top 29
abbrev N__changes : List Str := ["bands", "nothing", "changes", "low", "high", "worth"]
theorem sc__changes : FnScope ["bands", "nothing", "changes", "low", "high", "worth"] ["bands", "nothing"] (defScope s__changes) := ⟨rfl, rfl, rfl, by decide +kernel, rfl, by decide +kernel, by decide +kernel⟩
abbrev s__joined_bands : Stmt := top 30
abbrev N__joined_bands : List Str := ["bands", "joined", "low", "high", "worth", "begun"]
theorem sc__joined_bands : FnScope ["bands", "joined", "low", "high", "worth", "begun"] ["bands"] (defScope s__joined_bands) := ⟨rfl, rfl, rfl, by decide +kernel, rfl, by decide +kernel, by decide +kernel⟩
abbrev s__slabs_together : Stmt := top 32
abbrev N__slabs_together : List Str := ["one", "other", "kept", "bands", "low", "high", "rows"]
theorem sc__slabs_together : FnScope ["one", "other", "kept", "bands", "low", "high", "rows"] ["one", "other", "kept"] (defScope s__slabs_together) := ⟨rfl, rfl, rfl, by decide +kernel, rfl, by decide +kernel, by decide +kernel⟩
abbrev s__row_together : Stmt := top 33
abbrev N__row_together : List Str := ["rows", "kept", "bands", "row", "band", "low", "high", "pair"]
theorem sc__row_together : FnScope ["rows", "kept", "bands", "row", "band", "low", "high", "pair"] ["rows", "kept"] (defScope s__row_together) := ⟨rfl, rfl, rfl, by decide +kernel, rfl, by decide +kernel, by decide +kernel⟩
abbrev s__slabs_of_told : Stmt := top 34
abbrev N__slabs_of_told : List Str := ["boxes", "index", "item"]
theorem sc__slabs_of_told : FnScope ["boxes", "index", "item"] ["boxes"] (defScope s__slabs_of_told) := ⟨rfl, rfl, rfl, by decide +kernel, rfl, by decide +kernel, by decide +kernel⟩
abbrev s__law_pool : Stmt := top 36
abbrev N__law_pool : List Str := ["_law_script", "_law_k", "_law_cell", "_law_big", "_law_mixed"]
theorem sc__law_pool : FnScope ["_law_script", "_law_k", "_law_cell", "_law_big", "_law_mixed"] ["_law_script", "_law_k"] (defScope s__law_pool) := ⟨rfl, rfl, rfl, by decide +kernel, rfl, by decide +kernel, by decide +kernel⟩
abbrev s__law_take : Stmt := top 37
abbrev N__law_take : List Str := ["_law_source", "_law_top", "_law_told"]
theorem sc__law_take : FnScope ["_law_source", "_law_top", "_law_told"] ["_law_source", "_law_top"] (defScope s__law_take) := ⟨rfl, rfl, rfl, by decide +kernel, rfl, by decide +kernel, by decide +kernel⟩
abbrev s__law_one : Stmt := top 38
abbrev N__law_one : List Str := ["_law_source", "_law_things"]
theorem sc__law_one : FnScope ["_law_source", "_law_things"] ["_law_source", "_law_things"] (defScope s__law_one) := ⟨rfl, rfl, rfl, by decide +kernel, rfl, by decide +kernel, by decide +kernel⟩
abbrev s__law_rounds : Stmt := top 39
abbrev N__law_rounds : List Str := ["_law_script"]
theorem sc__law_rounds : FnScope ["_law_script"] ["_law_script"] (defScope s__law_rounds) := ⟨rfl, rfl, rfl, by decide +kernel, rfl, by decide +kernel, by decide +kernel⟩
abbrev s__law_side : Stmt := top 40
abbrev N__law_side : List Str := ["_law_source", "_law_low", "_law_high", "_law_way"]
theorem sc__law_side : FnScope ["_law_source", "_law_low", "_law_high", "_law_way"] ["_law_source"] (defScope s__law_side) := ⟨rfl, rfl, rfl, by decide +kernel, rfl, by decide +kernel, by decide +kernel⟩
abbrev s__law_box : Stmt := top 41
abbrev N__law_box : List Str := ["_law_source"]
theorem sc__law_box : FnScope ["_law_source"] ["_law_source"] (defScope s__law_box) := ⟨rfl, rfl, rfl, by decide +kernel, rfl, by decide +kernel, by decide +kernel⟩
abbrev s__law_ended : Stmt := top 42
abbrev N__law_ended : List Str := ["_law_source", "_law_left", "_law_low"]
theorem sc__law_ended : FnScope ["_law_source", "_law_left", "_law_low"] ["_law_source"] (defScope s__law_ended) := ⟨rfl, rfl, rfl, by decide +kernel, rfl, by decide +kernel, by decide +kernel⟩
abbrev s__law_boxes : Stmt := top 43
abbrev N__law_boxes : List Str := ["_law_source", "_law_most", "_law_ended_here", "_law_turn"]
theorem sc__law_boxes : FnScope ["_law_source", "_law_most", "_law_ended_here", "_law_turn"] ["_law_source", "_law_most", "_law_ended_here"] (defScope s__law_boxes) := ⟨rfl, rfl, rfl, by decide +kernel, rfl, by decide +kernel, by decide +kernel⟩
abbrev s__law_lies : Stmt := top 44
abbrev N__law_lies : List Str := ["_law_low", "_law_high", "_law_i"]
theorem sc__law_lies : FnScope ["_law_low", "_law_high", "_law_i"] ["_law_low", "_law_high", "_law_i"] (defScope s__law_lies) := ⟨rfl, rfl, rfl, by decide +kernel, rfl, by decide +kernel, by decide +kernel⟩
abbrev s__law_has : Stmt := top 45
abbrev N__law_has : List Str := ["_law_boxes_here", "_law_x", "_law_y", "_law_box_here"]
theorem sc__law_has : FnScope ["_law_boxes_here", "_law_x", "_law_y", "_law_box_here"] ["_law_boxes_here", "_law_x", "_law_y"] (defScope s__law_has) := ⟨rfl, rfl, rfl, by decide +kernel, rfl, by decide +kernel, by decide +kernel⟩
abbrev s__law_square : Stmt := top 46
abbrev N__law_square : List Str := []
theorem sc__law_square : FnScope [] [] (defScope s__law_square) := ⟨rfl, rfl, rfl, by decide +kernel, rfl, by decide +kernel, by decide +kernel⟩
abbrev s__law_caught : Stmt := top 47
abbrev N__law_caught : List Str := ["_law_call", "e"]
theorem sc__law_caught : FnScope ["_law_call", "e"] ["_law_call"] (defScope s__law_caught) := ⟨rfl, rfl, rfl, by decide +kernel, rfl, by decide +kernel, by decide +kernel⟩
abbrev s__law_cells_right : Stmt := top 48
abbrev N__law_cells_right : List Str := ["_law_boxes_here", "_law_made", "_law_y", "_law_x", "_law_odd"]
theorem sc__law_cells_right : FnScope ["_law_boxes_here", "_law_made", "_law_y", "_law_x", "_law_odd"] ["_law_boxes_here", "_law_made"] (defScope s__law_cells_right) := ⟨rfl, rfl, rfl, by decide +kernel, rfl, by decide +kernel, by decide +kernel⟩
abbrev s__law_refused : Stmt := top 49
abbrev N__law_refused : List Str := ["_law_source", "_law_boxes_here", "_law_some", "_law_at", "_law_many", "_law_odd", "_law_thing", "_law_k"]
theorem sc__law_refused : FnScope ["_law_source", "_law_boxes_here", "_law_some", "_law_at", "_law_many", "_law_odd", "_law_thing", "_law_k"] ["_law_source", "_law_boxes_here"] (defScope s__law_refused) := ⟨rfl, rfl, rfl, by decide +kernel, rfl, by decide +kernel, by decide +kernel⟩
abbrev s_law : Stmt := top 50
abbrev N_law : List Str := ["_law_script", "_law_k", "_law_source", "_law_boxes_here", "_law_handed", "_law_made"]
theorem sc_law : FnScope ["_law_script", "_law_k", "_law_source", "_law_boxes_here", "_law_handed", "_law_made"] ["_law_script"] (defScope s_law) := ⟨rfl, rfl, rfl, by decide +kernel, rfl, by decide +kernel, by decide +kernel⟩
abbrev s_BadPart___init__ : Stmt := inClass (top 2) 0
abbrev N_BadPart___init__ : List Str := ["self", "part"]
theorem sc_BadPart___init__ : FnScope ["self", "part"] ["self", "part"] (defScope s_BadPart___init__) := ⟨rfl, rfl, rfl, by decide +kernel, rfl, by decide +kernel, by decide +kernel⟩
abbrev s_BadIndex___init__ : Stmt := inClass (top 4) 0
abbrev N_BadIndex___init__ : List Str := ["self", "index"]
theorem sc_BadIndex___init__ : FnScope ["self", "index"] ["self", "index"] (defScope s_BadIndex___init__) := ⟨rfl, rfl, rfl, by decide +kernel, rfl, by decide +kernel, by decide +kernel⟩
abbrev s_TooMany___init__ : Stmt := inClass (top 6) 0
abbrev N_TooMany___init__ : List Str := ["self", "limit"]
theorem sc_TooMany___init__ : FnScope ["self", "limit"] ["self", "limit"] (defScope s_TooMany___init__) := ⟨rfl, rfl, rfl, by decide +kernel, rfl, by decide +kernel, by decide +kernel⟩
theorem b_Region___init__ {K : PySem.W.Frag} {f : Addr} {fd : FuncData} {t0 : Addr} (F : FunD K "__init__" "Region.__init__" (defArgs s_Region___init__) (defBody s_Region___init__) (defScope s_Region___init__) [.ref t0] [] f fd) : BindD K fd ["self", "boxes"] [.ref t0] := fun j hj => match j, hj with
    | 0, _ => F.binds1 1 0 (by simp) rfl fun _ _ _ _ _ _ _ us its hu hi => match us, its, hu, hi with | [_], [_], _, _ => ⟨_, rfl, rfl⟩
    | 1, _ => F.binds1 2 1 (by simp) rfl fun _ _ _ _ _ _ _ us its hu hi => match us, its, hu, hi with | [_, _], [_], _, _ => ⟨_, rfl, rfl⟩
    | j + 2, h => absurd h (by simp)
theorem b_Region___eq__ {K : PySem.W.Frag} {f : Addr} {fd : FuncData} (F : FunD K "__eq__" "Region.__eq__" (defArgs s_Region___eq__) (defBody s_Region___eq__) (defScope s_Region___eq__) [] [] f fd) : BindD K fd ["self", "other"] [] := BindD.none (F.bindsN fun _ _ _ _ _ _ us hl => match us, hl with | [_, _], _ => rfl)
theorem b_Region___contains__ {K : PySem.W.Frag} {f : Addr} {fd : FuncData} (F : FunD K "__contains__" "Region.__contains__" (defArgs s_Region___contains__) (defBody s_Region___contains__) (defScope s_Region___contains__) [] [] f fd) : BindD K fd ["self", "cell"] [] := BindD.none (F.bindsN fun _ _ _ _ _ _ us hl => match us, hl with | [_, _], _ => rfl)
theorem b_Region_slabs {K : PySem.W.Frag} {f : Addr} {fd : FuncData} (F : FunD K "slabs" "Region.slabs" (defArgs s_Region_slabs) (defBody s_Region_slabs) (defScope s_Region_slabs) [] [] f fd) : BindD K fd ["self"] [] := BindD.none (F.bindsN fun _ _ _ _ _ _ us hl => match us, hl with | [_], _ => rfl)
structure Txt (K : PySem.W.Frag) (mg : Str → Option Value) : Prop where
  d_is_whole : ∃ (f : Addr) (fd : FuncData), mg "is_whole" = some (.ref f) ∧ Fun K "is_whole" "is_whole" s_is_whole f fd
  d_is_row : ∃ (f : Addr) (fd : FuncData), mg "is_row" = some (.ref f) ∧ Fun K "is_row" "is_row" s_is_row f fd
  d_is_pair : ∃ (f : Addr) (fd : FuncData), mg "is_pair" = some (.ref f) ∧ Fun K "is_pair" "is_pair" s_is_pair f fd
  d_is_span : ∃ (f : Addr) (fd : FuncData), mg "is_span" = some (.ref f) ∧ Fun K "is_span" "is_span" s_is_span f fd
  d_is_box : ∃ (f : Addr) (fd : FuncData), mg "is_box" = some (.ref f) ∧ Fun K "is_box" "is_box" s_is_box f fd
  d_row_at : ∃ (f : Addr) (fd : FuncData), mg "row_at" = some (.ref f) ∧ Fun K "row_at" "row_at" s_row_at f fd
  d_require_region : ∃ (f : Addr) (fd : FuncData), mg "require_region" = some (.ref f) ∧ Fun K "require_region" "require_region" s_require_region f fd
  d_require_whole : ∃ (f : Addr) (fd : FuncData), mg "require_whole" = some (.ref f) ∧ Fun K "require_whole" "require_whole" s_require_whole f fd
  d_slabs_of_boxes : ∃ (f : Addr) (fd : FuncData), mg "slabs_of_boxes" = some (.ref f) ∧ Fun K "slabs_of_boxes" "slabs_of_boxes" s_slabs_of_boxes f fd
  d_row_with : ∃ (f : Addr) (fd : FuncData), mg "row_with" = some (.ref f) ∧ Fun K "row_with" "row_with" s_row_with f fd
  d_slab_changes : ∃ (f : Addr) (fd : FuncData), mg "slab_changes" = some (.ref f) ∧ Fun K "slab_changes" "slab_changes" s_slab_changes f fd
  d_stretch_changes : ∃ (f : Addr) (fd : FuncData), mg "stretch_changes" = some (.ref f) ∧ Fun K "stretch_changes" "stretch_changes" s_stretch_changes f fd
  d_side_by_side : ∃ (f : Addr) (fd : FuncData), mg "side_by_side" = some (.ref f) ∧ Fun K "side_by_side" "side_by_side" s_side_by_side f fd
  d__changes : ∃ (f : Addr) (fd : FuncData), mg "_changes" = some (.ref f) ∧ Fun K "_changes" "_changes" s__changes f fd
  d__joined_bands : ∃ (f : Addr) (fd : FuncData), mg "_joined_bands" = some (.ref f) ∧ Fun K "_joined_bands" "_joined_bands" s__joined_bands f fd
  d__slabs_together : ∃ (f : Addr) (fd : FuncData), mg "_slabs_together" = some (.ref f) ∧ Fun K "_slabs_together" "_slabs_together" s__slabs_together f fd
  d__row_together : ∃ (f : Addr) (fd : FuncData), mg "_row_together" = some (.ref f) ∧ Fun K "_row_together" "_row_together" s__row_together f fd
  d__slabs_of_told : ∃ (f : Addr) (fd : FuncData), mg "_slabs_of_told" = some (.ref f) ∧ Fun K "_slabs_of_told" "_slabs_of_told" s__slabs_of_told f fd
  d__law_pool : ∃ (f : Addr) (fd : FuncData), mg "_law_pool" = some (.ref f) ∧ Fun K "_law_pool" "_law_pool" s__law_pool f fd
  d__law_take : ∃ (f : Addr) (fd : FuncData), mg "_law_take" = some (.ref f) ∧ Fun K "_law_take" "_law_take" s__law_take f fd
  d__law_one : ∃ (f : Addr) (fd : FuncData), mg "_law_one" = some (.ref f) ∧ Fun K "_law_one" "_law_one" s__law_one f fd
  d__law_rounds : ∃ (f : Addr) (fd : FuncData), mg "_law_rounds" = some (.ref f) ∧ Fun K "_law_rounds" "_law_rounds" s__law_rounds f fd
  d__law_side : ∃ (f : Addr) (fd : FuncData), mg "_law_side" = some (.ref f) ∧ Fun K "_law_side" "_law_side" s__law_side f fd
  d__law_box : ∃ (f : Addr) (fd : FuncData), mg "_law_box" = some (.ref f) ∧ Fun K "_law_box" "_law_box" s__law_box f fd
  d__law_ended : ∃ (f : Addr) (fd : FuncData), mg "_law_ended" = some (.ref f) ∧ Fun K "_law_ended" "_law_ended" s__law_ended f fd
  d__law_boxes : ∃ (f : Addr) (fd : FuncData), mg "_law_boxes" = some (.ref f) ∧ Fun K "_law_boxes" "_law_boxes" s__law_boxes f fd
  d__law_lies : ∃ (f : Addr) (fd : FuncData), mg "_law_lies" = some (.ref f) ∧ Fun K "_law_lies" "_law_lies" s__law_lies f fd
  d__law_has : ∃ (f : Addr) (fd : FuncData), mg "_law_has" = some (.ref f) ∧ Fun K "_law_has" "_law_has" s__law_has f fd
  d__law_square : ∃ (f : Addr) (fd : FuncData), mg "_law_square" = some (.ref f) ∧ Fun K "_law_square" "_law_square" s__law_square f fd
  d__law_caught : ∃ (f : Addr) (fd : FuncData), mg "_law_caught" = some (.ref f) ∧ Fun K "_law_caught" "_law_caught" s__law_caught f fd
  d__law_cells_right : ∃ (f : Addr) (fd : FuncData), mg "_law_cells_right" = some (.ref f) ∧ Fun K "_law_cells_right" "_law_cells_right" s__law_cells_right f fd
  lam__law_refused : LamF K mg "_law_refused" s__law_refused
  d_law : ∃ (f : Addr) (fd : FuncData), mg "law" = some (.ref f) ∧ Fun K "law" "law" s_law f fd
  ci_MadeSlabs : ClsI K (ga K "MadeSlabs")
  c_MadeSlabs : Cls K (ga K "MadeSlabs")
  g_MadeSlabs : mg "MadeSlabs" = some (.ref (ga K "MadeSlabs"))
  na_MadeSlabs_ready : NoAttr K (ga K "MadeSlabs") "ready"
  ci_Region : ClsI K (ga K "Region")
  c_Region : Cls K (ga K "Region")
  g_Region : mg "Region" = some (.ref (ga K "Region"))
  na_Region__slabs : NoAttr K (ga K "Region") "_slabs"
  d_Region___init__ : ∃ (f : Addr) (fd : FuncData) (t0 : Addr), Mk K (ga K "Region") f ∧ FunD K "__init__" "Region.__init__" (defArgs s_Region___init__) (defBody s_Region___init__) (defScope s_Region___init__) [.ref t0] [] f fd ∧ EmpT K t0
  d_Region___eq__ : ∃ (f : Addr) (fd : FuncData), Meth K (ga K "Region") "__eq__" f ∧ FunD K "__eq__" "Region.__eq__" (defArgs s_Region___eq__) (defBody s_Region___eq__) (defScope s_Region___eq__) [] [] f fd
  d_Region___contains__ : ∃ (f : Addr) (fd : FuncData), Meth K (ga K "Region") "__contains__" f ∧ FunD K "__contains__" "Region.__contains__" (defArgs s_Region___contains__) (defBody s_Region___contains__) (defScope s_Region___contains__) [] [] f fd
  d_Region_slabs : ∃ (f : Addr) (fd : FuncData), Meth K (ga K "Region") "slabs" f ∧ FunD K "slabs" "Region.slabs" (defArgs s_Region_slabs) (defBody s_Region_slabs) (defScope s_Region_slabs) [] [] f fd
  g_EITHER : mg "EITHER" = some (.ref (ga K "EITHER"))
  gt_EITHER : ∀ H : Hp, ∃ a0 a1 a2 : Addr, SqT K H (ga K "EITHER") [.ref a0, .ref a1, .ref a2] ∧ SqT K H a0 [.bl true, .bl false] ∧ SqT K H a1 [.bl false, .bl true] ∧ SqT K H a2 [.bl true, .bl true]
  k_MOST_BOXES : ∃ t, mg "MOST_BOXES" = some (.int 40 t)
  m_isinstance : mg "isinstance" = none
  m_int : mg "int" = none
  m_bool : mg "bool" = none
  m_tuple : mg "tuple" = none
  m_len : mg "len" = none
  m_list : mg "list" = none
  m_range : mg "range" = none
  m_min : mg "min" = none
  m_max : mg "max" = none
  m_sorted : mg "sorted" = none
  m_zip : mg "zip" = none
  m_enumerate : mg "enumerate" = none
  x_BadPart : ExT K mg "BadPart" "part"
  x_BadIndex : ExT K mg "BadIndex" "index"
  x_TooMany : ExTO K mg "TooMany" "limit"
  mPP : PySem.W.exmOne K (.ref (ga K "BadPart")) (.ref (ga K "BadPart")) = some true
  mIP : PySem.W.exmOne K (.ref (ga K "BadIndex")) (.ref (ga K "BadPart")) = some false
  mII : PySem.W.exmOne K (.ref (ga K "BadIndex")) (.ref (ga K "BadIndex")) = some true
  mMP : PySem.W.exmOne K (.ref (ga K "TooMany")) (.ref (ga K "BadPart")) = some false
  mMI : PySem.W.exmOne K (.ref (ga K "TooMany")) (.ref (ga K "BadIndex")) = some false
  mMN : PySem.W.exmOne K (.ref (ga K "TooMany")) (.ref (ga K "BadNumber")) = some false
  mMS : PySem.W.exmOne K (.ref (ga K "TooMany")) (.ref (ga K "NotSo")) = some false
  mMM : PySem.W.exmOne K (.ref (ga K "TooMany")) (.ref (ga K "TooMany")) = some true
  gN : mg "BadNumber" = some (.ref (ga K "BadNumber"))
  gS : mg "NotSo" = some (.ref (ga K "NotSo"))
  nR_Region : PySem.W.notFirst K (ga K "Region") (.ref (ga K "Region")) = true
  nR_list : PySem.W.notFirst K (ga K "Region") (.type "list") = true
  nR_int : PySem.W.notFirst K (ga K "Region") (.type "int") = true
  kR_list : PySem.W.kitOne K (.type "list") (.ref (ga K "Region")) = some false
  kR_int : PySem.W.kitOne K (.type "int") (.ref (ga K "Region")) = some false
  kM_NoneType : PySem.W.kitOne K (.type "NoneType") (.ref (ga K "MadeSlabs")) = some false
  kM_int : PySem.W.kitOne K (.type "int") (.ref (ga K "MadeSlabs")) = some false
  kM_str : PySem.W.kitOne K (.type "str") (.ref (ga K "MadeSlabs")) = some false
  kM_dict : PySem.W.kitOne K (.type "dict") (.ref (ga K "MadeSlabs")) = some false
  kM_list : PySem.W.kitOne K (.type "list") (.ref (ga K "MadeSlabs")) = some false
  kM_tuple : PySem.W.kitOne K (.type "tuple") (.ref (ga K "MadeSlabs")) = some false
  ne_Region : PySem.W.findIn K (.ref (ga K "Region")) "__ne__" = some (some (.builtin "object.__ne__"))
end Iz
/-! k21_a -/
set_option Elab.async false
set_option linter.all false
set_option maxRecDepth 100000
set_option maxHeartbeats 4000000
namespace Iz
open PySem PySem.Spec PyProof.Rows L2
open He (ga)
open SX (S S_len)
local macro_rules | `(tactic| walk_at "wp") => `(tactic| simp only [tD1, rTupN, rAll, rMax2, rMin2, tSl, tPart, tNoPart, rSlLN, tYes, rLenS, rRepN, unset, tEv2, calmS, tDNew, rInDN, rIxDN, rSetDN, tDN1, tDGetN, rSorted, cx_K, Value.ref.injEq, HO.xd.injEq, lk0, tSeq, tPar3, tPar, tCons, tNil, tVar, tC, tAsg, gName, gCons, gNil, gTupN, gSub, tOp, rI, rI0, rU, tTest, rNe, rEq, rIxTN, rIxLN, rLenL, rLenT, tLstRg, tRg1, tRg2, rIntI, rIntB, rAbs, rSetLN, tTruL, tRaiseX, rIsTy, rIsOw, ixN0, ixN1, tRet, tIf, tIfS, tNext, tBreak, tCont, tDrop, tTupN, tLstN, tUn, tCB, tCall, tNot, tAnd, tOr, tB, tAndV, tOrV, tNotV, tChain, tApp, LamX.tLam, tRevLN, rCatN, rInTN, rInLN, flatV, inV, List.all_cons, List.all_nil, List.any_cons, List.any_nil, Bool.and_self, Bool.and_true, if_true, Bool.false_eq_true, if_false, tMt, tFldN, tSto, HO.ins.injEq, lkh, List.drop_zero, List.drop_succ_cons, List.drop_nil, rListS, wipe, L2.start, List.map_cons, List.map_nil, List.length_cons, List.length_nil, List.replicate, List.cons_append, List.nil_append, List.append_nil, Nat.reduceAdd, Nat.reduceSub, Nat.zero_add, List.replicate_succ, List.replicate_zero, List.getElem?_cons_zero, List.getElem?_cons_succ, List.set_cons_zero, List.set_cons_succ, Option.some.injEq, V.int.injEq, V.bl.injEq, V.ref.injEq, V.str.injEq, V.ty.injEq, List.cons.injEq, HO.tup.injEq, HO.lst.injEq, and_true, true_and, and_assoc, exists_eq_left, exists_eq_left', exists_and_left, exists_eq', atI0, atI1, atI2, atI3, Int.cast_ofNat_Int, Int.reduceToNat, scal_ii, scal_in, scal_ni, scal_nn, scal_bb, scal_ss, scal_sn, scal_ns, scal_bn, scal_nb, ite_iff, decide_eq_true_eq, decide_eq_false_iff_not, Bool.not_eq_true', Classical.not_not, ne_eq, not_false_eq_true, not_true_eq_false, forall_const, true_implies, false_implies, imp_self, sizeLine_eq, Nat.reduceLeDiff, reduceCtorEq, decide_true, decide_false])
section
variable {P : Program} {w : World} {K : PySem.W.Frag} {mg : Str → Option Value} {base : Heap}
/-! ### bands of the program -/
/-- all but p stays -/
def But (p : Addr) (H H' : Hp) : Prop := ∀ b o, b ≠ p → H b = some o → H' b = some o
theorem SqT.at' {K : PySem.W.Frag} {H H' : Hp} {q : Addr} {xs : List V} (h : SqT K H q xs) (k : ∀ o, H q = some o → H' q = some o) : SqT K H' q xs := by
  rcases h with (h | ⟨o, h⟩) | h
  · exact .inl (.inl (k _ h))
  · exact .inl (.inr ⟨o, k _ h⟩)
  · exact .inr h
theorem st_forG {K : PySem.W.Frag} {tl : TE} {g : TG} {tb : TS} {D : Ends} {σ : L2.St} {H H0 : Hp} {a : Addr} {xs : List V} (ha : ∀ R : V → Hp → Prop, R (.ref a) H → tl σ H R) (hx : LG K H0 a xs) (Pv : Nat → L2.St → Hp → Prop) (h0 : Pv 0 σ H)
    (hl1 : H0 a = some (.lst xs) → ∀ i σ H', Pv i σ H' → H' a = some (.lst xs)) (hl2 : SqT K H0 a xs → ∀ i σ H', Pv i σ H' → SqT K H' a xs)
    (hs : ∀ i x σ H, xs[i]? = some x → Pv i σ H → g x σ H fun σ2 H2 => tb { D with nx := Pv (i + 1), ct := Pv (i + 1), bk := D.nx } σ2 H2) (hd : ∀ σ H, Pv xs.length σ H → D.nx σ H) : tFor (fun σ H R => iList K tl σ H R ∨ iTup K tl σ H R) g tb D σ H := by
  rcases hx with hx | hx
  · exact .inl (ha _ ⟨a, rfl, ⟨xs, SqL.of (hl1 hx 0 σ H h0)⟩, for_list Pv h0 (fun i σ H _ p => SqL.of (hl1 hx i σ H p)) hs hd⟩)
  · exact .inr (ha _ ⟨a, rfl, ⟨xs, hl2 hx 0 σ H h0⟩, for_tup Pv h0 (fun i σ H _ p => hl2 hx i σ H p) hs hd⟩)
/-- the values are bands (low, high, worth) -/
def BsAt (H : Hp) (xs : List V) (bs : List (Bd V)) : Prop := xs.length = bs.length ∧ ∀ (i : Nat) (b : Bd V), bs[i]? = some b → ∃ t, xs[i]? = some (V.ref t) ∧ H t = some (.tup [ov b.1, ov b.2.1, b.2.2])
def spChg (K : PySem.W.Frag) (P : Program) (w : World) : Sp := fun vs H Q _ => ∃ q z, vs = [.ref q, z] ∧ ∃ xs bs, LG K H q xs ∧ BsAt H xs bs ∧ bs.length ≤ 100000 ∧
  ∀ d kvs ep H', H d = none → Same H H' → H' d = some (DN P w d kvs ep) → (∀ k, valV kvs k = valA (chgA z bs) k) → kvs.length ≤ 2 * bs.length + 1 → Q (.ref d) H'
theorem o__changes (T : Txt K mg) : OkF P w K mg base CX0 1 "_changes" ["bands", "nothing"] (spChg K P w) := by
  obtain ⟨f, fd, g, F⟩ := T.d__changes
  refine ⟨f, fd, g, F.kp, F.binds (fun _ _ _ _ _ _ us hl => match us, hl with | [_, _], _ => rfl), F.ok sc__changes (fun vs H Q E h => ?_) (fun cdv A outer s H vs Q E hr h => ?_)⟩
  · first | (obtain ⟨_, rfl, _⟩ := h; rfl) | (obtain ⟨rfl, _⟩ := h; rfl) | (obtain ⟨_, _, rfl, _⟩ := h; rfl) | (obtain ⟨_, _, _, rfl, _⟩ := h; rfl) | (obtain ⟨_, _, _, _, rfl, _⟩ := h; rfl) | (obtain ⟨_, _, _, _, _, rfl, _⟩ := h; rfl) | (obtain ⟨_, _, _, _, _, _, rfl, _⟩ := h; rfl) | (obtain ⟨_, _, _, _, _, _, _, rfl, _⟩ := h; rfl)
  have hu64 := hr.units
  refine ⟨_, pss_cons (ps_set (i := 2) sc__changes.nd rfl (Or.inl rfl) ((pe_dn1k (P := P) (w := w) rfl rfl (pv 1))))
      (pss_cons (ps_for PassesOwn.never rfl (pi_or (pi_list (pv 0)) (pi_tup (pv 0))) (pg_tupN (n := 3) (by rfl) (pgs_cons (pg_name (i := 3) sc__changes.nd rfl (Or.inl rfl)) (pgs_cons (pg_name (i := 4) sc__changes.nd rfl (Or.inl rfl)) (pgs_cons (pg_name (i := 5) sc__changes.nd rfl (Or.inl rfl)) pgs_nil)))) (pss_cons (ps_asg (pv 5) (pg_sub (pv 2) (pv 3) (set_DNk (P := P) (w := w) rfl rfl)))
      (pss_one (ps_if (pt_cmpR op_notN (pv 4) (pe_non) (nomark _)) (pss_one (ps_asg (pv 1) (pg_sub (pv 2) (pv 4) (set_DNk (P := P) (w := w) rfl rfl)))) (pss_nil)))))
      (pss_one (ps_ret (pv 2)))), ?_⟩
  obtain ⟨q, z, rfl, xs, bs, hx, hb, big, k⟩ := h
  simp only [exists_and_left, tD1, rTupN, rAll, rMax2, rMin2, tSl, tPart, tNoPart, rSlLN, tYes, rLenS, rRepN, unset, tEv2, calmS, tDNew, rInDN, rIxDN, rSetDN, tDN1, tDGetN, rSorted, cx_K, Value.ref.injEq, HO.xd.injEq, lk0, tSeq, tPar3, tPar, tCons, tNil, tVar, tC, tAsg, gName, gCons, gNil, gTupN, gSub, tOp, rI, rI0, rU, tTest, rNe, rEq, rIxTN, rIxLN, rLenL, rLenT, tLstRg, tRg1, tRg2, rIntI, rIntB, rAbs, rSetLN, tTruL, tRaiseX, rIsTy, rIsOw, ixN0, ixN1, tRet, tIf, tIfS, tNext, tBreak, tCont, tDrop, tTupN, tLstN, tUn, tCB, tCall, tNot, tAnd, tOr, tB, tAndV, tOrV, tNotV, tChain, tApp, LamX.tLam, tRevLN, rCatN, rInTN, rInLN, flatV, inV, List.all_cons, List.all_nil, List.any_cons, List.any_nil, Bool.and_self, Bool.and_true, if_true, Bool.false_eq_true, if_false, tMt, tFldN, tSto, HO.ins.injEq, lkh, List.drop_zero, List.drop_succ_cons, List.drop_nil, rListS, wipe, L2.start, List.map_cons, List.map_nil, List.length_cons, List.length_nil, List.replicate, List.cons_append, List.nil_append, List.append_nil, Nat.reduceAdd, Nat.reduceSub, Nat.zero_add, List.replicate_succ, List.replicate_zero, List.getElem?_cons_zero, List.getElem?_cons_succ, List.set_cons_zero, List.set_cons_succ, Option.some.injEq, V.int.injEq, V.bl.injEq, V.ref.injEq, V.str.injEq, V.ty.injEq, List.cons.injEq, HO.tup.injEq, HO.lst.injEq, and_true, true_and, and_assoc, exists_eq_left, exists_eq_left', exists_and_left, exists_eq', atI0, atI1, atI2, atI3, Int.cast_ofNat_Int, Int.reduceToNat, scal_ii, scal_in, scal_ni, scal_nn, scal_bb, scal_ss, scal_sn, scal_ns, scal_bn, scal_nb, ite_iff, decide_eq_true_eq, decide_eq_false_iff_not, Bool.not_eq_true', Classical.not_not, ne_eq, not_false_eq_true, not_true_eq_false, forall_const, true_implies, false_implies, imp_self, sizeLine_eq, Nat.reduceLeDiff, reduceCtorEq, decide_true, decide_false]
  intro d H1 n1 s1 h1
  refine ⟨h1, fun ep H3 p3 => ?_⟩
  have ne : ∀ c o, H c = some o → c ≠ d := fun c o e => ne_of_none e n1
  have b3 : But d H H3 := fun c o n e => by rw [p3.2 c n]; exact s1 _ _ e
  have keepT : ∀ {H'}, But d H3 H' → ∀ c o, H c = some o → H' c = some o := fun b c o e => b c o (ne c o e) (b3 c o (ne c o e) e)
  refine st_forG (fun R r => (by simp only [exists_and_left, tD1, rTupN, rAll, rMax2, rMin2, tSl, tPart, tNoPart, rSlLN, tYes, rLenS, rRepN, unset, tEv2, calmS, tDNew, rInDN, rIxDN, rSetDN, tDN1, tDGetN, rSorted, cx_K, Value.ref.injEq, HO.xd.injEq, lk0, tSeq, tPar3, tPar, tCons, tNil, tVar, tC, tAsg, gName, gCons, gNil, gTupN, gSub, tOp, rI, rI0, rU, tTest, rNe, rEq, rIxTN, rIxLN, rLenL, rLenT, tLstRg, tRg1, tRg2, rIntI, rIntB, rAbs, rSetLN, tTruL, tRaiseX, rIsTy, rIsOw, ixN0, ixN1, tRet, tIf, tIfS, tNext, tBreak, tCont, tDrop, tTupN, tLstN, tUn, tCB, tCall, tNot, tAnd, tOr, tB, tAndV, tOrV, tNotV, tChain, tApp, LamX.tLam, tRevLN, rCatN, rInTN, rInLN, flatV, inV, List.all_cons, List.all_nil, List.any_cons, List.any_nil, Bool.and_self, Bool.and_true, if_true, Bool.false_eq_true, if_false, tMt, tFldN, tSto, HO.ins.injEq, lkh, List.drop_zero, List.drop_succ_cons, List.drop_nil, rListS, wipe, L2.start, List.map_cons, List.map_nil, List.length_cons, List.length_nil, List.replicate, List.cons_append, List.nil_append, List.append_nil, Nat.reduceAdd, Nat.reduceSub, Nat.zero_add, List.replicate_succ, List.replicate_zero, List.getElem?_cons_zero, List.getElem?_cons_succ, List.set_cons_zero, List.set_cons_succ, Option.some.injEq, V.int.injEq, V.bl.injEq, V.ref.injEq, V.str.injEq, V.ty.injEq, List.cons.injEq, HO.tup.injEq, HO.lst.injEq, and_true, true_and, and_assoc, exists_eq_left, exists_eq_left', exists_and_left, exists_eq', atI0, atI1, atI2, atI3, Int.cast_ofNat_Int, Int.reduceToNat, scal_ii, scal_in, scal_ni, scal_nn, scal_bb, scal_ss, scal_sn, scal_ns, scal_bn, scal_nb, ite_iff, decide_eq_true_eq, decide_eq_false_iff_not, Bool.not_eq_true', Classical.not_not, ne_eq, not_false_eq_true, not_true_eq_false, forall_const, true_implies, false_implies, imp_self, sizeLine_eq, Nat.reduceLeDiff, reduceCtorEq, decide_true, decide_false]; exact r)) hx (fun i σ' H' => ∃ x3 x4 x5 kvs ep, σ' = [some (V.ref q), some z, some (V.ref d), x3, x4, x5] ∧ But d H3 H' ∧ H' d = some (DN P w d kvs ep) ∧ (∀ k, valV kvs k = valA ((bs.take i).foldl (stepC z) [(none, z)]) k) ∧ kvs.length ≤ 2 * i + 1)
    ⟨_, _, _, _, _, rfl, fun _ _ _ h => h, p3.1, fun k => ?_, by simp⟩ (fun hq i σ' H' h => ?_) (fun hq i σ' H' h => ?_) ?_ ?_
  · rw [List.take_zero, List.foldl_nil]
    by_cases c : (none : Option Int) = k
    · subst c; rw [valV_pos rfl]; simp [valA]
    · rw [valV_neg c]; simp only [valA, if_neg c]; rfl
  · obtain ⟨_, _, _, _, _, _, bt, _⟩ := h
    exact keepT bt _ _ hq
  · obtain ⟨_, _, _, _, _, _, bt, _⟩ := h
    exact SqT.at' hq fun o e => keepT bt _ _ e
  · rintro i x _ H4 hi ⟨x3, x4, x5, kvs, ep4, rfl, b4, h4, v4, l4⟩
    have il : i < bs.length := by
      have := (List.getElem?_eq_some_iff.mp hi).1
      rw [hb.1] at this; exact this
    obtain ⟨t, e, ht⟩ := hb.2 i bs[i] (List.getElem?_eq_getElem il)
    rw [hi] at e; cases e
    have ht4 := keepT b4 _ _ ht
    simp only [ht4, exists_and_left, tD1, rTupN, rAll, rMax2, rMin2, tSl, tPart, tNoPart, rSlLN, tYes, rLenS, rRepN, unset, tEv2, calmS, tDNew, rInDN, rIxDN, rSetDN, tDN1, tDGetN, rSorted, cx_K, Value.ref.injEq, HO.xd.injEq, lk0, tSeq, tPar3, tPar, tCons, tNil, tVar, tC, tAsg, gName, gCons, gNil, gTupN, gSub, tOp, rI, rI0, rU, tTest, rNe, rEq, rIxTN, rIxLN, rLenL, rLenT, tLstRg, tRg1, tRg2, rIntI, rIntB, rAbs, rSetLN, tTruL, tRaiseX, rIsTy, rIsOw, ixN0, ixN1, tRet, tIf, tIfS, tNext, tBreak, tCont, tDrop, tTupN, tLstN, tUn, tCB, tCall, tNot, tAnd, tOr, tB, tAndV, tOrV, tNotV, tChain, tApp, LamX.tLam, tRevLN, rCatN, rInTN, rInLN, flatV, inV, List.all_cons, List.all_nil, List.any_cons, List.any_nil, Bool.and_self, Bool.and_true, if_true, Bool.false_eq_true, if_false, tMt, tFldN, tSto, HO.ins.injEq, lkh, List.drop_zero, List.drop_succ_cons, List.drop_nil, rListS, wipe, L2.start, List.map_cons, List.map_nil, List.length_cons, List.length_nil, List.replicate, List.cons_append, List.nil_append, List.append_nil, Nat.reduceAdd, Nat.reduceSub, Nat.zero_add, List.replicate_succ, List.replicate_zero, List.getElem?_cons_zero, List.getElem?_cons_succ, List.set_cons_zero, List.set_cons_succ, Option.some.injEq, V.int.injEq, V.bl.injEq, V.ref.injEq, V.str.injEq, V.ty.injEq, List.cons.injEq, HO.tup.injEq, HO.lst.injEq, and_true, true_and, and_assoc, exists_eq_left, exists_eq_left', exists_and_left, exists_eq', atI0, atI1, atI2, atI3, Int.cast_ofNat_Int, Int.reduceToNat, scal_ii, scal_in, scal_ni, scal_nn, scal_bb, scal_ss, scal_sn, scal_ns, scal_bn, scal_nb, ite_iff, decide_eq_true_eq, decide_eq_false_iff_not, Bool.not_eq_true', Classical.not_not, ne_eq, not_false_eq_true, not_true_eq_false, forall_const, true_implies, false_implies, imp_self, sizeLine_eq, Nat.reduceLeDiff, reduceCtorEq, decide_true, decide_false]
    have tk : (bs.take (i + 1)).foldl (stepC z) [(none, z)] = stepC z ((bs.take i).foldl (stepC z) [(none, z)]) bs[i] := by
      rw [List.take_succ, List.getElem?_eq_getElem il, Option.toList_some, List.foldl_append]; rfl
    have st_some : ∀ (X : List (Option Int × V)) hh, bs[i].2.1 = some hh → stepC z X bs[i] = putA (putA X bs[i].1 bs[i].2.2) (some hh) z := fun X hh e => by unfold stepC; rw [e]
    have st_none : ∀ (X : List (Option Int × V)), bs[i].2.1 = none → stepC z X bs[i] = putA X bs[i].1 bs[i].2.2 := fun X e => by unfold stepC; rw [e]
    have put' : ∀ (X : List (Option Int × V)) (k j : Option Int) (v : V), valA (putA X k v) j = if j = k then some v else valA X j := fun X k j v => by
      rw [valA_put]
      by_cases c : k = j
      · rw [if_pos c, if_pos c.symm]
      · rw [if_neg c, if_neg fun q => c q.symm]
    have lp := length_putK kvs bs[i].1 bs[i].2.2
    refine ⟨_, rfl, _, _, h4, by omega, fun ep5 H5 p5 => ⟨fun hn => ?_, fun hn => ?_⟩⟩
    · obtain ⟨hh, eh⟩ : ∃ hh, bs[i].2.1 = some hh := by
        cases e : bs[i].2.1 with
        | none => rw [e] at hn; exact absurd rfl hn
        | some hh => exact ⟨hh, rfl⟩
      have lp2 := length_putK (putK kvs bs[i].1 bs[i].2.2) bs[i].2.1 z
      refine ⟨_, rfl, _, _, p5.1, by omega, fun ep6 H6 p6 => ⟨fun c o n e => by rw [p6.2 c n, p5.2 c n]; exact b4 c o n e, _, _, p6.1, fun k => ?_, by omega⟩⟩
      rw [tk, valV_put, valV_put, v4, st_some _ _ eh, put', put', eh]
    · have eh : bs[i].2.1 = none := by
        cases e : bs[i].2.1 with
        | none => rfl
        | some hh => rw [e] at hn; cases hn
      refine ⟨fun c o n e => by rw [p5.2 c n]; exact b4 c o n e, _, _, p5.1, fun k => ?_, by omega⟩
      rw [tk, valV_put, v4, st_none _ eh, put']
  · rintro _ H4 ⟨x3, x4, x5, kvs, ep4, rfl, b4, h4, v4, l4⟩
    simp only [exists_and_left, tD1, rTupN, rAll, rMax2, rMin2, tSl, tPart, tNoPart, rSlLN, tYes, rLenS, rRepN, unset, tEv2, calmS, tDNew, rInDN, rIxDN, rSetDN, tDN1, tDGetN, rSorted, cx_K, Value.ref.injEq, HO.xd.injEq, lk0, tSeq, tPar3, tPar, tCons, tNil, tVar, tC, tAsg, gName, gCons, gNil, gTupN, gSub, tOp, rI, rI0, rU, tTest, rNe, rEq, rIxTN, rIxLN, rLenL, rLenT, tLstRg, tRg1, tRg2, rIntI, rIntB, rAbs, rSetLN, tTruL, tRaiseX, rIsTy, rIsOw, ixN0, ixN1, tRet, tIf, tIfS, tNext, tBreak, tCont, tDrop, tTupN, tLstN, tUn, tCB, tCall, tNot, tAnd, tOr, tB, tAndV, tOrV, tNotV, tChain, tApp, LamX.tLam, tRevLN, rCatN, rInTN, rInLN, flatV, inV, List.all_cons, List.all_nil, List.any_cons, List.any_nil, Bool.and_self, Bool.and_true, if_true, Bool.false_eq_true, if_false, tMt, tFldN, tSto, HO.ins.injEq, lkh, List.drop_zero, List.drop_succ_cons, List.drop_nil, rListS, wipe, L2.start, List.map_cons, List.map_nil, List.length_cons, List.length_nil, List.replicate, List.cons_append, List.nil_append, List.append_nil, Nat.reduceAdd, Nat.reduceSub, Nat.zero_add, List.replicate_succ, List.replicate_zero, List.getElem?_cons_zero, List.getElem?_cons_succ, List.set_cons_zero, List.set_cons_succ, Option.some.injEq, V.int.injEq, V.bl.injEq, V.ref.injEq, V.str.injEq, V.ty.injEq, List.cons.injEq, HO.tup.injEq, HO.lst.injEq, and_true, true_and, and_assoc, exists_eq_left, exists_eq_left', exists_and_left, exists_eq', atI0, atI1, atI2, atI3, Int.cast_ofNat_Int, Int.reduceToNat, scal_ii, scal_in, scal_ni, scal_nn, scal_bb, scal_ss, scal_sn, scal_ns, scal_bn, scal_nb, ite_iff, decide_eq_true_eq, decide_eq_false_iff_not, Bool.not_eq_true', Classical.not_not, ne_eq, not_false_eq_true, not_true_eq_false, forall_const, true_implies, false_implies, imp_self, sizeLine_eq, Nat.reduceLeDiff, reduceCtorEq, decide_true, decide_false]
    rw [hb.1] at v4 l4
    rw [List.take_length] at v4
    exact k d kvs ep4 H4 n1 (fun c o e => keepT b4 c o e) h4 v4 l4
/-- the dict of some bands' changes, with this worth where no band is -/
def ChD (P : Program) (w : World) (H : Hp) (d : Addr) (z : V) (bs : List (Bd V)) : Prop := ∃ kvs ep, H d = some (DN P w d kvs ep) ∧ (∀ k, valV kvs k = valA (chgA z bs) k) ∧ kvs.length ≤ 2 * bs.length + 1
def spSlCh (K : PySem.W.Frag) (P : Program) (w : World) : Sp := fun vs H Q _ => ∃ q, vs = [.ref q] ∧ ∃ xs bs, SqT K H q xs ∧ BsAt H xs bs ∧ bs.length ≤ 100000 ∧ ∀ e d H', Same H H' → SqT K H' e [] → ChD P w H' d (.ref e) bs → Q (.ref d) H'
theorem o_slab_changes (T : Txt K mg) : OkF P w K mg base CX0 2 "slab_changes" ["slabs"] (spSlCh K P w) := by
  have o__changes := o__changes (P := P) (w := w) (base := base) T
  obtain ⟨f, fd, g, F⟩ := T.d_slab_changes
  refine ⟨f, fd, g, F.kp, F.binds (fun _ _ _ _ _ _ us hl => match us, hl with | [_], _ => rfl), F.ok sc_slab_changes (fun vs H Q E h => ?_) (fun cdv A outer s H vs Q E hr h => ?_)⟩
  · first | (obtain ⟨_, rfl, _⟩ := h; rfl) | (obtain ⟨rfl, _⟩ := h; rfl) | (obtain ⟨_, _, rfl, _⟩ := h; rfl) | (obtain ⟨_, _, _, rfl, _⟩ := h; rfl) | (obtain ⟨_, _, _, _, rfl, _⟩ := h; rfl) | (obtain ⟨_, _, _, _, _, rfl, _⟩ := h; rfl) | (obtain ⟨_, _, _, _, _, _, rfl, _⟩ := h; rfl) | (obtain ⟨_, _, _, _, _, _, _, rfl, _⟩ := h; rfl)
  have hu64 := hr.units
  refine ⟨_, pss_one (ps_ret (pcl o__changes (hr.mono (by decide)) pass0 (pa_cons (pv 0) (pa_cons (pe_tupN (pa_nil)) pa_nil)))), ?_⟩
  obtain ⟨q, rfl, xs, bs, hx, hb, big, k⟩ := h
  simp only [exists_and_left, tD1, rTupN, rAll, rMax2, rMin2, tSl, tPart, tNoPart, rSlLN, tYes, rLenS, rRepN, unset, tEv2, calmS, tDNew, rInDN, rIxDN, rSetDN, tDN1, tDGetN, rSorted, cx_K, Value.ref.injEq, HO.xd.injEq, lk0, tSeq, tPar3, tPar, tCons, tNil, tVar, tC, tAsg, gName, gCons, gNil, gTupN, gSub, tOp, rI, rI0, rU, tTest, rNe, rEq, rIxTN, rIxLN, rLenL, rLenT, tLstRg, tRg1, tRg2, rIntI, rIntB, rAbs, rSetLN, tTruL, tRaiseX, rIsTy, rIsOw, ixN0, ixN1, tRet, tIf, tIfS, tNext, tBreak, tCont, tDrop, tTupN, tLstN, tUn, tCB, tCall, tNot, tAnd, tOr, tB, tAndV, tOrV, tNotV, tChain, tApp, LamX.tLam, tRevLN, rCatN, rInTN, rInLN, flatV, inV, List.all_cons, List.all_nil, List.any_cons, List.any_nil, Bool.and_self, Bool.and_true, if_true, Bool.false_eq_true, if_false, tMt, tFldN, tSto, HO.ins.injEq, lkh, List.drop_zero, List.drop_succ_cons, List.drop_nil, rListS, wipe, L2.start, List.map_cons, List.map_nil, List.length_cons, List.length_nil, List.replicate, List.cons_append, List.nil_append, List.append_nil, Nat.reduceAdd, Nat.reduceSub, Nat.zero_add, List.replicate_succ, List.replicate_zero, List.getElem?_cons_zero, List.getElem?_cons_succ, List.set_cons_zero, List.set_cons_succ, Option.some.injEq, V.int.injEq, V.bl.injEq, V.ref.injEq, V.str.injEq, V.ty.injEq, List.cons.injEq, HO.tup.injEq, HO.lst.injEq, and_true, true_and, and_assoc, exists_eq_left, exists_eq_left', exists_and_left, exists_eq', atI0, atI1, atI2, atI3, Int.cast_ofNat_Int, Int.reduceToNat, scal_ii, scal_in, scal_ni, scal_nn, scal_bb, scal_ss, scal_sn, scal_ns, scal_bn, scal_nb, ite_iff, decide_eq_true_eq, decide_eq_false_iff_not, Bool.not_eq_true', Classical.not_not, ne_eq, not_false_eq_true, not_true_eq_false, forall_const, true_implies, false_implies, imp_self, sizeLine_eq, Nat.reduceLeDiff, reduceCtorEq, decide_true, decide_false]
  intro e H1 n1 s1 h1
  refine ⟨q, _, rfl, xs, bs, .inr (SqT.same hx s1), ⟨hb.1, fun i b hi => let ⟨t, a, c⟩ := hb.2 i b hi; ⟨t, a, s1 _ _ c⟩⟩, big, fun d kvs ep H2 n2 s2 h2 v2 l2 => ?_⟩
  exact k e d H2 (s1.trans s2) (SqT.of (s2 _ _ h1)) ⟨kvs, ep, h2, v2, l2⟩
theorem st_forDN {P : Program} {w : World} {td : TE} {g : TG} {tb : TS} {D : Ends} {σ : L2.St} {H : Hp} {a : Addr} {kvs : List (Option Int × V)} {ep : Nat} (ha : ∀ R : V → Hp → Prop, R (.ref a) H → td σ H R) (hx : H a = some (DN P w a kvs ep)) (Pv : Nat → L2.St → Hp → Prop) (h0 : Pv 0 σ H)
    (hl : ∀ i σ H', Pv i σ H' → H' a = some (DN P w a kvs ep)) (hs : ∀ i k v σ H', kvs[i]? = some (k, v) → Pv i σ H' → g (ov k) σ H' fun σ2 H2 => tb { D with nx := Pv (i + 1), ct := Pv (i + 1), bk := D.nx } σ2 H2) (hd : ∀ σ H, Pv kvs.length σ H → D.nx σ H) : tFor (iDN P w td) g tb D σ H :=
  ha _ ⟨a, kvs, ep, rfl, hx, L2.for_it walk_DN Pv h0 (fun i σ H _ p => hl i σ H p) (fun i x σ H H' hi p y => by obtain ⟨rfl, k, v, hk, rfl⟩ := y; exact hs i k v σ H' hk p) hd⟩
theorem keys_put {kvs : List (Option Int × V)} {k : Option Int} {v : V} : (putK kvs k v).map (·.1) = if k ∈ kvs.map (·.1) then kvs.map (·.1) else kvs.map (·.1) ++ [k] := by
  have e : (kvs.any fun kv => decide (kv.1 = k)) = true ↔ k ∈ kvs.map (·.1) := by
    simp only [List.any_eq_true, decide_eq_true_eq, List.mem_map]
  unfold putK
  by_cases c : k ∈ kvs.map (·.1)
  · rw [if_pos (e.mpr c), if_pos c, List.map_map]
    refine List.map_congr_left fun p _ => ?_
    show (if p.1 = k then _ else p).1 = p.1
    split
    · rename_i h; first | exact h.symm | rfl
    · rfl
  · rw [if_neg (fun q => c (e.mp q)), if_neg c, List.map_append]; rfl
theorem mem_keys {kvs : List (Option Int × V)} {k : Option Int} : k ∈ kvs.map (·.1) ↔ valV kvs k ≠ none := by
  induction kvs with
  | nil => simp [valV_nil]
  | cons p r ih =>
    by_cases c : p.1 = k
    · rw [valV_pos c, List.map_cons]; simp [c]
    · rw [valV_neg c, List.map_cons, List.mem_cons, ih]
      exact ⟨fun h => h.resolve_left fun q => c q.symm, .inr⟩
/-- e is an end of one of the bands -/
def IsEnd (bs : List (Bd V)) (e : Int) : Prop := ∃ b ∈ bs, b.1 = some e ∨ b.2.1 = some e
theorem end_key {z : V} {bs : List (Bd V)} (h : AscB bs) {kvs : List (Option Int × V)} (v : ∀ k, valV kvs k = valA (chgA z bs) k) (e : Int) : some e ∈ kvs.map (·.1) ↔ IsEnd bs e := by
  have C := chg_ok (z := z) h
  rw [mem_keys, v]
  constructor
  · intro n
    cases q : valA (chgA z bs) (some e) with
    | none => exact absurd q n
    | some u => exact (C.a e u q).2
  · intro ⟨b, hb, hx⟩ q
    rcases hx with hx | hx
    · exact (C.b e q b hb).1 hx
    · exact (C.b e q b hb).2 hx
def Rws (P : Program) (w : World) (H : Hp) (ds : List V) (rows : List (V × List (Bd V))) : Prop := ds.length = rows.length ∧ ∀ (i : Nat) (r : V × List (Bd V)), rows[i]? = some r → ∃ d, ds[i]? = some (V.ref d) ∧ ChD P w H d r.1 r.2
def TBs (H : Hp) (xs : List V) (T : List (Bd (List V))) : Prop := xs.length = T.length ∧ ∀ (i : Nat) (b : Bd (List V)), T[i]? = some b → ∃ t u, xs[i]? = some (V.ref t) ∧ H t = some (.tup [ov b.1, ov b.2.1, .ref u]) ∧ H u = some (.tup b.2.2)
theorem for_zip {K : PySem.W.Frag} {ta : TA} {g : TG} {tb : TS} {D : Ends} {σ : L2.St} {H : Hp} (h : ta σ H fun us H1 => ∃ a b xs ys, us = [.ref a, .ref b] ∧
    ((SqL K H1 a xs ∧ SqL K H1 b ys ∧ tFor (fun _ H R => R (L2.Itz K a b) H) g tb D σ H1) ∨ (SqT K H1 a xs ∧ SqT K H1 b ys ∧ tFor (fun _ H R => R (RZ.ItzT K a b) H) g tb D σ H1))) : tFor (RZ.iZipA K ta) g tb D σ H := h
theorem st_forZ {K : PySem.W.Frag} {g : TG} {tb : TS} {D : Ends} {σ : L2.St} {H : Hp} {a b : Addr} {xs ys : List V} {n : Nat} (hn : n = min xs.length ys.length) (Pv : Nat → L2.St → Hp → Prop) (h0 : Pv 0 σ H) (hl : ∀ i σ H, Pv i σ H → SqL K H a xs ∧ SqL K H b ys)
    (hs : ∀ i x y T σ H H', xs[i]? = some x → ys[i]? = some y → Pv i σ H → Same H H' → H' T = some (.tup [x, y]) → g (.ref T) σ H' fun σ2 H2 => tb { D with nx := Pv (i + 1), ct := Pv (i + 1), bk := D.nx } σ2 H2) (hd : ∀ σ H, Pv n σ H → D.nx σ H) : tFor (fun _ H R => R (L2.Itz K a b) H) g tb D σ H :=
  L2.for_it (L2.walk_zip hn) Pv h0 (fun i σ H _ p => hl i σ H p) (fun i x σ H1 H2 hi p y => by
    obtain ⟨T, u, z, rfl, hT, rfl, e1, e2⟩ := y
    exact hs i u z T σ H1 _ e1 e2 p (Same.upd hT) upd_same) hd
theorem st_zipL {K : PySem.W.Frag} {g : TG} {tt : TT} {te : TE} {vs : List Nat} {σ : L2.St} {H : Hp} {Q : VK} {a b : Addr} {xs ys : List V} {n : Nat} (hn : n = min xs.length ys.length) (Pv : Addr → Nat → Hp → Prop)
    (h0 : ∀ D H1, H D = none → Same H H1 → H1 D = some (.lst []) → Pv D 0 H1) (hl : ∀ D i H, Pv D i H → SqL K H a xs ∧ SqL K H b ys)
    (hs : ∀ D i x y T H H', xs[i]? = some x → ys[i]? = some y → Pv D i H → Same H H' → H' T = some (.tup [x, y]) → g (.ref T) (wipe σ vs) H' fun σ2 H2 => wipe σ2 vs = wipe σ vs ∧ tt σ2 H2 fun b H3 => if b = true then te σ2 H3 fun y H4 => ∃ acc, H4 D = some (.lst acc) ∧ acc.length < sizeLine ∧ Pv D (i + 1) (upd H4 D (.lst (acc ++ [y]))) else Pv D (i + 1) H3)
    (hd : ∀ D H, Pv D n H → Q (.ref D) H) : tLc (fun _ H R => R (L2.Itz K a b) H) g tt te vs σ H Q := fun D hD =>
  L2.lc_it (L2.walk_zip hn) (Pv D) (h0 D _ hD (Same.upd hD) upd_same) (fun i H _ p => hl D i H p) (fun i x H1 H2 hi p y => by
    obtain ⟨T, u, z, rfl, hT, rfl, e1, e2⟩ := y
    exact hs D i u z T H1 _ e1 e2 p (Same.upd hT) upd_same) (hd D)
def someI (l : List (Option Int)) : List Int := (l.filter fun o => o.isSome).map fun o => o.getD 0
theorem mem_someI {l : List (Option Int)} {e : Int} : e ∈ someI l ↔ some e ∈ l := by
  unfold someI
  simp only [List.mem_map, List.mem_filter]
  constructor
  · rintro ⟨o, ⟨h1, h2⟩, h3⟩
    cases o with
    | none => cases h2
    | some x => simp at h3; subst h3; exact h1
  · intro h; exact ⟨some e, ⟨h, rfl⟩, rfl⟩
theorem nodup_someI : ∀ {l : List (Option Int)}, l.Nodup → (someI l).Nodup
  | [], _ => by simp [someI]
  | none :: l, h => by
    have := nodup_someI (List.nodup_cons.mp h).2
    simpa [someI] using this
  | some e :: l, h => by
    obtain ⟨h1, h2⟩ := List.nodup_cons.mp h
    have e1 : someI (some e :: l) = e :: someI l := by simp [someI]
    rw [e1]
    exact List.nodup_cons.mpr ⟨fun q => h1 (mem_someI.mp q), nodup_someI h2⟩
theorem up_some : ∀ {l : List Int} {e : Int}, (e :: l).Pairwise (· ≤ ·) → (e :: l).Nodup → Up (some e) l
  | [], _, _, _ => trivial
  | x :: l, e, h, n => by
    have h1 := (List.pairwise_cons.mp h).1 x (by simp)
    have n1 := (List.nodup_cons.mp n).1
    refine ⟨fun k q => ?_, up_some (List.pairwise_cons.mp h).2 (List.nodup_cons.mp n).2⟩
    cases q
    have : e ≠ x := fun q => n1 (by simp [q])
    omega
theorem up_none : ∀ {l : List Int}, l.Pairwise (· ≤ ·) → l.Nodup → Up none l
  | [], _, _ => trivial
  | x :: l, h, n => ⟨fun k q => (by cases q), up_some h n⟩
def spSbs (P : Program) (w : World) : Sp := fun vs H Q _ => ∃ q, vs = [.ref q] ∧ ∃ ds rows, H q = some (.lst ds) ∧ Rws P w H ds rows ∧ rows.length ≤ 400 ∧ (∀ r ∈ rows, AscB r.2 ∧ r.2.length ≤ 1000) ∧
  ∀ L E xs H', H L = none → Same H H' → Up none E → E.length ≤ 900000 → (∀ r ∈ rows, ∀ x, IsEnd r.2 x → x ∈ E) → (∀ x ∈ E, ∃ r ∈ rows, IsEnd r.2 x) → H' L = some (.lst xs) → TBs H' xs (tileF (fun c => rows.map fun r => atC r.1 r.2 c) none E) → Q (.ref L) H'
theorem o_side_by_side (T : Txt K mg) : OkF P w K mg base CX0 2 "side_by_side" ["rows"] (spSbs P w) := by
  obtain ⟨f, fd, g, F⟩ := T.d_side_by_side
  refine ⟨f, fd, g, F.kp, F.binds (fun _ _ _ _ _ _ us hl => match us, hl with | [_], _ => rfl), F.ok sc_side_by_side (fun vs H Q E h => ?_) (fun cdv A outer s H vs Q E hr h => ?_)⟩
  · first | (obtain ⟨_, rfl, _⟩ := h; rfl) | (obtain ⟨rfl, _⟩ := h; rfl) | (obtain ⟨_, _, rfl, _⟩ := h; rfl) | (obtain ⟨_, _, _, rfl, _⟩ := h; rfl) | (obtain ⟨_, _, _, _, rfl, _⟩ := h; rfl) | (obtain ⟨_, _, _, _, _, rfl, _⟩ := h; rfl) | (obtain ⟨_, _, _, _, _, _, rfl, _⟩ := h; rfl) | (obtain ⟨_, _, _, _, _, _, _, rfl, _⟩ := h; rfl)
  have hu64 := hr.units
  refine ⟨_, pss_cons (ps_set (i := 1) sc_side_by_side.nd rfl (Or.inl rfl) ((pe_dnNk (P := P) (w := w) rfl rfl)))
      (pss_cons (ps_for PassesOwn.never rfl (pi_list (pv 0)) (pg_name (i := 2) sc_side_by_side.nd rfl (Or.inl rfl)) (pss_one (ps_for PassesOwn.never rfl (pi_DNk (P := P) (w := w) rfl rfl (pv 2)) (pg_name (i := 3) sc_side_by_side.nd rfl (Or.inl rfl)) (pss_one (ps_asg (pe_bl) (pg_sub (pv 1) (pv 3) (set_DNk (P := P) (w := w) rfl rfl)))))))
      (pss_cons (ps_set (i := 4) sc_side_by_side.nd rfl (Or.inl rfl) (pe_callB cr_sortedI (by rfl) T.m_sorted (by decide +kernel) (pa_cons (pe_lc (own := [("at", 3)]) (g := gName 3) (by rfl) sc_side_by_side.nd (pi_DNk (P := P) (w := w) rfl rfl (pv 1)) (blkOk_by (N := ["rows", "cuts", "changes", "at", "ends", "worths", "bands", "low", "high", "worth"]) (sc := defScope s_side_by_side) (own := [("at", 3)]) (by decide +kernel)) (fun _ _ _ _ _ => pg_name (i := 3) sc_side_by_side.nd rfl (Or.inl rfl)) (fun _ _ _ _ _ => pts_one (pt_cmpR op_notN (pv 3) (pe_non) (nomark _))) (fun _ _ _ _ _ => pe_callTy call_intI (by rfl) T.m_int (by decide +kernel) (pa_cons (pv 3) pa_nil))) pa_nil)))
      (pss_cons (ps_setLc (i := 5) (own := [("changes", 2)]) (g := gName 2) (by rfl) sc_side_by_side.nd rfl rfl (sw_true rfl rfl rfl (by decide +kernel)) (pi_list (pv 0)) (blkOk_by (N := ["rows", "cuts", "changes", "at", "ends", "worths", "bands", "low", "high", "worth"]) (sc := defScope s_side_by_side) (own := [("changes", 2)]) (by decide +kernel)) (fun _ _ _ _ _ => pg_name (i := 2) sc_side_by_side.nd rfl (Or.inl rfl)) (fun _ _ _ _ _ => pts_nil) (fun _ _ _ _ _ => pe_ix (ix_DNk (P := P) (w := w) rfl rfl) (pv 2) (pe_non) (fun _ _ => rfl)))
      (pss_cons (ps_set (i := 6) sc_side_by_side.nd rfl (Or.inl rfl) (pe_lstN (pa_nil)))
      (pss_cons (ps_for PassesOwn.never rfl (RZ.pi_zipA (by rfl) T.m_zip (pa_cons (pe_op op_catN (pe_lstN (pa_cons (pe_non) pa_nil)) (pv 4)) (pa_cons (pe_op op_catN (pv 4) (pe_lstN (pa_cons (pe_non) pa_nil))) pa_nil))) (pg_tupN (n := 2) (by rfl) (pgs_cons (pg_name (i := 7) sc_side_by_side.nd rfl (Or.inr rfl)) (pgs_cons (pg_name (i := 8) sc_side_by_side.nd rfl (Or.inl rfl)) pgs_nil))) (pss_cons (ps_setLc (i := 5) (own := [("changes", 2), ("worth", 9)]) (by rfl) sc_side_by_side.nd rfl rfl (sw_true rfl rfl rfl (by decide +kernel)) (RZ.pi_zipA (by rfl) T.m_zip (pa_cons (pv 0) (pa_cons (pv 5) pa_nil))) (blkOk_by (N := ["rows", "cuts", "changes", "at", "ends", "worths", "bands", "low", "high", "worth"]) (sc := defScope s_side_by_side) (own := [("changes", 2), ("worth", 9)]) (by decide +kernel)) (fun _ _ _ _ _ => pg_tupN (n := 2) (by rfl) (pgs_cons (pg_name (i := 2) sc_side_by_side.nd rfl (Or.inl rfl)) (pgs_cons (pg_name (i := 9) sc_side_by_side.nd rfl (Or.inl rfl)) pgs_nil))) (fun _ _ _ _ _ => pts_nil) (fun _ _ _ _ _ => pe_dgetNk (P := P) (w := w) rfl rfl (pv 2) (pv 7) (pv 9) ⟨by rfl, by rfl, by rfl, by rfl⟩))
      (pss_one (ps_expr (pe_appN (pv 6) (pa_cons (pe_tupN (pa_cons (pv 7) (pa_cons (pv 8) (pa_cons (pe_callTy call_tupN (by rfl) T.m_tuple (by decide +kernel) (pa_cons (pv 5) pa_nil)) pa_nil)))) pa_nil))))))
      (pss_one (ps_ret (pv 6)))))))), ?_⟩
  obtain ⟨q, rfl, ds, rows, hq, hr, r4, ra, k⟩ := h
  simp only [exists_and_left, tD1, rTupN, rAll, rMax2, rMin2, tSl, tPart, tNoPart, rSlLN, tYes, rLenS, rRepN, unset, tEv2, calmS, tDNew, rInDN, rIxDN, rSetDN, tDN1, tDGetN, rSorted, cx_K, Value.ref.injEq, HO.xd.injEq, lk0, tSeq, tPar3, tPar, tCons, tNil, tVar, tC, tAsg, gName, gCons, gNil, gTupN, gSub, tOp, rI, rI0, rU, tTest, rNe, rEq, rIxTN, rIxLN, rLenL, rLenT, tLstRg, tRg1, tRg2, rIntI, rIntB, rAbs, rSetLN, tTruL, tRaiseX, rIsTy, rIsOw, ixN0, ixN1, tRet, tIf, tIfS, tNext, tBreak, tCont, tDrop, tTupN, tLstN, tUn, tCB, tCall, tNot, tAnd, tOr, tB, tAndV, tOrV, tNotV, tChain, tApp, LamX.tLam, tRevLN, rCatN, rInTN, rInLN, flatV, inV, List.all_cons, List.all_nil, List.any_cons, List.any_nil, Bool.and_self, Bool.and_true, if_true, Bool.false_eq_true, if_false, tMt, tFldN, tSto, HO.ins.injEq, lkh, List.drop_zero, List.drop_succ_cons, List.drop_nil, rListS, wipe, L2.start, List.map_cons, List.map_nil, List.length_cons, List.length_nil, List.replicate, List.cons_append, List.nil_append, List.append_nil, Nat.reduceAdd, Nat.reduceSub, Nat.zero_add, List.replicate_succ, List.replicate_zero, List.getElem?_cons_zero, List.getElem?_cons_succ, List.set_cons_zero, List.set_cons_succ, Option.some.injEq, V.int.injEq, V.bl.injEq, V.ref.injEq, V.str.injEq, V.ty.injEq, List.cons.injEq, HO.tup.injEq, HO.lst.injEq, and_true, true_and, and_assoc, exists_eq_left, exists_eq_left', exists_and_left, exists_eq', atI0, atI1, atI2, atI3, Int.cast_ofNat_Int, Int.reduceToNat, scal_ii, scal_in, scal_ni, scal_nn, scal_bb, scal_ss, scal_sn, scal_ns, scal_bn, scal_nb, ite_iff, decide_eq_true_eq, decide_eq_false_iff_not, Bool.not_eq_true', Classical.not_not, ne_eq, not_false_eq_true, not_true_eq_false, forall_const, true_implies, false_implies, imp_self, sizeLine_eq, Nat.reduceLeDiff, reduceCtorEq, decide_true, decide_false]
  intro p H1 n1 s1 h1
  have ne : ∀ c o, H c = some o → c ≠ p := fun c o e => ne_of_none e n1
  refine st_forL (fun R r => (by simp only [exists_and_left, tD1, rTupN, rAll, rMax2, rMin2, tSl, tPart, tNoPart, rSlLN, tYes, rLenS, rRepN, unset, tEv2, calmS, tDNew, rInDN, rIxDN, rSetDN, tDN1, tDGetN, rSorted, cx_K, Value.ref.injEq, HO.xd.injEq, lk0, tSeq, tPar3, tPar, tCons, tNil, tVar, tC, tAsg, gName, gCons, gNil, gTupN, gSub, tOp, rI, rI0, rU, tTest, rNe, rEq, rIxTN, rIxLN, rLenL, rLenT, tLstRg, tRg1, tRg2, rIntI, rIntB, rAbs, rSetLN, tTruL, tRaiseX, rIsTy, rIsOw, ixN0, ixN1, tRet, tIf, tIfS, tNext, tBreak, tCont, tDrop, tTupN, tLstN, tUn, tCB, tCall, tNot, tAnd, tOr, tB, tAndV, tOrV, tNotV, tChain, tApp, LamX.tLam, tRevLN, rCatN, rInTN, rInLN, flatV, inV, List.all_cons, List.all_nil, List.any_cons, List.any_nil, Bool.and_self, Bool.and_true, if_true, Bool.false_eq_true, if_false, tMt, tFldN, tSto, HO.ins.injEq, lkh, List.drop_zero, List.drop_succ_cons, List.drop_nil, rListS, wipe, L2.start, List.map_cons, List.map_nil, List.length_cons, List.length_nil, List.replicate, List.cons_append, List.nil_append, List.append_nil, Nat.reduceAdd, Nat.reduceSub, Nat.zero_add, List.replicate_succ, List.replicate_zero, List.getElem?_cons_zero, List.getElem?_cons_succ, List.set_cons_zero, List.set_cons_succ, Option.some.injEq, V.int.injEq, V.bl.injEq, V.ref.injEq, V.str.injEq, V.ty.injEq, List.cons.injEq, HO.tup.injEq, HO.lst.injEq, and_true, true_and, and_assoc, exists_eq_left, exists_eq_left', exists_and_left, exists_eq', atI0, atI1, atI2, atI3, Int.cast_ofNat_Int, Int.reduceToNat, scal_ii, scal_in, scal_ni, scal_nn, scal_bb, scal_ss, scal_sn, scal_ns, scal_bn, scal_nb, ite_iff, decide_eq_true_eq, decide_eq_false_iff_not, Bool.not_eq_true', Classical.not_not, ne_eq, not_false_eq_true, not_true_eq_false, forall_const, true_implies, false_implies, imp_self, sizeLine_eq, Nat.reduceLeDiff, reduceCtorEq, decide_true, decide_false]; exact r)) (s1 _ _ hq) (fun i σ' H' => ∃ x2 x3 kvs ep, σ' = [some (V.ref q), some (V.ref p), x2, x3, none, none, none, none, none, none] ∧ But p H1 H' ∧ H' p = some (DN P w p kvs ep) ∧ (kvs.map (·.1)).Nodup ∧
      (∀ e : Int, some e ∈ kvs.map (·.1) → ∃ r ∈ rows, IsEnd r.2 e) ∧ (∀ r ∈ rows.take i, ∀ e, IsEnd r.2 e → some e ∈ kvs.map (·.1)) ∧ kvs.length ≤ 2001 * i) ⟨_, _, _, _, rfl, fun _ _ _ h => h, h1, by simp, fun e he => (by simp at he), fun r hr => (by simp at hr), by simp⟩
    (fun i σ' H' h => ?_) ?_ ?_
  · obtain ⟨_, _, _, _, _, bt, _⟩ := h
    exact bt _ _ (ne _ _ hq) (s1 _ _ hq)
  · rintro i x _ H2 hi ⟨x2, x3, kvs, ep, rfl, b2, h2, nd, k1, k2, l2⟩
    have il : i < rows.length := by
      have := (List.getElem?_eq_some_iff.mp hi).1
      rw [hr.1] at this; exact this
    have hri := List.getElem?_eq_getElem il
    obtain ⟨d, e, kd, epd, hd, vd, ld⟩ := hr.2 i _ hri
    rw [hi] at e; cases e
    have rm : rows[i] ∈ rows := List.getElem_mem il
    obtain ⟨asc, ln⟩ := ra _ rm
    have hd2 := b2 _ _ (ne _ _ hd) (s1 _ _ hd)
    simp only [exists_and_left, tD1, rTupN, rAll, rMax2, rMin2, tSl, tPart, tNoPart, rSlLN, tYes, rLenS, rRepN, unset, tEv2, calmS, tDNew, rInDN, rIxDN, rSetDN, tDN1, tDGetN, rSorted, cx_K, Value.ref.injEq, HO.xd.injEq, lk0, tSeq, tPar3, tPar, tCons, tNil, tVar, tC, tAsg, gName, gCons, gNil, gTupN, gSub, tOp, rI, rI0, rU, tTest, rNe, rEq, rIxTN, rIxLN, rLenL, rLenT, tLstRg, tRg1, tRg2, rIntI, rIntB, rAbs, rSetLN, tTruL, tRaiseX, rIsTy, rIsOw, ixN0, ixN1, tRet, tIf, tIfS, tNext, tBreak, tCont, tDrop, tTupN, tLstN, tUn, tCB, tCall, tNot, tAnd, tOr, tB, tAndV, tOrV, tNotV, tChain, tApp, LamX.tLam, tRevLN, rCatN, rInTN, rInLN, flatV, inV, List.all_cons, List.all_nil, List.any_cons, List.any_nil, Bool.and_self, Bool.and_true, if_true, Bool.false_eq_true, if_false, tMt, tFldN, tSto, HO.ins.injEq, lkh, List.drop_zero, List.drop_succ_cons, List.drop_nil, rListS, wipe, L2.start, List.map_cons, List.map_nil, List.length_cons, List.length_nil, List.replicate, List.cons_append, List.nil_append, List.append_nil, Nat.reduceAdd, Nat.reduceSub, Nat.zero_add, List.replicate_succ, List.replicate_zero, List.getElem?_cons_zero, List.getElem?_cons_succ, List.set_cons_zero, List.set_cons_succ, Option.some.injEq, V.int.injEq, V.bl.injEq, V.ref.injEq, V.str.injEq, V.ty.injEq, List.cons.injEq, HO.tup.injEq, HO.lst.injEq, and_true, true_and, and_assoc, exists_eq_left, exists_eq_left', exists_and_left, exists_eq', atI0, atI1, atI2, atI3, Int.cast_ofNat_Int, Int.reduceToNat, scal_ii, scal_in, scal_ni, scal_nn, scal_bb, scal_ss, scal_sn, scal_ns, scal_bn, scal_nb, ite_iff, decide_eq_true_eq, decide_eq_false_iff_not, Bool.not_eq_true', Classical.not_not, ne_eq, not_false_eq_true, not_true_eq_false, forall_const, true_implies, false_implies, imp_self, sizeLine_eq, Nat.reduceLeDiff, reduceCtorEq, decide_true, decide_false]
    refine st_forDN (fun R r => (by simp only [exists_and_left, tD1, rTupN, rAll, rMax2, rMin2, tSl, tPart, tNoPart, rSlLN, tYes, rLenS, rRepN, unset, tEv2, calmS, tDNew, rInDN, rIxDN, rSetDN, tDN1, tDGetN, rSorted, cx_K, Value.ref.injEq, HO.xd.injEq, lk0, tSeq, tPar3, tPar, tCons, tNil, tVar, tC, tAsg, gName, gCons, gNil, gTupN, gSub, tOp, rI, rI0, rU, tTest, rNe, rEq, rIxTN, rIxLN, rLenL, rLenT, tLstRg, tRg1, tRg2, rIntI, rIntB, rAbs, rSetLN, tTruL, tRaiseX, rIsTy, rIsOw, ixN0, ixN1, tRet, tIf, tIfS, tNext, tBreak, tCont, tDrop, tTupN, tLstN, tUn, tCB, tCall, tNot, tAnd, tOr, tB, tAndV, tOrV, tNotV, tChain, tApp, LamX.tLam, tRevLN, rCatN, rInTN, rInLN, flatV, inV, List.all_cons, List.all_nil, List.any_cons, List.any_nil, Bool.and_self, Bool.and_true, if_true, Bool.false_eq_true, if_false, tMt, tFldN, tSto, HO.ins.injEq, lkh, List.drop_zero, List.drop_succ_cons, List.drop_nil, rListS, wipe, L2.start, List.map_cons, List.map_nil, List.length_cons, List.length_nil, List.replicate, List.cons_append, List.nil_append, List.append_nil, Nat.reduceAdd, Nat.reduceSub, Nat.zero_add, List.replicate_succ, List.replicate_zero, List.getElem?_cons_zero, List.getElem?_cons_succ, List.set_cons_zero, List.set_cons_succ, Option.some.injEq, V.int.injEq, V.bl.injEq, V.ref.injEq, V.str.injEq, V.ty.injEq, List.cons.injEq, HO.tup.injEq, HO.lst.injEq, and_true, true_and, and_assoc, exists_eq_left, exists_eq_left', exists_and_left, exists_eq', atI0, atI1, atI2, atI3, Int.cast_ofNat_Int, Int.reduceToNat, scal_ii, scal_in, scal_ni, scal_nn, scal_bb, scal_ss, scal_sn, scal_ns, scal_bn, scal_nb, ite_iff, decide_eq_true_eq, decide_eq_false_iff_not, Bool.not_eq_true', Classical.not_not, ne_eq, not_false_eq_true, not_true_eq_false, forall_const, true_implies, false_implies, imp_self, sizeLine_eq, Nat.reduceLeDiff, reduceCtorEq, decide_true, decide_false]; exact r)) hd2 (fun j σ' H' => ∃ x3 kvs ep, σ' = [some (V.ref q), some (V.ref p), some (V.ref d), x3, none, none, none, none, none, none] ∧ But p H1 H' ∧ H' p = some (DN P w p kvs ep) ∧ (kvs.map (·.1)).Nodup ∧
      (∀ e : Int, some e ∈ kvs.map (·.1) → ∃ r ∈ rows, IsEnd r.2 e) ∧ (∀ r ∈ rows.take i, ∀ e, IsEnd r.2 e → some e ∈ kvs.map (·.1)) ∧ (∀ c ∈ (kd.map (·.1)).take j, c ∈ kvs.map (·.1)) ∧ kvs.length ≤ 2001 * i + j) ⟨_, _, _, rfl, b2, h2, nd, k1, k2, fun c hc => (by simp at hc), by omega⟩ (fun j σ' H' h => ?_) ?_ ?_
    · obtain ⟨_, _, _, _, bt, _⟩ := h
      exact bt _ _ (ne _ _ hd) (s1 _ _ hd)
    · rintro j c v _ H3 hj ⟨x3, kvs, ep, rfl, b3, h3, nd, k1, k2, k3, l3⟩
      have jl := (List.getElem?_eq_some_iff.mp hj).1
      have hjk : (kd.map (·.1))[j]? = some c := by rw [List.getElem?_map, hj]; rfl
      simp only [exists_and_left, tD1, rTupN, rAll, rMax2, rMin2, tSl, tPart, tNoPart, rSlLN, tYes, rLenS, rRepN, unset, tEv2, calmS, tDNew, rInDN, rIxDN, rSetDN, tDN1, tDGetN, rSorted, cx_K, Value.ref.injEq, HO.xd.injEq, lk0, tSeq, tPar3, tPar, tCons, tNil, tVar, tC, tAsg, gName, gCons, gNil, gTupN, gSub, tOp, rI, rI0, rU, tTest, rNe, rEq, rIxTN, rIxLN, rLenL, rLenT, tLstRg, tRg1, tRg2, rIntI, rIntB, rAbs, rSetLN, tTruL, tRaiseX, rIsTy, rIsOw, ixN0, ixN1, tRet, tIf, tIfS, tNext, tBreak, tCont, tDrop, tTupN, tLstN, tUn, tCB, tCall, tNot, tAnd, tOr, tB, tAndV, tOrV, tNotV, tChain, tApp, LamX.tLam, tRevLN, rCatN, rInTN, rInLN, flatV, inV, List.all_cons, List.all_nil, List.any_cons, List.any_nil, Bool.and_self, Bool.and_true, if_true, Bool.false_eq_true, if_false, tMt, tFldN, tSto, HO.ins.injEq, lkh, List.drop_zero, List.drop_succ_cons, List.drop_nil, rListS, wipe, L2.start, List.map_cons, List.map_nil, List.length_cons, List.length_nil, List.replicate, List.cons_append, List.nil_append, List.append_nil, Nat.reduceAdd, Nat.reduceSub, Nat.zero_add, List.replicate_succ, List.replicate_zero, List.getElem?_cons_zero, List.getElem?_cons_succ, List.set_cons_zero, List.set_cons_succ, Option.some.injEq, V.int.injEq, V.bl.injEq, V.ref.injEq, V.str.injEq, V.ty.injEq, List.cons.injEq, HO.tup.injEq, HO.lst.injEq, and_true, true_and, and_assoc, exists_eq_left, exists_eq_left', exists_and_left, exists_eq', atI0, atI1, atI2, atI3, Int.cast_ofNat_Int, Int.reduceToNat, scal_ii, scal_in, scal_ni, scal_nn, scal_bb, scal_ss, scal_sn, scal_ns, scal_bn, scal_nb, ite_iff, decide_eq_true_eq, decide_eq_false_iff_not, Bool.not_eq_true', Classical.not_not, ne_eq, not_false_eq_true, not_true_eq_false, forall_const, true_implies, false_implies, imp_self, sizeLine_eq, Nat.reduceLeDiff, reduceCtorEq, decide_true, decide_false]
      have lp := length_putK kvs c (V.bl true)
      refine ⟨_, rfl, _, _, h3, by omega, fun ep4 H4 p4 => ⟨fun a o n e => by rw [p4.2 a n]; exact b3 a o n e, _, _, p4.1, ?_, fun e he => ?_, fun r hr e he => ?_, fun c' hc' => ?_, by omega⟩⟩
      · rw [keys_put]
        split
        · exact nd
        · rename_i cn
          exact List.nodup_append.mpr ⟨nd, by simp, fun a ha b hb q => cn (by rw [List.mem_singleton.mp hb] at q; rw [← q]; exact ha)⟩
      · rw [keys_put] at he
        split at he
        · exact k1 e he
        · rcases List.mem_append.mp he with he | he
          · exact k1 e he
          · have he := List.mem_singleton.mp he
            exact ⟨_, rm, (end_key asc vd e).mp (by rw [he]; exact List.mem_of_getElem? hjk)⟩
      · rw [keys_put]
        split
        · exact k2 r hr e he
        · exact List.mem_append_left _ (k2 r hr e he)
      · rw [List.take_succ, hjk] at hc'
        rw [keys_put]
        rcases List.mem_append.mp hc' with hc' | hc'
        · have := k3 c' hc'
          split
          · exact this
          · exact List.mem_append_left _ this
        · have hc' : c' = c := by simpa using hc'
          subst hc'
          split
          · assumption
          · exact List.mem_append_right _ (List.mem_singleton.mpr rfl)
    · rintro _ H3 ⟨x3, kvs, ep, rfl, b3, h3, nd, k1, k2, k3, l3⟩
      refine ⟨_, _, rfl, b3, kvs, ep, h3, nd, k1, fun r hr e he => ?_, by omega⟩
      rw [List.take_succ, hri] at hr
      rcases List.mem_append.mp hr with hr | hr
      · exact k2 r hr e he
      · have hr : r = rows[i] := by simpa using hr
        subst hr
        exact k3 _ (by rw [show kd.length = (kd.map (·.1)).length by simp, List.take_length]; exact (end_key asc vd e).mpr he)
  · rintro _ H2 ⟨x2, x3, kvs, ep, rfl, b2, h2, nd, k1, k2, l2⟩
    rw [hr.1, List.take_length] at k2
    rw [hr.1] at l2
    simp only [exists_and_left, tD1, rTupN, rAll, rMax2, rMin2, tSl, tPart, tNoPart, rSlLN, tYes, rLenS, rRepN, unset, tEv2, calmS, tDNew, rInDN, rIxDN, rSetDN, tDN1, tDGetN, rSorted, cx_K, Value.ref.injEq, HO.xd.injEq, lk0, tSeq, tPar3, tPar, tCons, tNil, tVar, tC, tAsg, gName, gCons, gNil, gTupN, gSub, tOp, rI, rI0, rU, tTest, rNe, rEq, rIxTN, rIxLN, rLenL, rLenT, tLstRg, tRg1, tRg2, rIntI, rIntB, rAbs, rSetLN, tTruL, tRaiseX, rIsTy, rIsOw, ixN0, ixN1, tRet, tIf, tIfS, tNext, tBreak, tCont, tDrop, tTupN, tLstN, tUn, tCB, tCall, tNot, tAnd, tOr, tB, tAndV, tOrV, tNotV, tChain, tApp, LamX.tLam, tRevLN, rCatN, rInTN, rInLN, flatV, inV, List.all_cons, List.all_nil, List.any_cons, List.any_nil, Bool.and_self, Bool.and_true, if_true, Bool.false_eq_true, if_false, tMt, tFldN, tSto, HO.ins.injEq, lkh, List.drop_zero, List.drop_succ_cons, List.drop_nil, rListS, wipe, L2.start, List.map_cons, List.map_nil, List.length_cons, List.length_nil, List.replicate, List.cons_append, List.nil_append, List.append_nil, Nat.reduceAdd, Nat.reduceSub, Nat.zero_add, List.replicate_succ, List.replicate_zero, List.getElem?_cons_zero, List.getElem?_cons_succ, List.set_cons_zero, List.set_cons_succ, Option.some.injEq, V.int.injEq, V.bl.injEq, V.ref.injEq, V.str.injEq, V.ty.injEq, List.cons.injEq, HO.tup.injEq, HO.lst.injEq, and_true, true_and, and_assoc, exists_eq_left, exists_eq_left', exists_and_left, exists_eq', atI0, atI1, atI2, atI3, Int.cast_ofNat_Int, Int.reduceToNat, scal_ii, scal_in, scal_ni, scal_nn, scal_bb, scal_ss, scal_sn, scal_ns, scal_bn, scal_nb, ite_iff, decide_eq_true_eq, decide_eq_false_iff_not, Bool.not_eq_true', Classical.not_not, ne_eq, not_false_eq_true, not_true_eq_false, forall_const, true_implies, false_implies, imp_self, sizeLine_eq, Nat.reduceLeDiff, reduceCtorEq, decide_true, decide_false]
    have s2 : Same H H2 := fun c o e => b2 _ _ (ne _ _ e) (s1 _ _ e)
    have okv : ∀ o : Option Int, o.isSome = true → ov o = .int (o.getD 0) := fun o h => by cases o with | none => cases h | some e => rfl
    refine st_lcDN (fun R r => (by simp only [exists_and_left, tD1, rTupN, rAll, rMax2, rMin2, tSl, tPart, tNoPart, rSlLN, tYes, rLenS, rRepN, unset, tEv2, calmS, tDNew, rInDN, rIxDN, rSetDN, tDN1, tDGetN, rSorted, cx_K, Value.ref.injEq, HO.xd.injEq, lk0, tSeq, tPar3, tPar, tCons, tNil, tVar, tC, tAsg, gName, gCons, gNil, gTupN, gSub, tOp, rI, rI0, rU, tTest, rNe, rEq, rIxTN, rIxLN, rLenL, rLenT, tLstRg, tRg1, tRg2, rIntI, rIntB, rAbs, rSetLN, tTruL, tRaiseX, rIsTy, rIsOw, ixN0, ixN1, tRet, tIf, tIfS, tNext, tBreak, tCont, tDrop, tTupN, tLstN, tUn, tCB, tCall, tNot, tAnd, tOr, tB, tAndV, tOrV, tNotV, tChain, tApp, LamX.tLam, tRevLN, rCatN, rInTN, rInLN, flatV, inV, List.all_cons, List.all_nil, List.any_cons, List.any_nil, Bool.and_self, Bool.and_true, if_true, Bool.false_eq_true, if_false, tMt, tFldN, tSto, HO.ins.injEq, lkh, List.drop_zero, List.drop_succ_cons, List.drop_nil, rListS, wipe, L2.start, List.map_cons, List.map_nil, List.length_cons, List.length_nil, List.replicate, List.cons_append, List.nil_append, List.append_nil, Nat.reduceAdd, Nat.reduceSub, Nat.zero_add, List.replicate_succ, List.replicate_zero, List.getElem?_cons_zero, List.getElem?_cons_succ, List.set_cons_zero, List.set_cons_succ, Option.some.injEq, V.int.injEq, V.bl.injEq, V.ref.injEq, V.str.injEq, V.ty.injEq, List.cons.injEq, HO.tup.injEq, HO.lst.injEq, and_true, true_and, and_assoc, exists_eq_left, exists_eq_left', exists_and_left, exists_eq', atI0, atI1, atI2, atI3, Int.cast_ofNat_Int, Int.reduceToNat, scal_ii, scal_in, scal_ni, scal_nn, scal_bb, scal_ss, scal_sn, scal_ns, scal_bn, scal_nb, ite_iff, decide_eq_true_eq, decide_eq_false_iff_not, Bool.not_eq_true', Classical.not_not, ne_eq, not_false_eq_true, not_true_eq_false, forall_const, true_implies, false_implies, imp_self, sizeLine_eq, Nat.reduceLeDiff, reduceCtorEq, decide_true, decide_false]; exact r)) h2 (by rw [sizeLine_eq]; omega) (fun o => o.isSome) (fun o => .int (o.getD 0)) (fun x H3 A B hx s3 hA hB => ?_) (fun D H3 n3 s3 h3 => ?_)
    · cases x with
      | none =>
        simp only [exists_and_left, tD1, rTupN, rAll, rMax2, rMin2, tSl, tPart, tNoPart, rSlLN, tYes, rLenS, rRepN, unset, tEv2, calmS, tDNew, rInDN, rIxDN, rSetDN, tDN1, tDGetN, rSorted, cx_K, Value.ref.injEq, HO.xd.injEq, lk0, tSeq, tPar3, tPar, tCons, tNil, tVar, tC, tAsg, gName, gCons, gNil, gTupN, gSub, tOp, rI, rI0, rU, tTest, rNe, rEq, rIxTN, rIxLN, rLenL, rLenT, tLstRg, tRg1, tRg2, rIntI, rIntB, rAbs, rSetLN, tTruL, tRaiseX, rIsTy, rIsOw, ixN0, ixN1, tRet, tIf, tIfS, tNext, tBreak, tCont, tDrop, tTupN, tLstN, tUn, tCB, tCall, tNot, tAnd, tOr, tB, tAndV, tOrV, tNotV, tChain, tApp, LamX.tLam, tRevLN, rCatN, rInTN, rInLN, flatV, inV, List.all_cons, List.all_nil, List.any_cons, List.any_nil, Bool.and_self, Bool.and_true, if_true, Bool.false_eq_true, if_false, tMt, tFldN, tSto, HO.ins.injEq, lkh, List.drop_zero, List.drop_succ_cons, List.drop_nil, rListS, wipe, L2.start, List.map_cons, List.map_nil, List.length_cons, List.length_nil, List.replicate, List.cons_append, List.nil_append, List.append_nil, Nat.reduceAdd, Nat.reduceSub, Nat.zero_add, List.replicate_succ, List.replicate_zero, List.getElem?_cons_zero, List.getElem?_cons_succ, List.set_cons_zero, List.set_cons_succ, Option.some.injEq, V.int.injEq, V.bl.injEq, V.ref.injEq, V.str.injEq, V.ty.injEq, List.cons.injEq, HO.tup.injEq, HO.lst.injEq, and_true, true_and, and_assoc, exists_eq_left, exists_eq_left', exists_and_left, exists_eq', atI0, atI1, atI2, atI3, Int.cast_ofNat_Int, Int.reduceToNat, scal_ii, scal_in, scal_ni, scal_nn, scal_bb, scal_ss, scal_sn, scal_ns, scal_bn, scal_nb, ite_iff, decide_eq_true_eq, decide_eq_false_iff_not, Bool.not_eq_true', Classical.not_not, ne_eq, not_false_eq_true, not_true_eq_false, forall_const, true_implies, false_implies, imp_self, sizeLine_eq, Nat.reduceLeDiff, reduceCtorEq, decide_true, decide_false]
        exact ⟨fun h => absurd rfl h, fun _ => hA rfl H3 fun _ _ h => h⟩
      | some e =>
        simp only [exists_and_left, tD1, rTupN, rAll, rMax2, rMin2, tSl, tPart, tNoPart, rSlLN, tYes, rLenS, rRepN, unset, tEv2, calmS, tDNew, rInDN, rIxDN, rSetDN, tDN1, tDGetN, rSorted, cx_K, Value.ref.injEq, HO.xd.injEq, lk0, tSeq, tPar3, tPar, tCons, tNil, tVar, tC, tAsg, gName, gCons, gNil, gTupN, gSub, tOp, rI, rI0, rU, tTest, rNe, rEq, rIxTN, rIxLN, rLenL, rLenT, tLstRg, tRg1, tRg2, rIntI, rIntB, rAbs, rSetLN, tTruL, tRaiseX, rIsTy, rIsOw, ixN0, ixN1, tRet, tIf, tIfS, tNext, tBreak, tCont, tDrop, tTupN, tLstN, tUn, tCB, tCall, tNot, tAnd, tOr, tB, tAndV, tOrV, tNotV, tChain, tApp, LamX.tLam, tRevLN, rCatN, rInTN, rInLN, flatV, inV, List.all_cons, List.all_nil, List.any_cons, List.any_nil, Bool.and_self, Bool.and_true, if_true, Bool.false_eq_true, if_false, tMt, tFldN, tSto, HO.ins.injEq, lkh, List.drop_zero, List.drop_succ_cons, List.drop_nil, rListS, wipe, L2.start, List.map_cons, List.map_nil, List.length_cons, List.length_nil, List.replicate, List.cons_append, List.nil_append, List.append_nil, Nat.reduceAdd, Nat.reduceSub, Nat.zero_add, List.replicate_succ, List.replicate_zero, List.getElem?_cons_zero, List.getElem?_cons_succ, List.set_cons_zero, List.set_cons_succ, Option.some.injEq, V.int.injEq, V.bl.injEq, V.ref.injEq, V.str.injEq, V.ty.injEq, List.cons.injEq, HO.tup.injEq, HO.lst.injEq, and_true, true_and, and_assoc, exists_eq_left, exists_eq_left', exists_and_left, exists_eq', atI0, atI1, atI2, atI3, Int.cast_ofNat_Int, Int.reduceToNat, scal_ii, scal_in, scal_ni, scal_nn, scal_bb, scal_ss, scal_sn, scal_ns, scal_bn, scal_nb, ite_iff, decide_eq_true_eq, decide_eq_false_iff_not, Bool.not_eq_true', Classical.not_not, ne_eq, not_false_eq_true, not_true_eq_false, forall_const, true_implies, false_implies, imp_self, sizeLine_eq, Nat.reduceLeDiff, reduceCtorEq, decide_true, decide_false]
        exact ⟨fun _ => ⟨e, rfl, hB rfl H3 fun _ _ h => h⟩, fun h => by cases h⟩
    · refine ⟨D, someI (kvs.map (·.1)), rfl, SqL.of (by rw [h3]; unfold someI; rw [List.map_map]; rfl), fun E u perm srt nu => ?_⟩
      have up : Up none E := up_none srt (perm.nodup_iff.mpr (nodup_someI nd))
      have memE : ∀ e, e ∈ E ↔ some e ∈ kvs.map (·.1) := fun e => by rw [perm.mem_iff, mem_someI]
      have lenE : E.length ≤ 2001 * 400 := by
        rw [perm.length_eq]
        have : (someI (kvs.map (·.1))).length ≤ (kvs.map (·.1)).length := by unfold someI; rw [List.length_map]; exact List.length_filter_le _ _
        rw [List.length_map] at this
        omega
      have allE : ∀ r ∈ rows, ∀ x, IsEnd r.2 x → x ∈ E := fun r hr x hx => (memE x).mpr (k2 r hr x hx)
      have s4 : Same H (upd H3 u (.lst (E.map V.int))) := (s2.trans s3).trans (Same.upd nu)
      have hu : (upd H3 u (.lst (E.map V.int))) u = some (.lst (E.map V.int)) := upd_same
      generalize upd H3 u (.lst (E.map V.int)) = H4 at *
      have rw4 : ∀ {H'}, Same H H' → ∀ (i : Nat) (r : V × List (Bd V)), rows[i]? = some r → ∃ d kv ep, ds[i]? = some (V.ref d) ∧ H' d = some (DN P w d kv ep) ∧ ∀ k, valV kv k = valA (chgA r.1 r.2) k := fun s i r h => by
        obtain ⟨d, e, kd, epd, hd, vd, _⟩ := hr.2 i r h
        exact ⟨d, kd, epd, e, s _ _ hd, vd⟩
      refine st_lcL (fun R r => (by simp only [exists_and_left, tD1, rTupN, rAll, rMax2, rMin2, tSl, tPart, tNoPart, rSlLN, tYes, rLenS, rRepN, unset, tEv2, calmS, tDNew, rInDN, rIxDN, rSetDN, tDN1, tDGetN, rSorted, cx_K, Value.ref.injEq, HO.xd.injEq, lk0, tSeq, tPar3, tPar, tCons, tNil, tVar, tC, tAsg, gName, gCons, gNil, gTupN, gSub, tOp, rI, rI0, rU, tTest, rNe, rEq, rIxTN, rIxLN, rLenL, rLenT, tLstRg, tRg1, tRg2, rIntI, rIntB, rAbs, rSetLN, tTruL, tRaiseX, rIsTy, rIsOw, ixN0, ixN1, tRet, tIf, tIfS, tNext, tBreak, tCont, tDrop, tTupN, tLstN, tUn, tCB, tCall, tNot, tAnd, tOr, tB, tAndV, tOrV, tNotV, tChain, tApp, LamX.tLam, tRevLN, rCatN, rInTN, rInLN, flatV, inV, List.all_cons, List.all_nil, List.any_cons, List.any_nil, Bool.and_self, Bool.and_true, if_true, Bool.false_eq_true, if_false, tMt, tFldN, tSto, HO.ins.injEq, lkh, List.drop_zero, List.drop_succ_cons, List.drop_nil, rListS, wipe, L2.start, List.map_cons, List.map_nil, List.length_cons, List.length_nil, List.replicate, List.cons_append, List.nil_append, List.append_nil, Nat.reduceAdd, Nat.reduceSub, Nat.zero_add, List.replicate_succ, List.replicate_zero, List.getElem?_cons_zero, List.getElem?_cons_succ, List.set_cons_zero, List.set_cons_succ, Option.some.injEq, V.int.injEq, V.bl.injEq, V.ref.injEq, V.str.injEq, V.ty.injEq, List.cons.injEq, HO.tup.injEq, HO.lst.injEq, and_true, true_and, and_assoc, exists_eq_left, exists_eq_left', exists_and_left, exists_eq', atI0, atI1, atI2, atI3, Int.cast_ofNat_Int, Int.reduceToNat, scal_ii, scal_in, scal_ni, scal_nn, scal_bb, scal_ss, scal_sn, scal_ns, scal_bn, scal_nb, ite_iff, decide_eq_true_eq, decide_eq_false_iff_not, Bool.not_eq_true', Classical.not_not, ne_eq, not_false_eq_true, not_true_eq_false, forall_const, true_implies, false_implies, imp_self, sizeLine_eq, Nat.reduceLeDiff, reduceCtorEq, decide_true, decide_false]; exact r)) (s4 _ _ hq) (fun D i H' => H4 D = none ∧ Same H4 H' ∧ H' D = some (.lst ((rows.take i).map fun r => atC r.1 r.2 none))) (fun D H5 nD s5 h5 => ⟨nD, s5, by rw [h5]; simp⟩) (fun D i H' q => q.2.1 _ _ (s4 _ _ hq)) (fun D i x H5 hi q => ?_) (fun D H5 q => ?_)
      · obtain ⟨nD, s5, h5⟩ := q
        have il : i < rows.length := by
          have := (List.getElem?_eq_some_iff.mp hi).1
          rw [hr.1] at this; exact this
        have hri := List.getElem?_eq_getElem il
        obtain ⟨d, kd, epd, e, hd, vd⟩ := rw4 (s4.trans s5) i _ hri
        rw [hi] at e; cases e
        have asc := (ra _ (List.getElem_mem il)).1
        simp only [exists_and_left, tD1, rTupN, rAll, rMax2, rMin2, tSl, tPart, tNoPart, rSlLN, tYes, rLenS, rRepN, unset, tEv2, calmS, tDNew, rInDN, rIxDN, rSetDN, tDN1, tDGetN, rSorted, cx_K, Value.ref.injEq, HO.xd.injEq, lk0, tSeq, tPar3, tPar, tCons, tNil, tVar, tC, tAsg, gName, gCons, gNil, gTupN, gSub, tOp, rI, rI0, rU, tTest, rNe, rEq, rIxTN, rIxLN, rLenL, rLenT, tLstRg, tRg1, tRg2, rIntI, rIntB, rAbs, rSetLN, tTruL, tRaiseX, rIsTy, rIsOw, ixN0, ixN1, tRet, tIf, tIfS, tNext, tBreak, tCont, tDrop, tTupN, tLstN, tUn, tCB, tCall, tNot, tAnd, tOr, tB, tAndV, tOrV, tNotV, tChain, tApp, LamX.tLam, tRevLN, rCatN, rInTN, rInLN, flatV, inV, List.all_cons, List.all_nil, List.any_cons, List.any_nil, Bool.and_self, Bool.and_true, if_true, Bool.false_eq_true, if_false, tMt, tFldN, tSto, HO.ins.injEq, lkh, List.drop_zero, List.drop_succ_cons, List.drop_nil, rListS, wipe, L2.start, List.map_cons, List.map_nil, List.length_cons, List.length_nil, List.replicate, List.cons_append, List.nil_append, List.append_nil, Nat.reduceAdd, Nat.reduceSub, Nat.zero_add, List.replicate_succ, List.replicate_zero, List.getElem?_cons_zero, List.getElem?_cons_succ, List.set_cons_zero, List.set_cons_succ, Option.some.injEq, V.int.injEq, V.bl.injEq, V.ref.injEq, V.str.injEq, V.ty.injEq, List.cons.injEq, HO.tup.injEq, HO.lst.injEq, and_true, true_and, and_assoc, exists_eq_left, exists_eq_left', exists_and_left, exists_eq', atI0, atI1, atI2, atI3, Int.cast_ofNat_Int, Int.reduceToNat, scal_ii, scal_in, scal_ni, scal_nn, scal_bb, scal_ss, scal_sn, scal_ns, scal_bn, scal_nb, ite_iff, decide_eq_true_eq, decide_eq_false_iff_not, Bool.not_eq_true', Classical.not_not, ne_eq, not_false_eq_true, not_true_eq_false, forall_const, true_implies, false_implies, imp_self, sizeLine_eq, Nat.reduceLeDiff, reduceCtorEq, decide_true, decide_false]
        refine ⟨none, rfl, kd, epd, hd, _, (by rw [vd]; exact (chg_ok asc).c), _, h5, (by rw [List.length_map, List.length_take]; omega), nD, fun c o e => ?_, ?_⟩
        · rw [upd_ne (ne_of_none e nD)]; exact s5 _ _ e
        · rw [upd_same, List.take_succ, hri, Option.toList_some, List.map_append]; rfl
      · obtain ⟨nD, s5, h5⟩ := q
        rw [hr.1, List.take_length] at h5
        intro L H6 nL s6 h6
        have s46 := s5.trans s6
        have hu6 := s46 _ _ hu
        have h56 := s6 _ _ h5
        have hq6 := s46 _ _ (s4 _ _ hq)
        have nL0 : H L = none := by
          cases e : H L with
          | none => rfl
          | some o => have := (s4.trans s5) _ _ e; rw [nL] at this; cases this
        refine for_zip ?_
        simp only [exists_and_left, tD1, rTupN, rAll, rMax2, rMin2, tSl, tPart, tNoPart, rSlLN, tYes, rLenS, rRepN, unset, tEv2, calmS, tDNew, rInDN, rIxDN, rSetDN, tDN1, tDGetN, rSorted, cx_K, Value.ref.injEq, HO.xd.injEq, lk0, tSeq, tPar3, tPar, tCons, tNil, tVar, tC, tAsg, gName, gCons, gNil, gTupN, gSub, tOp, rI, rI0, rU, tTest, rNe, rEq, rIxTN, rIxLN, rLenL, rLenT, tLstRg, tRg1, tRg2, rIntI, rIntB, rAbs, rSetLN, tTruL, tRaiseX, rIsTy, rIsOw, ixN0, ixN1, tRet, tIf, tIfS, tNext, tBreak, tCont, tDrop, tTupN, tLstN, tUn, tCB, tCall, tNot, tAnd, tOr, tB, tAndV, tOrV, tNotV, tChain, tApp, LamX.tLam, tRevLN, rCatN, rInTN, rInLN, flatV, inV, List.all_cons, List.all_nil, List.any_cons, List.any_nil, Bool.and_self, Bool.and_true, if_true, Bool.false_eq_true, if_false, tMt, tFldN, tSto, HO.ins.injEq, lkh, List.drop_zero, List.drop_succ_cons, List.drop_nil, rListS, wipe, L2.start, List.map_cons, List.map_nil, List.length_cons, List.length_nil, List.replicate, List.cons_append, List.nil_append, List.append_nil, Nat.reduceAdd, Nat.reduceSub, Nat.zero_add, List.replicate_succ, List.replicate_zero, List.getElem?_cons_zero, List.getElem?_cons_succ, List.set_cons_zero, List.set_cons_succ, Option.some.injEq, V.int.injEq, V.bl.injEq, V.ref.injEq, V.str.injEq, V.ty.injEq, List.cons.injEq, HO.tup.injEq, HO.lst.injEq, and_true, true_and, and_assoc, exists_eq_left, exists_eq_left', exists_and_left, exists_eq', atI0, atI1, atI2, atI3, Int.cast_ofNat_Int, Int.reduceToNat, scal_ii, scal_in, scal_ni, scal_nn, scal_bb, scal_ss, scal_sn, scal_ns, scal_bn, scal_nb, ite_iff, decide_eq_true_eq, decide_eq_false_iff_not, Bool.not_eq_true', Classical.not_not, ne_eq, not_false_eq_true, not_true_eq_false, forall_const, true_implies, false_implies, imp_self, sizeLine_eq, Nat.reduceLeDiff, reduceCtorEq, decide_true, decide_false]
        have evE : ∀ (l : List Int), l.map V.int = l.map fun e => ov (some e) := fun l => rfl
        intro m1 G1 _ r1 k1'
        refine ⟨m1, rfl, _, k1', _, r1 _ _ hu6, (by rw [List.length_map, List.length_singleton]; omega), ?_⟩
        intro A G2 _ r2 eA
        intro m2 G3 _ r3 k3'
        have r13 := (r1.trans r2).trans r3
        refine ⟨m2, rfl, _, r13 _ _ hu6, _, k3', (by rw [List.length_map, List.length_singleton]; omega), ?_⟩
        intro Bz G4 _ r4 eB
        have r14 := r13.trans r4
        have eA4 := r4 _ _ (r3 _ _ eA)
        have LA : A ≠ L := fun e => by subst e; have := r4 _ _ (r3 _ _ (r2 _ _ (r1 _ _ h6))); rw [eA4] at this; cases this
        have LB : Bz ≠ L := fun e => by subst e; have := r14 _ _ h6; rw [eB] at this; have := List.append_eq_nil_iff.mp (HO.lst.inj (Option.some.inj this)); simp at this
        refine ⟨A, rfl, Bz, rfl, _, _, .inl ⟨SqL.of eA4, SqL.of eB, ?_⟩⟩
        obtain ⟨f, hf⟩ : ∃ f, f = fun c => rows.map fun r => atC r.1 r.2 c := ⟨_, rfl⟩
        have f0 : rows.map (fun r => atC r.1 r.2 none) = f none := by rw [hf]
        rw [f0] at h56
        have sH : ∀ {H'}, But L G4 H' → Same H H' := fun {H'} bt c o e => bt _ _ (fun q => by subst q; rw [nL0] at e; cases e) (r14 _ _ (s46 _ _ (s4 _ _ e)))
        refine st_forZ (n := E.length + 1) (xs := [V.non] ++ E.map V.int) (ys := E.map V.int ++ [V.non]) (by rw [List.length_append, List.length_append, List.length_map, List.length_singleton]; omega) (fun i σ' H' => ∃ y2 y3 Wl y7 y8 y9 bxs c, σ' = [some (V.ref q), some (V.ref p), y2, y3, some (V.ref u), some (V.ref Wl), some (V.ref L), y7, y8, y9] ∧ But L G4 H' ∧ H' Wl = some (.lst (f c)) ∧ H' L = some (.lst bxs) ∧ TBs H' bxs ((tileF f none E).take i) ∧ (i = 0 ∨ (none :: E.map some)[i - 1]? = some c))
          ⟨_, _, D, _, _, _, [], none, rfl, fun _ _ _ h => h, r14 _ _ h56, r14 _ _ h6, ⟨rfl, fun i b h => (by simp at h)⟩, .inl rfl⟩ (fun i σ' H' h => ?_) ?_ ?_
        · obtain ⟨_, _, _, _, _, _, _, _, _, bt, _⟩ := h
          exact ⟨SqL.of (bt _ _ LA eA4), SqL.of (bt _ _ LB eB)⟩
        · rintro i x y T' _ K1 K2 hx hy ⟨y2, y3, Wl, y7, y8, y9, bxs, c, rfl, bt, hW, hL, tb, hc⟩ t2 hT
          obtain ⟨c1, hc1, rfl⟩ : ∃ c1, (none :: E.map some)[i]? = some c1 ∧ x = ov c1 := by
            have e : [V.non] ++ E.map V.int = (none :: E.map some).map ov := by rw [List.map_cons, List.map_map]; rfl
            rw [e, List.getElem?_map] at hx
            cases z : (none :: E.map some)[i]? with
            | none => rw [z] at hx; cases hx
            | some c1 => rw [z] at hx; cases hx; exact ⟨c1, rfl, rfl⟩
          obtain ⟨n2', hn2, rfl⟩ : ∃ n1, (E.map some ++ [none])[i]? = some n1 ∧ y = ov n1 := by
            have e : E.map V.int ++ [V.non] = (E.map some ++ [none]).map ov := by rw [List.map_append, List.map_map]; rfl
            rw [e, List.getElem?_map] at hy
            cases z : (E.map some ++ [none])[i]? with
            | none => rw [z] at hy; cases hy
            | some c1 => rw [z] at hy; cases hy; exact ⟨c1, rfl, rfl⟩
          have hT' := hT
          simp only [hT, exists_and_left, tD1, rTupN, rAll, rMax2, rMin2, tSl, tPart, tNoPart, rSlLN, tYes, rLenS, rRepN, unset, tEv2, calmS, tDNew, rInDN, rIxDN, rSetDN, tDN1, tDGetN, rSorted, cx_K, Value.ref.injEq, HO.xd.injEq, lk0, tSeq, tPar3, tPar, tCons, tNil, tVar, tC, tAsg, gName, gCons, gNil, gTupN, gSub, tOp, rI, rI0, rU, tTest, rNe, rEq, rIxTN, rIxLN, rLenL, rLenT, tLstRg, tRg1, tRg2, rIntI, rIntB, rAbs, rSetLN, tTruL, tRaiseX, rIsTy, rIsOw, ixN0, ixN1, tRet, tIf, tIfS, tNext, tBreak, tCont, tDrop, tTupN, tLstN, tUn, tCB, tCall, tNot, tAnd, tOr, tB, tAndV, tOrV, tNotV, tChain, tApp, LamX.tLam, tRevLN, rCatN, rInTN, rInLN, flatV, inV, List.all_cons, List.all_nil, List.any_cons, List.any_nil, Bool.and_self, Bool.and_true, if_true, Bool.false_eq_true, if_false, tMt, tFldN, tSto, HO.ins.injEq, lkh, List.drop_zero, List.drop_succ_cons, List.drop_nil, rListS, wipe, L2.start, List.map_cons, List.map_nil, List.length_cons, List.length_nil, List.replicate, List.cons_append, List.nil_append, List.append_nil, Nat.reduceAdd, Nat.reduceSub, Nat.zero_add, List.replicate_succ, List.replicate_zero, List.getElem?_cons_zero, List.getElem?_cons_succ, List.set_cons_zero, List.set_cons_succ, Option.some.injEq, V.int.injEq, V.bl.injEq, V.ref.injEq, V.str.injEq, V.ty.injEq, List.cons.injEq, HO.tup.injEq, HO.lst.injEq, and_true, true_and, and_assoc, exists_eq_left, exists_eq_left', exists_and_left, exists_eq', atI0, atI1, atI2, atI3, Int.cast_ofNat_Int, Int.reduceToNat, scal_ii, scal_in, scal_ni, scal_nn, scal_bb, scal_ss, scal_sn, scal_ns, scal_bn, scal_nb, ite_iff, decide_eq_true_eq, decide_eq_false_iff_not, Bool.not_eq_true', Classical.not_not, ne_eq, not_false_eq_true, not_true_eq_false, forall_const, true_implies, false_implies, imp_self, sizeLine_eq, Nat.reduceLeDiff, reduceCtorEq, decide_true, decide_false]
          refine lc_zip ?_
          simp only [exists_and_left, tD1, rTupN, rAll, rMax2, rMin2, tSl, tPart, tNoPart, rSlLN, tYes, rLenS, rRepN, unset, tEv2, calmS, tDNew, rInDN, rIxDN, rSetDN, tDN1, tDGetN, rSorted, cx_K, Value.ref.injEq, HO.xd.injEq, lk0, tSeq, tPar3, tPar, tCons, tNil, tVar, tC, tAsg, gName, gCons, gNil, gTupN, gSub, tOp, rI, rI0, rU, tTest, rNe, rEq, rIxTN, rIxLN, rLenL, rLenT, tLstRg, tRg1, tRg2, rIntI, rIntB, rAbs, rSetLN, tTruL, tRaiseX, rIsTy, rIsOw, ixN0, ixN1, tRet, tIf, tIfS, tNext, tBreak, tCont, tDrop, tTupN, tLstN, tUn, tCB, tCall, tNot, tAnd, tOr, tB, tAndV, tOrV, tNotV, tChain, tApp, LamX.tLam, tRevLN, rCatN, rInTN, rInLN, flatV, inV, List.all_cons, List.all_nil, List.any_cons, List.any_nil, Bool.and_self, Bool.and_true, if_true, Bool.false_eq_true, if_false, tMt, tFldN, tSto, HO.ins.injEq, lkh, List.drop_zero, List.drop_succ_cons, List.drop_nil, rListS, wipe, L2.start, List.map_cons, List.map_nil, List.length_cons, List.length_nil, List.replicate, List.cons_append, List.nil_append, List.append_nil, Nat.reduceAdd, Nat.reduceSub, Nat.zero_add, List.replicate_succ, List.replicate_zero, List.getElem?_cons_zero, List.getElem?_cons_succ, List.set_cons_zero, List.set_cons_succ, Option.some.injEq, V.int.injEq, V.bl.injEq, V.ref.injEq, V.str.injEq, V.ty.injEq, List.cons.injEq, HO.tup.injEq, HO.lst.injEq, and_true, true_and, and_assoc, exists_eq_left, exists_eq_left', exists_and_left, exists_eq', atI0, atI1, atI2, atI3, Int.cast_ofNat_Int, Int.reduceToNat, scal_ii, scal_in, scal_ni, scal_nn, scal_bb, scal_ss, scal_sn, scal_ns, scal_bn, scal_nb, ite_iff, decide_eq_true_eq, decide_eq_false_iff_not, Bool.not_eq_true', Classical.not_not, ne_eq, not_false_eq_true, not_true_eq_false, forall_const, true_implies, false_implies, imp_self, sizeLine_eq, Nat.reduceLeDiff, reduceCtorEq, decide_true, decide_false]
          have hq2 := t2 _ _ (sH bt _ _ hq)
          have hW2 := t2 _ _ hW
          have hL2 := t2 _ _ hL
          have fl : ∀ c, (f c).length = rows.length := fun c => by rw [hf, List.length_map]
          have fg : ∀ c j, ∀ (h : j < rows.length), (f c)[j]? = some (atC rows[j].1 rows[j].2 c) := fun c j h => by rw [hf, List.getElem?_map, List.getElem?_eq_getElem h]; rfl
          refine ⟨ds, f c, .inl ⟨SqL.of hq2, SqL.of hW2, ?_⟩⟩
          refine st_zipL (n := rows.length) (xs := ds) (ys := f c) (by rw [hr.1, fl]; omega) (fun D j H' => K2 D = none ∧ Same K2 H' ∧ H' D = some (.lst ((f c1).take j))) (fun D H1 n s h => ⟨n, s, by rw [h]; simp⟩) (fun D j H' q => ⟨SqL.of (q.2.1 _ _ hq2), SqL.of (q.2.1 _ _ hW2)⟩) (fun D j xv yv T2 K3 K4 hx2 hy2 q t4 hT2 => ?_) (fun D K3 q => ?_)
          · obtain ⟨nD, s3, h3⟩ := q
            have jl : j < rows.length := by
              have := (List.getElem?_eq_some_iff.mp hx2).1
              rw [hr.1] at this; exact this
            obtain ⟨d, kd, epd, e, hd, vd⟩ := rw4 (H' := K4) (((sH bt).trans t2).trans (s3.trans t4)) j _ (List.getElem?_eq_getElem jl)
            rw [hx2] at e; cases e
            rw [fg c j jl] at hy2; cases hy2
            have rm : rows[j] ∈ rows := List.getElem_mem jl
            have asc := (ra _ rm).1
            have val : (valV kd c1).getD (atC rows[j].1 rows[j].2 c) = atC rows[j].1 rows[j].2 c1 := by
              rw [vd]
              cases c1 with
              | none => rw [(chg_ok asc).c]; rfl
              | some e =>
                have i1 : 1 ≤ i := by
                  cases i with
                  | zero => simp at hc1
                  | succ m => omega
                have hc := hc.resolve_left (by omega)
                have hE : E[i - 1]? = some e := by
                  obtain ⟨m, rfl⟩ : ∃ m, i = m + 1 := ⟨i - 1, by omega⟩
                  simpa using hc1
                obtain ⟨g1, g2⟩ := up_gap up hc hE
                exact run_next asc g1 fun b hb x hx q1 q2 => g2 x (allE _ rm x ⟨b, hb, hx⟩) q1 q2
            simp only [hT2, exists_and_left, tD1, rTupN, rAll, rMax2, rMin2, tSl, tPart, tNoPart, rSlLN, tYes, rLenS, rRepN, unset, tEv2, calmS, tDNew, rInDN, rIxDN, rSetDN, tDN1, tDGetN, rSorted, cx_K, Value.ref.injEq, HO.xd.injEq, lk0, tSeq, tPar3, tPar, tCons, tNil, tVar, tC, tAsg, gName, gCons, gNil, gTupN, gSub, tOp, rI, rI0, rU, tTest, rNe, rEq, rIxTN, rIxLN, rLenL, rLenT, tLstRg, tRg1, tRg2, rIntI, rIntB, rAbs, rSetLN, tTruL, tRaiseX, rIsTy, rIsOw, ixN0, ixN1, tRet, tIf, tIfS, tNext, tBreak, tCont, tDrop, tTupN, tLstN, tUn, tCB, tCall, tNot, tAnd, tOr, tB, tAndV, tOrV, tNotV, tChain, tApp, LamX.tLam, tRevLN, rCatN, rInTN, rInLN, flatV, inV, List.all_cons, List.all_nil, List.any_cons, List.any_nil, Bool.and_self, Bool.and_true, if_true, Bool.false_eq_true, if_false, tMt, tFldN, tSto, HO.ins.injEq, lkh, List.drop_zero, List.drop_succ_cons, List.drop_nil, rListS, wipe, L2.start, List.map_cons, List.map_nil, List.length_cons, List.length_nil, List.replicate, List.cons_append, List.nil_append, List.append_nil, Nat.reduceAdd, Nat.reduceSub, Nat.zero_add, List.replicate_succ, List.replicate_zero, List.getElem?_cons_zero, List.getElem?_cons_succ, List.set_cons_zero, List.set_cons_succ, Option.some.injEq, V.int.injEq, V.bl.injEq, V.ref.injEq, V.str.injEq, V.ty.injEq, List.cons.injEq, HO.tup.injEq, HO.lst.injEq, and_true, true_and, and_assoc, exists_eq_left, exists_eq_left', exists_and_left, exists_eq', atI0, atI1, atI2, atI3, Int.cast_ofNat_Int, Int.reduceToNat, scal_ii, scal_in, scal_ni, scal_nn, scal_bb, scal_ss, scal_sn, scal_ns, scal_bn, scal_nb, ite_iff, decide_eq_true_eq, decide_eq_false_iff_not, Bool.not_eq_true', Classical.not_not, ne_eq, not_false_eq_true, not_true_eq_false, forall_const, true_implies, false_implies, imp_self, sizeLine_eq, Nat.reduceLeDiff, reduceCtorEq, decide_true, decide_false]
            refine ⟨_, _, hd, kd, epd, hd, c1, rfl, _, t4 _ _ h3, (by rw [List.length_take, fl]; omega), nD, fun b o e => ?_, ?_⟩
            · rw [upd_ne (ne_of_none e nD)]; exact t4 _ _ (s3 _ _ e)
            · rw [upd_same, val, List.take_succ, fg c1 j jl]; rfl
          · obtain ⟨nD, s3, h3⟩ := q
            rw [show rows.length = (f c1).length by rw [fl], List.take_length] at h3
            have DL : D ≠ L := (ne_of_none hL2 nD).symm
            refine ⟨⟨_, s3 _ _ hL2⟩, D, rfl, _, h3, ?_⟩
            intro u3 K5 _ s5 h5'
            intro t6 K6 _ s6 h6'
            have s36 := s5.trans s6
            have s16 : Same K1 K6 := (t2.trans s3).trans s36
            have bl : bxs.length ≤ E.length + 1 := by
              have := tb.1
              rw [List.length_take, tile_len] at this
              omega
            refine ⟨_, s16 _ _ hL, by rw [sizeLine_eq.symm] at *; rw [sizeLine_eq]; omega, fun K7 p7 => ⟨D, rfl, fun b o n e => ?_, _, c1, ?_, p7.1, ?_, .inr (by simpa using hc1)⟩⟩
            · rw [p7.2 b n]; exact s16 _ _ (bt b o n e)
            · rw [p7.2 D DL]; exact s36 _ _ h3
            · have tg := tile_get (f := f) hc1 hn2
              have il : i < (tileF f none E).length := (List.getElem?_eq_some_iff.mp tg).1
              have lb : bxs.length = i := by rw [tb.1, List.length_take]; omega
              have keep : ∀ b o, (∀ ys, o ≠ .lst ys) → K6 b = some o → K7 b = some o := fun b o no e => by
                rw [p7.2 b (fun q => by subst q; rw [s16 _ _ hL] at e; exact no _ (Option.some.inj e).symm)]; exact e
              refine ⟨by rw [List.length_append, lb, List.length_take]; simp; omega, fun m b hm => ?_⟩
              rw [List.getElem?_take] at hm
              split at hm
              · rename_i hmi
                by_cases c9 : m = i
                · subst c9
                  rw [tg] at hm; cases hm
                  refine ⟨t6, u3, by rw [List.getElem?_append_right (by omega), lb, Nat.sub_self]; rfl, keep _ _ (fun _ q => by cases q) h6', keep _ _ (fun _ q => by cases q) (s6 _ _ h5')⟩
                · obtain ⟨t7, u7, e1, e2, e3⟩ := tb.2 m b (by rw [List.getElem?_take, if_pos (by omega)]; exact hm)
                  refine ⟨t7, u7, by rw [List.getElem?_append_left (by omega)]; exact e1, keep _ _ (fun _ q => by cases q) (s16 _ _ e2), keep _ _ (fun _ q => by cases q) (s16 _ _ e3)⟩
              · cases hm
        · rintro _ K1 ⟨y2, y3, Wl, y7, y8, y9, bxs, c, rfl, bt, hW, hL, tb, hc⟩
          simp only [exists_and_left, tD1, rTupN, rAll, rMax2, rMin2, tSl, tPart, tNoPart, rSlLN, tYes, rLenS, rRepN, unset, tEv2, calmS, tDNew, rInDN, rIxDN, rSetDN, tDN1, tDGetN, rSorted, cx_K, Value.ref.injEq, HO.xd.injEq, lk0, tSeq, tPar3, tPar, tCons, tNil, tVar, tC, tAsg, gName, gCons, gNil, gTupN, gSub, tOp, rI, rI0, rU, tTest, rNe, rEq, rIxTN, rIxLN, rLenL, rLenT, tLstRg, tRg1, tRg2, rIntI, rIntB, rAbs, rSetLN, tTruL, tRaiseX, rIsTy, rIsOw, ixN0, ixN1, tRet, tIf, tIfS, tNext, tBreak, tCont, tDrop, tTupN, tLstN, tUn, tCB, tCall, tNot, tAnd, tOr, tB, tAndV, tOrV, tNotV, tChain, tApp, LamX.tLam, tRevLN, rCatN, rInTN, rInLN, flatV, inV, List.all_cons, List.all_nil, List.any_cons, List.any_nil, Bool.and_self, Bool.and_true, if_true, Bool.false_eq_true, if_false, tMt, tFldN, tSto, HO.ins.injEq, lkh, List.drop_zero, List.drop_succ_cons, List.drop_nil, rListS, wipe, L2.start, List.map_cons, List.map_nil, List.length_cons, List.length_nil, List.replicate, List.cons_append, List.nil_append, List.append_nil, Nat.reduceAdd, Nat.reduceSub, Nat.zero_add, List.replicate_succ, List.replicate_zero, List.getElem?_cons_zero, List.getElem?_cons_succ, List.set_cons_zero, List.set_cons_succ, Option.some.injEq, V.int.injEq, V.bl.injEq, V.ref.injEq, V.str.injEq, V.ty.injEq, List.cons.injEq, HO.tup.injEq, HO.lst.injEq, and_true, true_and, and_assoc, exists_eq_left, exists_eq_left', exists_and_left, exists_eq', atI0, atI1, atI2, atI3, Int.cast_ofNat_Int, Int.reduceToNat, scal_ii, scal_in, scal_ni, scal_nn, scal_bb, scal_ss, scal_sn, scal_ns, scal_bn, scal_nb, ite_iff, decide_eq_true_eq, decide_eq_false_iff_not, Bool.not_eq_true', Classical.not_not, ne_eq, not_false_eq_true, not_true_eq_false, forall_const, true_implies, false_implies, imp_self, sizeLine_eq, Nat.reduceLeDiff, reduceCtorEq, decide_true, decide_false]
          rw [← tile_len (f := f) (lo := none), List.take_length, hf] at tb
          exact k L E bxs K1 nL0 (sH bt) up (by omega) allE (fun x hx => k1 x ((memE x).mp hx)) hL tb

end
end Iz
/-! k21_b -/
set_option Elab.async false
set_option linter.all false
set_option maxRecDepth 100000
set_option maxHeartbeats 4000000
namespace Iz
open PySem PySem.Spec PyProof.Rows L2
open He (ga)
open SX (S S_len)
local macro_rules | `(tactic| walk_at "wp") => `(tactic| simp only [tD1, rTupN, rAll, rMax2, rMin2, tSl, tPart, tNoPart, rSlLN, tYes, rLenS, rRepN, unset, tEv2, calmS, tDNew, rInDN, rIxDN, rSetDN, tDN1, tDGetN, rSorted, cx_K, Value.ref.injEq, HO.xd.injEq, lk0, tSeq, tPar3, tPar, tCons, tNil, tVar, tC, tAsg, gName, gCons, gNil, gTupN, gSub, tOp, rI, rI0, rU, tTest, rNe, rEq, rIxTN, rIxLN, rLenL, rLenT, tLstRg, tRg1, tRg2, rIntI, rIntB, rAbs, rSetLN, tTruL, tRaiseX, rIsTy, rIsOw, ixN0, ixN1, tRet, tIf, tIfS, tNext, tBreak, tCont, tDrop, tTupN, tLstN, tUn, tCB, tCall, tNot, tAnd, tOr, tB, tAndV, tOrV, tNotV, tChain, tApp, LamX.tLam, tRevLN, rCatN, rInTN, rInLN, flatV, inV, List.all_cons, List.all_nil, List.any_cons, List.any_nil, Bool.and_self, Bool.and_true, if_true, Bool.false_eq_true, if_false, tMt, tFldN, tSto, HO.ins.injEq, lkh, List.drop_zero, List.drop_succ_cons, List.drop_nil, rListS, wipe, L2.start, List.map_cons, List.map_nil, List.length_cons, List.length_nil, List.replicate, List.cons_append, List.nil_append, List.append_nil, Nat.reduceAdd, Nat.reduceSub, Nat.zero_add, List.replicate_succ, List.replicate_zero, List.getElem?_cons_zero, List.getElem?_cons_succ, List.set_cons_zero, List.set_cons_succ, Option.some.injEq, V.int.injEq, V.bl.injEq, V.ref.injEq, V.str.injEq, V.ty.injEq, List.cons.injEq, HO.tup.injEq, HO.lst.injEq, and_true, true_and, and_assoc, exists_eq_left, exists_eq_left', exists_and_left, exists_eq', atI0, atI1, atI2, atI3, Int.cast_ofNat_Int, Int.reduceToNat, scal_ii, scal_in, scal_ni, scal_nn, scal_bb, scal_ss, scal_sn, scal_ns, scal_bn, scal_nb, ite_iff, decide_eq_true_eq, decide_eq_false_iff_not, Bool.not_eq_true', Classical.not_not, ne_eq, not_false_eq_true, not_true_eq_false, forall_const, true_implies, false_implies, imp_self, sizeLine_eq, Nat.reduceLeDiff, reduceCtorEq, decide_true, decide_false])
section
variable {P : Program} {w : World} {K : PySem.W.Frag} {mg : Str → Option Value} {base : Heap}
/-! ### bands joined, in the program -/
/-- all but lists stays -/
def Kt (H H' : Hp) : Prop := ∀ b o, (∀ ys, o ≠ HO.lst ys) → H b = some o → H' b = some o
theorem Kt.same {H H' : Hp} (s : Same H H') : Kt H H' := fun b o _ e => s b o e
theorem Kt.trans {H H1 H2 : Hp} (x : Kt H H1) (y : Kt H1 H2) : Kt H H2 := fun b o n e => y b o n (x b o n e)
theorem Kt.put {H H' : Hp} {L : Addr} {xs ys : List V} (h : H L = some (.lst xs)) (p : Put H H' L (.lst ys)) : Kt H H' := fun b o n e => by
  rw [p.2 b (fun z => by subst z; rw [h] at e; exact n _ (Option.some.inj e).symm)]; exact e
/-- how a worth stands there -/
structure Enc (K : PySem.W.Frag) {α : Type} [DecidableEq α] (z : α) (E : Hp → V → α → Prop) (data : α → PyData) : Prop where
  keep : ∀ {H H' v a}, Kt H H' → E H v a → E H' v a
  tru : ∀ {H v a}, E H v a → ∃ k, TruV K v H k ∧ (k = false ↔ a = z)
  dp : ∀ {H v a}, E H v a → Dp K H v (data a)
  sh : ∀ a, SeqAt.shaped (data a) = true
  eqv : ∀ a b, PyData.eqv (data a) (data b) = decide (a = b)
def TBe {α : Type} (E : Hp → V → α → Prop) (H : Hp) (xs : List V) (T : List (Bd α)) : Prop := xs.length = T.length ∧ ∀ (i : Nat) (b : Bd α), T[i]? = some b → ∃ t v, xs[i]? = some (V.ref t) ∧ H t = some (.tup [ov b.1, ov b.2.1, v]) ∧ E H v b.2.2
section
variable {α : Type} [DecidableEq α] {z : α} {E : Hp → V → α → Prop} {data : α → PyData}
theorem TBe.keep (N : Enc K z E data) {H H' : Hp} {xs : List V} {T : List (Bd α)} (h : TBe E H xs T) (k : Kt H H') : TBe E H' xs T :=
  ⟨h.1, fun i b hi => let ⟨t, v, e1, e2, e3⟩ := h.2 i b hi; ⟨t, v, e1, k _ _ (fun _ q => by cases q) e2, N.keep k e3⟩⟩
theorem TBe.snoc {H : Hp} {xs : List V} {T : List (Bd α)} {b : Bd α} {t : Addr} {v : V} (h : TBe E H xs T) (e : H t = some (.tup [ov b.1, ov b.2.1, v])) (g : E H v b.2.2) : TBe E H (xs ++ [.ref t]) (T ++ [b]) := by
  refine ⟨by rw [List.length_append, List.length_append, h.1]; rfl, fun i c hi => ?_⟩
  by_cases l : i < T.length
  · rw [List.getElem?_append_left l] at hi
    obtain ⟨t', v', e1, e2, e3⟩ := h.2 i c hi
    exact ⟨t', v', by rw [List.getElem?_append_left (by rw [h.1]; exact l)]; exact e1, e2, e3⟩
  · rw [List.getElem?_append_right (by omega)] at hi
    have i0 : i = T.length := by
      have := (List.getElem?_eq_some_iff.mp hi).1
      simp at this; omega
    subst i0
    rw [Nat.sub_self] at hi
    cases hi
    exact ⟨t, v, by rw [List.getElem?_append_right (by rw [h.1]; exact Nat.le_refl _), h.1, Nat.sub_self]; rfl, e, g⟩
theorem TBe.init {H : Hp} {xs : List V} {T : List (Bd α)} {b : Bd α} (h : TBe E H xs (T ++ [b])) : ∃ ys t v, xs = ys ++ [.ref t] ∧ TBe E H ys T ∧ H t = some (.tup [ov b.1, ov b.2.1, v]) ∧ E H v b.2.2 := by
  have l := h.1
  rw [List.length_append, List.length_singleton] at l
  rcases List.eq_nil_or_concat xs with rfl | ⟨ys, y, rfl⟩
  · simp at l
  · rw [List.concat_eq_append] at *
    rw [List.length_append, List.length_singleton] at l
    have ly : ys.length = T.length := by omega
    obtain ⟨t, v, e1, e2, e3⟩ := h.2 T.length b (by rw [List.getElem?_append_right (Nat.le_refl _), Nat.sub_self]; rfl)
    rw [List.getElem?_append_right (by omega), ly, Nat.sub_self] at e1
    cases e1
    refine ⟨ys, t, v, rfl, ⟨ly, fun i c hi => ?_⟩, e2, e3⟩
    have il := (List.getElem?_eq_some_iff.mp hi).1
    obtain ⟨t', v', e1, e4, e5⟩ := h.2 i c (by rw [List.getElem?_append_left il]; exact hi)
    rw [List.getElem?_append_left (by omega)] at e1
    exact ⟨t', v', e1, e4, e5⟩
end
def spJoin (K : PySem.W.Frag) : Sp := fun vs H Q _ => ∃ q, vs = [.ref q] ∧ ∃ (α : Type) (de : DecidableEq α) (z : α) (E : Hp → V → α → Prop) (data : α → PyData), @Enc K α de z E data ∧ ∃ xs T, H q = some (.lst xs) ∧ TBe E H xs T ∧ T.length ≤ 1000000 ∧
  ∀ L ys H', H L = none → Same H H' → H' L = some (.lst ys) → TBe E H' ys (@joinB α de z T) → Q (.ref L) H'
theorem o__joined_bands (T : Txt K mg) : OkF P w K mg base CX0 1 "_joined_bands" ["bands"] (spJoin K) := by
  obtain ⟨f, fd, g, F⟩ := T.d__joined_bands
  refine ⟨f, fd, g, F.kp, F.binds (fun _ _ _ _ _ _ us hl => match us, hl with | [_], _ => rfl), F.ok sc__joined_bands (fun vs H Q E h => ?_) (fun cdv A outer s H vs Q E hr h => ?_)⟩
  · first | (obtain ⟨_, rfl, _⟩ := h; rfl) | (obtain ⟨rfl, _⟩ := h; rfl) | (obtain ⟨_, _, rfl, _⟩ := h; rfl) | (obtain ⟨_, _, _, rfl, _⟩ := h; rfl) | (obtain ⟨_, _, _, _, rfl, _⟩ := h; rfl) | (obtain ⟨_, _, _, _, _, rfl, _⟩ := h; rfl) | (obtain ⟨_, _, _, _, _, _, rfl, _⟩ := h; rfl) | (obtain ⟨_, _, _, _, _, _, _, rfl, _⟩ := h; rfl)
  have hu64 := hr.units
  refine ⟨_, pss_cons (ps_set (i := 1) sc__joined_bands.nd rfl (Or.inl rfl) (pe_lstN (pa_nil)))
      (pss_cons (ps_for PassesOwn.never rfl (pi_list (pv 0)) (pg_tupN (n := 3) (by rfl) (pgs_cons (pg_name (i := 2) sc__joined_bands.nd rfl (Or.inl rfl)) (pgs_cons (pg_name (i := 3) sc__joined_bands.nd rfl (Or.inl rfl)) (pgs_cons (pg_name (i := 4) sc__joined_bands.nd rfl (Or.inl rfl)) pgs_nil)))) (pss_cons (ps_if (pt_not (pt_truth (pv 4) (by intro _; rfl))) (pss_one (ps_continue)) (pss_nil))
      (pss_one (ps_if (PW.pt (pw_and (pt_truL (pv 1)) (pw_and (pt_cmpR op_eq (pe_ix ix_tupN (pe_ix ix_listN (pv 1) (pe_un un_neg (pe_int)) (fun _ _ => rfl)) (pe_int) (fun _ _ => rfl)) (pv 2) (nomark _)) (pw_and1 (pt_cmpR (op_eqDk (K := K) rfl hu64) (pe_ix ix_tupN (pe_ix ix_listN (pv 1) (pe_un un_neg (pe_int)) (fun _ _ => rfl)) (pe_int) (fun _ _ => rfl)) (pv 4) (nomark _)))))) (pss_cons (ps_set (i := 5) sc__joined_bands.nd rfl (Or.inl rfl) (pe_ix ix_tupN (pe_popN (pv 1)) (pe_int) (fun _ _ => rfl)))
      (pss_one (ps_expr (pe_appN (pv 1) (pa_cons (pe_tupN (pa_cons (pv 5) (pa_cons (pv 3) (pa_cons (pv 4) pa_nil)))) pa_nil))))) (pss_one (ps_expr (pe_appN (pv 1) (pa_cons (pe_tupN (pa_cons (pv 2) (pa_cons (pv 3) (pa_cons (pv 4) pa_nil)))) pa_nil))))))))
      (pss_one (ps_ret (pv 1)))), ?_⟩
  obtain ⟨q, rfl, α, de, z, Ec, data, N, xs, T', hq, tb, big, k⟩ := h
  simp only [exists_and_left, tD1, rTupN, rAll, rMax2, rMin2, tSl, tPart, tNoPart, rSlLN, tYes, rLenS, rRepN, unset, tEv2, calmS, tDNew, rInDN, rIxDN, rSetDN, tDN1, tDGetN, rSorted, cx_K, Value.ref.injEq, HO.xd.injEq, lk0, tSeq, tPar3, tPar, tCons, tNil, tVar, tC, tAsg, gName, gCons, gNil, gTupN, gSub, tOp, rI, rI0, rU, tTest, rNe, rEq, rIxTN, rIxLN, rLenL, rLenT, tLstRg, tRg1, tRg2, rIntI, rIntB, rAbs, rSetLN, tTruL, tRaiseX, rIsTy, rIsOw, ixN0, ixN1, tRet, tIf, tIfS, tNext, tBreak, tCont, tDrop, tTupN, tLstN, tUn, tCB, tCall, tNot, tAnd, tOr, tB, tAndV, tOrV, tNotV, tChain, tApp, LamX.tLam, tRevLN, rCatN, rInTN, rInLN, flatV, inV, List.all_cons, List.all_nil, List.any_cons, List.any_nil, Bool.and_self, Bool.and_true, if_true, Bool.false_eq_true, if_false, tMt, tFldN, tSto, HO.ins.injEq, lkh, List.drop_zero, List.drop_succ_cons, List.drop_nil, rListS, wipe, L2.start, List.map_cons, List.map_nil, List.length_cons, List.length_nil, List.replicate, List.cons_append, List.nil_append, List.append_nil, Nat.reduceAdd, Nat.reduceSub, Nat.zero_add, List.replicate_succ, List.replicate_zero, List.getElem?_cons_zero, List.getElem?_cons_succ, List.set_cons_zero, List.set_cons_succ, Option.some.injEq, V.int.injEq, V.bl.injEq, V.ref.injEq, V.str.injEq, V.ty.injEq, List.cons.injEq, HO.tup.injEq, HO.lst.injEq, and_true, true_and, and_assoc, exists_eq_left, exists_eq_left', exists_and_left, exists_eq', atI0, atI1, atI2, atI3, Int.cast_ofNat_Int, Int.reduceToNat, scal_ii, scal_in, scal_ni, scal_nn, scal_bb, scal_ss, scal_sn, scal_ns, scal_bn, scal_nb, ite_iff, decide_eq_true_eq, decide_eq_false_iff_not, Bool.not_eq_true', Classical.not_not, ne_eq, not_false_eq_true, not_true_eq_false, forall_const, true_implies, false_implies, imp_self, sizeLine_eq, Nat.reduceLeDiff, reduceCtorEq, decide_true, decide_false]
  intro L H1 n1 s1 h1
  have qL : q ≠ L := ne_of_none hq n1
  refine st_forL (fun R r => (by simp only [exists_and_left, tD1, rTupN, rAll, rMax2, rMin2, tSl, tPart, tNoPart, rSlLN, tYes, rLenS, rRepN, unset, tEv2, calmS, tDNew, rInDN, rIxDN, rSetDN, tDN1, tDGetN, rSorted, cx_K, Value.ref.injEq, HO.xd.injEq, lk0, tSeq, tPar3, tPar, tCons, tNil, tVar, tC, tAsg, gName, gCons, gNil, gTupN, gSub, tOp, rI, rI0, rU, tTest, rNe, rEq, rIxTN, rIxLN, rLenL, rLenT, tLstRg, tRg1, tRg2, rIntI, rIntB, rAbs, rSetLN, tTruL, tRaiseX, rIsTy, rIsOw, ixN0, ixN1, tRet, tIf, tIfS, tNext, tBreak, tCont, tDrop, tTupN, tLstN, tUn, tCB, tCall, tNot, tAnd, tOr, tB, tAndV, tOrV, tNotV, tChain, tApp, LamX.tLam, tRevLN, rCatN, rInTN, rInLN, flatV, inV, List.all_cons, List.all_nil, List.any_cons, List.any_nil, Bool.and_self, Bool.and_true, if_true, Bool.false_eq_true, if_false, tMt, tFldN, tSto, HO.ins.injEq, lkh, List.drop_zero, List.drop_succ_cons, List.drop_nil, rListS, wipe, L2.start, List.map_cons, List.map_nil, List.length_cons, List.length_nil, List.replicate, List.cons_append, List.nil_append, List.append_nil, Nat.reduceAdd, Nat.reduceSub, Nat.zero_add, List.replicate_succ, List.replicate_zero, List.getElem?_cons_zero, List.getElem?_cons_succ, List.set_cons_zero, List.set_cons_succ, Option.some.injEq, V.int.injEq, V.bl.injEq, V.ref.injEq, V.str.injEq, V.ty.injEq, List.cons.injEq, HO.tup.injEq, HO.lst.injEq, and_true, true_and, and_assoc, exists_eq_left, exists_eq_left', exists_and_left, exists_eq', atI0, atI1, atI2, atI3, Int.cast_ofNat_Int, Int.reduceToNat, scal_ii, scal_in, scal_ni, scal_nn, scal_bb, scal_ss, scal_sn, scal_ns, scal_bn, scal_nb, ite_iff, decide_eq_true_eq, decide_eq_false_iff_not, Bool.not_eq_true', Classical.not_not, ne_eq, not_false_eq_true, not_true_eq_false, forall_const, true_implies, false_implies, imp_self, sizeLine_eq, Nat.reduceLeDiff, reduceCtorEq, decide_true, decide_false]; exact r)) (s1 _ _ hq) (fun i σ' H' => ∃ x2 x3 x4 x5 ys, σ' = [some (V.ref q), some (V.ref L), x2, x3, x4, x5] ∧ But L H1 H' ∧ Kt H1 H' ∧ H' L = some (.lst ys) ∧ TBe Ec H' ys ((T'.take i).foldl (stepJ z) []) ∧ ys.length ≤ i)
    ⟨_, _, _, _, [], rfl, fun _ _ _ h => h, fun _ _ _ h => h, h1, ⟨rfl, fun i b h => (by simp at h)⟩, Nat.le_refl _⟩ (fun i σ' H' h => by obtain ⟨_, _, _, _, _, _, bt, _⟩ := h; exact bt _ _ qL (s1 _ _ hq)) ?_ ?_
  · rintro i x _ H2 hi ⟨x2, x3, x4, x5, ys, rfl, bt, kt, h2, ty, ly⟩
    have il : i < T'.length := by
      have := (List.getElem?_eq_some_iff.mp hi).1
      rw [tb.1] at this; exact this
    have hTi := List.getElem?_eq_getElem il
    obtain ⟨t, v, e1, e2, e3⟩ := tb.2 i _ hTi
    rw [hi] at e1; cases e1
    have kt2 : Kt H H2 := (Kt.same s1).trans kt
    have ht := kt2 _ _ (fun _ q => by cases q) e2
    have ev := N.keep kt2 e3
    have st : (T'.take (i + 1)).foldl (stepJ z) [] = stepJ z ((T'.take i).foldl (stepJ z) []) T'[i] := by
      rw [List.take_succ, hTi, Option.toList_some, List.foldl_append]; rfl
    generalize hacc : (T'.take i).foldl (stepJ z) [] = acc at *
    obtain ⟨kk, tr, ktr⟩ := N.tru ev
    simp only [ht, exists_and_left, tD1, rTupN, rAll, rMax2, rMin2, tSl, tPart, tNoPart, rSlLN, tYes, rLenS, rRepN, unset, tEv2, calmS, tDNew, rInDN, rIxDN, rSetDN, tDN1, tDGetN, rSorted, cx_K, Value.ref.injEq, HO.xd.injEq, lk0, tSeq, tPar3, tPar, tCons, tNil, tVar, tC, tAsg, gName, gCons, gNil, gTupN, gSub, tOp, rI, rI0, rU, tTest, rNe, rEq, rIxTN, rIxLN, rLenL, rLenT, tLstRg, tRg1, tRg2, rIntI, rIntB, rAbs, rSetLN, tTruL, tRaiseX, rIsTy, rIsOw, ixN0, ixN1, tRet, tIf, tIfS, tNext, tBreak, tCont, tDrop, tTupN, tLstN, tUn, tCB, tCall, tNot, tAnd, tOr, tB, tAndV, tOrV, tNotV, tChain, tApp, LamX.tLam, tRevLN, rCatN, rInTN, rInLN, flatV, inV, List.all_cons, List.all_nil, List.any_cons, List.any_nil, Bool.and_self, Bool.and_true, if_true, Bool.false_eq_true, if_false, tMt, tFldN, tSto, HO.ins.injEq, lkh, List.drop_zero, List.drop_succ_cons, List.drop_nil, rListS, wipe, L2.start, List.map_cons, List.map_nil, List.length_cons, List.length_nil, List.replicate, List.cons_append, List.nil_append, List.append_nil, Nat.reduceAdd, Nat.reduceSub, Nat.zero_add, List.replicate_succ, List.replicate_zero, List.getElem?_cons_zero, List.getElem?_cons_succ, List.set_cons_zero, List.set_cons_succ, Option.some.injEq, V.int.injEq, V.bl.injEq, V.ref.injEq, V.str.injEq, V.ty.injEq, List.cons.injEq, HO.tup.injEq, HO.lst.injEq, and_true, true_and, and_assoc, exists_eq_left, exists_eq_left', exists_and_left, exists_eq', atI0, atI1, atI2, atI3, Int.cast_ofNat_Int, Int.reduceToNat, scal_ii, scal_in, scal_ni, scal_nn, scal_bb, scal_ss, scal_sn, scal_ns, scal_bn, scal_nb, ite_iff, decide_eq_true_eq, decide_eq_false_iff_not, Bool.not_eq_true', Classical.not_not, ne_eq, not_false_eq_true, not_true_eq_false, forall_const, true_implies, false_implies, imp_self, sizeLine_eq, Nat.reduceLeDiff, reduceCtorEq, decide_true, decide_false]
    have appd : stepJ z acc T'[i] = acc ++ [T'[i]] → (∃ xs, H2 L = some (.lst xs)) ∧ News H2 (.tup [ov T'[i].1, ov T'[i].2.1, v]) fun x G1 => ∃ zs, G1 L = some (.lst zs) ∧ zs.length < 16777216 ∧ ∀ G3, Put G1 G3 L (.lst (zs ++ [x])) →
        But L H1 G3 ∧ Kt H1 G3 ∧ ∃ us, G3 L = some (.lst us) ∧ TBe Ec G3 us ((T'.take (i + 1)).foldl (stepJ z) []) ∧ us.length ≤ i + 1 := fun e => by
      refine ⟨⟨_, h2⟩, ?_⟩
      intro t6 G1 n6 s6 h6
      refine ⟨_, s6 _ _ h2, by omega, fun G3 p3 => ?_⟩
      have k23 : Kt H2 G3 := (Kt.same s6).trans (Kt.put (s6 _ _ h2) p3)
      refine ⟨fun c o n e => by rw [p3.2 c n]; exact s6 _ _ (bt c o n e), kt.trans k23, _, p3.1, ?_, by rw [List.length_append]; simp; omega⟩
      rw [st, e]
      exact (ty.keep N k23).snoc ((Kt.put (s6 _ _ h2) p3) _ _ (fun _ q => by cases q) h6) (N.keep k23 ev)
    have wz : kk = false ↔ T'[i].2.2 = z := ktr
    refine ⟨kk, tr, fun ek => ?_, fun ek => ⟨_, h2, fun ne => ?_, fun em => appd ?_⟩⟩
    · refine ⟨bt, kt, _, h2, ?_, by omega⟩
      rw [st]; unfold stepJ; rw [if_pos (wz.mp ek)]; exact ty
    · have w1 : ¬ T'[i].2.2 = z := fun q => ek (wz.mpr q)
      have an : acc ≠ [] := fun q => by
        have l := ty.1
        rw [q] at l
        have : ys = [] := List.eq_nil_of_length_eq_zero l
        rw [this] at ne; cases ne
      rcases List.eq_nil_or_concat acc with q | ⟨acc', c, q⟩
      · exact absurd q an
      rw [List.concat_eq_append] at q
      subst q
      obtain ⟨ys', t', v', rfl, ty', e2', e3'⟩ := ty.init
      have last : atI (ys' ++ [V.ref t']) (-1) = some (V.ref t') := atI_end
      have gl : (acc' ++ [c]).getLast? = some c := by simp
      have ovi : ∀ a b : Option Int, ov a = ov b ↔ a = b := fun a b => by cases a <;> cases b <;> simp [ov]
      refine ⟨_, h2, _, last, t', rfl, _, e2', _, atI1, by cases c.2.1 <;> cases T'[i].1 <;> rfl, fun he => ⟨_, h2, _, last, t', rfl, _, e2', _, atI2, ?_⟩, fun hn => appd ?_⟩
      · refine ⟨_, _, N.dp e3', N.dp ev, N.sh _, N.sh _, ?_⟩
        rw [N.eqv]
        refine ⟨_, rfl, fun ec => ?_, fun en => appd ?_⟩
        · have ec : c.2.2 = T'[i].2.2 := of_decide_eq_true ec
          have stp : stepJ z (acc' ++ [c]) T'[i] = acc' ++ [(c.1, T'[i].2.1, T'[i].2.2)] := by
            unfold stepJ; rw [if_neg w1, gl]
            simp only
            rw [if_pos ⟨(ovi _ _).mp he, ec⟩, List.dropLast_concat]
          simp only [tPop, exists_and_left, tD1, rTupN, rAll, rMax2, rMin2, tSl, tPart, tNoPart, rSlLN, tYes, rLenS, rRepN, unset, tEv2, calmS, tDNew, rInDN, rIxDN, rSetDN, tDN1, tDGetN, rSorted, cx_K, Value.ref.injEq, HO.xd.injEq, lk0, tSeq, tPar3, tPar, tCons, tNil, tVar, tC, tAsg, gName, gCons, gNil, gTupN, gSub, tOp, rI, rI0, rU, tTest, rNe, rEq, rIxTN, rIxLN, rLenL, rLenT, tLstRg, tRg1, tRg2, rIntI, rIntB, rAbs, rSetLN, tTruL, tRaiseX, rIsTy, rIsOw, ixN0, ixN1, tRet, tIf, tIfS, tNext, tBreak, tCont, tDrop, tTupN, tLstN, tUn, tCB, tCall, tNot, tAnd, tOr, tB, tAndV, tOrV, tNotV, tChain, tApp, LamX.tLam, tRevLN, rCatN, rInTN, rInLN, flatV, inV, List.all_cons, List.all_nil, List.any_cons, List.any_nil, Bool.and_self, Bool.and_true, if_true, Bool.false_eq_true, if_false, tMt, tFldN, tSto, HO.ins.injEq, lkh, List.drop_zero, List.drop_succ_cons, List.drop_nil, rListS, wipe, L2.start, List.map_cons, List.map_nil, List.length_cons, List.length_nil, List.replicate, List.cons_append, List.nil_append, List.append_nil, Nat.reduceAdd, Nat.reduceSub, Nat.zero_add, List.replicate_succ, List.replicate_zero, List.getElem?_cons_zero, List.getElem?_cons_succ, List.set_cons_zero, List.set_cons_succ, Option.some.injEq, V.int.injEq, V.bl.injEq, V.ref.injEq, V.str.injEq, V.ty.injEq, List.cons.injEq, HO.tup.injEq, HO.lst.injEq, and_true, true_and, and_assoc, exists_eq_left, exists_eq_left', exists_and_left, exists_eq', atI0, atI1, atI2, atI3, Int.cast_ofNat_Int, Int.reduceToNat, scal_ii, scal_in, scal_ni, scal_nn, scal_bb, scal_ss, scal_sn, scal_ns, scal_bn, scal_nb, ite_iff, decide_eq_true_eq, decide_eq_false_iff_not, Bool.not_eq_true', Classical.not_not, ne_eq, not_false_eq_true, not_true_eq_false, forall_const, true_implies, false_implies, imp_self, sizeLine_eq, Nat.reduceLeDiff, reduceCtorEq, decide_true, decide_false]
          refine ⟨ys', V.ref t', h2, fun H3 p3 => ?_⟩
          have k3 : Kt H2 H3 := Kt.put h2 p3
          refine ⟨t', rfl, _, k3 _ _ (fun _ q => by cases q) e2', _, atI0, ⟨_, p3.1⟩, ?_⟩
          intro t6 G1 n6 s6 h6
          refine ⟨_, s6 _ _ p3.1, by rw [List.length_append] at ly; omega, fun G3 p4 => ?_⟩
          have k4 : Kt G1 G3 := Kt.put (s6 _ _ p3.1) p4
          have k24 : Kt H2 G3 := k3.trans ((Kt.same s6).trans k4)
          refine ⟨fun b o n e => by rw [p4.2 b n]; exact s6 _ _ (by rw [p3.2 b n]; exact bt b o n e), kt.trans k24, _, p4.1, ?_, by rw [List.length_append] at ly ⊢; simp at ly ⊢; omega⟩
          rw [st, stp]
          exact (ty'.keep N k24).snoc (b := (c.1, T'[i].2.1, T'[i].2.2)) (k4 _ _ (fun _ q => by cases q) h6) (N.keep k24 ev)
        · unfold stepJ; rw [if_neg w1, gl]
          simp only
          rw [if_neg (fun q => en (decide_eq_true q.2))]
      · unfold stepJ; rw [if_neg w1, gl]
        simp only
        rw [if_neg (fun q => hn (by rw [q.1]))]
    · have w1 : ¬ T'[i].2.2 = z := fun q => ek (wz.mpr q)
      have yn : ys = [] := by
        cases ys with
        | nil => rfl
        | cons a b => exact absurd rfl em
      have an : acc = [] := by
        have l := ty.1
        rw [yn] at l
        exact List.eq_nil_of_length_eq_zero l.symm
      subst an
      unfold stepJ; rw [if_neg w1]; rfl
  · rintro _ H2 ⟨x2, x3, x4, x5, ys, rfl, bt, kt, h2, ty, ly⟩
    simp only [exists_and_left, tD1, rTupN, rAll, rMax2, rMin2, tSl, tPart, tNoPart, rSlLN, tYes, rLenS, rRepN, unset, tEv2, calmS, tDNew, rInDN, rIxDN, rSetDN, tDN1, tDGetN, rSorted, cx_K, Value.ref.injEq, HO.xd.injEq, lk0, tSeq, tPar3, tPar, tCons, tNil, tVar, tC, tAsg, gName, gCons, gNil, gTupN, gSub, tOp, rI, rI0, rU, tTest, rNe, rEq, rIxTN, rIxLN, rLenL, rLenT, tLstRg, tRg1, tRg2, rIntI, rIntB, rAbs, rSetLN, tTruL, tRaiseX, rIsTy, rIsOw, ixN0, ixN1, tRet, tIf, tIfS, tNext, tBreak, tCont, tDrop, tTupN, tLstN, tUn, tCB, tCall, tNot, tAnd, tOr, tB, tAndV, tOrV, tNotV, tChain, tApp, LamX.tLam, tRevLN, rCatN, rInTN, rInLN, flatV, inV, List.all_cons, List.all_nil, List.any_cons, List.any_nil, Bool.and_self, Bool.and_true, if_true, Bool.false_eq_true, if_false, tMt, tFldN, tSto, HO.ins.injEq, lkh, List.drop_zero, List.drop_succ_cons, List.drop_nil, rListS, wipe, L2.start, List.map_cons, List.map_nil, List.length_cons, List.length_nil, List.replicate, List.cons_append, List.nil_append, List.append_nil, Nat.reduceAdd, Nat.reduceSub, Nat.zero_add, List.replicate_succ, List.replicate_zero, List.getElem?_cons_zero, List.getElem?_cons_succ, List.set_cons_zero, List.set_cons_succ, Option.some.injEq, V.int.injEq, V.bl.injEq, V.ref.injEq, V.str.injEq, V.ty.injEq, List.cons.injEq, HO.tup.injEq, HO.lst.injEq, and_true, true_and, and_assoc, exists_eq_left, exists_eq_left', exists_and_left, exists_eq', atI0, atI1, atI2, atI3, Int.cast_ofNat_Int, Int.reduceToNat, scal_ii, scal_in, scal_ni, scal_nn, scal_bb, scal_ss, scal_sn, scal_ns, scal_bn, scal_nb, ite_iff, decide_eq_true_eq, decide_eq_false_iff_not, Bool.not_eq_true', Classical.not_not, ne_eq, not_false_eq_true, not_true_eq_false, forall_const, true_implies, false_implies, imp_self, sizeLine_eq, Nat.reduceLeDiff, reduceCtorEq, decide_true, decide_false]
    rw [tb.1, List.take_length] at ty
    exact k L ys H2 n1 (fun c o e => bt c o (ne_of_none e n1) (s1 _ _ e)) h2 ty

end
end Iz
/-! k21_c -/
set_option Elab.async false
set_option linter.all false
set_option maxRecDepth 100000
set_option maxHeartbeats 4000000
namespace Iz
open PySem PySem.Spec PyProof.Rows L2
open He (ga)
open SX (S S_len)
local macro_rules | `(tactic| walk_at "wp") => `(tactic| simp only [tD1, rTupN, rAll, rMax2, rMin2, tSl, tPart, tNoPart, rSlLN, tYes, rLenS, rRepN, unset, tEv2, calmS, tDNew, rInDN, rIxDN, rSetDN, tDN1, tDGetN, rSorted, cx_K, Value.ref.injEq, HO.xd.injEq, lk0, tSeq, tPar3, tPar, tCons, tNil, tVar, tC, tAsg, gName, gCons, gNil, gTupN, gSub, tOp, rI, rI0, rU, tTest, rNe, rEq, rIxTN, rIxLN, rLenL, rLenT, tLstRg, tRg1, tRg2, rIntI, rIntB, rAbs, rSetLN, tTruL, tRaiseX, rIsTy, rIsOw, ixN0, ixN1, tRet, tIf, tIfS, tNext, tBreak, tCont, tDrop, tTupN, tLstN, tUn, tCB, tCall, tNot, tAnd, tOr, tB, tAndV, tOrV, tNotV, tChain, tApp, LamX.tLam, tRevLN, rCatN, rInTN, rInLN, flatV, inV, List.all_cons, List.all_nil, List.any_cons, List.any_nil, Bool.and_self, Bool.and_true, if_true, Bool.false_eq_true, if_false, tMt, tFldN, tSto, HO.ins.injEq, lkh, List.drop_zero, List.drop_succ_cons, List.drop_nil, rListS, wipe, L2.start, List.map_cons, List.map_nil, List.length_cons, List.length_nil, List.replicate, List.cons_append, List.nil_append, List.append_nil, Nat.reduceAdd, Nat.reduceSub, Nat.zero_add, List.replicate_succ, List.replicate_zero, List.getElem?_cons_zero, List.getElem?_cons_succ, List.set_cons_zero, List.set_cons_succ, Option.some.injEq, V.int.injEq, V.bl.injEq, V.ref.injEq, V.str.injEq, V.ty.injEq, List.cons.injEq, HO.tup.injEq, HO.lst.injEq, and_true, true_and, and_assoc, exists_eq_left, exists_eq_left', exists_and_left, exists_eq', atI0, atI1, atI2, atI3, Int.cast_ofNat_Int, Int.reduceToNat, scal_ii, scal_in, scal_ni, scal_nn, scal_bb, scal_ss, scal_sn, scal_ns, scal_bn, scal_nb, ite_iff, decide_eq_true_eq, decide_eq_false_iff_not, Bool.not_eq_true', Classical.not_not, ne_eq, not_false_eq_true, not_true_eq_false, forall_const, true_implies, false_implies, imp_self, sizeLine_eq, Nat.reduceLeDiff, reduceCtorEq, decide_true, decide_false])
section
variable {P : Program} {w : World} {K : PySem.W.Frag} {mg : Str → Option Value} {base : Heap}
/-! ### rows and slabs put together -/
def StAt (H : Hp) (xs : List V) (R : List (Option Int × Option Int)) : Prop := xs.length = R.length ∧ ∀ (i : Nat) (p : Option Int × Option Int), R[i]? = some p → ∃ t, xs[i]? = some (V.ref t) ∧ H t = some (.tup [ov p.1, ov p.2])
theorem st_lcTG {K : PySem.W.Frag} {tl : TE} {g : TG} {tt : TT} {te : TE} {vs : List Nat} {σ : L2.St} {H : Hp} {Q : VK} {a : Addr} {xs : List V} (ha : ∀ R : V → Hp → Prop, R (.ref a) H → tl σ H R) (hx : SqT K H a xs) (Pv : Addr → Nat → Hp → Prop)
    (h0 : ∀ D H1, H D = none → Same H H1 → H1 D = some (.lst []) → Pv D 0 H1) (hl : ∀ D i H, Pv D i H → SqT K H a xs)
    (hs : ∀ D i x H, xs[i]? = some x → Pv D i H → g x (wipe σ vs) H fun σ2 H2 => wipe σ2 vs = wipe σ vs ∧ tt σ2 H2 fun b H3 => if b = true then te σ2 H3 fun y H4 => ∃ acc, H4 D = some (.lst acc) ∧ acc.length < sizeLine ∧ Pv D (i + 1) (upd H4 D (.lst (acc ++ [y]))) else Pv D (i + 1) H3)
    (hd : ∀ D H, Pv D xs.length H → Q (.ref D) H) : tLc (iTup K tl) g tt te vs σ H Q :=
  ha _ ⟨a, rfl, ⟨xs, hx⟩, fun D hD => lc_tup (Pv D) (h0 D _ hD (Same.upd hD) upd_same) (fun i H _ p => hl D i H p) (hs D) (hd D)⟩
theorem BsAt.keep {H H' : Hp} {xs : List V} {bs : List (Bd V)} (h : BsAt H xs bs) (k : Kt H H') : BsAt H' xs bs := ⟨h.1, fun i b hi => let ⟨t, e1, e2⟩ := h.2 i b hi; ⟨t, e1, k _ _ (fun _ q => by cases q) e2⟩⟩
theorem BsAt.snoc {H : Hp} {xs : List V} {T : List (Bd V)} {b : Bd V} {t : Addr} (h : BsAt H xs T) (e : H t = some (.tup [ov b.1, ov b.2.1, b.2.2])) : BsAt H (xs ++ [.ref t]) (T ++ [b]) := by
  refine ⟨by rw [List.length_append, List.length_append, h.1]; rfl, fun i c hi => ?_⟩
  by_cases l : i < T.length
  · rw [List.getElem?_append_left l] at hi
    obtain ⟨t', e1, e2⟩ := h.2 i c hi
    exact ⟨t', by rw [List.getElem?_append_left (by rw [h.1]; exact l)]; exact e1, e2⟩
  · rw [List.getElem?_append_right (by omega)] at hi
    have i0 : i = T.length := by
      have := (List.getElem?_eq_some_iff.mp hi).1
      simp at this; omega
    subst i0
    rw [Nat.sub_self] at hi
    cases hi
    exact ⟨t, by rw [List.getElem?_append_right (by rw [h.1]; exact Nat.le_refl _), h.1, Nat.sub_self]; rfl, e⟩
theorem Kt.upd {H : Hp} {D : Addr} {xs ys : List V} (h : H D = some (.lst xs)) : Kt H (upd H D (.lst ys)) := Kt.put h ⟨upd_same, fun b n => upd_ne n⟩
def rowB (R : List (Option Int × Option Int)) : List (Bd V) := R.map fun p => (p.1, p.2, V.bl true)
def spStCh (K : PySem.W.Frag) (P : Program) (w : World) : Sp := fun vs H Q _ => ∃ q, vs = [.ref q] ∧ ∃ xs R, SqT K H q xs ∧ StAt H xs R ∧ R.length ≤ 1000 ∧ ∀ d H', Same H H' → ChD P w H' d (.bl false) (rowB R) → Q (.ref d) H'
theorem o_stretch_changes (T : Txt K mg) : OkF P w K mg base CX0 2 "stretch_changes" ["stretches"] (spStCh K P w) := by
  have o__changes := o__changes (P := P) (w := w) (base := base) T
  obtain ⟨f, fd, g, F⟩ := T.d_stretch_changes
  refine ⟨f, fd, g, F.kp, F.binds (fun _ _ _ _ _ _ us hl => match us, hl with | [_], _ => rfl), F.ok sc_stretch_changes (fun vs H Q E h => ?_) (fun cdv A outer s H vs Q E hr h => ?_)⟩
  · first | (obtain ⟨_, rfl, _⟩ := h; rfl) | (obtain ⟨rfl, _⟩ := h; rfl) | (obtain ⟨_, _, rfl, _⟩ := h; rfl) | (obtain ⟨_, _, _, rfl, _⟩ := h; rfl) | (obtain ⟨_, _, _, _, rfl, _⟩ := h; rfl) | (obtain ⟨_, _, _, _, _, rfl, _⟩ := h; rfl) | (obtain ⟨_, _, _, _, _, _, rfl, _⟩ := h; rfl) | (obtain ⟨_, _, _, _, _, _, _, rfl, _⟩ := h; rfl)
  have hu64 := hr.units
  refine ⟨_, pss_one (ps_ret (pcl o__changes (hr.mono (by decide)) pass0 (pa_cons (pe_lc (own := [("low", 1), ("high", 2)]) (by rfl) sc_stretch_changes.nd (pi_tup (pv 0)) (blkOk_by (N := ["stretches", "low", "high"]) (sc := defScope s_stretch_changes) (own := [("low", 1), ("high", 2)]) (by decide +kernel)) (fun _ _ _ _ _ => pg_tupN (n := 2) (by rfl) (pgs_cons (pg_name (i := 1) sc_stretch_changes.nd rfl (Or.inl rfl)) (pgs_cons (pg_name (i := 2) sc_stretch_changes.nd rfl (Or.inl rfl)) pgs_nil))) (fun _ _ _ _ _ => pts_nil) (fun _ _ _ _ _ => pe_tupN (pa_cons (pv 1) (pa_cons (pv 2) (pa_cons (pe_bl) pa_nil))))) (pa_cons (pe_bl) pa_nil)))), ?_⟩
  obtain ⟨q, rfl, xs, R, hx, hb, big, k⟩ := h
  simp only [exists_and_left, tD1, rTupN, rAll, rMax2, rMin2, tSl, tPart, tNoPart, rSlLN, tYes, rLenS, rRepN, unset, tEv2, calmS, tDNew, rInDN, rIxDN, rSetDN, tDN1, tDGetN, rSorted, cx_K, Value.ref.injEq, HO.xd.injEq, lk0, tSeq, tPar3, tPar, tCons, tNil, tVar, tC, tAsg, gName, gCons, gNil, gTupN, gSub, tOp, rI, rI0, rU, tTest, rNe, rEq, rIxTN, rIxLN, rLenL, rLenT, tLstRg, tRg1, tRg2, rIntI, rIntB, rAbs, rSetLN, tTruL, tRaiseX, rIsTy, rIsOw, ixN0, ixN1, tRet, tIf, tIfS, tNext, tBreak, tCont, tDrop, tTupN, tLstN, tUn, tCB, tCall, tNot, tAnd, tOr, tB, tAndV, tOrV, tNotV, tChain, tApp, LamX.tLam, tRevLN, rCatN, rInTN, rInLN, flatV, inV, List.all_cons, List.all_nil, List.any_cons, List.any_nil, Bool.and_self, Bool.and_true, if_true, Bool.false_eq_true, if_false, tMt, tFldN, tSto, HO.ins.injEq, lkh, List.drop_zero, List.drop_succ_cons, List.drop_nil, rListS, wipe, L2.start, List.map_cons, List.map_nil, List.length_cons, List.length_nil, List.replicate, List.cons_append, List.nil_append, List.append_nil, Nat.reduceAdd, Nat.reduceSub, Nat.zero_add, List.replicate_succ, List.replicate_zero, List.getElem?_cons_zero, List.getElem?_cons_succ, List.set_cons_zero, List.set_cons_succ, Option.some.injEq, V.int.injEq, V.bl.injEq, V.ref.injEq, V.str.injEq, V.ty.injEq, List.cons.injEq, HO.tup.injEq, HO.lst.injEq, and_true, true_and, and_assoc, exists_eq_left, exists_eq_left', exists_and_left, exists_eq', atI0, atI1, atI2, atI3, Int.cast_ofNat_Int, Int.reduceToNat, scal_ii, scal_in, scal_ni, scal_nn, scal_bb, scal_ss, scal_sn, scal_ns, scal_bn, scal_nb, ite_iff, decide_eq_true_eq, decide_eq_false_iff_not, Bool.not_eq_true', Classical.not_not, ne_eq, not_false_eq_true, not_true_eq_false, forall_const, true_implies, false_implies, imp_self, sizeLine_eq, Nat.reduceLeDiff, reduceCtorEq, decide_true, decide_false]
  refine st_lcTG (fun R r => (by simp only [exists_and_left, tD1, rTupN, rAll, rMax2, rMin2, tSl, tPart, tNoPart, rSlLN, tYes, rLenS, rRepN, unset, tEv2, calmS, tDNew, rInDN, rIxDN, rSetDN, tDN1, tDGetN, rSorted, cx_K, Value.ref.injEq, HO.xd.injEq, lk0, tSeq, tPar3, tPar, tCons, tNil, tVar, tC, tAsg, gName, gCons, gNil, gTupN, gSub, tOp, rI, rI0, rU, tTest, rNe, rEq, rIxTN, rIxLN, rLenL, rLenT, tLstRg, tRg1, tRg2, rIntI, rIntB, rAbs, rSetLN, tTruL, tRaiseX, rIsTy, rIsOw, ixN0, ixN1, tRet, tIf, tIfS, tNext, tBreak, tCont, tDrop, tTupN, tLstN, tUn, tCB, tCall, tNot, tAnd, tOr, tB, tAndV, tOrV, tNotV, tChain, tApp, LamX.tLam, tRevLN, rCatN, rInTN, rInLN, flatV, inV, List.all_cons, List.all_nil, List.any_cons, List.any_nil, Bool.and_self, Bool.and_true, if_true, Bool.false_eq_true, if_false, tMt, tFldN, tSto, HO.ins.injEq, lkh, List.drop_zero, List.drop_succ_cons, List.drop_nil, rListS, wipe, L2.start, List.map_cons, List.map_nil, List.length_cons, List.length_nil, List.replicate, List.cons_append, List.nil_append, List.append_nil, Nat.reduceAdd, Nat.reduceSub, Nat.zero_add, List.replicate_succ, List.replicate_zero, List.getElem?_cons_zero, List.getElem?_cons_succ, List.set_cons_zero, List.set_cons_succ, Option.some.injEq, V.int.injEq, V.bl.injEq, V.ref.injEq, V.str.injEq, V.ty.injEq, List.cons.injEq, HO.tup.injEq, HO.lst.injEq, and_true, true_and, and_assoc, exists_eq_left, exists_eq_left', exists_and_left, exists_eq', atI0, atI1, atI2, atI3, Int.cast_ofNat_Int, Int.reduceToNat, scal_ii, scal_in, scal_ni, scal_nn, scal_bb, scal_ss, scal_sn, scal_ns, scal_bn, scal_nb, ite_iff, decide_eq_true_eq, decide_eq_false_iff_not, Bool.not_eq_true', Classical.not_not, ne_eq, not_false_eq_true, not_true_eq_false, forall_const, true_implies, false_implies, imp_self, sizeLine_eq, Nat.reduceLeDiff, reduceCtorEq, decide_true, decide_false]; exact r)) hx (fun D i H' => H D = none ∧ Same H H' ∧ ∃ ys, H' D = some (.lst ys) ∧ BsAt H' ys (rowB (R.take i))) (fun D H1 n s h => ⟨n, s, [], h, by simp [BsAt, rowB]⟩) (fun D i H' q => SqT.same hx q.2.1) (fun D i x H1 hi q => ?_) (fun D H1 q => ?_)
  · obtain ⟨n, s1, ys, h1, b1⟩ := q
    have il : i < R.length := by
      have := (List.getElem?_eq_some_iff.mp hi).1
      rw [hb.1] at this; exact this
    obtain ⟨t, e, ht⟩ := hb.2 i _ (List.getElem?_eq_getElem il)
    rw [hi] at e; cases e
    have ht1 := s1 _ _ ht
    simp only [ht1, exists_and_left, tD1, rTupN, rAll, rMax2, rMin2, tSl, tPart, tNoPart, rSlLN, tYes, rLenS, rRepN, unset, tEv2, calmS, tDNew, rInDN, rIxDN, rSetDN, tDN1, tDGetN, rSorted, cx_K, Value.ref.injEq, HO.xd.injEq, lk0, tSeq, tPar3, tPar, tCons, tNil, tVar, tC, tAsg, gName, gCons, gNil, gTupN, gSub, tOp, rI, rI0, rU, tTest, rNe, rEq, rIxTN, rIxLN, rLenL, rLenT, tLstRg, tRg1, tRg2, rIntI, rIntB, rAbs, rSetLN, tTruL, tRaiseX, rIsTy, rIsOw, ixN0, ixN1, tRet, tIf, tIfS, tNext, tBreak, tCont, tDrop, tTupN, tLstN, tUn, tCB, tCall, tNot, tAnd, tOr, tB, tAndV, tOrV, tNotV, tChain, tApp, LamX.tLam, tRevLN, rCatN, rInTN, rInLN, flatV, inV, List.all_cons, List.all_nil, List.any_cons, List.any_nil, Bool.and_self, Bool.and_true, if_true, Bool.false_eq_true, if_false, tMt, tFldN, tSto, HO.ins.injEq, lkh, List.drop_zero, List.drop_succ_cons, List.drop_nil, rListS, wipe, L2.start, List.map_cons, List.map_nil, List.length_cons, List.length_nil, List.replicate, List.cons_append, List.nil_append, List.append_nil, Nat.reduceAdd, Nat.reduceSub, Nat.zero_add, List.replicate_succ, List.replicate_zero, List.getElem?_cons_zero, List.getElem?_cons_succ, List.set_cons_zero, List.set_cons_succ, Option.some.injEq, V.int.injEq, V.bl.injEq, V.ref.injEq, V.str.injEq, V.ty.injEq, List.cons.injEq, HO.tup.injEq, HO.lst.injEq, and_true, true_and, and_assoc, exists_eq_left, exists_eq_left', exists_and_left, exists_eq', atI0, atI1, atI2, atI3, Int.cast_ofNat_Int, Int.reduceToNat, scal_ii, scal_in, scal_ni, scal_nn, scal_bb, scal_ss, scal_sn, scal_ns, scal_bn, scal_nb, ite_iff, decide_eq_true_eq, decide_eq_false_iff_not, Bool.not_eq_true', Classical.not_not, ne_eq, not_false_eq_true, not_true_eq_false, forall_const, true_implies, false_implies, imp_self, sizeLine_eq, Nat.reduceLeDiff, reduceCtorEq, decide_true, decide_false]
    intro t6 H4 n6 s4 h6
    have hD4 := s4 _ _ h1
    have ly : ys.length = i := by rw [b1.1, rowB, List.length_map, List.length_take]; omega
    have ku : Kt H4 (upd H4 D (.lst (ys ++ [V.ref t6]))) := Kt.upd hD4
    refine ⟨_, hD4, by omega, n, fun c o e => by rw [upd_ne (ne_of_none e n)]; exact s4 _ _ (s1 _ _ e), _, upd_same, ?_⟩
    have e : rowB (R.take (i + 1)) = rowB (R.take i) ++ [(R[i].1, R[i].2, V.bl true)] := by
      unfold rowB
      rw [List.take_succ, List.getElem?_eq_getElem il, Option.toList_some, List.map_append]; rfl
    rw [e]
    exact ((b1.keep (Kt.same s4)).keep ku).snoc (ku _ _ (fun _ q => by cases q) h6)
  · obtain ⟨n, s1, ys, h1, b1⟩ := q
    rw [hb.1, List.take_length] at b1
    refine ⟨D, _, rfl, ys, rowB R, .inl h1, b1, by rw [rowB, List.length_map]; omega, fun d kvs ep H2 n2 s2 h2 v2 l2 => ?_⟩
    exact k d H2 (s1.trans s2) ⟨kvs, ep, h2, v2, l2⟩
theorem rowB_rb (R : List (Option Int × Option Int)) : rowB R = (rb R).map fun b => (b.1, b.2.1, V.bl b.2.2) := by unfold rowB rb; rw [List.map_map]; rfl
theorem valB_map {α β : Type} (f : α → β) (z : α) (y : Int) : ∀ bs : List (Bd α), valB (f z) (bs.map fun b => (b.1, b.2.1, f b.2.2)) y = f (valB z bs y)
  | [] => rfl
  | b :: r => by
    show (if lies b.1 b.2.1 y = true then f b.2.2 else valB (f z) (r.map fun b => (b.1, b.2.1, f b.2.2)) y) = f (if lies b.1 b.2.1 y = true then b.2.2 else valB z r y)
    rw [valB_map f z y r]
    split <;> rfl
theorem atC_map {α β : Type} (f : α → β) (z : α) (bs : List (Bd α)) (c : Option Int) : atC (f z) (bs.map fun b => (b.1, b.2.1, f b.2.2)) c = f (atC z bs c) := by
  cases c with
  | some c => exact valB_map f z c bs
  | none =>
    cases bs with
    | nil => rfl
    | cons b r => show (if b.1 = none then f b.2.2 else f z) = f (if b.1 = none then b.2.2 else z); split <;> rfl
theorem AscB.map {α β : Type} (f : α → β) : ∀ {bs : List (Bd α)}, AscB bs → AscB (bs.map fun b => (b.1, b.2.1, f b.2.2))
  | [], _ => trivial
  | [b], h => ⟨h.1, trivial, trivial⟩
  | b :: b' :: r, h => ⟨h.1, h.2.1, AscB.map f (bs := b' :: r) h.2.2⟩
theorem tileF_map {α β : Type} {g : α → β} {f : Option Int → α} : ∀ {E : List Int} {lo : Option Int}, tileF (fun c => g (f c)) lo E = (tileF f lo E).map fun b => (b.1, b.2.1, g b.2.2)
  | [], _ => rfl
  | e :: r, lo => by
    show (lo, some e, g (f lo)) :: tileF (fun c => g (f c)) (some e) r = _
    rw [tileF_map]; rfl
/-- a tuple of stretches -/
def RowV (K : PySem.W.Frag) (H : Hp) (v : V) (R : List (Option Int × Option Int)) : Prop := ∃ q xs, v = .ref q ∧ SqT K H q xs ∧ StAt H xs R
theorem StAt.keep {H H' : Hp} {xs : List V} {R : List (Option Int × Option Int)} (h : StAt H xs R) (k : Kt H H') : StAt H' xs R := ⟨h.1, fun i p hi => let ⟨t, e1, e2⟩ := h.2 i p hi; ⟨t, e1, k _ _ (fun _ q => by cases q) e2⟩⟩
theorem SqT.kt {K : PySem.W.Frag} {H H' : Hp} {q : Addr} {xs : List V} (h : SqT K H q xs) (k : Kt H H') : SqT K H' q xs := by
  rcases h with (h | ⟨o, h⟩) | h
  · exact .inl (.inl (k _ _ (fun _ z => by cases z) h))
  · exact .inl (.inr ⟨o, k _ _ (fun _ z => by cases z) h⟩)
  · exact .inr h
theorem RowV.keep {K : PySem.W.Frag} {H H' : Hp} {v : V} {R : List (Option Int × Option Int)} (h : RowV K H v R) (k : Kt H H') : RowV K H' v R := let ⟨q, xs, e, a, b⟩ := h; ⟨q, xs, e, SqT.kt a k, b.keep k⟩
theorem ChD.keep {P : Program} {w : World} {H H' : Hp} {d : Addr} {z : V} {bs : List (Bd V)} (h : ChD P w H d z bs) (k : Kt H H') : ChD P w H' d z bs := let ⟨kvs, ep, e, r⟩ := h; ⟨kvs, ep, k _ _ (fun _ q => by unfold DN at q; cases q) e, r⟩
def Rvs (K : PySem.W.Frag) (H : Hp) (vs : List V) (Rs : List (List (Option Int × Option Int))) : Prop := vs.length = Rs.length ∧ ∀ (i : Nat) R, Rs[i]? = some R → ∃ v, vs[i]? = some v ∧ RowV K H v R
/-- the dicts of the changes of some rows -/
def rws (Rs : List (List (Option Int × Option Int))) : List (V × List (Bd V)) := Rs.map fun R => (V.bl false, rowB R)
theorem Rws.keep {P : Program} {w : World} {H H' : Hp} {ds : List V} {rows : List (V × List (Bd V))} (h : Rws P w H ds rows) (k : Kt H H') : Rws P w H' ds rows := ⟨h.1, fun i r hi => let ⟨d, e, c⟩ := h.2 i r hi; ⟨d, e, c.keep k⟩⟩
theorem Rws.snoc {P : Program} {w : World} {H : Hp} {ds : List V} {rows : List (V × List (Bd V))} {d : Addr} {r : V × List (Bd V)} (h : Rws P w H ds rows) (c : ChD P w H d r.1 r.2) : Rws P w H (ds ++ [.ref d]) (rows ++ [r]) := by
  refine ⟨by rw [List.length_append, List.length_append, h.1]; rfl, fun i e hi => ?_⟩
  by_cases l : i < rows.length
  · rw [List.getElem?_append_left l] at hi
    obtain ⟨d', e1, e2⟩ := h.2 i e hi
    exact ⟨d', by rw [List.getElem?_append_left (by rw [h.1]; exact l)]; exact e1, e2⟩
  · rw [List.getElem?_append_right (by omega)] at hi
    have i0 : i = rows.length := by
      have := (List.getElem?_eq_some_iff.mp hi).1
      simp at this; omega
    subst i0
    rw [Nat.sub_self] at hi
    cases hi
    exact ⟨d, by rw [List.getElem?_append_right (by rw [h.1]; exact Nat.le_refl _), h.1, Nat.sub_self]; rfl, c⟩
def dBs (l : List Bool) : PyData := .tuple (l.map PyData.bool)
theorem StAt.snoc {H : Hp} {xs : List V} {R : List (Option Int × Option Int)} {b : Option Int × Option Int} {t : Addr} (h : StAt H xs R) (e : H t = some (.tup [ov b.1, ov b.2])) : StAt H (xs ++ [.ref t]) (R ++ [b]) := by
  refine ⟨by rw [List.length_append, List.length_append, h.1]; rfl, fun i c hi => ?_⟩
  by_cases l : i < R.length
  · rw [List.getElem?_append_left l] at hi
    obtain ⟨t', e1, e2⟩ := h.2 i c hi
    exact ⟨t', by rw [List.getElem?_append_left (by rw [h.1]; exact l)]; exact e1, e2⟩
  · rw [List.getElem?_append_right (by omega)] at hi
    have i0 : i = R.length := by
      have := (List.getElem?_eq_some_iff.mp hi).1
      simp at this; omega
    subst i0
    rw [Nat.sub_self] at hi
    cases hi
    exact ⟨t, by rw [List.getElem?_append_right (by rw [h.1]; exact Nat.le_refl _), h.1, Nat.sub_self]; rfl, e⟩
theorem dpA_bls {K : PySem.W.Frag} {H : Hp} : ∀ l : List Bool, DpAll K H (l.map V.bl) (l.map PyData.bool)
  | [] => .nil
  | b :: l => .cons (.bl b) (dpA_bls l)
theorem dpA_of {K : PySem.W.Frag} {H : Hp} : ∀ {xs : List V} {ds : List PyData}, xs.length = ds.length → (∀ (i : Nat) d, ds[i]? = some d → ∃ v, xs[i]? = some v ∧ Dp K H v d) → DpAll K H xs ds
  | [], [], _, _ => .nil
  | v :: xs, d :: ds, hl, h => by
    obtain ⟨v', e, hv⟩ := h 0 d rfl
    cases e
    exact .cons hv (dpA_of (by simpa using hl) fun i d hi => h (i + 1) d hi)
theorem sh_dBs {n : Nat} {l : List Bool} : ShN (n + 1) (dBs l) := ShN.tuple fun d hd => by
  obtain ⟨b, _, rfl⟩ := List.mem_map.mp hd
  exact ShN.bool
theorem eqvA_bls : ∀ a b : List Bool, PyData.eqvAll (a.map PyData.bool) (b.map PyData.bool) = decide (a = b)
  | [], [] => by simp [PyData.eqvAll]
  | [], m :: ms => by simp [PyData.eqvAll]
  | l :: ls, [] => by simp [PyData.eqvAll]
  | l :: ls, m :: ms => by
    have ih := eqvA_bls ls ms
    simp only [List.map_cons, PyData.eqvAll, PyData.eqv] at ih ⊢
    rw [ih]
    cases l <;> cases m <;> by_cases h2 : ls = ms <;> simp [h2]
theorem eqv_dBs (a b : List Bool) : PyData.eqv (dBs a) (dBs b) = decide (a = b) := by
  unfold dBs
  simp only [PyData.eqv]
  exact eqvA_bls a b
theorem encB {K : PySem.W.Frag} : Enc K false (fun _ v (a : Bool) => v = V.bl a) PyData.bool where
  keep := fun _ e => e
  tru := fun {H v a} e => by subst e; exact ⟨a, rfl, Iff.rfl⟩
  dp := fun {H v a} e => by subst e; exact .bl a
  sh := fun a => (ShN.bool (n := 0)).ok
  eqv := fun a b => by simp only [PyData.eqv]; cases a <;> cases b <;> rfl
/-- a tuple of tuples of truths -/
def KsV (K : PySem.W.Frag) (H : Hp) (v : V) (ks : List (List Bool)) : Prop := ∃ q xs, v = .ref q ∧ SqT K H q xs ∧ xs.length = ks.length ∧ ∀ (i : Nat) l, ks[i]? = some l → ∃ t, xs[i]? = some (V.ref t) ∧ SqT K H t (l.map V.bl)
theorem KsV.keep {K : PySem.W.Frag} {H H' : Hp} {v : V} {ks : List (List Bool)} (h : KsV K H v ks) (k : Kt H H') : KsV K H' v ks := let ⟨q, xs, e, a, l, b⟩ := h; ⟨q, xs, e, SqT.kt a k, l, fun i s hi => let ⟨t, e1, e2⟩ := b i s hi; ⟨t, e1, SqT.kt e2 k⟩⟩
theorem KsV.dp {K : PySem.W.Frag} {H : Hp} {v : V} {ks : List (List Bool)} (h : KsV K H v ks) : Dp K H v (.tuple (ks.map dBs)) := by
  obtain ⟨q, xs, rfl, a, l, b⟩ := h
  refine .tup a (dpA_of (by rw [List.length_map]; exact l) fun i d hi => ?_)
  rw [List.getElem?_map] at hi
  cases e : ks[i]? with
  | none => rw [e] at hi; cases hi
  | some s =>
    rw [e] at hi; cases hi
    obtain ⟨t, e1, e2⟩ := b i s e
    exact ⟨_, e1, .tup e2 (dpA_bls s)⟩
def spRowT (K : PySem.W.Frag) : Sp := fun vs H Q _ => ∃ r kk, vs = [.ref r, kk] ∧ ∃ (us : List V) (Rs : List (List (Option Int × Option Int))) (ks : List (List Bool)), SqT K H r us ∧ Rvs K H us Rs ∧ Rs.length ≤ 100 ∧ (∀ R ∈ Rs, AscB (rb R) ∧ R.length ≤ 1000) ∧ KsV K H kk ks ∧
  ∀ v R H', Same H H' → RowV K H' v R → Can (rb R) → (∀ x, EndB (rb R) x → ∃ R ∈ Rs, EndB (rb R) x) → (∀ x, valB false (rb R) x = decide ((Rs.map fun R => valB false (rb R) x) ∈ ks)) → Q v H'
theorem o__row_together (T : Txt K mg) : OkF P w K mg base CX0 3 "_row_together" ["rows", "kept"] (spRowT K) := by
  have o_stretch_changes := o_stretch_changes (P := P) (w := w) (base := base) T
  have o_side_by_side := o_side_by_side (P := P) (w := w) (base := base) T
  have o__joined_bands := o__joined_bands (P := P) (w := w) (base := base) T
  obtain ⟨f, fd, g, F⟩ := T.d__row_together
  refine ⟨f, fd, g, F.kp, F.binds (fun _ _ _ _ _ _ us hl => match us, hl with | [_, _], _ => rfl), F.ok sc__row_together (fun vs H Q E h => ?_) (fun cdv A outer s H vs Q E hr h => ?_)⟩
  · first | (obtain ⟨_, rfl, _⟩ := h; rfl) | (obtain ⟨rfl, _⟩ := h; rfl) | (obtain ⟨_, _, rfl, _⟩ := h; rfl) | (obtain ⟨_, _, _, rfl, _⟩ := h; rfl) | (obtain ⟨_, _, _, _, rfl, _⟩ := h; rfl) | (obtain ⟨_, _, _, _, _, rfl, _⟩ := h; rfl) | (obtain ⟨_, _, _, _, _, _, rfl, _⟩ := h; rfl) | (obtain ⟨_, _, _, _, _, _, _, rfl, _⟩ := h; rfl)
  have hu64 := hr.units
  refine ⟨_, pss_cons (ps_set (i := 2) sc__row_together.nd rfl (Or.inl rfl) (pcl o_side_by_side (hr.mono (by decide)) pass0 (pa_cons (pe_lc (own := [("row", 3)]) (g := gName 3) (by rfl) sc__row_together.nd (pi_tup (pv 0)) (blkOk_by (N := ["rows", "kept", "bands", "row", "band", "low", "high", "pair"]) (sc := defScope s__row_together) (own := [("row", 3)]) (by decide +kernel)) (fun _ _ _ _ _ => pg_name (i := 3) sc__row_together.nd rfl (Or.inl rfl)) (fun _ _ _ _ _ => pts_nil) (fun _ _ _ _ _ => pcl o_stretch_changes (hr.mono (by decide)) pass0 (pa_cons (pv 3) pa_nil))) pa_nil)))
      (pss_one (ps_ret (pe_callTy call_tupN (by rfl) T.m_tuple (by decide +kernel) (pa_cons (pe_lc (own := [("band", 4)]) (g := gName 4) (by rfl) sc__row_together.nd (pi_list (pcl o__joined_bands (hr.mono (by decide)) pass0 (pa_cons (pe_lc (own := [("low", 5), ("high", 6), ("pair", 7)]) (by rfl) sc__row_together.nd (pi_list (pv 2)) (blkOk_by (N := ["rows", "kept", "bands", "row", "band", "low", "high", "pair"]) (sc := defScope s__row_together) (own := [("low", 5), ("high", 6), ("pair", 7)]) (by decide +kernel)) (fun _ _ _ _ _ => pg_tupN (n := 3) (by rfl) (pgs_cons (pg_name (i := 5) sc__row_together.nd rfl (Or.inl rfl)) (pgs_cons (pg_name (i := 6) sc__row_together.nd rfl (Or.inl rfl)) (pgs_cons (pg_name (i := 7) sc__row_together.nd rfl (Or.inl rfl)) pgs_nil)))) (fun _ _ _ _ _ => pts_nil) (fun _ _ _ _ _ => pe_tupN (pa_cons (pv 5) (pa_cons (pv 6) (pa_cons (pe_cmpR (op_inDTk (K := K) rfl (u65 hr)) (pv 7) (pv 1) (by rfl)) pa_nil))))) pa_nil))) (blkOk_by (N := ["rows", "kept", "bands", "row", "band", "low", "high", "pair"]) (sc := defScope s__row_together) (own := [("band", 4)]) (by decide +kernel)) (fun _ _ _ _ _ => pg_name (i := 4) sc__row_together.nd rfl (Or.inl rfl)) (fun _ _ _ _ _ => pts_nil) (fun _ _ _ _ _ => pe_slice sl_tupN (pv 4) (po_none) (po_some (pe_int)))) pa_nil)))), ?_⟩
  obtain ⟨r, kk, rfl, us, Rs, ks, hr, hu, r4, ra, hk, k⟩ := h
  simp only [exists_and_left, tD1, rTupN, rAll, rMax2, rMin2, tSl, tPart, tNoPart, rSlLN, tYes, rLenS, rRepN, unset, tEv2, calmS, tDNew, rInDN, rIxDN, rSetDN, tDN1, tDGetN, rSorted, cx_K, Value.ref.injEq, HO.xd.injEq, lk0, tSeq, tPar3, tPar, tCons, tNil, tVar, tC, tAsg, gName, gCons, gNil, gTupN, gSub, tOp, rI, rI0, rU, tTest, rNe, rEq, rIxTN, rIxLN, rLenL, rLenT, tLstRg, tRg1, tRg2, rIntI, rIntB, rAbs, rSetLN, tTruL, tRaiseX, rIsTy, rIsOw, ixN0, ixN1, tRet, tIf, tIfS, tNext, tBreak, tCont, tDrop, tTupN, tLstN, tUn, tCB, tCall, tNot, tAnd, tOr, tB, tAndV, tOrV, tNotV, tChain, tApp, LamX.tLam, tRevLN, rCatN, rInTN, rInLN, flatV, inV, List.all_cons, List.all_nil, List.any_cons, List.any_nil, Bool.and_self, Bool.and_true, if_true, Bool.false_eq_true, if_false, tMt, tFldN, tSto, HO.ins.injEq, lkh, List.drop_zero, List.drop_succ_cons, List.drop_nil, rListS, wipe, L2.start, List.map_cons, List.map_nil, List.length_cons, List.length_nil, List.replicate, List.cons_append, List.nil_append, List.append_nil, Nat.reduceAdd, Nat.reduceSub, Nat.zero_add, List.replicate_succ, List.replicate_zero, List.getElem?_cons_zero, List.getElem?_cons_succ, List.set_cons_zero, List.set_cons_succ, Option.some.injEq, V.int.injEq, V.bl.injEq, V.ref.injEq, V.str.injEq, V.ty.injEq, List.cons.injEq, HO.tup.injEq, HO.lst.injEq, and_true, true_and, and_assoc, exists_eq_left, exists_eq_left', exists_and_left, exists_eq', atI0, atI1, atI2, atI3, Int.cast_ofNat_Int, Int.reduceToNat, scal_ii, scal_in, scal_ni, scal_nn, scal_bb, scal_ss, scal_sn, scal_ns, scal_bn, scal_nb, ite_iff, decide_eq_true_eq, decide_eq_false_iff_not, Bool.not_eq_true', Classical.not_not, ne_eq, not_false_eq_true, not_true_eq_false, forall_const, true_implies, false_implies, imp_self, sizeLine_eq, Nat.reduceLeDiff, reduceCtorEq, decide_true, decide_false]
  refine st_lcTG (fun R r => (by simp only [exists_and_left, tD1, rTupN, rAll, rMax2, rMin2, tSl, tPart, tNoPart, rSlLN, tYes, rLenS, rRepN, unset, tEv2, calmS, tDNew, rInDN, rIxDN, rSetDN, tDN1, tDGetN, rSorted, cx_K, Value.ref.injEq, HO.xd.injEq, lk0, tSeq, tPar3, tPar, tCons, tNil, tVar, tC, tAsg, gName, gCons, gNil, gTupN, gSub, tOp, rI, rI0, rU, tTest, rNe, rEq, rIxTN, rIxLN, rLenL, rLenT, tLstRg, tRg1, tRg2, rIntI, rIntB, rAbs, rSetLN, tTruL, tRaiseX, rIsTy, rIsOw, ixN0, ixN1, tRet, tIf, tIfS, tNext, tBreak, tCont, tDrop, tTupN, tLstN, tUn, tCB, tCall, tNot, tAnd, tOr, tB, tAndV, tOrV, tNotV, tChain, tApp, LamX.tLam, tRevLN, rCatN, rInTN, rInLN, flatV, inV, List.all_cons, List.all_nil, List.any_cons, List.any_nil, Bool.and_self, Bool.and_true, if_true, Bool.false_eq_true, if_false, tMt, tFldN, tSto, HO.ins.injEq, lkh, List.drop_zero, List.drop_succ_cons, List.drop_nil, rListS, wipe, L2.start, List.map_cons, List.map_nil, List.length_cons, List.length_nil, List.replicate, List.cons_append, List.nil_append, List.append_nil, Nat.reduceAdd, Nat.reduceSub, Nat.zero_add, List.replicate_succ, List.replicate_zero, List.getElem?_cons_zero, List.getElem?_cons_succ, List.set_cons_zero, List.set_cons_succ, Option.some.injEq, V.int.injEq, V.bl.injEq, V.ref.injEq, V.str.injEq, V.ty.injEq, List.cons.injEq, HO.tup.injEq, HO.lst.injEq, and_true, true_and, and_assoc, exists_eq_left, exists_eq_left', exists_and_left, exists_eq', atI0, atI1, atI2, atI3, Int.cast_ofNat_Int, Int.reduceToNat, scal_ii, scal_in, scal_ni, scal_nn, scal_bb, scal_ss, scal_sn, scal_ns, scal_bn, scal_nb, ite_iff, decide_eq_true_eq, decide_eq_false_iff_not, Bool.not_eq_true', Classical.not_not, ne_eq, not_false_eq_true, not_true_eq_false, forall_const, true_implies, false_implies, imp_self, sizeLine_eq, Nat.reduceLeDiff, reduceCtorEq, decide_true, decide_false]; exact r)) hr (fun D i H' => H D = none ∧ Same H H' ∧ ∃ ds, H' D = some (.lst ds) ∧ Rws P w H' ds (rws (Rs.take i))) (fun D H1 n s h => ⟨n, s, [], h, by simp [Rws, rws]⟩) (fun D i H' q => SqT.same hr q.2.1) (fun D i x H1 hi q => ?_) (fun D H1 q => ?_)
  · obtain ⟨n, s1, ds, h1, b1⟩ := q
    have il : i < Rs.length := by
      have := (List.getElem?_eq_some_iff.mp hi).1
      rw [hu.1] at this; exact this
    have hRi := List.getElem?_eq_getElem il
    obtain ⟨v, e, q5, xs5, rfl, t5, st5⟩ := hu.2 i _ hRi
    rw [hi] at e; cases e
    have rm : Rs[i] ∈ Rs := List.getElem_mem il
    simp only [exists_and_left, tD1, rTupN, rAll, rMax2, rMin2, tSl, tPart, tNoPart, rSlLN, tYes, rLenS, rRepN, unset, tEv2, calmS, tDNew, rInDN, rIxDN, rSetDN, tDN1, tDGetN, rSorted, cx_K, Value.ref.injEq, HO.xd.injEq, lk0, tSeq, tPar3, tPar, tCons, tNil, tVar, tC, tAsg, gName, gCons, gNil, gTupN, gSub, tOp, rI, rI0, rU, tTest, rNe, rEq, rIxTN, rIxLN, rLenL, rLenT, tLstRg, tRg1, tRg2, rIntI, rIntB, rAbs, rSetLN, tTruL, tRaiseX, rIsTy, rIsOw, ixN0, ixN1, tRet, tIf, tIfS, tNext, tBreak, tCont, tDrop, tTupN, tLstN, tUn, tCB, tCall, tNot, tAnd, tOr, tB, tAndV, tOrV, tNotV, tChain, tApp, LamX.tLam, tRevLN, rCatN, rInTN, rInLN, flatV, inV, List.all_cons, List.all_nil, List.any_cons, List.any_nil, Bool.and_self, Bool.and_true, if_true, Bool.false_eq_true, if_false, tMt, tFldN, tSto, HO.ins.injEq, lkh, List.drop_zero, List.drop_succ_cons, List.drop_nil, rListS, wipe, L2.start, List.map_cons, List.map_nil, List.length_cons, List.length_nil, List.replicate, List.cons_append, List.nil_append, List.append_nil, Nat.reduceAdd, Nat.reduceSub, Nat.zero_add, List.replicate_succ, List.replicate_zero, List.getElem?_cons_zero, List.getElem?_cons_succ, List.set_cons_zero, List.set_cons_succ, Option.some.injEq, V.int.injEq, V.bl.injEq, V.ref.injEq, V.str.injEq, V.ty.injEq, List.cons.injEq, HO.tup.injEq, HO.lst.injEq, and_true, true_and, and_assoc, exists_eq_left, exists_eq_left', exists_and_left, exists_eq', atI0, atI1, atI2, atI3, Int.cast_ofNat_Int, Int.reduceToNat, scal_ii, scal_in, scal_ni, scal_nn, scal_bb, scal_ss, scal_sn, scal_ns, scal_bn, scal_nb, ite_iff, decide_eq_true_eq, decide_eq_false_iff_not, Bool.not_eq_true', Classical.not_not, ne_eq, not_false_eq_true, not_true_eq_false, forall_const, true_implies, false_implies, imp_self, sizeLine_eq, Nat.reduceLeDiff, reduceCtorEq, decide_true, decide_false]
    refine ⟨q5, rfl, xs5, Rs[i], SqT.same t5 s1, st5.keep (Kt.same s1), (ra _ rm).2, fun d H2 s2 c2 => ?_⟩
    have hD2 := s2 _ _ h1
    have ld : ds.length = i := by rw [b1.1, rws, List.length_map, List.length_take]; omega
    have ku : Kt H2 (upd H2 D (.lst (ds ++ [V.ref d]))) := Kt.upd hD2
    refine ⟨_, hD2, by omega, n, fun c o e => by rw [upd_ne (ne_of_none e n)]; exact s2 _ _ (s1 _ _ e), _, upd_same, ?_⟩
    have e : rws (Rs.take (i + 1)) = rws (Rs.take i) ++ [(V.bl false, rowB Rs[i])] := by
      unfold rws
      rw [List.take_succ, hRi, Option.toList_some, List.map_append]; rfl
    rw [e]
    exact ((b1.keep (Kt.same s2)).keep ku).snoc (c2.keep ku)
  · obtain ⟨n, s1, ds, h1, b1⟩ := q
    rw [hu.1, List.take_length] at b1
    have asc : ∀ e ∈ rws Rs, AscB e.2 ∧ e.2.length ≤ 1000 := fun e he => by
      obtain ⟨R, hR, rfl⟩ := List.mem_map.mp he
      obtain ⟨a1, a2⟩ := ra R hR
      exact ⟨by show AscB (rowB R); rw [rowB_rb]; exact a1.map V.bl, by show (rowB R).length ≤ 1000; unfold rowB; rw [List.length_map]; exact a2⟩
    refine ⟨D, rfl, ds, rws Rs, h1, b1, by unfold rws; rw [List.length_map]; omega, asc, fun L E xs H2 n2 s2 up lenE allE onlyE h2 tb => ?_⟩
    obtain ⟨fl, hfl⟩ : ∃ fl : Option Int → List Bool, fl = fun c => Rs.map fun R => atC false (rb R) c := ⟨_, rfl⟩
    have hf : (fun c => (rws Rs).map fun r => atC r.1 r.2 c) = fun c => (fl c).map V.bl := by
      funext c
      rw [hfl]
      unfold rws
      rw [List.map_map, List.map_map]
      refine List.map_congr_left fun R _ => ?_
      show atC (V.bl false) (rowB R) c = V.bl (atC false (rb R) c)
      rw [rowB_rb, atC_map]
    rw [hf, tileF_map (g := fun l : List Bool => l.map V.bl)] at tb
    obtain ⟨TT, hTT⟩ : ∃ TT, TT = tileF fl none E := ⟨_, rfl⟩
    rw [← hTT] at tb
    have lTT : TT.length = xs.length := by rw [tb.1, List.length_map]
    refine lc_inL ?_
    simp only [exists_and_left, tD1, rTupN, rAll, rMax2, rMin2, tSl, tPart, tNoPart, rSlLN, tYes, rLenS, rRepN, unset, tEv2, calmS, tDNew, rInDN, rIxDN, rSetDN, tDN1, tDGetN, rSorted, cx_K, Value.ref.injEq, HO.xd.injEq, lk0, tSeq, tPar3, tPar, tCons, tNil, tVar, tC, tAsg, gName, gCons, gNil, gTupN, gSub, tOp, rI, rI0, rU, tTest, rNe, rEq, rIxTN, rIxLN, rLenL, rLenT, tLstRg, tRg1, tRg2, rIntI, rIntB, rAbs, rSetLN, tTruL, tRaiseX, rIsTy, rIsOw, ixN0, ixN1, tRet, tIf, tIfS, tNext, tBreak, tCont, tDrop, tTupN, tLstN, tUn, tCB, tCall, tNot, tAnd, tOr, tB, tAndV, tOrV, tNotV, tChain, tApp, LamX.tLam, tRevLN, rCatN, rInTN, rInLN, flatV, inV, List.all_cons, List.all_nil, List.any_cons, List.any_nil, Bool.and_self, Bool.and_true, if_true, Bool.false_eq_true, if_false, tMt, tFldN, tSto, HO.ins.injEq, lkh, List.drop_zero, List.drop_succ_cons, List.drop_nil, rListS, wipe, L2.start, List.map_cons, List.map_nil, List.length_cons, List.length_nil, List.replicate, List.cons_append, List.nil_append, List.append_nil, Nat.reduceAdd, Nat.reduceSub, Nat.zero_add, List.replicate_succ, List.replicate_zero, List.getElem?_cons_zero, List.getElem?_cons_succ, List.set_cons_zero, List.set_cons_succ, Option.some.injEq, V.int.injEq, V.bl.injEq, V.ref.injEq, V.str.injEq, V.ty.injEq, List.cons.injEq, HO.tup.injEq, HO.lst.injEq, and_true, true_and, and_assoc, exists_eq_left, exists_eq_left', exists_and_left, exists_eq', atI0, atI1, atI2, atI3, Int.cast_ofNat_Int, Int.reduceToNat, scal_ii, scal_in, scal_ni, scal_nn, scal_bb, scal_ss, scal_sn, scal_ns, scal_bn, scal_nb, ite_iff, decide_eq_true_eq, decide_eq_false_iff_not, Bool.not_eq_true', Classical.not_not, ne_eq, not_false_eq_true, not_true_eq_false, forall_const, true_implies, false_implies, imp_self, sizeLine_eq, Nat.reduceLeDiff, reduceCtorEq, decide_true, decide_false]
    refine st_lcL (fun R r => (by simp only [exists_and_left, tD1, rTupN, rAll, rMax2, rMin2, tSl, tPart, tNoPart, rSlLN, tYes, rLenS, rRepN, unset, tEv2, calmS, tDNew, rInDN, rIxDN, rSetDN, tDN1, tDGetN, rSorted, cx_K, Value.ref.injEq, HO.xd.injEq, lk0, tSeq, tPar3, tPar, tCons, tNil, tVar, tC, tAsg, gName, gCons, gNil, gTupN, gSub, tOp, rI, rI0, rU, tTest, rNe, rEq, rIxTN, rIxLN, rLenL, rLenT, tLstRg, tRg1, tRg2, rIntI, rIntB, rAbs, rSetLN, tTruL, tRaiseX, rIsTy, rIsOw, ixN0, ixN1, tRet, tIf, tIfS, tNext, tBreak, tCont, tDrop, tTupN, tLstN, tUn, tCB, tCall, tNot, tAnd, tOr, tB, tAndV, tOrV, tNotV, tChain, tApp, LamX.tLam, tRevLN, rCatN, rInTN, rInLN, flatV, inV, List.all_cons, List.all_nil, List.any_cons, List.any_nil, Bool.and_self, Bool.and_true, if_true, Bool.false_eq_true, if_false, tMt, tFldN, tSto, HO.ins.injEq, lkh, List.drop_zero, List.drop_succ_cons, List.drop_nil, rListS, wipe, L2.start, List.map_cons, List.map_nil, List.length_cons, List.length_nil, List.replicate, List.cons_append, List.nil_append, List.append_nil, Nat.reduceAdd, Nat.reduceSub, Nat.zero_add, List.replicate_succ, List.replicate_zero, List.getElem?_cons_zero, List.getElem?_cons_succ, List.set_cons_zero, List.set_cons_succ, Option.some.injEq, V.int.injEq, V.bl.injEq, V.ref.injEq, V.str.injEq, V.ty.injEq, List.cons.injEq, HO.tup.injEq, HO.lst.injEq, and_true, true_and, and_assoc, exists_eq_left, exists_eq_left', exists_and_left, exists_eq', atI0, atI1, atI2, atI3, Int.cast_ofNat_Int, Int.reduceToNat, scal_ii, scal_in, scal_ni, scal_nn, scal_bb, scal_ss, scal_sn, scal_ns, scal_bn, scal_nb, ite_iff, decide_eq_true_eq, decide_eq_false_iff_not, Bool.not_eq_true', Classical.not_not, ne_eq, not_false_eq_true, not_true_eq_false, forall_const, true_implies, false_implies, imp_self, sizeLine_eq, Nat.reduceLeDiff, reduceCtorEq, decide_true, decide_false]; exact r)) h2 (fun D i H' => H2 D = none ∧ Same H2 H' ∧ ∃ ys, H' D = some (.lst ys) ∧ TBe (fun _ v (a : Bool) => v = V.bl a) H' ys ((TT.take i).map fun b => (b.1, b.2.1, decide (b.2.2 ∈ ks)))) (fun D H1 n s h => ⟨n, s, [], h, by simp [TBe]⟩) (fun D i H' q => q.2.1 _ _ h2) (fun D2 i x H3 hi q => ?_) (fun D2 H3 q => ?_)
    · obtain ⟨n3, s3, ys, h3, t3⟩ := q
      have il : i < TT.length := by
        have := (List.getElem?_eq_some_iff.mp hi).1
        omega
      have hTi := List.getElem?_eq_getElem il
      obtain ⟨t, u, e1, e2, e3⟩ := tb.2 i _ (by rw [List.getElem?_map, hTi]; rfl)
      rw [hi] at e1; cases e1
      have e2' := s3 _ _ e2
      have e3' := s3 _ _ e3
      simp only [e2', exists_and_left, tD1, rTupN, rAll, rMax2, rMin2, tSl, tPart, tNoPart, rSlLN, tYes, rLenS, rRepN, unset, tEv2, calmS, tDNew, rInDN, rIxDN, rSetDN, tDN1, tDGetN, rSorted, cx_K, Value.ref.injEq, HO.xd.injEq, lk0, tSeq, tPar3, tPar, tCons, tNil, tVar, tC, tAsg, gName, gCons, gNil, gTupN, gSub, tOp, rI, rI0, rU, tTest, rNe, rEq, rIxTN, rIxLN, rLenL, rLenT, tLstRg, tRg1, tRg2, rIntI, rIntB, rAbs, rSetLN, tTruL, tRaiseX, rIsTy, rIsOw, ixN0, ixN1, tRet, tIf, tIfS, tNext, tBreak, tCont, tDrop, tTupN, tLstN, tUn, tCB, tCall, tNot, tAnd, tOr, tB, tAndV, tOrV, tNotV, tChain, tApp, LamX.tLam, tRevLN, rCatN, rInTN, rInLN, flatV, inV, List.all_cons, List.all_nil, List.any_cons, List.any_nil, Bool.and_self, Bool.and_true, if_true, Bool.false_eq_true, if_false, tMt, tFldN, tSto, HO.ins.injEq, lkh, List.drop_zero, List.drop_succ_cons, List.drop_nil, rListS, wipe, L2.start, List.map_cons, List.map_nil, List.length_cons, List.length_nil, List.replicate, List.cons_append, List.nil_append, List.append_nil, Nat.reduceAdd, Nat.reduceSub, Nat.zero_add, List.replicate_succ, List.replicate_zero, List.getElem?_cons_zero, List.getElem?_cons_succ, List.set_cons_zero, List.set_cons_succ, Option.some.injEq, V.int.injEq, V.bl.injEq, V.ref.injEq, V.str.injEq, V.ty.injEq, List.cons.injEq, HO.tup.injEq, HO.lst.injEq, and_true, true_and, and_assoc, exists_eq_left, exists_eq_left', exists_and_left, exists_eq', atI0, atI1, atI2, atI3, Int.cast_ofNat_Int, Int.reduceToNat, scal_ii, scal_in, scal_ni, scal_nn, scal_bb, scal_ss, scal_sn, scal_ns, scal_bn, scal_nb, ite_iff, decide_eq_true_eq, decide_eq_false_iff_not, Bool.not_eq_true', Classical.not_not, ne_eq, not_false_eq_true, not_true_eq_false, forall_const, true_implies, false_implies, imp_self, sizeLine_eq, Nat.reduceLeDiff, reduceCtorEq, decide_true, decide_false]
      have s13 : Same H H3 := (s1.trans s2).trans s3
      refine ⟨dBs TT[i].2.2, ks.map dBs, .tup (SqT.of e3') (dpA_bls _), (hk.keep (Kt.same s13)).dp, (sh_dBs (n := 0)).ok, (ShN.tuple (n := 1) fun d hd => by obtain ⟨l, _, rfl⟩ := List.mem_map.mp hd; exact sh_dBs).ok, ?_⟩
      have anyd : ((ks.map dBs).any fun z => PyData.eqv z (dBs TT[i].2.2)) = decide (TT[i].2.2 ∈ ks) := by
        rw [List.any_map, Bool.eq_iff_iff, List.any_eq_true, decide_eq_true_eq]
        constructor
        · rintro ⟨l, hl, e⟩
          have e : PyData.eqv (dBs l) (dBs TT[i].2.2) = true := e
          rw [eqv_dBs, decide_eq_true_eq] at e
          rw [← e]; exact hl
        · intro h
          exact ⟨_, h, by show PyData.eqv (dBs _) (dBs _) = true; rw [eqv_dBs, decide_eq_true_eq]⟩
      rw [anyd]
      intro t6 H4 n6 s4 h6
      have hD4 := s4 _ _ h3
      have ly : ys.length = i := by rw [t3.1, List.length_map, List.length_take]; omega
      have ku : Kt H4 (upd H4 D2 (.lst (ys ++ [V.ref t6]))) := Kt.upd hD4
      refine ⟨_, hD4, ?_, n3, fun c o e => by rw [upd_ne (ne_of_none e n3)]; exact s4 _ _ (s3 _ _ e), _, upd_same, ?_⟩
      · have : TT.length ≤ 900001 := by rw [hTT, tile_len]; omega
        omega
      · have e : ((TT.take (i + 1)).map fun b => (b.1, b.2.1, decide (b.2.2 ∈ ks))) = ((TT.take i).map fun b => (b.1, b.2.1, decide (b.2.2 ∈ ks))) ++ [(TT[i].1, TT[i].2.1, decide (TT[i].2.2 ∈ ks))] := by
          rw [List.take_succ, hTi, Option.toList_some, List.map_append]; rfl
        rw [e]
        exact TBe.snoc ((t3.keep (K := K) (z := false) (data := PyData.bool) encB (Kt.same s4)).keep (K := K) (z := false) (data := PyData.bool) encB ku) (b := (TT[i].1, TT[i].2.1, decide (TT[i].2.2 ∈ ks))) (ku _ _ (fun _ q => by cases q) h6) rfl
    · obtain ⟨n3, s3, ys, h3, t3⟩ := q
      rw [← lTT, List.take_length] at t3
      have lT : TT.length ≤ 900001 := by rw [hTT, tile_len]; omega
      refine ⟨D2, rfl, Bool, inferInstance, false, _, PyData.bool, encB, ys, _, h3, t3, by rw [List.length_map]; omega, fun J zs H4 n4 s4 h4 t4 => ?_⟩
      obtain ⟨JB, hJB⟩ : ∃ JB, JB = joinB false (TT.map fun b => (b.1, b.2.1, decide (b.2.2 ∈ ks))) := ⟨_, rfl⟩
      rw [← hJB] at t4
      have lJ : JB.length ≤ 900001 := by
        have := joinB_len (z := false) (T := TT.map fun b => (b.1, b.2.1, decide (b.2.2 ∈ ks)))
        rw [← hJB, List.length_map] at this
        omega
      refine st_lcL (fun R r => r) h4 (fun D i H' => H4 D = none ∧ Same H4 H' ∧ ∃ ws, H' D = some (.lst ws) ∧ StAt H' ws ((JB.take i).map fun b => (b.1, b.2.1))) (fun D H1 n s h => ⟨n, s, [], h, by simp [StAt]⟩) (fun D i H' q => q.2.1 _ _ h4) (fun D3 i x H5 hi q => ?_) (fun D3 H5 q => ?_)
      · obtain ⟨n5, s5, ws, h5, t5⟩ := q
        have il : i < JB.length := by
          have := (List.getElem?_eq_some_iff.mp hi).1
          rw [t4.1] at this; exact this
        have hJi := List.getElem?_eq_getElem il
        obtain ⟨t, v, e1, e2, e3⟩ := t4.2 i _ hJi
        rw [hi] at e1; cases e1
        have e2' := s5 _ _ e2
        simp only [e2', rSlTN, exists_and_left, tD1, rTupN, rAll, rMax2, rMin2, tSl, tPart, tNoPart, rSlLN, tYes, rLenS, rRepN, unset, tEv2, calmS, tDNew, rInDN, rIxDN, rSetDN, tDN1, tDGetN, rSorted, cx_K, Value.ref.injEq, HO.xd.injEq, lk0, tSeq, tPar3, tPar, tCons, tNil, tVar, tC, tAsg, gName, gCons, gNil, gTupN, gSub, tOp, rI, rI0, rU, tTest, rNe, rEq, rIxTN, rIxLN, rLenL, rLenT, tLstRg, tRg1, tRg2, rIntI, rIntB, rAbs, rSetLN, tTruL, tRaiseX, rIsTy, rIsOw, ixN0, ixN1, tRet, tIf, tIfS, tNext, tBreak, tCont, tDrop, tTupN, tLstN, tUn, tCB, tCall, tNot, tAnd, tOr, tB, tAndV, tOrV, tNotV, tChain, tApp, LamX.tLam, tRevLN, rCatN, rInTN, rInLN, flatV, inV, List.all_cons, List.all_nil, List.any_cons, List.any_nil, Bool.and_self, Bool.and_true, if_true, Bool.false_eq_true, if_false, tMt, tFldN, tSto, HO.ins.injEq, lkh, List.drop_zero, List.drop_succ_cons, List.drop_nil, rListS, wipe, L2.start, List.map_cons, List.map_nil, List.length_cons, List.length_nil, List.replicate, List.cons_append, List.nil_append, List.append_nil, Nat.reduceAdd, Nat.reduceSub, Nat.zero_add, List.replicate_succ, List.replicate_zero, List.getElem?_cons_zero, List.getElem?_cons_succ, List.set_cons_zero, List.set_cons_succ, Option.some.injEq, V.int.injEq, V.bl.injEq, V.ref.injEq, V.str.injEq, V.ty.injEq, List.cons.injEq, HO.tup.injEq, HO.lst.injEq, and_true, true_and, and_assoc, exists_eq_left, exists_eq_left', exists_and_left, exists_eq', atI0, atI1, atI2, atI3, Int.cast_ofNat_Int, Int.reduceToNat, scal_ii, scal_in, scal_ni, scal_nn, scal_bb, scal_ss, scal_sn, scal_ns, scal_bn, scal_nb, ite_iff, decide_eq_true_eq, decide_eq_false_iff_not, Bool.not_eq_true', Classical.not_not, ne_eq, not_false_eq_true, not_true_eq_false, forall_const, true_implies, false_implies, imp_self, sizeLine_eq, Nat.reduceLeDiff, reduceCtorEq, decide_true, decide_false]
        refine ⟨by decide, ?_⟩
        intro t6 H6 n6 s6 h6
        have hD6 := s6 _ _ h5
        have lw : ws.length = i := by rw [t5.1, List.length_map, List.length_take]; omega
        have ku : Kt H6 (upd H6 D3 (.lst (ws ++ [V.ref t6]))) := Kt.upd hD6
        refine ⟨_, hD6, by omega, n5, fun c o e => by rw [upd_ne (ne_of_none e n5)]; exact s6 _ _ (s5 _ _ e), _, upd_same, ?_⟩
        have e : ((JB.take (i + 1)).map fun b => (b.1, b.2.1)) = ((JB.take i).map fun b => (b.1, b.2.1)) ++ [(JB[i].1, JB[i].2.1)] := by
          rw [List.take_succ, hJi, Option.toList_some, List.map_append]; rfl
        rw [e]
        exact StAt.snoc ((t5.keep (Kt.same s6)).keep ku) (b := (JB[i].1, JB[i].2.1)) (ku _ _ (fun _ q => by cases q) h6)
      · obtain ⟨n5, s5, ws, h5, t5⟩ := q
        rw [t4.1, List.take_length] at t5
        refine ⟨D3, rfl, _, h5, ?_⟩
        intro w6 H6 _ s6 h6
        have hT : TT.map (fun b => (b.1, b.2.1, decide (b.2.2 ∈ ks))) = tileF (fun c => decide (fl c ∈ ks)) none E := by rw [hTT, tileF_map (g := fun l : List Bool => decide (l ∈ ks))]
        obtain ⟨j1, j2, j3⟩ := joinB_ok (z := false) (T := tileF (fun c => decide (fl c ∈ ks)) none E) (tile_ok up)
        rw [hT] at hJB
        rw [← hJB] at j1 j2 j3
        have rJ : rb (JB.map fun b => (b.1, b.2.1)) = JB := by
          unfold rb
          rw [List.map_map]
          conv => rhs; rw [← List.map_id JB]
          refine List.map_congr_left fun b hb => ?_
          obtain ⟨b1, b2, b3⟩ := b
          have := j2 _ hb
          cases b3 with
          | true => rfl
          | false => exact absurd rfl this
        have s16 : Same H H6 := ((((s1.trans s2).trans s3).trans s4).trans s5).trans s6
        refine k (.ref w6) (JB.map fun b => (b.1, b.2.1)) H6 s16 ⟨w6, ws, rfl, SqT.of h6, t5.keep (Kt.same s6)⟩ (by rw [rJ]; exact j1) (fun x hx => ?_) fun x => ?_
        · rw [rJ, hJB] at hx
          rcases tileF_ends (joinB_ends hx) with h | h
          · cases h
          · obtain ⟨r0, hr0, b, hb, hx0⟩ := onlyE x h
            obtain ⟨R, hR, rfl⟩ := List.mem_map.mp hr0
            have hb : b ∈ rowB R := hb
            rw [rowB_rb] at hb
            obtain ⟨c, hc, rfl⟩ := List.mem_map.mp hb
            exact ⟨R, hR, c, hc, hx0⟩
        rw [rJ, j3, tile_val up rfl]
        have sv := side_val (z := false) (zz := []) (rows := Rs.map rb) up (fun bs hb => by obtain ⟨R, hR, rfl⟩ := List.mem_map.mp hb; exact (ra R hR).1) (fun bs hb b hbb x hx => by
          obtain ⟨R, hR, rfl⟩ := List.mem_map.mp hb
          refine allE (V.bl false, rowB R) (List.mem_map.mpr ⟨R, hR, rfl⟩) x ?_
          show IsEnd (rowB R) x
          rw [rowB_rb]
          exact ⟨_, List.mem_map.mpr ⟨b, hbb, rfl⟩, hx⟩) x
        rw [tile_val up rfl, List.map_map, List.map_map] at sv
        have e2 : fl (cutAt none E x) = Rs.map fun R => valB false (rb R) x := by rw [hfl]; exact sv
        rw [e2]

end
end Iz
/-! k21_d -/
set_option Elab.async false
set_option linter.all false
set_option maxRecDepth 100000
set_option maxHeartbeats 4000000
namespace Iz
open PySem PySem.Spec PyProof.Rows L2
open He (ga)
open SX (S S_len)
local macro_rules | `(tactic| walk_at "wp") => `(tactic| simp only [tD1, rTupN, rAll, rMax2, rMin2, tSl, tPart, tNoPart, rSlLN, tYes, rLenS, rRepN, unset, tEv2, calmS, tDNew, rInDN, rIxDN, rSetDN, tDN1, tDGetN, rSorted, cx_K, Value.ref.injEq, HO.xd.injEq, lk0, tSeq, tPar3, tPar, tCons, tNil, tVar, tC, tAsg, gName, gCons, gNil, gTupN, gSub, tOp, rI, rI0, rU, tTest, rNe, rEq, rIxTN, rIxLN, rLenL, rLenT, tLstRg, tRg1, tRg2, rIntI, rIntB, rAbs, rSetLN, tTruL, tRaiseX, rIsTy, rIsOw, ixN0, ixN1, tRet, tIf, tIfS, tNext, tBreak, tCont, tDrop, tTupN, tLstN, tUn, tCB, tCall, tNot, tAnd, tOr, tB, tAndV, tOrV, tNotV, tChain, tApp, LamX.tLam, tRevLN, rCatN, rInTN, rInLN, flatV, inV, List.all_cons, List.all_nil, List.any_cons, List.any_nil, Bool.and_self, Bool.and_true, if_true, Bool.false_eq_true, if_false, tMt, tFldN, tSto, HO.ins.injEq, lkh, List.drop_zero, List.drop_succ_cons, List.drop_nil, rListS, wipe, L2.start, List.map_cons, List.map_nil, List.length_cons, List.length_nil, List.replicate, List.cons_append, List.nil_append, List.append_nil, Nat.reduceAdd, Nat.reduceSub, Nat.zero_add, List.replicate_succ, List.replicate_zero, List.getElem?_cons_zero, List.getElem?_cons_succ, List.set_cons_zero, List.set_cons_succ, Option.some.injEq, V.int.injEq, V.bl.injEq, V.ref.injEq, V.str.injEq, V.ty.injEq, List.cons.injEq, HO.tup.injEq, HO.lst.injEq, and_true, true_and, and_assoc, exists_eq_left, exists_eq_left', exists_and_left, exists_eq', atI0, atI1, atI2, atI3, Int.cast_ofNat_Int, Int.reduceToNat, scal_ii, scal_in, scal_ni, scal_nn, scal_bb, scal_ss, scal_sn, scal_ns, scal_bn, scal_nb, ite_iff, decide_eq_true_eq, decide_eq_false_iff_not, Bool.not_eq_true', Classical.not_not, ne_eq, not_false_eq_true, not_true_eq_false, forall_const, true_implies, false_implies, imp_self, sizeLine_eq, Nat.reduceLeDiff, reduceCtorEq, decide_true, decide_false])
section
variable {P : Program} {w : World} {K : PySem.W.Frag} {mg : Str → Option Value} {base : Heap}
/-! ### slabs put together -/
def RelB (K : PySem.W.Frag) (H : Hp) : List (Bd V) → List (Bd Row) → Prop
  | [], [] => True
  | b :: bs, s :: S => b.1 = s.1 ∧ b.2.1 = s.2.1 ∧ RowV K H b.2.2 s.2.2 ∧ RelB K H bs S
  | _, _ => False
theorem RelB.keep {K : PySem.W.Frag} {H H' : Hp} (k : Kt H H') : ∀ {bs : List (Bd V)} {S : List (Bd Row)}, RelB K H bs S → RelB K H' bs S
  | [], [], _ => trivial
  | b :: bs, s :: S, h => ⟨h.1, h.2.1, h.2.2.1.keep k, RelB.keep k h.2.2.2⟩
theorem RelB.len {K : PySem.W.Frag} {H : Hp} : ∀ {bs : List (Bd V)} {S : List (Bd Row)}, RelB K H bs S → bs.length = S.length
  | [], [], _ => rfl
  | b :: bs, s :: S, h => by rw [List.length_cons, List.length_cons, RelB.len h.2.2.2]
theorem RelB.asc {K : PySem.W.Frag} {H : Hp} {bs : List (Bd V)} : ∀ {S : List (Bd Row)}, RelB K H bs S → AscB S → AscB bs := by
  induction bs with
  | nil => intro S _ _; trivial
  | cons b bs ih =>
    intro S h a
    cases S with
    | nil => exact h.elim
    | cons s S =>
      obtain ⟨h1, h2, h3, h4⟩ := h
      obtain ⟨a1, a2, a3⟩ := a
      refine ⟨by rw [h1, h2]; exact a1, ?_, ih h4 a3⟩
      cases bs with
      | nil => trivial
      | cons b' bs =>
        cases S with
        | nil => exact h4.elim
        | cons s' S =>
          obtain ⟨x, y, e1, e2, e3⟩ := a2
          exact ⟨x, y, by rw [h2]; exact e1, by rw [h4.1]; exact e2, e3⟩
theorem RelB.ends {K : PySem.W.Frag} {H : Hp} {x : Int} : ∀ {bs : List (Bd V)} {S : List (Bd Row)}, RelB K H bs S → (IsEnd bs x ↔ EndB S x)
  | [], [], _ => ⟨(fun ⟨_, h, _⟩ => by cases h), (fun ⟨_, h, _⟩ => by cases h)⟩
  | b :: bs, s :: S, h => by
    have ih := RelB.ends (x := x) h.2.2.2
    constructor
    · rintro ⟨c, hc, hx⟩
      rcases List.mem_cons.mp hc with rfl | hc
      · exact ⟨s, by simp, by rw [← h.1, ← h.2.1]; exact hx⟩
      · obtain ⟨d, hd, hx⟩ := ih.mp ⟨c, hc, hx⟩
        exact ⟨d, by simp [hd], hx⟩
    · rintro ⟨c, hc, hx⟩
      rcases List.mem_cons.mp hc with rfl | hc
      · exact ⟨b, by simp, by rw [h.1, h.2.1]; exact hx⟩
      · obtain ⟨d, hd, hx⟩ := ih.mpr ⟨c, hc, hx⟩
        exact ⟨d, by simp [hd], hx⟩
theorem RelB.val {K : PySem.W.Frag} {H : Hp} {z : V} (hz : RowV K H z []) (y : Int) : ∀ {bs : List (Bd V)} {S : List (Bd Row)}, RelB K H bs S → RowV K H (valB z bs y) (valB [] S y)
  | [], [], _ => hz
  | b :: bs, s :: S, h => by
    show RowV K H (if lies b.1 b.2.1 y = true then b.2.2 else valB z bs y) (if lies s.1 s.2.1 y = true then s.2.2 else valB [] S y)
    rw [h.1, h.2.1]
    split
    · exact h.2.2.1
    · exact RelB.val hz y h.2.2.2
theorem RelB.at' {K : PySem.W.Frag} {H : Hp} {z : V} (hz : RowV K H z []) {bs : List (Bd V)} {S : List (Bd Row)} (h : RelB K H bs S) (c : Option Int) : RowV K H (atC z bs c) (atC [] S c) := by
  cases c with
  | some c => exact h.val hz c
  | none =>
    match bs, S, h with
    | [], [], _ => exact hz
    | b :: bs, s :: S, h =>
      show RowV K H (if b.1 = none then b.2.2 else z) (if s.1 = none then s.2.2 else [])
      rw [h.1]
      split
      · exact h.2.2.1
      · exact hz
/-- slabs, as they stand -/
def SlabsAt (K : PySem.W.Frag) (H : Hp) (q : Addr) (S : List (Bd Row)) : Prop := ∃ xs bs, SqT K H q xs ∧ BsAt H xs bs ∧ RelB K H bs S
theorem SlabsAt.keep {K : PySem.W.Frag} {H H' : Hp} {q : Addr} {S : List (Bd Row)} (h : SlabsAt K H q S) (k : Kt H H') : SlabsAt K H' q S := let ⟨xs, bs, a, b, c⟩ := h; ⟨xs, bs, SqT.kt a k, b.keep k, c.keep k⟩
/-- rows that are told as they should -/
theorem good_val {S : List (Bd Row)} (g : RowsGood S) (y : Int) : Can (rb (valB [] S y)) ∧ (valB [] S y).length ≤ 1000 := by
  induction S with
  | nil => exact ⟨trivial, by simp [valB]⟩
  | cons s S ih =>
    by_cases c : lies s.1 s.2.1 y = true
    · rw [valB_in c]; exact g s (by simp)
    · rw [valB_out c]; exact ih fun t ht => g t (by simp [ht])
theorem good_at {S : List (Bd Row)} (g : RowsGood S) (c : Option Int) : Can (rb (atC [] S c)) ∧ (atC [] S c).length ≤ 1000 := by
  cases c with
  | some c => exact good_val g c
  | none =>
    cases S with
    | nil => exact ⟨trivial, by simp [atC, botB]⟩
    | cons s S =>
      show Can (rb (if s.1 = none then s.2.2 else [])) ∧ (if s.1 = none then s.2.2 else []).length ≤ 1000
      split
      · exact g s (by simp)
      · exact ⟨trivial, by simp⟩
/-! ### rows as worths -/
def dRw (R : Row) : PyData := .tuple (R.map dP)
theorem sh_dRw {n : Nat} {R : Row} : ShN (n + 2) (dRw R) := ShN.tuple fun d h => by
  obtain ⟨q, _, rfl⟩ := List.mem_map.mp h
  exact sh_dP.up (by omega)
theorem eqv_dP (p q : Option Int × Option Int) : PyData.eqv (dP p) (dP q) = decide (p = q) := by
  obtain ⟨a, b⟩ := p
  obtain ⟨c, d⟩ := q
  simp only [dP, PyData.eqv, PyData.eqvAll, eqv_dO, Bool.and_true, Prod.mk.injEq, Bool.decide_and]
theorem eqvA_dP : ∀ a b : Row, PyData.eqvAll (a.map dP) (b.map dP) = decide (a = b)
  | [], [] => rfl
  | [], _ :: _ => rfl
  | _ :: _, [] => rfl
  | p :: a, q :: b => by
    have ih := eqvA_dP a b
    simp only [List.map_cons, PyData.eqvAll, eqv_dP, ih, List.cons.injEq, Bool.decide_and]
theorem eqv_dRw (a b : Row) : PyData.eqv (dRw a) (dRw b) = decide (a = b) := by
  unfold dRw
  simp only [PyData.eqv]
  exact eqvA_dP a b
theorem RowV.dp {K : PySem.W.Frag} {H : Hp} {v : V} {R : Row} (h : RowV K H v R) : Dp K H v (dRw R) := by
  obtain ⟨q, xs, rfl, a, l, b⟩ := h
  refine .tup a (dpA_of (by rw [List.length_map]; exact l) fun i d hi => ?_)
  rw [List.getElem?_map] at hi
  cases e : R[i]? with
  | none => rw [e] at hi; cases hi
  | some s =>
    rw [e] at hi; cases hi
    obtain ⟨t, e1, e2⟩ := b i s e
    exact ⟨_, e1, .tup (SqT.of e2) (.cons dp_ov (.cons dp_ov .nil))⟩
theorem encR {K : PySem.W.Frag} : Enc K ([] : Row) (fun H v (a : Row) => RowV K H v a) dRw where
  keep := fun k h => h.keep k
  tru := fun {H v a} h => by
    obtain ⟨q, xs, rfl, hq, hs⟩ := h
    refine ⟨!xs.isEmpty, .inr (.inl ⟨xs, hq, rfl⟩), ?_⟩
    have := hs.1
    cases xs <;> cases a <;> simp_all
  dp := fun h => h.dp
  sh := fun a => (sh_dRw (n := 0)).ok
  eqv := eqv_dRw
open Classical in
noncomputable def putR (ks : List (List Bool)) (A B : Row) : Row :=
  if h : ∃ R : Row, Can (rb R) ∧ ∀ x, valB false (rb R) x = decide ([valB false (rb A) x, valB false (rb B) x] ∈ ks) then Classical.choose h else []
theorem putR_eq {ks : List (List Bool)} {A B R : Row} (c : Can (rb R)) (h : ∀ x, valB false (rb R) x = decide ([valB false (rb A) x, valB false (rb B) x] ∈ ks)) : putR ks A B = R := by
  have ex : ∃ R : Row, Can (rb R) ∧ ∀ x, valB false (rb R) x = decide ([valB false (rb A) x, valB false (rb B) x] ∈ ks) := ⟨R, c, h⟩
  unfold putR
  rw [dif_pos ex]
  have s := Classical.choose_spec ex
  exact row_uniq s.1 c fun x => by rw [s.2 x, h x]
theorem slabs_tbe {K : PySem.W.Frag} {H : Hp} : ∀ {xs : List V} {S : List (Bd Row)}, TBe (fun H v (a : Row) => RowV K H v a) H xs S → ∃ bs, BsAt H xs bs ∧ RelB K H bs S
  | [], [], _ => ⟨[], ⟨rfl, fun i b h => by simp at h⟩, trivial⟩
  | _ :: _, [], h => by cases h.1
  | [], _ :: _, h => by cases h.1
  | x :: xs, s :: S, h => by
    obtain ⟨t, v, e1, e2, e3⟩ := h.2 0 s rfl
    cases e1
    obtain ⟨bs, ⟨hl, hb⟩, hr⟩ := slabs_tbe (xs := xs) (S := S) ⟨Nat.succ.inj h.1, fun i b hi => h.2 (i + 1) b hi⟩
    refine ⟨(s.1, s.2.1, v) :: bs, ⟨by rw [List.length_cons, List.length_cons, hl], fun i b hi => ?_⟩, rfl, rfl, e3, hr⟩
    cases i with
    | zero => cases hi; exact ⟨t, rfl, e2⟩
    | succ i => exact hb i b hi
theorem tile_cut {y : Int} : ∀ {E : List Int} {lo : Option Int}, ∃ b ∈ tileF (fun c => c) lo E, b.2.2 = cutAt lo E y
  | [], lo => ⟨(lo, none, lo), List.mem_cons_self .., rfl⟩
  | e :: r, lo => by
    unfold cutAt tileF
    split
    · obtain ⟨b, hb, hc⟩ := tile_cut (y := y) (E := r) (lo := some e)
      exact ⟨b, List.mem_cons_of_mem _ hb, hc⟩
    · exact ⟨_, List.mem_cons_self .., rfl⟩
def spSlT (K : PySem.W.Frag) : Sp := fun vs H Q _ => ∃ p q kk, vs = [.ref p, .ref q, kk] ∧ ∃ (S1 S2 : List (Bd Row)) (ks : List (List Bool)), SlabsAt K H p S1 ∧ SlabsAt K H q S2 ∧ AscB S1 ∧ AscB S2 ∧ S1.length ≤ 1000 ∧ S2.length ≤ 1000 ∧ RowsGood S1 ∧ RowsGood S2 ∧ KsV K H kk ks ∧
  ∀ a S' H', Same H H' → SlabsAt K H' a S' → Can S' → (∀ s ∈ S', s.2.2 ≠ []) → (∀ y, EndB S' y → EndB S1 y ∨ EndB S2 y) → (∀ y, Mixed ks (valB [] S1 y) (valB [] S2 y) (valB [] S' y)) → Q (.ref a) H'
theorem o__slabs_together (T : Txt K mg) : OkF P w K mg base CX0 4 "_slabs_together" ["one", "other", "kept"] (spSlT K) := by
  have o_slab_changes := o_slab_changes (P := P) (w := w) (base := base) T
  have o_side_by_side := o_side_by_side (P := P) (w := w) (base := base) T
  have o__row_together := o__row_together (P := P) (w := w) (base := base) T
  have o__joined_bands := o__joined_bands (P := P) (w := w) (base := base) T
  obtain ⟨f, fd, g, F⟩ := T.d__slabs_together
  refine ⟨f, fd, g, F.kp, F.binds (fun _ _ _ _ _ _ us hl => match us, hl with | [_, _, _], _ => rfl), F.ok sc__slabs_together (fun vs H Q E h => ?_) (fun cdv A outer s H vs Q E hr h => ?_)⟩
  · first | (obtain ⟨_, rfl, _⟩ := h; rfl) | (obtain ⟨rfl, _⟩ := h; rfl) | (obtain ⟨_, _, rfl, _⟩ := h; rfl) | (obtain ⟨_, _, _, rfl, _⟩ := h; rfl) | (obtain ⟨_, _, _, _, rfl, _⟩ := h; rfl) | (obtain ⟨_, _, _, _, _, rfl, _⟩ := h; rfl) | (obtain ⟨_, _, _, _, _, _, rfl, _⟩ := h; rfl) | (obtain ⟨_, _, _, _, _, _, _, rfl, _⟩ := h; rfl)
  have hu64 := hr.units
  refine ⟨_, pss_cons (ps_set (i := 3) sc__slabs_together.nd rfl (Or.inl rfl) (pcl o_side_by_side (hr.mono (by decide)) pass0 (pa_cons (pe_lstN (pa_cons (pcl o_slab_changes (hr.mono (by decide)) pass0 (pa_cons (pv 0) pa_nil)) (pa_cons (pcl o_slab_changes (hr.mono (by decide)) pass0 (pa_cons (pv 1) pa_nil)) pa_nil))) pa_nil)))
      (pss_one (ps_ret (pe_callTy call_tupN (by rfl) T.m_tuple (by decide +kernel) (pa_cons (pcl o__joined_bands (hr.mono (by decide)) pass0 (pa_cons (pe_lc (own := [("low", 4), ("high", 5), ("rows", 6)]) (by rfl) sc__slabs_together.nd (pi_list (pv 3)) (blkOk_by (N := ["one", "other", "kept", "bands", "low", "high", "rows"]) (sc := defScope s__slabs_together) (own := [("low", 4), ("high", 5), ("rows", 6)]) (by decide +kernel)) (fun _ _ _ _ _ => pg_tupN (n := 3) (by rfl) (pgs_cons (pg_name (i := 4) sc__slabs_together.nd rfl (Or.inl rfl)) (pgs_cons (pg_name (i := 5) sc__slabs_together.nd rfl (Or.inl rfl)) (pgs_cons (pg_name (i := 6) sc__slabs_together.nd rfl (Or.inl rfl)) pgs_nil)))) (fun _ _ _ _ _ => pts_nil) (fun _ _ _ _ _ => pe_tupN (pa_cons (pv 4) (pa_cons (pv 5) (pa_cons (pcl o__row_together (hr.mono (by decide)) pass0 (pa_cons (pv 6) (pa_cons (pv 2) pa_nil))) pa_nil))))) pa_nil)) pa_nil)))), ?_⟩
  obtain ⟨p, q, kk, rfl, S1, S2, ks, ⟨xs1, bs1, x1, b1, r1⟩, ⟨xs2, bs2, x2, b2, r2⟩, a1, a2, l1, l2, g1, g2, hk, k⟩ := h
  have len1 := r1.len
  have len2 := r2.len
  simp only [exists_and_left, tD1, rTupN, rAll, rMax2, rMin2, tSl, tPart, tNoPart, rSlLN, tYes, rLenS, rRepN, unset, tEv2, calmS, tDNew, rInDN, rIxDN, rSetDN, tDN1, tDGetN, rSorted, cx_K, Value.ref.injEq, HO.xd.injEq, lk0, tSeq, tPar3, tPar, tCons, tNil, tVar, tC, tAsg, gName, gCons, gNil, gTupN, gSub, tOp, rI, rI0, rU, tTest, rNe, rEq, rIxTN, rIxLN, rLenL, rLenT, tLstRg, tRg1, tRg2, rIntI, rIntB, rAbs, rSetLN, tTruL, tRaiseX, rIsTy, rIsOw, ixN0, ixN1, tRet, tIf, tIfS, tNext, tBreak, tCont, tDrop, tTupN, tLstN, tUn, tCB, tCall, tNot, tAnd, tOr, tB, tAndV, tOrV, tNotV, tChain, tApp, LamX.tLam, tRevLN, rCatN, rInTN, rInLN, flatV, inV, List.all_cons, List.all_nil, List.any_cons, List.any_nil, Bool.and_self, Bool.and_true, if_true, Bool.false_eq_true, if_false, tMt, tFldN, tSto, HO.ins.injEq, lkh, List.drop_zero, List.drop_succ_cons, List.drop_nil, rListS, wipe, L2.start, List.map_cons, List.map_nil, List.length_cons, List.length_nil, List.replicate, List.cons_append, List.nil_append, List.append_nil, Nat.reduceAdd, Nat.reduceSub, Nat.zero_add, List.replicate_succ, List.replicate_zero, List.getElem?_cons_zero, List.getElem?_cons_succ, List.set_cons_zero, List.set_cons_succ, Option.some.injEq, V.int.injEq, V.bl.injEq, V.ref.injEq, V.str.injEq, V.ty.injEq, List.cons.injEq, HO.tup.injEq, HO.lst.injEq, and_true, true_and, and_assoc, exists_eq_left, exists_eq_left', exists_and_left, exists_eq', atI0, atI1, atI2, atI3, Int.cast_ofNat_Int, Int.reduceToNat, scal_ii, scal_in, scal_ni, scal_nn, scal_bb, scal_ss, scal_sn, scal_ns, scal_bn, scal_nb, ite_iff, decide_eq_true_eq, decide_eq_false_iff_not, Bool.not_eq_true', Classical.not_not, ne_eq, not_false_eq_true, not_true_eq_false, forall_const, true_implies, false_implies, imp_self, sizeLine_eq, Nat.reduceLeDiff, reduceCtorEq, decide_true, decide_false]
  refine ⟨p, rfl, xs1, bs1, x1, b1, by omega, fun e1 d1 H1 s1 t1 c1 => ?_⟩
  refine ⟨q, rfl, xs2, bs2, SqT.same x2 s1, b2.keep (Kt.same s1), by omega, fun e2 d2 H2 s2 t2 c2 => ?_⟩
  intro L3 H3 n3 s3 h3
  have rw2 : Rws P w H3 [.ref d1, .ref d2] [(.ref e1, bs1), (.ref e2, bs2)] := by
    refine ⟨rfl, fun i r hi => ?_⟩
    match i, hi with
    | 0, hi => cases hi; exact ⟨d1, rfl, c1.keep (Kt.same (s2.trans s3))⟩
    | 1, hi => cases hi; exact ⟨d2, rfl, c2.keep (Kt.same s3)⟩
    | (_ + 2), hi => simp at hi
  have z1 : RowV K H3 (.ref e1) [] := ⟨e1, [], rfl, SqT.same t1 (s2.trans s3), rfl, fun i p h => by simp at h⟩
  have z2 : RowV K H3 (.ref e2) [] := ⟨e2, [], rfl, SqT.same t2 s3, rfl, fun i p h => by simp at h⟩
  refine ⟨L3, rfl, _, [(.ref e1, bs1), (.ref e2, bs2)], h3, rw2, by simp, ?_, fun L E xs H4 n4 s4 up lenE allE onlyE h4 tb => ?_⟩
  · intro r hr
    simp only [List.mem_cons, List.not_mem_nil, or_false] at hr
    rcases hr with rfl | rfl
    · exact ⟨r1.asc a1, by show bs1.length ≤ 1000; omega⟩
    · exact ⟨r2.asc a2, by show bs2.length ≤ 1000; omega⟩
  obtain ⟨TT, hTT⟩ : ∃ TT, TT = tileF (fun c => c) none E := ⟨_, rfl⟩
  have s04 : Same H H4 := ((s1.trans s2).trans s3).trans s4
  have hf : tileF (fun c => [(V.ref e1, bs1), (V.ref e2, bs2)].map fun r => atC r.1 r.2 c) none E = TT.map fun b => (b.1, b.2.1, [atC (V.ref e1) bs1 b.2.2, atC (V.ref e2) bs2 b.2.2]) := by
    rw [hTT]; exact tileF_map (g := fun c => [atC (V.ref e1) bs1 c, atC (V.ref e2) bs2 c]) (f := fun c => c)
  rw [hf] at tb
  have lTT : TT.length = xs.length := by rw [tb.1, List.length_map]
  obtain ⟨F, hF⟩ : ∃ F : Option Int → Row, F = fun c => putR ks (atC [] S1 c) (atC [] S2 c) := ⟨_, rfl⟩
  refine st_lcL (fun R r => (by simp only [exists_and_left, tD1, rTupN, rAll, rMax2, rMin2, tSl, tPart, tNoPart, rSlLN, tYes, rLenS, rRepN, unset, tEv2, calmS, tDNew, rInDN, rIxDN, rSetDN, tDN1, tDGetN, rSorted, cx_K, Value.ref.injEq, HO.xd.injEq, lk0, tSeq, tPar3, tPar, tCons, tNil, tVar, tC, tAsg, gName, gCons, gNil, gTupN, gSub, tOp, rI, rI0, rU, tTest, rNe, rEq, rIxTN, rIxLN, rLenL, rLenT, tLstRg, tRg1, tRg2, rIntI, rIntB, rAbs, rSetLN, tTruL, tRaiseX, rIsTy, rIsOw, ixN0, ixN1, tRet, tIf, tIfS, tNext, tBreak, tCont, tDrop, tTupN, tLstN, tUn, tCB, tCall, tNot, tAnd, tOr, tB, tAndV, tOrV, tNotV, tChain, tApp, LamX.tLam, tRevLN, rCatN, rInTN, rInLN, flatV, inV, List.all_cons, List.all_nil, List.any_cons, List.any_nil, Bool.and_self, Bool.and_true, if_true, Bool.false_eq_true, if_false, tMt, tFldN, tSto, HO.ins.injEq, lkh, List.drop_zero, List.drop_succ_cons, List.drop_nil, rListS, wipe, L2.start, List.map_cons, List.map_nil, List.length_cons, List.length_nil, List.replicate, List.cons_append, List.nil_append, List.append_nil, Nat.reduceAdd, Nat.reduceSub, Nat.zero_add, List.replicate_succ, List.replicate_zero, List.getElem?_cons_zero, List.getElem?_cons_succ, List.set_cons_zero, List.set_cons_succ, Option.some.injEq, V.int.injEq, V.bl.injEq, V.ref.injEq, V.str.injEq, V.ty.injEq, List.cons.injEq, HO.tup.injEq, HO.lst.injEq, and_true, true_and, and_assoc, exists_eq_left, exists_eq_left', exists_and_left, exists_eq', atI0, atI1, atI2, atI3, Int.cast_ofNat_Int, Int.reduceToNat, scal_ii, scal_in, scal_ni, scal_nn, scal_bb, scal_ss, scal_sn, scal_ns, scal_bn, scal_nb, ite_iff, decide_eq_true_eq, decide_eq_false_iff_not, Bool.not_eq_true', Classical.not_not, ne_eq, not_false_eq_true, not_true_eq_false, forall_const, true_implies, false_implies, imp_self, sizeLine_eq, Nat.reduceLeDiff, reduceCtorEq, decide_true, decide_false]; exact r)) h4 (fun D i H' => H4 D = none ∧ Same H4 H' ∧ ∃ ys, H' D = some (.lst ys) ∧ TBe (fun H v (a : Row) => RowV K H v a) H' ys ((TT.take i).map fun b => (b.1, b.2.1, F b.2.2)) ∧ ∀ b ∈ TT.take i, Mixed ks (atC [] S1 b.2.2) (atC [] S2 b.2.2) (F b.2.2)) (fun D H1 n s h => ⟨n, s, [], h, by simp [TBe], by simp⟩) (fun D i H' q => q.2.1 _ _ h4) (fun D2 i x H5 hi q => ?_) (fun D2 H5 q => ?_)
  · obtain ⟨n5, s5, ys, h5, t5, m5⟩ := q
    have il : i < TT.length := by
      have := (List.getElem?_eq_some_iff.mp hi).1
      omega
    have hTi := List.getElem?_eq_getElem il
    obtain ⟨t, u, e1', e2', e3'⟩ := tb.2 i _ (by rw [List.getElem?_map, hTi]; rfl)
    rw [hi] at e1'; cases e1'
    have e4 := s5 _ _ e2'
    have e5 := s5 _ _ e3'
    simp only [e4, exists_and_left, tD1, rTupN, rAll, rMax2, rMin2, tSl, tPart, tNoPart, rSlLN, tYes, rLenS, rRepN, unset, tEv2, calmS, tDNew, rInDN, rIxDN, rSetDN, tDN1, tDGetN, rSorted, cx_K, Value.ref.injEq, HO.xd.injEq, lk0, tSeq, tPar3, tPar, tCons, tNil, tVar, tC, tAsg, gName, gCons, gNil, gTupN, gSub, tOp, rI, rI0, rU, tTest, rNe, rEq, rIxTN, rIxLN, rLenL, rLenT, tLstRg, tRg1, tRg2, rIntI, rIntB, rAbs, rSetLN, tTruL, tRaiseX, rIsTy, rIsOw, ixN0, ixN1, tRet, tIf, tIfS, tNext, tBreak, tCont, tDrop, tTupN, tLstN, tUn, tCB, tCall, tNot, tAnd, tOr, tB, tAndV, tOrV, tNotV, tChain, tApp, LamX.tLam, tRevLN, rCatN, rInTN, rInLN, flatV, inV, List.all_cons, List.all_nil, List.any_cons, List.any_nil, Bool.and_self, Bool.and_true, if_true, Bool.false_eq_true, if_false, tMt, tFldN, tSto, HO.ins.injEq, lkh, List.drop_zero, List.drop_succ_cons, List.drop_nil, rListS, wipe, L2.start, List.map_cons, List.map_nil, List.length_cons, List.length_nil, List.replicate, List.cons_append, List.nil_append, List.append_nil, Nat.reduceAdd, Nat.reduceSub, Nat.zero_add, List.replicate_succ, List.replicate_zero, List.getElem?_cons_zero, List.getElem?_cons_succ, List.set_cons_zero, List.set_cons_succ, Option.some.injEq, V.int.injEq, V.bl.injEq, V.ref.injEq, V.str.injEq, V.ty.injEq, List.cons.injEq, HO.tup.injEq, HO.lst.injEq, and_true, true_and, and_assoc, exists_eq_left, exists_eq_left', exists_and_left, exists_eq', atI0, atI1, atI2, atI3, Int.cast_ofNat_Int, Int.reduceToNat, scal_ii, scal_in, scal_ni, scal_nn, scal_bb, scal_ss, scal_sn, scal_ns, scal_bn, scal_nb, ite_iff, decide_eq_true_eq, decide_eq_false_iff_not, Bool.not_eq_true', Classical.not_not, ne_eq, not_false_eq_true, not_true_eq_false, forall_const, true_implies, false_implies, imp_self, sizeLine_eq, Nat.reduceLeDiff, reduceCtorEq, decide_true, decide_false]
    have s05 : Same H H5 := s04.trans s5
    have p1 := (r1.keep (Kt.same s05)).at' (z1.keep (Kt.same (s4.trans s5))) TT[i].2.2
    have p2 := (r2.keep (Kt.same s05)).at' (z2.keep (Kt.same (s4.trans s5))) TT[i].2.2
    refine ⟨u, kk, rfl, _, [atC [] S1 TT[i].2.2, atC [] S2 TT[i].2.2], ks, SqT.of e5, ⟨rfl, fun j R hj => ?_⟩, by simp, fun R hR => ?_, hk.keep (Kt.same s05), fun v R H6 s6 rv cn en vl => ?_⟩
    · match j, hj with
      | 0, hj => cases hj; exact ⟨_, rfl, p1⟩
      | 1, hj => cases hj; exact ⟨_, rfl, p2⟩
      | (_ + 2), hj => simp at hj
    · simp only [List.mem_cons, List.not_mem_nil, or_false] at hR
      rcases hR with rfl | rfl
      · exact ⟨(good_at g1 _).1.asc, (good_at g1 _).2⟩
      · exact ⟨(good_at g2 _).1.asc, (good_at g2 _).2⟩
    have eF : F TT[i].2.2 = R := by rw [hF]; exact putR_eq cn vl
    have mx : Mixed ks (atC [] S1 TT[i].2.2) (atC [] S2 TT[i].2.2) (F TT[i].2.2) := by
      rw [eF]
      refine ⟨cn, vl, fun x hx => ?_⟩
      obtain ⟨T, hT, hx⟩ := en x hx
      simp only [List.mem_cons, List.not_mem_nil, or_false] at hT
      rcases hT with rfl | rfl
      · exact .inl hx
      · exact .inr hx
    intro t6 H7 n7 s7 h7
    have hD7 := s7 _ _ (s6 _ _ h5)
    have ly : ys.length = i := by rw [t5.1, List.length_map, List.length_take]; omega
    have ku : Kt H7 (upd H7 D2 (.lst (ys ++ [V.ref t6]))) := Kt.upd hD7
    refine ⟨_, hD7, ?_, n5, fun c o e => by rw [upd_ne (ne_of_none e n5)]; exact s7 _ _ (s6 _ _ (s5 _ _ e)), _, upd_same, ?_, ?_⟩
    · have : TT.length ≤ 900001 := by rw [hTT, tile_len]; omega
      omega
    · have e : ((TT.take (i + 1)).map fun b => (b.1, b.2.1, F b.2.2)) = ((TT.take i).map fun b => (b.1, b.2.1, F b.2.2)) ++ [(TT[i].1, TT[i].2.1, F TT[i].2.2)] := by
        rw [List.take_succ, hTi, Option.toList_some, List.map_append]; rfl
      rw [e]
      exact TBe.snoc (E := fun H v (a : Row) => RowV K H v a) ((t5.keep (encR (K := K)) (Kt.same (s6.trans s7))).keep (encR (K := K)) ku) (b := (TT[i].1, TT[i].2.1, F TT[i].2.2)) (ku _ _ (fun _ q => by cases q) h7) (by rw [eF]; exact (rv.keep (Kt.same s7)).keep ku)
    · intro b hb
      rw [List.take_succ, hTi, Option.toList_some, List.mem_append, List.mem_singleton] at hb
      rcases hb with hb | rfl
      · exact m5 b hb
      · exact mx
  · obtain ⟨n5, s5, ys, h5, t5, m5⟩ := q
    rw [← lTT, List.take_length] at t5
    have lT : TT.length ≤ 900001 := by rw [hTT, tile_len]; omega
    refine ⟨D2, rfl, Row, inferInstance, [], _, dRw, encR, ys, _, h5, t5, by rw [List.length_map]; omega, fun J zs H6 n6 s6 h6 t6 => ?_⟩
    have hT : TT.map (fun b => (b.1, b.2.1, F b.2.2)) = tileF F none E := by rw [hTT, ← tileF_map (g := F) (f := fun c => c)]
    rw [hT] at t6
    obtain ⟨j1, j2, j3⟩ := joinB_ok (z := ([] : Row)) (T := tileF F none E) (tile_ok up)
    refine ⟨J, rfl, _, h6, ?_⟩
    intro w6 H7 _ s7 h7
    have s17 : Same H H7 := ((s04.trans s5).trans s6).trans s7
    refine k w6 _ H7 s17 ?_ j1 j2 (fun y hy => ?_) fun y => ?_
    · obtain ⟨bs, hb, hr⟩ := slabs_tbe t6
      exact ⟨zs, bs, SqT.of h7, hb.keep (Kt.same s7), hr.keep (Kt.same s7)⟩
    · rcases tileF_ends (joinB_ends hy) with h | h
      · cases h
      · obtain ⟨r, hr, hx⟩ := onlyE y h
        simp only [List.mem_cons, List.not_mem_nil, or_false] at hr
        rcases hr with rfl | rfl
        · exact .inl (r1.ends.mp hx)
        · exact .inr (r2.ends.mp hx)
    · rw [j3, tile_val up rfl]
      rw [← lTT, List.take_length] at m5
      obtain ⟨b, hb, hc⟩ := tile_cut (y := y) (E := E) (lo := none)
      have mb := m5 b (by rw [hTT]; exact hb)
      rw [hc] at mb
      obtain ⟨cg1, cg2⟩ := cut_gap (y := y) up rfl
      have v1 : valB [] S1 y = atC [] S1 (cutAt none E y) := gap_val a1 cg1 fun c hc' x hx => cg2 x (allE (.ref e1, bs1) (by simp) x (r1.ends.mpr ⟨c, hc', hx⟩))
      have v2 : valB [] S2 y = atC [] S2 (cutAt none E y) := gap_val a2 cg1 fun c hc' x hx => cg2 x (allE (.ref e2, bs2) (by simp) x (r2.ends.mpr ⟨c, hc', hx⟩))
      rw [v1, v2]
      exact mb

end
end Iz
/-! k21_e -/
set_option Elab.async false
set_option linter.all false
set_option maxRecDepth 100000
set_option maxHeartbeats 4000000
namespace Iz
open PySem PySem.Spec PyProof.Rows L2
open He (ga)
open SX (S S_len)
local macro_rules | `(tactic| walk_at "wp") => `(tactic| simp only [tD1, rTupN, rAll, rMax2, rMin2, tSl, tPart, tNoPart, rSlLN, tYes, rLenS, rRepN, unset, tEv2, calmS, tDNew, rInDN, rIxDN, rSetDN, tDN1, tDGetN, rSorted, cx_K, Value.ref.injEq, HO.xd.injEq, lk0, tSeq, tPar3, tPar, tCons, tNil, tVar, tC, tAsg, gName, gCons, gNil, gTupN, gSub, tOp, rI, rI0, rU, tTest, rNe, rEq, rIxTN, rIxLN, rLenL, rLenT, tLstRg, tRg1, tRg2, rIntI, rIntB, rAbs, rSetLN, tTruL, tRaiseX, rIsTy, rIsOw, ixN0, ixN1, tRet, tIf, tIfS, tNext, tBreak, tCont, tDrop, tTupN, tLstN, tUn, tCB, tCall, tNot, tAnd, tOr, tB, tAndV, tOrV, tNotV, tChain, tApp, LamX.tLam, tRevLN, rCatN, rInTN, rInLN, flatV, inV, List.all_cons, List.all_nil, List.any_cons, List.any_nil, Bool.and_self, Bool.and_true, if_true, Bool.false_eq_true, if_false, tMt, tFldN, tSto, HO.ins.injEq, lkh, List.drop_zero, List.drop_succ_cons, List.drop_nil, rListS, wipe, L2.start, List.map_cons, List.map_nil, List.length_cons, List.length_nil, List.replicate, List.cons_append, List.nil_append, List.append_nil, Nat.reduceAdd, Nat.reduceSub, Nat.zero_add, List.replicate_succ, List.replicate_zero, List.getElem?_cons_zero, List.getElem?_cons_succ, List.set_cons_zero, List.set_cons_succ, Option.some.injEq, V.int.injEq, V.bl.injEq, V.ref.injEq, V.str.injEq, V.ty.injEq, List.cons.injEq, HO.tup.injEq, HO.lst.injEq, and_true, true_and, and_assoc, exists_eq_left, exists_eq_left', exists_and_left, exists_eq', atI0, atI1, atI2, atI3, Int.cast_ofNat_Int, Int.reduceToNat, scal_ii, scal_in, scal_ni, scal_nn, scal_bb, scal_ss, scal_sn, scal_ns, scal_bn, scal_nb, ite_iff, decide_eq_true_eq, decide_eq_false_iff_not, Bool.not_eq_true', Classical.not_not, ne_eq, not_false_eq_true, not_true_eq_false, forall_const, true_implies, false_implies, imp_self, sizeLine_eq, Nat.reduceLeDiff, reduceCtorEq, decide_true, decide_false])
section
variable {P : Program} {w : World} {K : PySem.W.Frag} {mg : Str → Option Value} {base : Heap}
/-! ### slabs of boxes -/
theorem st_lcG {K : PySem.W.Frag} {tl : TE} {g : TG} {tt : TT} {te : TE} {vs : List Nat} {σ : L2.St} {H : Hp} {Q : VK} {a : Addr} {xs : List V} (ha : ∀ R : V → Hp → Prop, R (.ref a) H → tl σ H R) (hx : LG K H a xs) (Pv : Addr → Nat → Hp → Prop)
    (h0 : ∀ D H1, H D = none → Same H H1 → H1 D = some (.lst []) → Pv D 0 H1) (hl1 : H a = some (.lst xs) → ∀ D i H', Pv D i H' → H' a = some (.lst xs)) (hl2 : SqT K H a xs → ∀ D i H', Pv D i H' → SqT K H' a xs)
    (hs : ∀ D i x H, xs[i]? = some x → Pv D i H → g x (wipe σ vs) H fun σ2 H2 => wipe σ2 vs = wipe σ vs ∧ tt σ2 H2 fun b H3 => if b = true then te σ2 H3 fun y H4 => ∃ acc, H4 D = some (.lst acc) ∧ acc.length < sizeLine ∧ Pv D (i + 1) (upd H4 D (.lst (acc ++ [y]))) else Pv D (i + 1) H3)
    (hd : ∀ D H, Pv D xs.length H → Q (.ref D) H) : tLc (fun σ H R => iList K tl σ H R ∨ iTup K tl σ H R) g tt te vs σ H Q := by
  rcases hx with hx | hx
  · exact Or.inl (st_lcL ha hx Pv h0 (hl1 hx) hs hd)
  · exact Or.inr (st_lcTG ha hx Pv h0 (hl2 hx) hs hd)
/-- a list of boxes, each a tuple of four ends -/
def BxAt (H : Hp) (xs : List V) (B : List Box) : Prop := xs.length = B.length ∧ ∀ (i : Nat) (b : Box), B[i]? = some b → ∃ t, xs[i]? = some (V.ref t) ∧ H t = some (.tup [ov b.1.1, ov b.1.2, ov b.2.1, ov b.2.2])
theorem BxAt.keep {H H' : Hp} {xs : List V} {B : List Box} (h : BxAt H xs B) (k : Kt H H') : BxAt H' xs B := ⟨h.1, fun i p hi => let ⟨t, e1, e2⟩ := h.2 i p hi; ⟨t, e1, k _ _ (fun _ q => by cases q) e2⟩⟩
theorem cutV_from {ws : List V} {i : Int} (h0 : 0 ≤ i) (h1 : i ≤ ws.length) : cutV ws (some i) none = ws.drop i.toNat := by
  simp only [cutV, HT.sIx]
  rw [if_neg (by omega), Nat.min_eq_left (by omega), List.take_of_length_le (by rw [List.length_drop]; omega)]
/-- parts: slabs each -/
def PartsAt (K : PySem.W.Frag) (H : Hp) (ps : List V) (Ss : List (List (Bd Row))) : Prop := ps.length = Ss.length ∧ ∀ (i : Nat) S, Ss[i]? = some S → ∃ q, ps[i]? = some (V.ref q) ∧ SlabsAt K H q S
theorem SlabsAt.kt {K : PySem.W.Frag} {H H' : Hp} {q : Addr} {S : List (Bd Row)} (h : SlabsAt K H q S) (k : Kt H H') : SlabsAt K H' q S := let ⟨xs, bs, a, b, c⟩ := h; ⟨xs, bs, SqT.kt a k, b.keep k, c.keep k⟩
theorem PartsAt.keep {K : PySem.W.Frag} {H H' : Hp} {ps : List V} {Ss : List (List (Bd Row))} (h : PartsAt K H ps Ss) (k : Kt H H') : PartsAt K H' ps Ss := ⟨h.1, fun i p hi => let ⟨t, e1, e2⟩ := h.2 i p hi; ⟨t, e1, e2.kt k⟩⟩
theorem PartsAt.snoc {K : PySem.W.Frag} {H : Hp} {ps : List V} {Ss : List (List (Bd Row))} {q : Addr} {S : List (Bd Row)} (h : PartsAt K H ps Ss) (e : SlabsAt K H q S) : PartsAt K H (ps ++ [.ref q]) (Ss ++ [S]) := by
  refine ⟨by rw [List.length_append, List.length_append, h.1]; rfl, fun i c hi => ?_⟩
  by_cases l : i < Ss.length
  · rw [List.getElem?_append_left l] at hi
    obtain ⟨t, e1, e2⟩ := h.2 i c hi
    exact ⟨t, by rw [List.getElem?_append_left (by rw [h.1]; exact l)]; exact e1, e2⟩
  · rw [List.getElem?_append_right (by omega)] at hi
    have z : i - Ss.length = 0 := by
      have := (List.getElem?_eq_some_iff.mp hi).1
      simp at this; omega
    rw [z] at hi; cases hi
    exact ⟨q, by rw [List.getElem?_append_right (by rw [h.1]; omega), h.1, z]; rfl, e⟩
theorem PartsAt.app {K : PySem.W.Frag} {H : Hp} {ps qs : List V} {Ss Ts : List (List (Bd Row))} (h : PartsAt K H ps Ss) (g : PartsAt K H qs Ts) : PartsAt K H (ps ++ qs) (Ss ++ Ts) := by
  refine ⟨by rw [List.length_append, List.length_append, h.1, g.1], fun i c hi => ?_⟩
  by_cases l : i < Ss.length
  · rw [List.getElem?_append_left l] at hi
    obtain ⟨t, e1, e2⟩ := h.2 i c hi
    exact ⟨t, by rw [List.getElem?_append_left (by rw [h.1]; exact l)]; exact e1, e2⟩
  · rw [List.getElem?_append_right (by omega)] at hi
    obtain ⟨t, e1, e2⟩ := g.2 _ c hi
    exact ⟨t, by rw [List.getElem?_append_right (by rw [h.1]; omega), h.1]; exact e1, e2⟩
theorem PartsAt.drop {K : PySem.W.Frag} {H : Hp} {ps : List V} {Ss : List (List (Bd Row))} (h : PartsAt K H ps Ss) (n : Nat) : PartsAt K H (ps.drop n) (Ss.drop n) := by
  refine ⟨by rw [List.length_drop, List.length_drop, h.1], fun i c hi => ?_⟩
  rw [List.getElem?_drop] at hi
  obtain ⟨t, e1, e2⟩ := h.2 _ c hi
  exact ⟨t, by rw [List.getElem?_drop]; exact e1, e2⟩
/-- slabs of one box -/
theorem slabs_one {K : PySem.W.Frag} {H : Hp} {t1 t2 t3 t4 : Addr} {x0 x1 y0 y1 : Option Int} (h1 : H t1 = some (.tup [ov x0, ov x1])) (h2 : H t2 = some (.tup [.ref t1])) (h3 : H t3 = some (.tup [ov y0, ov y1, .ref t2])) (h4 : H t4 = some (.tup [.ref t3])) : SlabsAt K H t4 [(y0, y1, [(x0, x1)])] :=
  ⟨[.ref t3], [(y0, y1, .ref t2)], SqT.of h4, ⟨rfl, fun i b hi => by
    match i, hi with
    | 0, hi => cases hi; exact ⟨t3, rfl, h3⟩
    | (_ + 1), hi => simp at hi⟩, rfl, rfl, ⟨t2, [.ref t1], rfl, SqT.of h2, rfl, fun i p hi => by
    match i, hi with
    | 0, hi => cases hi; exact ⟨t1, rfl, h1⟩
    | (_ + 1), hi => simp at hi⟩, trivial⟩
def oneB (b : Box) : List (Bd Row) := [(b.2.1, b.2.2, [(b.1.1, b.1.2)])]
def spSlB (K : PySem.W.Frag) : Sp := fun vs H Q _ => ∃ p, vs = [.ref p] ∧ ∃ xs B, LG K H p xs ∧ BxAt H xs B ∧ B.length ≤ 400 ∧ (∀ b ∈ B, okBox b) ∧
  ∀ a S H', Same H H' → SlabsAt K H' a S → GoodS (exB B) (eyB B) S → (∀ x y, hasS S x y = B.any fun b => inBox b x y) → Q (.ref a) H'
theorem o_slabs_of_boxes (T : Txt K mg) : OkF P w K mg base CX0 6 "slabs_of_boxes" ["boxes"] (spSlB K) := by
  have o__slabs_together := o__slabs_together (P := P) (w := w) (base := base) T
  obtain ⟨f, fd, g, F⟩ := T.d_slabs_of_boxes
  refine ⟨f, fd, g, F.kp, F.binds (fun _ _ _ _ _ _ us hl => match us, hl with | [_], _ => rfl), F.ok sc_slabs_of_boxes (fun vs H Q E h => ?_) (fun cdv A outer s H vs Q E hr h => ?_)⟩
  · first | (obtain ⟨_, rfl, _⟩ := h; rfl) | (obtain ⟨rfl, _⟩ := h; rfl) | (obtain ⟨_, _, rfl, _⟩ := h; rfl) | (obtain ⟨_, _, _, rfl, _⟩ := h; rfl) | (obtain ⟨_, _, _, _, rfl, _⟩ := h; rfl) | (obtain ⟨_, _, _, _, _, rfl, _⟩ := h; rfl) | (obtain ⟨_, _, _, _, _, _, rfl, _⟩ := h; rfl) | (obtain ⟨_, _, _, _, _, _, _, rfl, _⟩ := h; rfl)
  have hu64 := hr.units
  refine ⟨_, pss_cons (ps_setLc (i := 1) (own := [("x0", 3), ("x1", 4), ("y0", 5), ("y1", 6)]) (by rfl) sc_slabs_of_boxes.nd rfl rfl (sw_true rfl rfl rfl (by decide +kernel)) ((pi_or (pi_list (pv 0)) (pi_tup (pv 0)))) (blkOk_by (N := ["boxes", "parts", "pairs", "x0", "x1", "y0", "y1", "one", "other"]) (sc := defScope s_slabs_of_boxes) (own := [("x0", 3), ("x1", 4), ("y0", 5), ("y1", 6)]) (by decide +kernel)) (fun _ _ _ _ _ => pg_tupN (n := 4) (by rfl) (pgs_cons (pg_name (i := 3) sc_slabs_of_boxes.nd rfl (Or.inl rfl)) (pgs_cons (pg_name (i := 4) sc_slabs_of_boxes.nd rfl (Or.inl rfl)) (pgs_cons (pg_name (i := 5) sc_slabs_of_boxes.nd rfl (Or.inl rfl)) (pgs_cons (pg_name (i := 6) sc_slabs_of_boxes.nd rfl (Or.inl rfl)) pgs_nil))))) (fun _ _ _ _ _ => pts_nil) (fun _ _ _ _ _ => pe_tupN (pa_cons (pe_tupN (pa_cons (pv 5) (pa_cons (pv 6) (pa_cons (pe_tupN (pa_cons (pe_tupN (pa_cons (pv 3) (pa_cons (pv 4) pa_nil))) pa_nil)) pa_nil)))) pa_nil)))
      (pss_cons (ps_while PassesOwn.never (PTm (pt_cmpR op_gt (pe_callB call_lenL (by rfl) T.m_len (by decide +kernel) (pa_cons (pv 1) pa_nil)) (pe_int) (nomark _))) (pss_cons (ps_setLc (i := 2) (own := [("one", 7), ("other", 8)]) (by rfl) sc_slabs_of_boxes.nd rfl rfl (sw_true rfl rfl rfl (by decide +kernel)) (RZ.pi_zipA (by rfl) T.m_zip (pa_cons (pe_ev2L (pv 1)) (pa_cons (pe_od2L (pv 1)) pa_nil))) (blkOk_by (N := ["boxes", "parts", "pairs", "x0", "x1", "y0", "y1", "one", "other"]) (sc := defScope s_slabs_of_boxes) (own := [("one", 7), ("other", 8)]) (by decide +kernel)) (fun _ _ _ _ _ => pg_tupN (n := 2) (by rfl) (pgs_cons (pg_name (i := 7) sc_slabs_of_boxes.nd rfl (Or.inl rfl)) (pgs_cons (pg_name (i := 8) sc_slabs_of_boxes.nd rfl (Or.inl rfl)) pgs_nil))) (fun _ _ _ _ _ => pts_nil) (fun _ _ _ _ _ => pcl o__slabs_together (hr.mono (by decide)) pass0 (pa_cons (pv 7) (pa_cons (pv 8) (pa_cons ((pe_glob (v := .ref (ga K "EITHER")) (by rfl) T.g_EITHER rfl)) pa_nil)))))
      (pss_one (ps_set (i := 1) sc_slabs_of_boxes.nd rfl (Or.inl rfl) (pe_op op_catN (pv 2) (pe_slice sl_listN (pv 1) (po_some (pe_op op_mul (pe_int) (pe_callB call_lenL (by rfl) T.m_len (by decide +kernel) (pa_cons (pv 2) pa_nil)))) (po_none)))))))
      (pss_one (ps_ret (pe_ifExp (pt_truL (pv 1)) (pe_ix ix_listN (pv 1) (pe_int) (fun _ _ => rfl)) (pe_tupN (pa_nil)))))), ?_⟩
  obtain ⟨p, rfl, xs, B, hx, hb, bl, ok, k⟩ := h
  simp only [exists_and_left, tD1, rTupN, rAll, rMax2, rMin2, tSl, tPart, tNoPart, rSlLN, tYes, rLenS, rRepN, unset, tEv2, calmS, tDNew, rInDN, rIxDN, rSetDN, tDN1, tDGetN, rSorted, cx_K, Value.ref.injEq, HO.xd.injEq, lk0, tSeq, tPar3, tPar, tCons, tNil, tVar, tC, tAsg, gName, gCons, gNil, gTupN, gSub, tOp, rI, rI0, rU, tTest, rNe, rEq, rIxTN, rIxLN, rLenL, rLenT, tLstRg, tRg1, tRg2, rIntI, rIntB, rAbs, rSetLN, tTruL, tRaiseX, rIsTy, rIsOw, ixN0, ixN1, tRet, tIf, tIfS, tNext, tBreak, tCont, tDrop, tTupN, tLstN, tUn, tCB, tCall, tNot, tAnd, tOr, tB, tAndV, tOrV, tNotV, tChain, tApp, LamX.tLam, tRevLN, rCatN, rInTN, rInLN, flatV, inV, List.all_cons, List.all_nil, List.any_cons, List.any_nil, Bool.and_self, Bool.and_true, if_true, Bool.false_eq_true, if_false, tMt, tFldN, tSto, HO.ins.injEq, lkh, List.drop_zero, List.drop_succ_cons, List.drop_nil, rListS, wipe, L2.start, List.map_cons, List.map_nil, List.length_cons, List.length_nil, List.replicate, List.cons_append, List.nil_append, List.append_nil, Nat.reduceAdd, Nat.reduceSub, Nat.zero_add, List.replicate_succ, List.replicate_zero, List.getElem?_cons_zero, List.getElem?_cons_succ, List.set_cons_zero, List.set_cons_succ, Option.some.injEq, V.int.injEq, V.bl.injEq, V.ref.injEq, V.str.injEq, V.ty.injEq, List.cons.injEq, HO.tup.injEq, HO.lst.injEq, and_true, true_and, and_assoc, exists_eq_left, exists_eq_left', exists_and_left, exists_eq', atI0, atI1, atI2, atI3, Int.cast_ofNat_Int, Int.reduceToNat, scal_ii, scal_in, scal_ni, scal_nn, scal_bb, scal_ss, scal_sn, scal_ns, scal_bn, scal_nb, ite_iff, decide_eq_true_eq, decide_eq_false_iff_not, Bool.not_eq_true', Classical.not_not, ne_eq, not_false_eq_true, not_true_eq_false, forall_const, true_implies, false_implies, imp_self, sizeLine_eq, Nat.reduceLeDiff, reduceCtorEq, decide_true, decide_false]
  refine st_lcG (fun R r => (by simp only [exists_and_left, tD1, rTupN, rAll, rMax2, rMin2, tSl, tPart, tNoPart, rSlLN, tYes, rLenS, rRepN, unset, tEv2, calmS, tDNew, rInDN, rIxDN, rSetDN, tDN1, tDGetN, rSorted, cx_K, Value.ref.injEq, HO.xd.injEq, lk0, tSeq, tPar3, tPar, tCons, tNil, tVar, tC, tAsg, gName, gCons, gNil, gTupN, gSub, tOp, rI, rI0, rU, tTest, rNe, rEq, rIxTN, rIxLN, rLenL, rLenT, tLstRg, tRg1, tRg2, rIntI, rIntB, rAbs, rSetLN, tTruL, tRaiseX, rIsTy, rIsOw, ixN0, ixN1, tRet, tIf, tIfS, tNext, tBreak, tCont, tDrop, tTupN, tLstN, tUn, tCB, tCall, tNot, tAnd, tOr, tB, tAndV, tOrV, tNotV, tChain, tApp, LamX.tLam, tRevLN, rCatN, rInTN, rInLN, flatV, inV, List.all_cons, List.all_nil, List.any_cons, List.any_nil, Bool.and_self, Bool.and_true, if_true, Bool.false_eq_true, if_false, tMt, tFldN, tSto, HO.ins.injEq, lkh, List.drop_zero, List.drop_succ_cons, List.drop_nil, rListS, wipe, L2.start, List.map_cons, List.map_nil, List.length_cons, List.length_nil, List.replicate, List.cons_append, List.nil_append, List.append_nil, Nat.reduceAdd, Nat.reduceSub, Nat.zero_add, List.replicate_succ, List.replicate_zero, List.getElem?_cons_zero, List.getElem?_cons_succ, List.set_cons_zero, List.set_cons_succ, Option.some.injEq, V.int.injEq, V.bl.injEq, V.ref.injEq, V.str.injEq, V.ty.injEq, List.cons.injEq, HO.tup.injEq, HO.lst.injEq, and_true, true_and, and_assoc, exists_eq_left, exists_eq_left', exists_and_left, exists_eq', atI0, atI1, atI2, atI3, Int.cast_ofNat_Int, Int.reduceToNat, scal_ii, scal_in, scal_ni, scal_nn, scal_bb, scal_ss, scal_sn, scal_ns, scal_bn, scal_nb, ite_iff, decide_eq_true_eq, decide_eq_false_iff_not, Bool.not_eq_true', Classical.not_not, ne_eq, not_false_eq_true, not_true_eq_false, forall_const, true_implies, false_implies, imp_self, sizeLine_eq, Nat.reduceLeDiff, reduceCtorEq, decide_true, decide_false]; exact r)) hx (fun D i H' => H D = none ∧ Same H H' ∧ ∃ ys, H' D = some (.lst ys) ∧ PartsAt K H' ys ((B.take i).map oneB)) (fun D H1 n s h => ⟨n, s, [], h, by simp [PartsAt]⟩) (fun hq D i H' q => q.2.1 _ _ hq) (fun hq D i H' q => SqT.same hq q.2.1) (fun D2 i x H5 hi q => ?_) (fun D2 H5 q => ?_)
  · obtain ⟨n5, s5, ys, h5, t5⟩ := q
    have il : i < B.length := by
      have := (List.getElem?_eq_some_iff.mp hi).1
      rw [hb.1] at this; exact this
    have hBi := List.getElem?_eq_getElem il
    obtain ⟨t, e, ht⟩ := hb.2 i B[i] hBi
    rw [hi] at e; cases e
    have ht5 := s5 _ _ ht
    simp only [ht5, exists_and_left, tD1, rTupN, rAll, rMax2, rMin2, tSl, tPart, tNoPart, rSlLN, tYes, rLenS, rRepN, unset, tEv2, calmS, tDNew, rInDN, rIxDN, rSetDN, tDN1, tDGetN, rSorted, cx_K, Value.ref.injEq, HO.xd.injEq, lk0, tSeq, tPar3, tPar, tCons, tNil, tVar, tC, tAsg, gName, gCons, gNil, gTupN, gSub, tOp, rI, rI0, rU, tTest, rNe, rEq, rIxTN, rIxLN, rLenL, rLenT, tLstRg, tRg1, tRg2, rIntI, rIntB, rAbs, rSetLN, tTruL, tRaiseX, rIsTy, rIsOw, ixN0, ixN1, tRet, tIf, tIfS, tNext, tBreak, tCont, tDrop, tTupN, tLstN, tUn, tCB, tCall, tNot, tAnd, tOr, tB, tAndV, tOrV, tNotV, tChain, tApp, LamX.tLam, tRevLN, rCatN, rInTN, rInLN, flatV, inV, List.all_cons, List.all_nil, List.any_cons, List.any_nil, Bool.and_self, Bool.and_true, if_true, Bool.false_eq_true, if_false, tMt, tFldN, tSto, HO.ins.injEq, lkh, List.drop_zero, List.drop_succ_cons, List.drop_nil, rListS, wipe, L2.start, List.map_cons, List.map_nil, List.length_cons, List.length_nil, List.replicate, List.cons_append, List.nil_append, List.append_nil, Nat.reduceAdd, Nat.reduceSub, Nat.zero_add, List.replicate_succ, List.replicate_zero, List.getElem?_cons_zero, List.getElem?_cons_succ, List.set_cons_zero, List.set_cons_succ, Option.some.injEq, V.int.injEq, V.bl.injEq, V.ref.injEq, V.str.injEq, V.ty.injEq, List.cons.injEq, HO.tup.injEq, HO.lst.injEq, and_true, true_and, and_assoc, exists_eq_left, exists_eq_left', exists_and_left, exists_eq', atI0, atI1, atI2, atI3, Int.cast_ofNat_Int, Int.reduceToNat, scal_ii, scal_in, scal_ni, scal_nn, scal_bb, scal_ss, scal_sn, scal_ns, scal_bn, scal_nb, ite_iff, decide_eq_true_eq, decide_eq_false_iff_not, Bool.not_eq_true', Classical.not_not, ne_eq, not_false_eq_true, not_true_eq_false, forall_const, true_implies, false_implies, imp_self, sizeLine_eq, Nat.reduceLeDiff, reduceCtorEq, decide_true, decide_false]
    intro t1 G1 _ r1 e1 t2 G2 _ r2 e2 t3 G3 _ r3 e3 t4 G4 _ r4 e4
    have r14 := ((r1.trans r2).trans r3).trans r4
    have hD := r14 _ _ h5
    have ku : Kt G4 (upd G4 D2 (.lst (ys ++ [V.ref t4]))) := Kt.upd hD
    have so := (slabs_one (K := K) (r4 _ _ (r3 _ _ (r2 _ _ e1))) (r4 _ _ (r3 _ _ e2)) (r4 _ _ e3) e4).kt ku
    refine ⟨_, hD, ?_, n5, fun c o e => ?_, _, upd_same, ?_⟩
    · have := t5.1
      rw [List.length_map, List.length_take] at this
      omega
    · rw [upd_ne (ne_of_none e n5)]; exact r14 _ _ (s5 _ _ e)
    · rw [List.take_succ, hBi, Option.toList_some, List.map_append]
      exact ((t5.keep (Kt.same r14)).keep ku).snoc so
  · obtain ⟨n5, s5, ys, h5, t5⟩ := q
    rw [hb.1, List.take_length] at t5
    refine while_by (fun σ' H' => ∃ l x2 ps Ss, σ' = [some (V.ref p), some (V.ref l), x2, none, none, none, none, none, none] ∧ Same H H' ∧ H' l = some (.lst ps) ∧ PartsAt K H' ps Ss ∧ Ss.length ≤ 400 ∧ (∀ S ∈ Ss, GoodS (exB B) (eyB B) S) ∧ ∀ x y, (Ss.any fun S => hasS S x y) = B.any fun b => inBox b x y)
      (fun σ' H' => match σ'[1]? with | some (some (V.ref l)) => (match H' l with | some (.lst xs) => xs.length | _ => 0) | _ => 0) ⟨D2, _, ys, B.map oneB, rfl, s5, h5, t5, by simpa using bl, fun S hS => ?_, fun x y => ?_⟩ ?_ mono_mcl
    · obtain ⟨b, hb', rfl⟩ := List.mem_map.mp hS
      exact GoodS.one (ok b hb').1 (ok b hb').2 (fun e he => mem_exB hb' he) (fun e he => mem_eyB hb' he)
    · rw [List.any_map]
      exact congrArg _ (funext fun b => hasS_one)
    · rintro _ H6 ⟨l, x2, ps, Ss, rfl, s6, h6, t6, l6, g6, a6⟩
      refine ⟨_, ?_, fun b H2 q => q⟩
      simp only [h6, exists_and_left, tD1, rTupN, rAll, rMax2, rMin2, tSl, tPart, tNoPart, rSlLN, tYes, rLenS, rRepN, unset, tEv2, calmS, tDNew, rInDN, rIxDN, rSetDN, tDN1, tDGetN, rSorted, cx_K, Value.ref.injEq, HO.xd.injEq, lk0, tSeq, tPar3, tPar, tCons, tNil, tVar, tC, tAsg, gName, gCons, gNil, gTupN, gSub, tOp, rI, rI0, rU, tTest, rNe, rEq, rIxTN, rIxLN, rLenL, rLenT, tLstRg, tRg1, tRg2, rIntI, rIntB, rAbs, rSetLN, tTruL, tRaiseX, rIsTy, rIsOw, ixN0, ixN1, tRet, tIf, tIfS, tNext, tBreak, tCont, tDrop, tTupN, tLstN, tUn, tCB, tCall, tNot, tAnd, tOr, tB, tAndV, tOrV, tNotV, tChain, tApp, LamX.tLam, tRevLN, rCatN, rInTN, rInLN, flatV, inV, List.all_cons, List.all_nil, List.any_cons, List.any_nil, Bool.and_self, Bool.and_true, if_true, Bool.false_eq_true, if_false, tMt, tFldN, tSto, HO.ins.injEq, lkh, List.drop_zero, List.drop_succ_cons, List.drop_nil, rListS, wipe, L2.start, List.map_cons, List.map_nil, List.length_cons, List.length_nil, List.replicate, List.cons_append, List.nil_append, List.append_nil, Nat.reduceAdd, Nat.reduceSub, Nat.zero_add, List.replicate_succ, List.replicate_zero, List.getElem?_cons_zero, List.getElem?_cons_succ, List.set_cons_zero, List.set_cons_succ, Option.some.injEq, V.int.injEq, V.bl.injEq, V.ref.injEq, V.str.injEq, V.ty.injEq, List.cons.injEq, HO.tup.injEq, HO.lst.injEq, and_true, true_and, and_assoc, exists_eq_left, exists_eq_left', exists_and_left, exists_eq', atI0, atI1, atI2, atI3, Int.cast_ofNat_Int, Int.reduceToNat, scal_ii, scal_in, scal_ni, scal_nn, scal_bb, scal_ss, scal_sn, scal_ns, scal_bn, scal_nb, ite_iff, decide_eq_true_eq, decide_eq_false_iff_not, Bool.not_eq_true', Classical.not_not, ne_eq, not_false_eq_true, not_true_eq_false, forall_const, true_implies, false_implies, imp_self, sizeLine_eq, Nat.reduceLeDiff, reduceCtorEq, decide_true, decide_false]
      refine ⟨fun c => ?_, fun c => ?_⟩
      · refine lc_zip ?_
        simp only [h6, exists_and_left, tD1, rTupN, rAll, rMax2, rMin2, tSl, tPart, tNoPart, rSlLN, tYes, rLenS, rRepN, unset, tEv2, calmS, tDNew, rInDN, rIxDN, rSetDN, tDN1, tDGetN, rSorted, cx_K, Value.ref.injEq, HO.xd.injEq, lk0, tSeq, tPar3, tPar, tCons, tNil, tVar, tC, tAsg, gName, gCons, gNil, gTupN, gSub, tOp, rI, rI0, rU, tTest, rNe, rEq, rIxTN, rIxLN, rLenL, rLenT, tLstRg, tRg1, tRg2, rIntI, rIntB, rAbs, rSetLN, tTruL, tRaiseX, rIsTy, rIsOw, ixN0, ixN1, tRet, tIf, tIfS, tNext, tBreak, tCont, tDrop, tTupN, tLstN, tUn, tCB, tCall, tNot, tAnd, tOr, tB, tAndV, tOrV, tNotV, tChain, tApp, LamX.tLam, tRevLN, rCatN, rInTN, rInLN, flatV, inV, List.all_cons, List.all_nil, List.any_cons, List.any_nil, Bool.and_self, Bool.and_true, if_true, Bool.false_eq_true, if_false, tMt, tFldN, tSto, HO.ins.injEq, lkh, List.drop_zero, List.drop_succ_cons, List.drop_nil, rListS, wipe, L2.start, List.map_cons, List.map_nil, List.length_cons, List.length_nil, List.replicate, List.cons_append, List.nil_append, List.append_nil, Nat.reduceAdd, Nat.reduceSub, Nat.zero_add, List.replicate_succ, List.replicate_zero, List.getElem?_cons_zero, List.getElem?_cons_succ, List.set_cons_zero, List.set_cons_succ, Option.some.injEq, V.int.injEq, V.bl.injEq, V.ref.injEq, V.str.injEq, V.ty.injEq, List.cons.injEq, HO.tup.injEq, HO.lst.injEq, and_true, true_and, and_assoc, exists_eq_left, exists_eq_left', exists_and_left, exists_eq', atI0, atI1, atI2, atI3, Int.cast_ofNat_Int, Int.reduceToNat, scal_ii, scal_in, scal_ni, scal_nn, scal_bb, scal_ss, scal_sn, scal_ns, scal_bn, scal_nb, ite_iff, decide_eq_true_eq, decide_eq_false_iff_not, Bool.not_eq_true', Classical.not_not, ne_eq, not_false_eq_true, not_true_eq_false, forall_const, true_implies, false_implies, imp_self, sizeLine_eq, Nat.reduceLeDiff, reduceCtorEq, decide_true, decide_false]
        intro m1 G1 _ r1 e1
        have h61 := r1 _ _ h6
        simp only [h61, exists_and_left, tD1, rTupN, rAll, rMax2, rMin2, tSl, tPart, tNoPart, rSlLN, tYes, rLenS, rRepN, unset, tEv2, calmS, tDNew, rInDN, rIxDN, rSetDN, tDN1, tDGetN, rSorted, cx_K, Value.ref.injEq, HO.xd.injEq, lk0, tSeq, tPar3, tPar, tCons, tNil, tVar, tC, tAsg, gName, gCons, gNil, gTupN, gSub, tOp, rI, rI0, rU, tTest, rNe, rEq, rIxTN, rIxLN, rLenL, rLenT, tLstRg, tRg1, tRg2, rIntI, rIntB, rAbs, rSetLN, tTruL, tRaiseX, rIsTy, rIsOw, ixN0, ixN1, tRet, tIf, tIfS, tNext, tBreak, tCont, tDrop, tTupN, tLstN, tUn, tCB, tCall, tNot, tAnd, tOr, tB, tAndV, tOrV, tNotV, tChain, tApp, LamX.tLam, tRevLN, rCatN, rInTN, rInLN, flatV, inV, List.all_cons, List.all_nil, List.any_cons, List.any_nil, Bool.and_self, Bool.and_true, if_true, Bool.false_eq_true, if_false, tMt, tFldN, tSto, HO.ins.injEq, lkh, List.drop_zero, List.drop_succ_cons, List.drop_nil, rListS, wipe, L2.start, List.map_cons, List.map_nil, List.length_cons, List.length_nil, List.replicate, List.cons_append, List.nil_append, List.append_nil, Nat.reduceAdd, Nat.reduceSub, Nat.zero_add, List.replicate_succ, List.replicate_zero, List.getElem?_cons_zero, List.getElem?_cons_succ, List.set_cons_zero, List.set_cons_succ, Option.some.injEq, V.int.injEq, V.bl.injEq, V.ref.injEq, V.str.injEq, V.ty.injEq, List.cons.injEq, HO.tup.injEq, HO.lst.injEq, and_true, true_and, and_assoc, exists_eq_left, exists_eq_left', exists_and_left, exists_eq', atI0, atI1, atI2, atI3, Int.cast_ofNat_Int, Int.reduceToNat, scal_ii, scal_in, scal_ni, scal_nn, scal_bb, scal_ss, scal_sn, scal_ns, scal_bn, scal_nb, ite_iff, decide_eq_true_eq, decide_eq_false_iff_not, Bool.not_eq_true', Classical.not_not, ne_eq, not_false_eq_true, not_true_eq_false, forall_const, true_implies, false_implies, imp_self, sizeLine_eq, Nat.reduceLeDiff, reduceCtorEq, decide_true, decide_false]
        intro m2 G2 _ r2 e2
        have hod := od2_lenN ps
        have hev := ev2_lenN ps
        have n2 : ps.length = Ss.length := t6.1
        have exl := exB_len B
        have eyl := eyB_len B
        obtain ⟨n, hn⟩ : ∃ n, n = ps.length / 2 := ⟨_, rfl⟩
        have e12 := r2 _ _ e1
        refine ⟨m2, rfl, ev2 ps, ev2 ps.tail, .inl ⟨SqL.of e12, SqL.of e2, ?_⟩⟩
        refine st_zipL (n := n) (xs := ev2 ps) (ys := ev2 ps.tail) (by rw [hod, hev]; omega) (fun D i H' => G2 D = none ∧ Same G2 H' ∧ ∃ ys Ts, H' D = some (.lst ys) ∧ PartsAt K H' ys Ts ∧ Ts.length = i ∧ (∀ S ∈ Ts, GoodS (exB B) (eyB B) S) ∧ ∀ x y, (Ts.any fun S => hasS S x y) = ((Ss.take (2 * i)).any fun S => hasS S x y))
          (fun D H1 nD s h => ⟨nD, s, [], [], h, by simp [PartsAt], rfl, by simp, by simp⟩) (fun D i H' q => ⟨SqL.of (q.2.1 _ _ e12), SqL.of (q.2.1 _ _ e2)⟩) (fun D i xv yv T2 K3 K4 hx2 hy2 q t4 hT2 => ?_) (fun D K3 q => ?_)
        · obtain ⟨nD, s3, ys, Ts, h3, t3, lT, gT, aT⟩ := q
          rw [ev2_get] at hx2
          rw [od2_get] at hy2
          have il := (List.getElem?_eq_some_iff.mp hy2).1
          have z1 := List.getElem?_eq_getElem (show 2 * i < Ss.length by omega)
          have z2 := List.getElem?_eq_getElem (show 2 * i + 1 < Ss.length by omega)
          obtain ⟨q1, f1, A1⟩ := t6.2 _ _ z1
          obtain ⟨q2, f2, A2⟩ := t6.2 _ _ z2
          rw [hx2] at f1; cases f1
          rw [hy2] at f2; cases f2
          have g1 := g6 _ (List.mem_of_getElem? z1)
          have g2 := g6 _ (List.mem_of_getElem? z2)
          have s64 : Same H6 K4 := (r1.trans r2).trans (s3.trans t4)
          obtain ⟨a0, a1, a2, b0, b1, b2, b3⟩ := T.gt_EITHER K4
          have hk : KsV K K4 (.ref (ga K "EITHER")) ksEither := ⟨_, _, rfl, b0, rfl, fun j l h => by
            match j, h with
            | 0, h => cases h; exact ⟨_, rfl, b1⟩
            | 1, h => cases h; exact ⟨_, rfl, b2⟩
            | 2, h => cases h; exact ⟨_, rfl, b3⟩
            | (_ + 3), h => simp at h⟩
          simp only [hT2, exists_and_left, tD1, rTupN, rAll, rMax2, rMin2, tSl, tPart, tNoPart, rSlLN, tYes, rLenS, rRepN, unset, tEv2, calmS, tDNew, rInDN, rIxDN, rSetDN, tDN1, tDGetN, rSorted, cx_K, Value.ref.injEq, HO.xd.injEq, lk0, tSeq, tPar3, tPar, tCons, tNil, tVar, tC, tAsg, gName, gCons, gNil, gTupN, gSub, tOp, rI, rI0, rU, tTest, rNe, rEq, rIxTN, rIxLN, rLenL, rLenT, tLstRg, tRg1, tRg2, rIntI, rIntB, rAbs, rSetLN, tTruL, tRaiseX, rIsTy, rIsOw, ixN0, ixN1, tRet, tIf, tIfS, tNext, tBreak, tCont, tDrop, tTupN, tLstN, tUn, tCB, tCall, tNot, tAnd, tOr, tB, tAndV, tOrV, tNotV, tChain, tApp, LamX.tLam, tRevLN, rCatN, rInTN, rInLN, flatV, inV, List.all_cons, List.all_nil, List.any_cons, List.any_nil, Bool.and_self, Bool.and_true, if_true, Bool.false_eq_true, if_false, tMt, tFldN, tSto, HO.ins.injEq, lkh, List.drop_zero, List.drop_succ_cons, List.drop_nil, rListS, wipe, L2.start, List.map_cons, List.map_nil, List.length_cons, List.length_nil, List.replicate, List.cons_append, List.nil_append, List.append_nil, Nat.reduceAdd, Nat.reduceSub, Nat.zero_add, List.replicate_succ, List.replicate_zero, List.getElem?_cons_zero, List.getElem?_cons_succ, List.set_cons_zero, List.set_cons_succ, Option.some.injEq, V.int.injEq, V.bl.injEq, V.ref.injEq, V.str.injEq, V.ty.injEq, List.cons.injEq, HO.tup.injEq, HO.lst.injEq, and_true, true_and, and_assoc, exists_eq_left, exists_eq_left', exists_and_left, exists_eq', atI0, atI1, atI2, atI3, Int.cast_ofNat_Int, Int.reduceToNat, scal_ii, scal_in, scal_ni, scal_nn, scal_bb, scal_ss, scal_sn, scal_ns, scal_bn, scal_nb, ite_iff, decide_eq_true_eq, decide_eq_false_iff_not, Bool.not_eq_true', Classical.not_not, ne_eq, not_false_eq_true, not_true_eq_false, forall_const, true_implies, false_implies, imp_self, sizeLine_eq, Nat.reduceLeDiff, reduceCtorEq, decide_true, decide_false]
          refine ⟨_, _, _, rfl, _, _, ksEither, A1.keep (Kt.same s64), A2.keep (Kt.same s64), g1.can.asc, g2.can.asc, by have := g1.len; omega, by have := g2.len; omega, g1.rg (by omega), g2.rg (by omega), hk, fun a S' H7 s7 sl cn nz en mx => ?_⟩
          have hD := s7 _ _ (t4 _ _ h3)
          have ku : Kt H7 (upd H7 D (.lst (ys ++ [V.ref a]))) := Kt.upd hD
          refine ⟨_, hD, ?_, nD, fun c o e => ?_, _, upd_same, Ts ++ [S'], ((t3.keep (Kt.same (t4.trans s7))).keep ku).snoc (sl.kt ku), by simp [lT], fun S hS => ?_, fun x y => ?_⟩
          · have := t3.1; omega
          · rw [upd_ne (ne_of_none e nD)]; exact s7 _ _ (t4 _ _ (s3 _ _ e))
          · rcases List.mem_append.mp hS with hS | hS
            · exact gT S hS
            · rw [List.mem_singleton.mp hS]; exact g1.mix g2 cn nz en mx
          · rw [any_two z1 z2, List.any_append, aT]
            have := has_mix mx x y
            rw [ks_either] at this
            simp [this]
        · obtain ⟨nD, s3, ys, Ts, h3, t3, lT, gT, aT⟩ := q
          have s63 : Same H6 K3 := (r1.trans r2).trans s3
          have ly : ys.length = n := by rw [t3.1, lT]
          have h63 := s63 _ _ h6
          simp only [h3, h63, exists_and_left, tD1, rTupN, rAll, rMax2, rMin2, tSl, tPart, tNoPart, rSlLN, tYes, rLenS, rRepN, unset, tEv2, calmS, tDNew, rInDN, rIxDN, rSetDN, tDN1, tDGetN, rSorted, cx_K, Value.ref.injEq, HO.xd.injEq, lk0, tSeq, tPar3, tPar, tCons, tNil, tVar, tC, tAsg, gName, gCons, gNil, gTupN, gSub, tOp, rI, rI0, rU, tTest, rNe, rEq, rIxTN, rIxLN, rLenL, rLenT, tLstRg, tRg1, tRg2, rIntI, rIntB, rAbs, rSetLN, tTruL, tRaiseX, rIsTy, rIsOw, ixN0, ixN1, tRet, tIf, tIfS, tNext, tBreak, tCont, tDrop, tTupN, tLstN, tUn, tCB, tCall, tNot, tAnd, tOr, tB, tAndV, tOrV, tNotV, tChain, tApp, LamX.tLam, tRevLN, rCatN, rInTN, rInLN, flatV, inV, List.all_cons, List.all_nil, List.any_cons, List.any_nil, Bool.and_self, Bool.and_true, if_true, Bool.false_eq_true, if_false, tMt, tFldN, tSto, HO.ins.injEq, lkh, List.drop_zero, List.drop_succ_cons, List.drop_nil, rListS, wipe, L2.start, List.map_cons, List.map_nil, List.length_cons, List.length_nil, List.replicate, List.cons_append, List.nil_append, List.append_nil, Nat.reduceAdd, Nat.reduceSub, Nat.zero_add, List.replicate_succ, List.replicate_zero, List.getElem?_cons_zero, List.getElem?_cons_succ, List.set_cons_zero, List.set_cons_succ, Option.some.injEq, V.int.injEq, V.bl.injEq, V.ref.injEq, V.str.injEq, V.ty.injEq, List.cons.injEq, HO.tup.injEq, HO.lst.injEq, and_true, true_and, and_assoc, exists_eq_left, exists_eq_left', exists_and_left, exists_eq', atI0, atI1, atI2, atI3, Int.cast_ofNat_Int, Int.reduceToNat, scal_ii, scal_in, scal_ni, scal_nn, scal_bb, scal_ss, scal_sn, scal_ns, scal_bn, scal_nb, ite_iff, decide_eq_true_eq, decide_eq_false_iff_not, Bool.not_eq_true', Classical.not_not, ne_eq, not_false_eq_true, not_true_eq_false, forall_const, true_implies, false_implies, imp_self, sizeLine_eq, Nat.reduceLeDiff, reduceCtorEq, decide_true, decide_false]
          have lq := t6.1
          refine ⟨by first | exact .inr ⟨by decide, by decide⟩ | exact .inl ⟨by decide, by decide⟩, _, SqL.of h63, fun m3 G5 _ r5 e5 => ?_⟩
          rw [cutV_from (by omega) (by omega), show (2 * (ys.length : Int)).toNat = 2 * n by omega] at e5
          refine ⟨m3, rfl, _, r5 _ _ h3, _, e5, by rw [List.length_drop]; omega, ?_⟩
          intro m4 G6 _ r6 e6
          have s66 := s63.trans (r5.trans r6)
          refine ⟨⟨m4, rfl, s6.trans s66, _, e6, Ts ++ Ss.drop (2 * n), (t3.keep (Kt.same (r5.trans r6))).app ((t6.keep (Kt.same s66)).drop _), by rw [List.length_append, List.length_drop]; omega, fun S hS => ?_, fun x y => ?_⟩, ?_⟩
          · rcases List.mem_append.mp hS with hS | hS
            · exact gT S hS
            · exact g6 S (List.mem_of_mem_drop hS)
          · rw [List.any_append, aT, ← any_split, a6]
          · simp only [e6, List.length_append, List.length_drop]; omega
      · cases hps : ps with
        | nil =>
          subst hps
          have e0 : Ss = [] := List.eq_nil_of_length_eq_zero (by rw [← t6.1]; rfl)
          subst e0
          refine ⟨fun h => by simp at h, fun _ => ?_⟩
          intro a H7 _ s7 h7
          exact k a [] H7 (s6.trans s7) ⟨[], [], SqT.of h7, ⟨rfl, fun i b h => by simp at h⟩, trivial⟩ GoodS.nil fun x y => by rw [← a6 x y]; rfl
        | cons z zs =>
          subst hps
          obtain ⟨S, rfl⟩ : ∃ S, Ss = [S] := by
            have := t6.1
            rw [List.length_cons] at this
            match Ss, this with
            | [S], _ => exact ⟨S, rfl⟩
            | S :: S' :: r, h => exact absurd (by simp only [List.length_cons] at h ⊢; omega) c
          obtain ⟨q, f1, A1⟩ := t6.2 0 S rfl
          cases f1
          refine ⟨fun _ => ⟨_, atI0, k q S H6 s6 A1 (g6 S (by simp)) fun x y => by rw [← a6 x y]; simp⟩, fun h => absurd rfl h⟩

end
end Iz
/-! k21_f -/
set_option Elab.async false
set_option linter.all false
set_option maxRecDepth 100000
set_option maxHeartbeats 4000000
namespace Iz
open PySem PySem.Spec PyProof.Rows L2
open He (ga)
open SX (S S_len)
local macro_rules | `(tactic| walk_at "wp") => `(tactic| simp only [tD1, rTupN, rAll, rMax2, rMin2, tSl, tPart, tNoPart, rSlLN, tYes, rLenS, rRepN, unset, tEv2, calmS, tDNew, rInDN, rIxDN, rSetDN, tDN1, tDGetN, rSorted, cx_K, Value.ref.injEq, HO.xd.injEq, lk0, tSeq, tPar3, tPar, tCons, tNil, tVar, tC, tAsg, gName, gCons, gNil, gTupN, gSub, tOp, rI, rI0, rU, tTest, rNe, rEq, rIxTN, rIxLN, rLenL, rLenT, tLstRg, tRg1, tRg2, rIntI, rIntB, rAbs, rSetLN, tTruL, tRaiseX, rIsTy, rIsOw, ixN0, ixN1, tRet, tIf, tIfS, tNext, tBreak, tCont, tDrop, tTupN, tLstN, tUn, tCB, tCall, tNot, tAnd, tOr, tB, tAndV, tOrV, tNotV, tChain, tApp, LamX.tLam, tRevLN, rCatN, rInTN, rInLN, flatV, inV, List.all_cons, List.all_nil, List.any_cons, List.any_nil, Bool.and_self, Bool.and_true, if_true, Bool.false_eq_true, if_false, tMt, tFldN, tSto, HO.ins.injEq, lkh, List.drop_zero, List.drop_succ_cons, List.drop_nil, rListS, wipe, L2.start, List.map_cons, List.map_nil, List.length_cons, List.length_nil, List.replicate, List.cons_append, List.nil_append, List.append_nil, Nat.reduceAdd, Nat.reduceSub, Nat.zero_add, List.replicate_succ, List.replicate_zero, List.getElem?_cons_zero, List.getElem?_cons_succ, List.set_cons_zero, List.set_cons_succ, Option.some.injEq, V.int.injEq, V.bl.injEq, V.ref.injEq, V.str.injEq, V.ty.injEq, List.cons.injEq, HO.tup.injEq, HO.lst.injEq, and_true, true_and, and_assoc, exists_eq_left, exists_eq_left', exists_and_left, exists_eq', atI0, atI1, atI2, atI3, Int.cast_ofNat_Int, Int.reduceToNat, scal_ii, scal_in, scal_ni, scal_nn, scal_bb, scal_ss, scal_sn, scal_ns, scal_bn, scal_nb, ite_iff, decide_eq_true_eq, decide_eq_false_iff_not, Bool.not_eq_true', Classical.not_not, ne_eq, not_false_eq_true, not_true_eq_false, forall_const, true_implies, false_implies, imp_self, sizeLine_eq, Nat.reduceLeDiff, reduceCtorEq, decide_true, decide_false])
section
variable {P : Program} {w : World} {K : PySem.W.Frag} {mg : Str → Option Value} {base : Heap}
/-! ### basics -/
def spWhole (K : PySem.W.Frag) : Sp := fun vs H Q _ => ∃ x, vs = [x] ∧ Wh K H x ∧ Q (.bl (isI x)) H
theorem o_is_whole (T : Txt K mg) : OkF P w K mg base CX0 1 "is_whole" ["value"] (spWhole K) := by
  obtain ⟨f, fd, g, F⟩ := T.d_is_whole
  refine ⟨f, fd, g, F.kp, F.binds (fun _ _ _ _ _ _ us hl => match us, hl with | [_], _ => rfl), F.ok sc_is_whole (fun vs H Q E h => ?_) (fun cdv A outer s H vs Q E hr h => ?_)⟩
  · obtain ⟨x, rfl, _⟩ := h; rfl
  · obtain ⟨x, rfl, ⟨t, b1, b2, ty, k1, k2, e⟩, kk⟩ := h
    refine ⟨_, pss_one (ps_ret (pe_and (pe_callB call_isTy (by rfl) T.m_isinstance (by decide +kernel) (pa_cons (pv 0) (pa_cons ((pe_bltn (v := .ty "int") (by rfl) T.m_int (by decide +kernel) rfl)) pa_nil))) (pe_one (pe_not (pe_callB call_isTy (by rfl) T.m_isinstance (by decide +kernel) (pa_cons (pv 0) (pa_cons ((pe_bltn (v := .ty "bool") (by rfl) T.m_bool (by decide +kernel) rfl)) pa_nil))))))), ?_⟩
    walk_at "wp"
    rw [← e] at kk
    refine ⟨t, ty, b1, k1, fun h => ⟨t, ty, b2, k2, ?_⟩, fun h => ?_⟩
    · subst h; exact kk
    · cases b1
      · exact kk
      · exact absurd rfl h

/-! ### pairs -/
def spPair (K : PySem.W.Frag) : Sp := fun vs H Q _ => ∃ x, vs = [x] ∧ PairK K H x ∧ Q (.bl (pairV H x).isSome) H
theorem o_is_pair (T : Txt K mg) : OkF P w K mg base CX0 2 "is_pair" ["value"] (spPair K) := by
  have o_is_whole := o_is_whole (P := P) (w := w) (base := base) T
  obtain ⟨f, fd, g, F⟩ := T.d_is_pair
  refine ⟨f, fd, g, F.kp, F.binds (fun _ _ _ _ _ _ us hl => match us, hl with | [_], _ => rfl), F.ok sc_is_pair (fun vs H Q E h => ?_) (fun cdv A outer s H vs Q E hr h => ?_)⟩
  · first | (obtain ⟨_, rfl, _⟩ := h; rfl) | (obtain ⟨rfl, _⟩ := h; rfl) | (obtain ⟨_, _, rfl, _⟩ := h; rfl) | (obtain ⟨_, _, _, rfl, _⟩ := h; rfl) | (obtain ⟨_, _, _, _, rfl, _⟩ := h; rfl) | (obtain ⟨_, _, _, _, _, rfl, _⟩ := h; rfl) | (obtain ⟨_, _, _, _, _, _, rfl, _⟩ := h; rfl) | (obtain ⟨_, _, _, _, _, _, _, rfl, _⟩ := h; rfl)
  have hu64 := hr.units
  refine ⟨_, pss_one (ps_ret (pe_and (pe_callB call_isTy (by rfl) T.m_isinstance (by decide +kernel) (pa_cons (pv 0) (pa_cons ((pe_bltn (v := .ty "tuple") (by rfl) T.m_tuple (by decide +kernel) rfl)) pa_nil))) (pe_and (pe_cmpR op_eq (pe_callB call_lenT (by rfl) T.m_len (by decide +kernel) (pa_cons (pv 0) pa_nil)) (pe_int) (nomark _)) (pe_and (pcl o_is_whole (hr.mono (by decide)) pass0 (pa_cons (pe_ix ix_tupN (pv 0) (pe_int) (fun _ _ => rfl)) pa_nil)) (pe_one (pcl o_is_whole (hr.mono (by decide)) pass0 (pa_cons (pe_ix ix_tupN (pv 0) (pe_int) (fun _ _ => rfl)) pa_nil))))))), ?_⟩
  obtain ⟨x, rfl, hk, k⟩ := h
  simp only [spWhole, exists_and_left, tD1, rTupN, rAll, rMax2, rMin2, tSl, tPart, tNoPart, rSlLN, tYes, rLenS, rRepN, unset, tEv2, calmS, tDNew, rInDN, rIxDN, rSetDN, tDN1, tDGetN, rSorted, cx_K, Value.ref.injEq, HO.xd.injEq, lk0, tSeq, tPar3, tPar, tCons, tNil, tVar, tC, tAsg, gName, gCons, gNil, gTupN, gSub, tOp, rI, rI0, rU, tTest, rNe, rEq, rIxTN, rIxLN, rLenL, rLenT, tLstRg, tRg1, tRg2, rIntI, rIntB, rAbs, rSetLN, tTruL, tRaiseX, rIsTy, rIsOw, ixN0, ixN1, tRet, tIf, tIfS, tNext, tBreak, tCont, tDrop, tTupN, tLstN, tUn, tCB, tCall, tNot, tAnd, tOr, tB, tAndV, tOrV, tNotV, tChain, tApp, LamX.tLam, tRevLN, rCatN, rInTN, rInLN, flatV, inV, List.all_cons, List.all_nil, List.any_cons, List.any_nil, Bool.and_self, Bool.and_true, if_true, Bool.false_eq_true, if_false, tMt, tFldN, tSto, HO.ins.injEq, lkh, List.drop_zero, List.drop_succ_cons, List.drop_nil, rListS, wipe, L2.start, List.map_cons, List.map_nil, List.length_cons, List.length_nil, List.replicate, List.cons_append, List.nil_append, List.append_nil, Nat.reduceAdd, Nat.reduceSub, Nat.zero_add, List.replicate_succ, List.replicate_zero, List.getElem?_cons_zero, List.getElem?_cons_succ, List.set_cons_zero, List.set_cons_succ, Option.some.injEq, V.int.injEq, V.bl.injEq, V.ref.injEq, V.str.injEq, V.ty.injEq, List.cons.injEq, HO.tup.injEq, HO.lst.injEq, and_true, true_and, and_assoc, exists_eq_left, exists_eq_left', exists_and_left, exists_eq', atI0, atI1, atI2, atI3, Int.cast_ofNat_Int, Int.reduceToNat, scal_ii, scal_in, scal_ni, scal_nn, scal_bb, scal_ss, scal_sn, scal_ns, scal_bn, scal_nb, ite_iff, decide_eq_true_eq, decide_eq_false_iff_not, Bool.not_eq_true', Classical.not_not, ne_eq, not_false_eq_true, not_true_eq_false, forall_const, true_implies, false_implies, imp_self, sizeLine_eq, Nat.reduceLeDiff, reduceCtorEq, decide_true, decide_false]
  rcases hk.ty with ⟨p, xs, rfl, hx, hw⟩ | ⟨t, ty, e, no⟩
  · refine ⟨_, .base (.tup hx), true, kit_ty (by decide +kernel), fun _ => ?_, fun h => absurd rfl h⟩
    simp only [hx, exists_and_left, tD1, rTupN, rAll, rMax2, rMin2, tSl, tPart, tNoPart, rSlLN, tYes, rLenS, rRepN, unset, tEv2, calmS, tDNew, rInDN, rIxDN, rSetDN, tDN1, tDGetN, rSorted, cx_K, Value.ref.injEq, HO.xd.injEq, lk0, tSeq, tPar3, tPar, tCons, tNil, tVar, tC, tAsg, gName, gCons, gNil, gTupN, gSub, tOp, rI, rI0, rU, tTest, rNe, rEq, rIxTN, rIxLN, rLenL, rLenT, tLstRg, tRg1, tRg2, rIntI, rIntB, rAbs, rSetLN, tTruL, tRaiseX, rIsTy, rIsOw, ixN0, ixN1, tRet, tIf, tIfS, tNext, tBreak, tCont, tDrop, tTupN, tLstN, tUn, tCB, tCall, tNot, tAnd, tOr, tB, tAndV, tOrV, tNotV, tChain, tApp, LamX.tLam, tRevLN, rCatN, rInTN, rInLN, flatV, inV, List.all_cons, List.all_nil, List.any_cons, List.any_nil, Bool.and_self, Bool.and_true, if_true, Bool.false_eq_true, if_false, tMt, tFldN, tSto, HO.ins.injEq, lkh, List.drop_zero, List.drop_succ_cons, List.drop_nil, rListS, wipe, L2.start, List.map_cons, List.map_nil, List.length_cons, List.length_nil, List.replicate, List.cons_append, List.nil_append, List.append_nil, Nat.reduceAdd, Nat.reduceSub, Nat.zero_add, List.replicate_succ, List.replicate_zero, List.getElem?_cons_zero, List.getElem?_cons_succ, List.set_cons_zero, List.set_cons_succ, Option.some.injEq, V.int.injEq, V.bl.injEq, V.ref.injEq, V.str.injEq, V.ty.injEq, List.cons.injEq, HO.tup.injEq, HO.lst.injEq, and_true, true_and, and_assoc, exists_eq_left, exists_eq_left', exists_and_left, exists_eq', atI0, atI1, atI2, atI3, Int.cast_ofNat_Int, Int.reduceToNat, scal_ii, scal_in, scal_ni, scal_nn, scal_bb, scal_ss, scal_sn, scal_ns, scal_bn, scal_nb, ite_iff, decide_eq_true_eq, decide_eq_false_iff_not, Bool.not_eq_true', Classical.not_not, ne_eq, not_false_eq_true, not_true_eq_false, forall_const, true_implies, false_implies, imp_self, sizeLine_eq, Nat.reduceLeDiff, reduceCtorEq, decide_true, decide_false]
    have pv : pairV H (.ref p) = pairL xs := by simp only [pairV, hx]
    rw [pv] at k
    refine ⟨fun h2 => ?_, fun h2 => ?_⟩
    · obtain ⟨x, y, rfl⟩ : ∃ x y, xs = [x, y] := by
        match xs, h2 with
        | [x, y], _ => exact ⟨x, y, rfl⟩
        | [], h => simp at h
        | [x], h => simp at h
        | x :: y :: z :: r, h => simp at h; omega
      refine ⟨x, atI0, hw x (by simp), fun h => ⟨y, atI1, hw y (by simp), ?_⟩, fun h => ?_⟩
      · obtain ⟨i, rfl⟩ := isI_int h
        cases y <;> exact k
      · cases x <;> first | exact k | exact absurd rfl h
    · rw [pairL_none h2] at k; exact k
  · refine ⟨t, ty, false, e, fun h => (by cases h), fun _ => ?_⟩
    rw [no] at k; exact k

/-! ### spans -/
/-- low and high are the ends of a stretch -/
def okS : V → V → Bool
  | .non, .non => true
  | .non, .int _ => true
  | .int _, .non => true
  | .int a, .int b => decide (a < b)
  | _, _ => false
def isE : V → Bool
  | .non => true
  | .int _ => true
  | _ => false
theorem isE_ov {x : V} (h : isE x = true) : ∃ o, x = ov o := by cases x <;> simp_all [isE]; exact ⟨none, rfl⟩; exact ⟨some _, rfl⟩
theorem okS_E {l h : V} (e : okS l h = true) : isE l = true ∧ isE h = true := by cases l <;> cases h <;> simp_all [okS, isE]
def okO : Option Int → Option Int → Prop
  | some a, some b => a < b
  | _, _ => True
theorem okS_ov {l h : Option Int} : okS (ov l) (ov h) = true ↔ okO l h := by cases l <;> cases h <;> simp [okS, okO, ov]
def spSpan (K : PySem.W.Frag) : Sp := fun vs H Q _ => ∃ l h, vs = [l, h] ∧ Wh K H l ∧ Wh K H h ∧ Q (.bl (okS l h)) H
theorem o_is_span (T : Txt K mg) : OkF P w K mg base CX0 2 "is_span" ["low", "high"] (spSpan K) := by
  have o_is_whole := o_is_whole (P := P) (w := w) (base := base) T
  obtain ⟨f, fd, g, F⟩ := T.d_is_span
  refine ⟨f, fd, g, F.kp, F.binds (fun _ _ _ _ _ _ us hl => match us, hl with | [_, _], _ => rfl), F.ok sc_is_span (fun vs H Q E h => ?_) (fun cdv A outer s H vs Q E hr h => ?_)⟩
  · first | (obtain ⟨_, rfl, _⟩ := h; rfl) | (obtain ⟨rfl, _⟩ := h; rfl) | (obtain ⟨_, _, rfl, _⟩ := h; rfl) | (obtain ⟨_, _, _, rfl, _⟩ := h; rfl) | (obtain ⟨_, _, _, _, rfl, _⟩ := h; rfl) | (obtain ⟨_, _, _, _, _, rfl, _⟩ := h; rfl) | (obtain ⟨_, _, _, _, _, _, rfl, _⟩ := h; rfl) | (obtain ⟨_, _, _, _, _, _, _, rfl, _⟩ := h; rfl)
  have hu64 := hr.units
  refine ⟨_, pss_cons (ps_if (PW.pt (pw_or (pt_not (PW.pt (pw_or (pt_cmpR op_isN (pv 0) (pe_non) (nomark _)) (pw_or1 (pt_val (pcl o_is_whole (hr.mono (by decide)) pass0 (pa_cons (pv 0) pa_nil))))))) (pw_or1 (pt_not (PW.pt (pw_or (pt_cmpR op_isN (pv 1) (pe_non) (nomark _)) (pw_or1 (pt_val (pcl o_is_whole (hr.mono (by decide)) pass0 (pa_cons (pv 1) pa_nil)))))))))) (pss_one (ps_ret (pe_bl))) (pss_nil))
      (pss_one (ps_ret (pe_or (pe_cmpR op_isN (pv 0) (pe_non) (nomark _)) (pe_or (pe_cmpR op_isN (pv 1) (pe_non) (nomark _)) (pe_one (pe_cmpR op_lt (pv 0) (pv 1) (nomark _))))))), ?_⟩
  obtain ⟨l, h, rfl, Wl, Wr, k⟩ := h
  simp only [spWhole, exists_and_left, tD1, rTupN, rAll, rMax2, rMin2, tSl, tPart, tNoPart, rSlLN, tYes, rLenS, rRepN, unset, tEv2, calmS, tDNew, rInDN, rIxDN, rSetDN, tDN1, tDGetN, rSorted, cx_K, Value.ref.injEq, HO.xd.injEq, lk0, tSeq, tPar3, tPar, tCons, tNil, tVar, tC, tAsg, gName, gCons, gNil, gTupN, gSub, tOp, rI, rI0, rU, tTest, rNe, rEq, rIxTN, rIxLN, rLenL, rLenT, tLstRg, tRg1, tRg2, rIntI, rIntB, rAbs, rSetLN, tTruL, tRaiseX, rIsTy, rIsOw, ixN0, ixN1, tRet, tIf, tIfS, tNext, tBreak, tCont, tDrop, tTupN, tLstN, tUn, tCB, tCall, tNot, tAnd, tOr, tB, tAndV, tOrV, tNotV, tChain, tApp, LamX.tLam, tRevLN, rCatN, rInTN, rInLN, flatV, inV, List.all_cons, List.all_nil, List.any_cons, List.any_nil, Bool.and_self, Bool.and_true, if_true, Bool.false_eq_true, if_false, tMt, tFldN, tSto, HO.ins.injEq, lkh, List.drop_zero, List.drop_succ_cons, List.drop_nil, rListS, wipe, L2.start, List.map_cons, List.map_nil, List.length_cons, List.length_nil, List.replicate, List.cons_append, List.nil_append, List.append_nil, Nat.reduceAdd, Nat.reduceSub, Nat.zero_add, List.replicate_succ, List.replicate_zero, List.getElem?_cons_zero, List.getElem?_cons_succ, List.set_cons_zero, List.set_cons_succ, Option.some.injEq, V.int.injEq, V.bl.injEq, V.ref.injEq, V.str.injEq, V.ty.injEq, List.cons.injEq, HO.tup.injEq, HO.lst.injEq, and_true, true_and, and_assoc, exists_eq_left, exists_eq_left', exists_and_left, exists_eq', atI0, atI1, atI2, atI3, Int.cast_ofNat_Int, Int.reduceToNat, scal_ii, scal_in, scal_ni, scal_nn, scal_bb, scal_ss, scal_sn, scal_ns, scal_bn, scal_nb, ite_iff, decide_eq_true_eq, decide_eq_false_iff_not, Bool.not_eq_true', Classical.not_not, ne_eq, not_false_eq_true, not_true_eq_false, forall_const, true_implies, false_implies, imp_self, sizeLine_eq, Nat.reduceLeDiff, reduceCtorEq, decide_true, decide_false]
  cases l <;> cases h <;> simp_all [okS, isI]

/-! ### boxes and cells -/
theorem PairK.ty4 {H : Hp} {v : V} (h : PairK K H v) : (∃ p xs, v = .ref p ∧ H p = some (.tup xs) ∧ ∀ z ∈ xs, Wh K H z) ∨ ∃ t, TyX K H v t ∧ PySem.W.kitOne K t (.type "tuple") = some false ∧ ∀ p xs, v = .ref p → H p ≠ some (.tup xs) := by
  cases h with
  | non => exact .inr ⟨_, .base .non, kit_ty (by decide +kernel), fun _ _ e => (by cases e)⟩
  | bl b => exact .inr ⟨_, .base (.bl b), kit_ty (by decide +kernel), fun _ _ e => (by cases e)⟩
  | int i => exact .inr ⟨_, .base (.int i), kit_ty (by decide +kernel), fun _ _ e => (by cases e)⟩
  | str s => exact .inr ⟨_, .base (.str s), kit_ty (by decide +kernel), fun _ _ e => (by cases e)⟩
  | lst h => exact .inr ⟨_, .base (.lst h), kit_ty (by decide +kernel), fun p xs e z => by cases e; rw [h] at z; cases z⟩
  | tup h w => exact .inl ⟨_, _, rfl, h, w⟩
  | ins h T k => exact .inr ⟨_, T.ty h, k, fun p xs e z => by cases e; rw [h] at z; cases z⟩
/-- the ends of the box that stands there -/
def boxL : List V → Bool
  | [a, b, c, d] => okS a b && okS c d
  | _ => false
def boxV (H : Hp) : V → Bool
  | .ref p => match H p with
    | some (.tup xs) => boxL xs
    | _ => false
  | _ => false
def spIsBox (K : PySem.W.Frag) : Sp := fun vs H Q _ => ∃ x, vs = [x] ∧ PairK K H x ∧ Q (.bl (boxV H x)) H
theorem o_is_box (T : Txt K mg) : OkF P w K mg base CX0 3 "is_box" ["value"] (spIsBox K) := by
  have o_is_span := o_is_span (P := P) (w := w) (base := base) T
  obtain ⟨f, fd, g, F⟩ := T.d_is_box
  refine ⟨f, fd, g, F.kp, F.binds (fun _ _ _ _ _ _ us hl => match us, hl with | [_], _ => rfl), F.ok sc_is_box (fun vs H Q E h => ?_) (fun cdv A outer s H vs Q E hr h => ?_)⟩
  · first | (obtain ⟨_, rfl, _⟩ := h; rfl) | (obtain ⟨rfl, _⟩ := h; rfl) | (obtain ⟨_, _, rfl, _⟩ := h; rfl) | (obtain ⟨_, _, _, rfl, _⟩ := h; rfl) | (obtain ⟨_, _, _, _, rfl, _⟩ := h; rfl) | (obtain ⟨_, _, _, _, _, rfl, _⟩ := h; rfl) | (obtain ⟨_, _, _, _, _, _, rfl, _⟩ := h; rfl) | (obtain ⟨_, _, _, _, _, _, _, rfl, _⟩ := h; rfl)
  have hu64 := hr.units
  refine ⟨_, pss_cons (ps_if (PW.pt (pw_or (pt_not (pt_val (pe_callB call_isTy (by rfl) T.m_isinstance (by decide +kernel) (pa_cons (pv 0) (pa_cons ((pe_bltn (v := .ty "tuple") (by rfl) T.m_tuple (by decide +kernel) rfl)) pa_nil))))) (pw_or1 (pt_cmpR op_ne (pe_callB call_lenT (by rfl) T.m_len (by decide +kernel) (pa_cons (pv 0) pa_nil)) (pe_int) (nomark _))))) (pss_one (ps_ret (pe_bl))) (pss_nil))
      (pss_one (ps_ret (pe_and (pcl o_is_span (hr.mono (by decide)) pass0 (pa_cons (pe_ix ix_tupN (pv 0) (pe_int) (fun _ _ => rfl)) (pa_cons (pe_ix ix_tupN (pv 0) (pe_int) (fun _ _ => rfl)) pa_nil))) (pe_one (pcl o_is_span (hr.mono (by decide)) pass0 (pa_cons (pe_ix ix_tupN (pv 0) (pe_int) (fun _ _ => rfl)) (pa_cons (pe_ix ix_tupN (pv 0) (pe_int) (fun _ _ => rfl)) pa_nil))))))), ?_⟩
  obtain ⟨x, rfl, hk, k⟩ := h
  simp only [spSpan, exists_and_left, tD1, rTupN, rAll, rMax2, rMin2, tSl, tPart, tNoPart, rSlLN, tYes, rLenS, rRepN, unset, tEv2, calmS, tDNew, rInDN, rIxDN, rSetDN, tDN1, tDGetN, rSorted, cx_K, Value.ref.injEq, HO.xd.injEq, lk0, tSeq, tPar3, tPar, tCons, tNil, tVar, tC, tAsg, gName, gCons, gNil, gTupN, gSub, tOp, rI, rI0, rU, tTest, rNe, rEq, rIxTN, rIxLN, rLenL, rLenT, tLstRg, tRg1, tRg2, rIntI, rIntB, rAbs, rSetLN, tTruL, tRaiseX, rIsTy, rIsOw, ixN0, ixN1, tRet, tIf, tIfS, tNext, tBreak, tCont, tDrop, tTupN, tLstN, tUn, tCB, tCall, tNot, tAnd, tOr, tB, tAndV, tOrV, tNotV, tChain, tApp, LamX.tLam, tRevLN, rCatN, rInTN, rInLN, flatV, inV, List.all_cons, List.all_nil, List.any_cons, List.any_nil, Bool.and_self, Bool.and_true, if_true, Bool.false_eq_true, if_false, tMt, tFldN, tSto, HO.ins.injEq, lkh, List.drop_zero, List.drop_succ_cons, List.drop_nil, rListS, wipe, L2.start, List.map_cons, List.map_nil, List.length_cons, List.length_nil, List.replicate, List.cons_append, List.nil_append, List.append_nil, Nat.reduceAdd, Nat.reduceSub, Nat.zero_add, List.replicate_succ, List.replicate_zero, List.getElem?_cons_zero, List.getElem?_cons_succ, List.set_cons_zero, List.set_cons_succ, Option.some.injEq, V.int.injEq, V.bl.injEq, V.ref.injEq, V.str.injEq, V.ty.injEq, List.cons.injEq, HO.tup.injEq, HO.lst.injEq, and_true, true_and, and_assoc, exists_eq_left, exists_eq_left', exists_and_left, exists_eq', atI0, atI1, atI2, atI3, Int.cast_ofNat_Int, Int.reduceToNat, scal_ii, scal_in, scal_ni, scal_nn, scal_bb, scal_ss, scal_sn, scal_ns, scal_bn, scal_nb, ite_iff, decide_eq_true_eq, decide_eq_false_iff_not, Bool.not_eq_true', Classical.not_not, ne_eq, not_false_eq_true, not_true_eq_false, forall_const, true_implies, false_implies, imp_self, sizeLine_eq, Nat.reduceLeDiff, reduceCtorEq, decide_true, decide_false]
  rcases hk.ty4 with ⟨p, xs, rfl, hx, hw⟩ | ⟨t, ty, e, no⟩
  · refine ⟨_, .base (.tup hx), true, kit_ty (by decide +kernel), fun e => (by cases e), fun _ => ?_⟩
    simp only [hx, exists_and_left, tD1, rTupN, rAll, rMax2, rMin2, tSl, tPart, tNoPart, rSlLN, tYes, rLenS, rRepN, unset, tEv2, calmS, tDNew, rInDN, rIxDN, rSetDN, tDN1, tDGetN, rSorted, cx_K, Value.ref.injEq, HO.xd.injEq, lk0, tSeq, tPar3, tPar, tCons, tNil, tVar, tC, tAsg, gName, gCons, gNil, gTupN, gSub, tOp, rI, rI0, rU, tTest, rNe, rEq, rIxTN, rIxLN, rLenL, rLenT, tLstRg, tRg1, tRg2, rIntI, rIntB, rAbs, rSetLN, tTruL, tRaiseX, rIsTy, rIsOw, ixN0, ixN1, tRet, tIf, tIfS, tNext, tBreak, tCont, tDrop, tTupN, tLstN, tUn, tCB, tCall, tNot, tAnd, tOr, tB, tAndV, tOrV, tNotV, tChain, tApp, LamX.tLam, tRevLN, rCatN, rInTN, rInLN, flatV, inV, List.all_cons, List.all_nil, List.any_cons, List.any_nil, Bool.and_self, Bool.and_true, if_true, Bool.false_eq_true, if_false, tMt, tFldN, tSto, HO.ins.injEq, lkh, List.drop_zero, List.drop_succ_cons, List.drop_nil, rListS, wipe, L2.start, List.map_cons, List.map_nil, List.length_cons, List.length_nil, List.replicate, List.cons_append, List.nil_append, List.append_nil, Nat.reduceAdd, Nat.reduceSub, Nat.zero_add, List.replicate_succ, List.replicate_zero, List.getElem?_cons_zero, List.getElem?_cons_succ, List.set_cons_zero, List.set_cons_succ, Option.some.injEq, V.int.injEq, V.bl.injEq, V.ref.injEq, V.str.injEq, V.ty.injEq, List.cons.injEq, HO.tup.injEq, HO.lst.injEq, and_true, true_and, and_assoc, exists_eq_left, exists_eq_left', exists_and_left, exists_eq', atI0, atI1, atI2, atI3, Int.cast_ofNat_Int, Int.reduceToNat, scal_ii, scal_in, scal_ni, scal_nn, scal_bb, scal_ss, scal_sn, scal_ns, scal_bn, scal_nb, ite_iff, decide_eq_true_eq, decide_eq_false_iff_not, Bool.not_eq_true', Classical.not_not, ne_eq, not_false_eq_true, not_true_eq_false, forall_const, true_implies, false_implies, imp_self, sizeLine_eq, Nat.reduceLeDiff, reduceCtorEq, decide_true, decide_false]
    have pv : boxV H (.ref p) = boxL xs := by simp only [boxV, hx]
    rw [pv] at k
    refine ⟨fun h2 => ?_, fun h2 => ?_⟩
    · have : boxL xs = false := by
        match xs, h2 with
        | [a, b, c, d], h => exact absurd rfl h
        | [], h => rfl
        | [_], h => rfl
        | [_, _], h => rfl
        | [_, _, _], h => rfl
        | _ :: _ :: _ :: _ :: _ :: _, h => rfl
      rw [this] at k; exact k
    · obtain ⟨a, b, c, d, rfl⟩ : ∃ a b c d, xs = [a, b, c, d] := by
        match xs, h2 with
        | [a, b, c, d], h => exact ⟨a, b, c, d, rfl⟩
        | [], h => simp at h
        | [_], h => simp at h
        | [_, _], h => simp at h
        | [_, _, _], h => simp at h
        | _ :: _ :: _ :: _ :: _ :: _, h => simp at h; omega
      have kb : Q (.bl (okS a b && okS c d)) H := k
      refine ⟨_, atI0, _, atI1, hw a (by simp), hw b (by simp), fun e => ?_, fun e => ?_⟩
      · rw [e, Bool.true_and] at kb
        exact ⟨_, atI2, _, atI_ok (by decide) rfl, hw c (by simp), hw d (by simp), kb⟩
      · have e : okS a b = false := by simpa using e
        rw [e] at kb; exact kb
  · refine ⟨t, ty, false, e, fun _ => ?_, fun h => absurd rfl h⟩
    have : boxV H x = false := by
      unfold boxV
      split
      · rename_i p
        split
        · rename_i xs h; exact absurd h (no p xs rfl)
        · rfl
      · rfl
    rw [this] at k; exact k

end
end Iz
/-! k21_h -/
set_option Elab.async false
set_option linter.all false
set_option maxRecDepth 100000
set_option maxHeartbeats 4000000
namespace Iz
open PySem PySem.Spec PyProof.Rows L2
open He (ga)
open SX (S S_len)
local macro_rules | `(tactic| walk_at "wp") => `(tactic| simp only [tD1, rTupN, rAll, rMax2, rMin2, tSl, tPart, tNoPart, rSlLN, tYes, rLenS, rRepN, unset, tEv2, calmS, tDNew, rInDN, rIxDN, rSetDN, tDN1, tDGetN, rSorted, cx_K, Value.ref.injEq, HO.xd.injEq, lk0, tSeq, tPar3, tPar, tCons, tNil, tVar, tC, tAsg, gName, gCons, gNil, gTupN, gSub, tOp, rI, rI0, rU, tTest, rNe, rEq, rIxTN, rIxLN, rLenL, rLenT, tLstRg, tRg1, tRg2, rIntI, rIntB, rAbs, rSetLN, tTruL, tRaiseX, rIsTy, rIsOw, ixN0, ixN1, tRet, tIf, tIfS, tNext, tBreak, tCont, tDrop, tTupN, tLstN, tUn, tCB, tCall, tNot, tAnd, tOr, tB, tAndV, tOrV, tNotV, tChain, tApp, LamX.tLam, tRevLN, rCatN, rInTN, rInLN, flatV, inV, List.all_cons, List.all_nil, List.any_cons, List.any_nil, Bool.and_self, Bool.and_true, if_true, Bool.false_eq_true, if_false, tMt, tFldN, tSto, HO.ins.injEq, lkh, List.drop_zero, List.drop_succ_cons, List.drop_nil, rListS, wipe, L2.start, List.map_cons, List.map_nil, List.length_cons, List.length_nil, List.replicate, List.cons_append, List.nil_append, List.append_nil, Nat.reduceAdd, Nat.reduceSub, Nat.zero_add, List.replicate_succ, List.replicate_zero, List.getElem?_cons_zero, List.getElem?_cons_succ, List.set_cons_zero, List.set_cons_succ, Option.some.injEq, V.int.injEq, V.bl.injEq, V.ref.injEq, V.str.injEq, V.ty.injEq, List.cons.injEq, HO.tup.injEq, HO.lst.injEq, and_true, true_and, and_assoc, exists_eq_left, exists_eq_left', exists_and_left, exists_eq', atI0, atI1, atI2, atI3, Int.cast_ofNat_Int, Int.reduceToNat, scal_ii, scal_in, scal_ni, scal_nn, scal_bb, scal_ss, scal_sn, scal_ns, scal_bn, scal_nb, ite_iff, decide_eq_true_eq, decide_eq_false_iff_not, Bool.not_eq_true', Classical.not_not, ne_eq, not_false_eq_true, not_true_eq_false, forall_const, true_implies, false_implies, imp_self, sizeLine_eq, Nat.reduceLeDiff, reduceCtorEq, decide_true, decide_false])
section
variable {P : Program} {w : World} {K : PySem.W.Frag} {mg : Str → Option Value} {base : Heap}
/-! ### the law's pool of draws -/
def Po (H : Hp) (a : Addr) : Prop := ∃ g s : Int, H a = some (.lst [.int g, .int s])
/-- all but the pool stays -/
def StpP (a : Addr) (H H' : Hp) : Prop := ∀ b o, H b = some o → b ≠ a → H' b = some o
theorem StpP.trans {a : Addr} {H H1 H2 : Hp} (x : StpP a H H1) (y : StpP a H1 H2) : StpP a H H2 := fun b o h n => y b o (x b o h n) n
theorem StpP.refl {a : Addr} {H : Hp} : StpP a H H := fun _ _ h _ => h
theorem StpP.of {a : Addr} {H H1 : Hp} (x : Same H H1) : StpP a H H1 := fun b o h _ => x b o h
theorem Po.same {H H1 : Hp} {a : Addr} (x : Po H a) (s : Same H H1) : Po H1 a := let ⟨g, n, h⟩ := x; ⟨g, n, s _ _ h⟩
/-- what is no list of two ints stays -/
theorem StpP.at {a b : Addr} {H H' : Hp} {o : HO} (t : StpP a H H') (p : Po H a) (h : H b = some o) (n : ∀ g s : Int, o ≠ .lst [.int g, .int s]) : H' b = some o := t b o h fun e => by
  obtain ⟨g, s, e2⟩ := p
  subst e
  exact n g s (Option.some.inj (h.symm.trans e2))
def spPool (K : PySem.W.Frag) : Sp := fun vs H Q _ => ∃ sc k, vs = [.ref sc, .int k] ∧ ∃ ns : List Int, SqL K H sc (ns.map V.int) ∧ 0 ≤ k ∧ k < 1000 ∧ ∀ p H', H p = none → Same H H' → Po H' p → Q (.ref p) H'
theorem o__law_pool (T : Txt K mg) : OkF P w K mg base CX0 1 "_law_pool" ["_law_script", "_law_k"] (spPool K) := by
  obtain ⟨f, fd, g, F⟩ := T.d__law_pool
  refine ⟨f, fd, g, F.kp, F.binds (fun _ _ _ _ _ _ us hl => match us, hl with | [_, _], _ => rfl), F.ok sc__law_pool (fun vs H Q E h => ?_) (fun cdv A outer s H vs Q E hr h => ?_)⟩
  · first | (obtain ⟨_, rfl, _⟩ := h; rfl) | (obtain ⟨rfl, _⟩ := h; rfl) | (obtain ⟨_, _, rfl, _⟩ := h; rfl) | (obtain ⟨_, _, _, rfl, _⟩ := h; rfl) | (obtain ⟨_, _, _, _, rfl, _⟩ := h; rfl) | (obtain ⟨_, _, _, _, _, rfl, _⟩ := h; rfl) | (obtain ⟨_, _, _, _, _, _, rfl, _⟩ := h; rfl) | (obtain ⟨_, _, _, _, _, _, _, rfl, _⟩ := h; rfl)
  have hu64 := hr.units
  refine ⟨_, pss_cons (ps_set (i := 2) sc__law_pool.nd rfl (Or.inl rfl) (pe_int))
      (pss_cons (ps_cut (ps_if (pt_cmpR op_lt (pv 1) (pe_callB call_lenS (by rfl) T.m_len (by decide +kernel) (pa_cons (pv 0) pa_nil)) (nomark _)) (pss_one (ps_set (i := 2) sc__law_pool.nd rfl (Or.inl rfl) (pe_ix ix_list (pv 0) (pv 1) (fun _ _ => rfl)))) (pss_nil)))
      (pss_cons (ps_set (i := 3) sc__law_pool.nd rfl (Or.inl rfl) (pe_callB (call_max2N rfl) (by rfl) T.m_max (by decide +kernel) (pa_cons (pe_callTy call_intI (by rfl) T.m_int (by decide +kernel) (pa_cons (pv 2) pa_nil)) (pa_cons (pe_callTy call_intI (by rfl) T.m_int (by decide +kernel) (pa_cons (pe_op op_sub (pe_un un_neg (pe_int)) (pv 2)) pa_nil)) pa_nil))))
      (pss_cons (ps_set (i := 4) sc__law_pool.nd rfl (Or.inl rfl) (pe_op op_mod (pe_callTy call_intI (by rfl) T.m_int (by decide +kernel) (pa_cons (pe_op op_mul (pe_op op_add (pe_op op_add (pe_op op_add (pe_op op_mod (pe_callTy call_intI (by rfl) T.m_int (by decide +kernel) (pa_cons (pv 3) pa_nil)) (pe_int)) (pe_op op_mulW (pe_op op_mul (pe_int) (pv 1)) (pv 1))) (pe_op op_mul (pe_int) (pv 1))) (pe_int)) (pe_int)) pa_nil)) (pe_int)))
      (pss_one (ps_ret (pe_lstN (pa_cons (pe_op op_mul (pv 3) (pe_callTy call_intB (by rfl) T.m_int (by decide +kernel) (pa_cons (pe_cmpR op_ge (pv 3) (pe_op op_pow (pe_int) (pe_int)) (nomark _)) pa_nil))) (pa_cons (pv 4) pa_nil)))))))), ?_⟩
  obtain ⟨sc, i, rfl, ns, hs, i0, i1, k⟩ := h
  simp only [rIxL, rLenS, exists_and_left, tD1, rTupN, rAll, rMax2, rMin2, tSl, tPart, tNoPart, rSlLN, tYes, rLenS, rRepN, unset, tEv2, calmS, tDNew, rInDN, rIxDN, rSetDN, tDN1, tDGetN, rSorted, cx_K, Value.ref.injEq, HO.xd.injEq, lk0, tSeq, tPar3, tPar, tCons, tNil, tVar, tC, tAsg, gName, gCons, gNil, gTupN, gSub, tOp, rI, rI0, rU, tTest, rNe, rEq, rIxTN, rIxLN, rLenL, rLenT, tLstRg, tRg1, tRg2, rIntI, rIntB, rAbs, rSetLN, tTruL, tRaiseX, rIsTy, rIsOw, ixN0, ixN1, tRet, tIf, tIfS, tNext, tBreak, tCont, tDrop, tTupN, tLstN, tUn, tCB, tCall, tNot, tAnd, tOr, tB, tAndV, tOrV, tNotV, tChain, tApp, LamX.tLam, tRevLN, rCatN, rInTN, rInLN, flatV, inV, List.all_cons, List.all_nil, List.any_cons, List.any_nil, Bool.and_self, Bool.and_true, if_true, Bool.false_eq_true, if_false, tMt, tFldN, tSto, HO.ins.injEq, lkh, List.drop_zero, List.drop_succ_cons, List.drop_nil, rListS, wipe, L2.start, List.map_cons, List.map_nil, List.length_cons, List.length_nil, List.replicate, List.cons_append, List.nil_append, List.append_nil, Nat.reduceAdd, Nat.reduceSub, Nat.zero_add, List.replicate_succ, List.replicate_zero, List.getElem?_cons_zero, List.getElem?_cons_succ, List.set_cons_zero, List.set_cons_succ, Option.some.injEq, V.int.injEq, V.bl.injEq, V.ref.injEq, V.str.injEq, V.ty.injEq, List.cons.injEq, HO.tup.injEq, HO.lst.injEq, and_true, true_and, and_assoc, exists_eq_left, exists_eq_left', exists_and_left, exists_eq', atI0, atI1, atI2, atI3, Int.cast_ofNat_Int, Int.reduceToNat, scal_ii, scal_in, scal_ni, scal_nn, scal_bb, scal_ss, scal_sn, scal_ns, scal_bn, scal_nb, ite_iff, decide_eq_true_eq, decide_eq_false_iff_not, Bool.not_eq_true', Classical.not_not, ne_eq, not_false_eq_true, not_true_eq_false, forall_const, true_implies, false_implies, imp_self, sizeLine_eq, Nat.reduceLeDiff, reduceCtorEq, decide_true, decide_false]
  refine ⟨fun σ' H' => ∃ z : Int, σ' = [some (V.ref sc), some (V.int i), some (V.int z), none, none] ∧ H' = H, ?_, ?_⟩
  · simp only [rIxL, rLenS, exists_and_left, tD1, rTupN, rAll, rMax2, rMin2, tSl, tPart, tNoPart, rSlLN, tYes, rLenS, rRepN, unset, tEv2, calmS, tDNew, rInDN, rIxDN, rSetDN, tDN1, tDGetN, rSorted, cx_K, Value.ref.injEq, HO.xd.injEq, lk0, tSeq, tPar3, tPar, tCons, tNil, tVar, tC, tAsg, gName, gCons, gNil, gTupN, gSub, tOp, rI, rI0, rU, tTest, rNe, rEq, rIxTN, rIxLN, rLenL, rLenT, tLstRg, tRg1, tRg2, rIntI, rIntB, rAbs, rSetLN, tTruL, tRaiseX, rIsTy, rIsOw, ixN0, ixN1, tRet, tIf, tIfS, tNext, tBreak, tCont, tDrop, tTupN, tLstN, tUn, tCB, tCall, tNot, tAnd, tOr, tB, tAndV, tOrV, tNotV, tChain, tApp, LamX.tLam, tRevLN, rCatN, rInTN, rInLN, flatV, inV, List.all_cons, List.all_nil, List.any_cons, List.any_nil, Bool.and_self, Bool.and_true, if_true, Bool.false_eq_true, if_false, tMt, tFldN, tSto, HO.ins.injEq, lkh, List.drop_zero, List.drop_succ_cons, List.drop_nil, rListS, wipe, L2.start, List.map_cons, List.map_nil, List.length_cons, List.length_nil, List.replicate, List.cons_append, List.nil_append, List.append_nil, Nat.reduceAdd, Nat.reduceSub, Nat.zero_add, List.replicate_succ, List.replicate_zero, List.getElem?_cons_zero, List.getElem?_cons_succ, List.set_cons_zero, List.set_cons_succ, Option.some.injEq, V.int.injEq, V.bl.injEq, V.ref.injEq, V.str.injEq, V.ty.injEq, List.cons.injEq, HO.tup.injEq, HO.lst.injEq, and_true, true_and, and_assoc, exists_eq_left, exists_eq_left', exists_and_left, exists_eq', atI0, atI1, atI2, atI3, Int.cast_ofNat_Int, Int.reduceToNat, scal_ii, scal_in, scal_ni, scal_nn, scal_bb, scal_ss, scal_sn, scal_ns, scal_bn, scal_nb, ite_iff, decide_eq_true_eq, decide_eq_false_iff_not, Bool.not_eq_true', Classical.not_not, ne_eq, not_false_eq_true, not_true_eq_false, forall_const, true_implies, false_implies, imp_self, sizeLine_eq, Nat.reduceLeDiff, reduceCtorEq, decide_true, decide_false]
    refine ⟨_, hs, fun h => ?_, fun _ => trivial⟩
    rw [List.length_map] at h
    have hd : i.toNat < ns.length := by omega
    exact ⟨_, hs, _, atI_ok i0 (by rw [List.getElem?_map, List.getElem?_eq_getElem hd]; rfl), _, rfl⟩
  · rintro _ H1 ⟨z, rfl, rfl⟩
    simp only [rIxL, rLenS, exists_and_left, tD1, rTupN, rAll, rMax2, rMin2, tSl, tPart, tNoPart, rSlLN, tYes, rLenS, rRepN, unset, tEv2, calmS, tDNew, rInDN, rIxDN, rSetDN, tDN1, tDGetN, rSorted, cx_K, Value.ref.injEq, HO.xd.injEq, lk0, tSeq, tPar3, tPar, tCons, tNil, tVar, tC, tAsg, gName, gCons, gNil, gTupN, gSub, tOp, rI, rI0, rU, tTest, rNe, rEq, rIxTN, rIxLN, rLenL, rLenT, tLstRg, tRg1, tRg2, rIntI, rIntB, rAbs, rSetLN, tTruL, tRaiseX, rIsTy, rIsOw, ixN0, ixN1, tRet, tIf, tIfS, tNext, tBreak, tCont, tDrop, tTupN, tLstN, tUn, tCB, tCall, tNot, tAnd, tOr, tB, tAndV, tOrV, tNotV, tChain, tApp, LamX.tLam, tRevLN, rCatN, rInTN, rInLN, flatV, inV, List.all_cons, List.all_nil, List.any_cons, List.any_nil, Bool.and_self, Bool.and_true, if_true, Bool.false_eq_true, if_false, tMt, tFldN, tSto, HO.ins.injEq, lkh, List.drop_zero, List.drop_succ_cons, List.drop_nil, rListS, wipe, L2.start, List.map_cons, List.map_nil, List.length_cons, List.length_nil, List.replicate, List.cons_append, List.nil_append, List.append_nil, Nat.reduceAdd, Nat.reduceSub, Nat.zero_add, List.replicate_succ, List.replicate_zero, List.getElem?_cons_zero, List.getElem?_cons_succ, List.set_cons_zero, List.set_cons_succ, Option.some.injEq, V.int.injEq, V.bl.injEq, V.ref.injEq, V.str.injEq, V.ty.injEq, List.cons.injEq, HO.tup.injEq, HO.lst.injEq, and_true, true_and, and_assoc, exists_eq_left, exists_eq_left', exists_and_left, exists_eq', atI0, atI1, atI2, atI3, Int.cast_ofNat_Int, Int.reduceToNat, scal_ii, scal_in, scal_ni, scal_nn, scal_bb, scal_ss, scal_sn, scal_ns, scal_bn, scal_nb, ite_iff, decide_eq_true_eq, decide_eq_false_iff_not, Bool.not_eq_true', Classical.not_not, ne_eq, not_false_eq_true, not_true_eq_false, forall_const, true_implies, false_implies, imp_self, sizeLine_eq, Nat.reduceLeDiff, reduceCtorEq, decide_true, decide_false]
    have z0 : 0 ≤ max z (-1 - z) := by omega
    refine ⟨by decide, .inl ⟨by decide, by decide⟩, wide_mul (a := 30) (b := 12) (by omega) (by omega) (by decide) (by decide) (by decide), .inl ⟨by decide, by decide⟩, .inr ⟨by decide, by decide⟩, by decide, ⟨by decide, by decide, by decide⟩, .inr (by split <;> decide), ?_⟩
    intro p H2 n2 s2 h2
    exact k p H2 n2 s2 ⟨_, _, h2⟩
def spTake : Sp := fun vs H Q _ => ∃ a lim, vs = [.ref a, .int lim] ∧ Po H a ∧ 1 ≤ lim ∧ lim.natAbs < 2 ^ 250 ∧ ∀ d H', 0 ≤ d → d < lim → Po H' a → StpP a H H' → Q (.int d) H'
theorem o__law_take (T : Txt K mg) : OkF P w K mg base CX0 1 "_law_take" ["_law_source", "_law_top"] spTake := by
  obtain ⟨f, fd, g, F⟩ := T.d__law_take
  refine ⟨f, fd, g, F.kp, F.binds (fun _ _ _ _ _ _ us hl => match us, hl with | [_, _], _ => rfl), F.ok sc__law_take (fun vs H Q E h => ?_) (fun cdv A outer s H vs Q E hr h => ?_)⟩
  · first | (obtain ⟨_, rfl, _⟩ := h; rfl) | (obtain ⟨rfl, _⟩ := h; rfl) | (obtain ⟨_, _, rfl, _⟩ := h; rfl) | (obtain ⟨_, _, _, rfl, _⟩ := h; rfl) | (obtain ⟨_, _, _, _, rfl, _⟩ := h; rfl) | (obtain ⟨_, _, _, _, _, rfl, _⟩ := h; rfl) | (obtain ⟨_, _, _, _, _, _, rfl, _⟩ := h; rfl) | (obtain ⟨_, _, _, _, _, _, _, rfl, _⟩ := h; rfl)
  have hu64 := hr.units
  refine ⟨_, pss_cons (ps_if (pt_cmpR op_gt (pe_ix ix_listN (pv 0) (pe_int) (fun _ _ => rfl)) (pe_int) (nomark _)) (pss_cons (ps_set (i := 2) sc__law_take.nd rfl (Or.inl rfl) (pe_op op_mod (pe_callTy call_intI (by rfl) T.m_int (by decide +kernel) (pa_cons (pe_ix ix_listN (pv 0) (pe_int) (fun _ _ => rfl)) pa_nil)) (pv 1)))
      (pss_cons (ps_asg (pe_op op_fdivW (pe_ix ix_listN (pv 0) (pe_int) (fun _ _ => rfl)) (pv 1)) (pg_sub (pv 0) (pe_int) set_listN))
      (pss_one (ps_ret (pv 2))))) (pss_nil))
      (pss_cons (ps_asg (pe_op op_mod (pe_callTy call_intI (by rfl) T.m_int (by decide +kernel) (pa_cons (pe_op op_add (pe_op op_mul (pe_ix ix_listN (pv 0) (pe_int) (fun _ _ => rfl)) (pe_int)) (pe_int)) pa_nil)) (pe_int)) (pg_sub (pv 0) (pe_int) set_listN))
      (pss_one (ps_ret (pe_op op_mod (pe_callTy call_intI (by rfl) T.m_int (by decide +kernel) (pa_cons (pe_op op_fdivW (pe_op op_mod (pe_callTy call_intI (by rfl) T.m_int (by decide +kernel) (pa_cons (pe_op op_mulW (pe_ix ix_listN (pv 0) (pe_int) (fun _ _ => rfl)) (pe_ix ix_listN (pv 0) (pe_int) (fun _ _ => rfl))) pa_nil)) (pe_int)) (pe_int)) pa_nil)) (pv 1))))), ?_⟩
  obtain ⟨a, lim, rfl, ⟨g, n, ha⟩, l1, lb, k⟩ := h
  simp only [ha, exists_and_left, tD1, rTupN, rAll, rMax2, rMin2, tSl, tPart, tNoPart, rSlLN, tYes, rLenS, rRepN, unset, tEv2, calmS, tDNew, rInDN, rIxDN, rSetDN, tDN1, tDGetN, rSorted, cx_K, Value.ref.injEq, HO.xd.injEq, lk0, tSeq, tPar3, tPar, tCons, tNil, tVar, tC, tAsg, gName, gCons, gNil, gTupN, gSub, tOp, rI, rI0, rU, tTest, rNe, rEq, rIxTN, rIxLN, rLenL, rLenT, tLstRg, tRg1, tRg2, rIntI, rIntB, rAbs, rSetLN, tTruL, tRaiseX, rIsTy, rIsOw, ixN0, ixN1, tRet, tIf, tIfS, tNext, tBreak, tCont, tDrop, tTupN, tLstN, tUn, tCB, tCall, tNot, tAnd, tOr, tB, tAndV, tOrV, tNotV, tChain, tApp, LamX.tLam, tRevLN, rCatN, rInTN, rInLN, flatV, inV, List.all_cons, List.all_nil, List.any_cons, List.any_nil, Bool.and_self, Bool.and_true, if_true, Bool.false_eq_true, if_false, tMt, tFldN, tSto, HO.ins.injEq, lkh, List.drop_zero, List.drop_succ_cons, List.drop_nil, rListS, wipe, L2.start, List.map_cons, List.map_nil, List.length_cons, List.length_nil, List.replicate, List.cons_append, List.nil_append, List.append_nil, Nat.reduceAdd, Nat.reduceSub, Nat.zero_add, List.replicate_succ, List.replicate_zero, List.getElem?_cons_zero, List.getElem?_cons_succ, List.set_cons_zero, List.set_cons_succ, Option.some.injEq, V.int.injEq, V.bl.injEq, V.ref.injEq, V.str.injEq, V.ty.injEq, List.cons.injEq, HO.tup.injEq, HO.lst.injEq, and_true, true_and, and_assoc, exists_eq_left, exists_eq_left', exists_and_left, exists_eq', atI0, atI1, atI2, atI3, Int.cast_ofNat_Int, Int.reduceToNat, scal_ii, scal_in, scal_ni, scal_nn, scal_bb, scal_ss, scal_sn, scal_ns, scal_bn, scal_nb, ite_iff, decide_eq_true_eq, decide_eq_false_iff_not, Bool.not_eq_true', Classical.not_not, ne_eq, not_false_eq_true, not_true_eq_false, forall_const, true_implies, false_implies, imp_self, sizeLine_eq, Nat.reduceLeDiff, reduceCtorEq, decide_true, decide_false]
  refine ⟨fun h0 => ?_, fun h0 => ?_⟩
  · exact ⟨by omega, wide_div (by omega) lb (by decide) (by decide), fun H2 p => k _ H2 (Int.emod_nonneg _ (by omega)) (Int.emod_lt_of_pos _ (by omega)) ⟨_, _, p.1⟩ fun b o e nb => by rw [p.2 b nb]; exact e⟩
  · refine ⟨.inr ⟨by decide, by decide⟩, by decide, fun H2 p => ?_⟩
    have h2 := p.1
    have b0 := Int.emod_nonneg (n * 39373 + 7) (b := 2147483647) (by decide)
    have b1 := Int.emod_lt_of_pos (n * 39373 + 7) (b := 2147483647) (by decide)
    exact ⟨_, h2, _, atI1, _, h2, _, atI1, _, rfl, _, rfl, wide_mul (a := 31) (b := 31) (by omega) (by omega) (by decide) (by decide) (by decide), by decide, wide_div (show (0 : Int) < 32 by decide) (b := 6) (by decide) (by decide) (by decide), by omega, k _ H2 (Int.emod_nonneg _ (by omega)) (Int.emod_lt_of_pos _ (by omega)) ⟨_, _, h2⟩ fun b o e nb => by rw [p.2 b nb]; exact e⟩
def spOne : Sp := fun vs H Q _ => ∃ a l, vs = [.ref a, .ref l] ∧ Po H a ∧ l ≠ a ∧ ∃ xs, H l = some (.lst xs) ∧ 1 ≤ xs.length ∧ xs.length ≤ 1000 ∧ ∀ x H', x ∈ xs → Po H' a → StpP a H H' → Q x H'
theorem o__law_one (T : Txt K mg) : OkF P w K mg base CX0 2 "_law_one" ["_law_source", "_law_things"] spOne := by
  have o__law_take := o__law_take (P := P) (w := w) (base := base) T
  obtain ⟨f, fd, g, F⟩ := T.d__law_one
  refine ⟨f, fd, g, F.kp, F.binds (fun _ _ _ _ _ _ us hl => match us, hl with | [_, _], _ => rfl), F.ok sc__law_one (fun vs H Q E h => ?_) (fun cdv A outer s H vs Q E hr h => ?_)⟩
  · first | (obtain ⟨_, rfl, _⟩ := h; rfl) | (obtain ⟨rfl, _⟩ := h; rfl) | (obtain ⟨_, _, rfl, _⟩ := h; rfl) | (obtain ⟨_, _, _, rfl, _⟩ := h; rfl) | (obtain ⟨_, _, _, _, rfl, _⟩ := h; rfl) | (obtain ⟨_, _, _, _, _, rfl, _⟩ := h; rfl) | (obtain ⟨_, _, _, _, _, _, rfl, _⟩ := h; rfl) | (obtain ⟨_, _, _, _, _, _, _, rfl, _⟩ := h; rfl)
  have hu64 := hr.units
  refine ⟨_, pss_one (ps_ret (pe_ix ix_listN (pv 1) (pcl o__law_take (hr.mono (by decide)) pass0 (pa_cons (pv 0) (pa_cons (pe_callB call_lenL (by rfl) T.m_len (by decide +kernel) (pa_cons (pv 1) pa_nil)) pa_nil))) (fun _ _ => rfl))), ?_⟩
  obtain ⟨a, l, rfl, hP, la, xs, hl, l1, l2, k⟩ := h
  simp only [spTake, hl, exists_and_left, tD1, rTupN, rAll, rMax2, rMin2, tSl, tPart, tNoPart, rSlLN, tYes, rLenS, rRepN, unset, tEv2, calmS, tDNew, rInDN, rIxDN, rSetDN, tDN1, tDGetN, rSorted, cx_K, Value.ref.injEq, HO.xd.injEq, lk0, tSeq, tPar3, tPar, tCons, tNil, tVar, tC, tAsg, gName, gCons, gNil, gTupN, gSub, tOp, rI, rI0, rU, tTest, rNe, rEq, rIxTN, rIxLN, rLenL, rLenT, tLstRg, tRg1, tRg2, rIntI, rIntB, rAbs, rSetLN, tTruL, tRaiseX, rIsTy, rIsOw, ixN0, ixN1, tRet, tIf, tIfS, tNext, tBreak, tCont, tDrop, tTupN, tLstN, tUn, tCB, tCall, tNot, tAnd, tOr, tB, tAndV, tOrV, tNotV, tChain, tApp, LamX.tLam, tRevLN, rCatN, rInTN, rInLN, flatV, inV, List.all_cons, List.all_nil, List.any_cons, List.any_nil, Bool.and_self, Bool.and_true, if_true, Bool.false_eq_true, if_false, tMt, tFldN, tSto, HO.ins.injEq, lkh, List.drop_zero, List.drop_succ_cons, List.drop_nil, rListS, wipe, L2.start, List.map_cons, List.map_nil, List.length_cons, List.length_nil, List.replicate, List.cons_append, List.nil_append, List.append_nil, Nat.reduceAdd, Nat.reduceSub, Nat.zero_add, List.replicate_succ, List.replicate_zero, List.getElem?_cons_zero, List.getElem?_cons_succ, List.set_cons_zero, List.set_cons_succ, Option.some.injEq, V.int.injEq, V.bl.injEq, V.ref.injEq, V.str.injEq, V.ty.injEq, List.cons.injEq, HO.tup.injEq, HO.lst.injEq, and_true, true_and, and_assoc, exists_eq_left, exists_eq_left', exists_and_left, exists_eq', atI0, atI1, atI2, atI3, Int.cast_ofNat_Int, Int.reduceToNat, scal_ii, scal_in, scal_ni, scal_nn, scal_bb, scal_ss, scal_sn, scal_ns, scal_bn, scal_nb, ite_iff, decide_eq_true_eq, decide_eq_false_iff_not, Bool.not_eq_true', Classical.not_not, ne_eq, not_false_eq_true, not_true_eq_false, forall_const, true_implies, false_implies, imp_self, sizeLine_eq, Nat.reduceLeDiff, reduceCtorEq, decide_true, decide_false]
  refine ⟨hP, by omega, by omega, fun d H1 d0 d1 hP1 t1 => ?_⟩
  have h1 := t1 _ _ hl la
  simp only [h1, exists_and_left, tD1, rTupN, rAll, rMax2, rMin2, tSl, tPart, tNoPart, rSlLN, tYes, rLenS, rRepN, unset, tEv2, calmS, tDNew, rInDN, rIxDN, rSetDN, tDN1, tDGetN, rSorted, cx_K, Value.ref.injEq, HO.xd.injEq, lk0, tSeq, tPar3, tPar, tCons, tNil, tVar, tC, tAsg, gName, gCons, gNil, gTupN, gSub, tOp, rI, rI0, rU, tTest, rNe, rEq, rIxTN, rIxLN, rLenL, rLenT, tLstRg, tRg1, tRg2, rIntI, rIntB, rAbs, rSetLN, tTruL, tRaiseX, rIsTy, rIsOw, ixN0, ixN1, tRet, tIf, tIfS, tNext, tBreak, tCont, tDrop, tTupN, tLstN, tUn, tCB, tCall, tNot, tAnd, tOr, tB, tAndV, tOrV, tNotV, tChain, tApp, LamX.tLam, tRevLN, rCatN, rInTN, rInLN, flatV, inV, List.all_cons, List.all_nil, List.any_cons, List.any_nil, Bool.and_self, Bool.and_true, if_true, Bool.false_eq_true, if_false, tMt, tFldN, tSto, HO.ins.injEq, lkh, List.drop_zero, List.drop_succ_cons, List.drop_nil, rListS, wipe, L2.start, List.map_cons, List.map_nil, List.length_cons, List.length_nil, List.replicate, List.cons_append, List.nil_append, List.append_nil, Nat.reduceAdd, Nat.reduceSub, Nat.zero_add, List.replicate_succ, List.replicate_zero, List.getElem?_cons_zero, List.getElem?_cons_succ, List.set_cons_zero, List.set_cons_succ, Option.some.injEq, V.int.injEq, V.bl.injEq, V.ref.injEq, V.str.injEq, V.ty.injEq, List.cons.injEq, HO.tup.injEq, HO.lst.injEq, and_true, true_and, and_assoc, exists_eq_left, exists_eq_left', exists_and_left, exists_eq', atI0, atI1, atI2, atI3, Int.cast_ofNat_Int, Int.reduceToNat, scal_ii, scal_in, scal_ni, scal_nn, scal_bb, scal_ss, scal_sn, scal_ns, scal_bn, scal_nb, ite_iff, decide_eq_true_eq, decide_eq_false_iff_not, Bool.not_eq_true', Classical.not_not, ne_eq, not_false_eq_true, not_true_eq_false, forall_const, true_implies, false_implies, imp_self, sizeLine_eq, Nat.reduceLeDiff, reduceCtorEq, decide_true, decide_false]
  have hd : d.toNat < xs.length := by omega
  exact ⟨xs[d.toNat], atI_ok d0 (List.getElem?_eq_getElem hd), k _ H1 (List.getElem_mem hd) hP1 t1⟩

/-- the first of the numbers from 0 on, in a list -/
def spRounds (K : PySem.W.Frag) : Sp := fun vs H Q _ => ∃ sc, vs = [.ref sc] ∧ ∃ ns : List Int, SqL K H sc (ns.map V.int) ∧ ns.length ≤ 63 ∧ ∀ L H' xs, H L = none → Same H H' → H' L = some (.lst xs) → (∀ x ∈ xs, ∃ i : Int, x = .int i ∧ 0 ≤ i ∧ i < 1000) → Q (.ref L) H'
theorem o__law_rounds (T : Txt K mg) : OkF P w K mg base CX0 1 "_law_rounds" ["_law_script"] (spRounds K) := by
  obtain ⟨f, fd, g, F⟩ := T.d__law_rounds
  refine ⟨f, fd, g, F.kp, F.binds (fun _ _ _ _ _ _ us hl => match us, hl with | [_], _ => rfl), F.ok sc__law_rounds (fun vs H Q E h => ?_) (fun cdv A outer s H vs Q E hr h => ?_)⟩
  · first | (obtain ⟨_, rfl, _⟩ := h; rfl) | (obtain ⟨rfl, _⟩ := h; rfl) | (obtain ⟨_, _, rfl, _⟩ := h; rfl) | (obtain ⟨_, _, _, rfl, _⟩ := h; rfl) | (obtain ⟨_, _, _, _, rfl, _⟩ := h; rfl) | (obtain ⟨_, _, _, _, _, rfl, _⟩ := h; rfl) | (obtain ⟨_, _, _, _, _, _, rfl, _⟩ := h; rfl) | (obtain ⟨_, _, _, _, _, _, _, rfl, _⟩ := h; rfl)
  have hu64 := hr.units
  refine ⟨_, pss_one (ps_ret (L2.pe_listRg rfl (by rfl) T.m_list (L2.prg_1 (by rfl) T.m_range (pe_callB (call_max2N rfl) (by rfl) T.m_max (by decide +kernel) (pa_cons (pe_int) (pa_cons (pe_callB (call_min2N rfl) (by rfl) T.m_min (by decide +kernel) (pa_cons (pe_callB call_lenS (by rfl) T.m_len (by decide +kernel) (pa_cons (pv 0) pa_nil)) (pa_cons (pe_int) pa_nil))) pa_nil)))))), ?_⟩
  obtain ⟨sc, rfl, ns, hs, hl, k⟩ := h
  simp only [rLenS, exists_and_left, tD1, rTupN, rAll, rMax2, rMin2, tSl, tPart, tNoPart, rSlLN, tYes, rLenS, rRepN, unset, tEv2, calmS, tDNew, rInDN, rIxDN, rSetDN, tDN1, tDGetN, rSorted, cx_K, Value.ref.injEq, HO.xd.injEq, lk0, tSeq, tPar3, tPar, tCons, tNil, tVar, tC, tAsg, gName, gCons, gNil, gTupN, gSub, tOp, rI, rI0, rU, tTest, rNe, rEq, rIxTN, rIxLN, rLenL, rLenT, tLstRg, tRg1, tRg2, rIntI, rIntB, rAbs, rSetLN, tTruL, tRaiseX, rIsTy, rIsOw, ixN0, ixN1, tRet, tIf, tIfS, tNext, tBreak, tCont, tDrop, tTupN, tLstN, tUn, tCB, tCall, tNot, tAnd, tOr, tB, tAndV, tOrV, tNotV, tChain, tApp, LamX.tLam, tRevLN, rCatN, rInTN, rInLN, flatV, inV, List.all_cons, List.all_nil, List.any_cons, List.any_nil, Bool.and_self, Bool.and_true, if_true, Bool.false_eq_true, if_false, tMt, tFldN, tSto, HO.ins.injEq, lkh, List.drop_zero, List.drop_succ_cons, List.drop_nil, rListS, wipe, L2.start, List.map_cons, List.map_nil, List.length_cons, List.length_nil, List.replicate, List.cons_append, List.nil_append, List.append_nil, Nat.reduceAdd, Nat.reduceSub, Nat.zero_add, List.replicate_succ, List.replicate_zero, List.getElem?_cons_zero, List.getElem?_cons_succ, List.set_cons_zero, List.set_cons_succ, Option.some.injEq, V.int.injEq, V.bl.injEq, V.ref.injEq, V.str.injEq, V.ty.injEq, List.cons.injEq, HO.tup.injEq, HO.lst.injEq, and_true, true_and, and_assoc, exists_eq_left, exists_eq_left', exists_and_left, exists_eq', atI0, atI1, atI2, atI3, Int.cast_ofNat_Int, Int.reduceToNat, scal_ii, scal_in, scal_ni, scal_nn, scal_bb, scal_ss, scal_sn, scal_ns, scal_bn, scal_nb, ite_iff, decide_eq_true_eq, decide_eq_false_iff_not, Bool.not_eq_true', Classical.not_not, ne_eq, not_false_eq_true, not_true_eq_false, forall_const, true_implies, false_implies, imp_self, sizeLine_eq, Nat.reduceLeDiff, reduceCtorEq, decide_true, decide_false]
  refine ⟨_, hs, ⟨by decide, by decide, by omega, by omega, by omega⟩, fun L nL => ?_⟩
  refine k L _ _ nL (Same.upd nL) upd_same fun x hx => ?_
  unfold L2.rgV at hx
  obtain ⟨i, hi, rfl⟩ := List.mem_map.mp hx
  have := List.mem_range.mp hi
  rw [List.length_map] at this
  exact ⟨_, rfl, by omega, by omega⟩

/-! ### drawn boxes -/
def smallE (e : Int) : Prop := -5 ≤ e ∧ e ≤ 8
def smallO : Option Int → Prop
  | none => True
  | some e => smallE e
def spSide : Sp := fun vs H Q _ => ∃ a, vs = [.ref a] ∧ Po H a ∧ ∀ p lo hi H', okE lo hi → smallO lo → smallO hi → Po H' a → StpP a H H' → H' p = some (.tup [ov lo, ov hi]) → Q (.ref p) H'
theorem o__law_side (T : Txt K mg) : OkF P w K mg base CX0 2 "_law_side" ["_law_source"] spSide := by
  have o__law_take := o__law_take (P := P) (w := w) (base := base) T
  obtain ⟨f, fd, g, F⟩ := T.d__law_side
  refine ⟨f, fd, g, F.kp, F.binds (fun _ _ _ _ _ _ us hl => match us, hl with | [_], _ => rfl), F.ok sc__law_side (fun vs H Q E h => ?_) (fun cdv A outer s H vs Q E hr h => ?_)⟩
  · first | (obtain ⟨_, rfl, _⟩ := h; rfl) | (obtain ⟨rfl, _⟩ := h; rfl) | (obtain ⟨_, _, rfl, _⟩ := h; rfl) | (obtain ⟨_, _, _, rfl, _⟩ := h; rfl) | (obtain ⟨_, _, _, _, rfl, _⟩ := h; rfl) | (obtain ⟨_, _, _, _, _, rfl, _⟩ := h; rfl) | (obtain ⟨_, _, _, _, _, _, rfl, _⟩ := h; rfl) | (obtain ⟨_, _, _, _, _, _, _, rfl, _⟩ := h; rfl)
  have hu64 := hr.units
  refine ⟨_, pss_cons (ps_set (i := 1) sc__law_side.nd rfl (Or.inl rfl) (pe_op op_sub (pcl o__law_take (hr.mono (by decide)) pass0 (pa_cons (pv 0) (pa_cons (pe_int) pa_nil))) (pe_int)))
      (pss_cons (ps_set (i := 2) sc__law_side.nd rfl (Or.inl rfl) (pe_op op_add (pe_op op_add (pv 1) (pe_int)) (pcl o__law_take (hr.mono (by decide)) pass0 (pa_cons (pv 0) (pa_cons (pe_int) pa_nil)))))
      (pss_cons (ps_set (i := 3) sc__law_side.nd rfl (Or.inl rfl) (pcl o__law_take (hr.mono (by decide)) pass0 (pa_cons (pv 0) (pa_cons (pe_int) pa_nil))))
      (pss_one (ps_ret (pe_tupN (pa_cons (pe_ifExp (pt_cmpR op_inLN (pv 3) (pe_lstN (pa_cons (pe_int) (pa_cons (pe_int) pa_nil))) (by rfl)) (pe_non) (pv 1)) (pa_cons (pe_ifExp (pt_cmpR op_inLN (pv 3) (pe_lstN (pa_cons (pe_int) (pa_cons (pe_int) pa_nil))) (by rfl)) (pe_non) (pv 2)) pa_nil))))))), ?_⟩
  obtain ⟨a, rfl, hP, k⟩ := h
  simp only [spTake, exists_and_left, tD1, rTupN, rAll, rMax2, rMin2, tSl, tPart, tNoPart, rSlLN, tYes, rLenS, rRepN, unset, tEv2, calmS, tDNew, rInDN, rIxDN, rSetDN, tDN1, tDGetN, rSorted, cx_K, Value.ref.injEq, HO.xd.injEq, lk0, tSeq, tPar3, tPar, tCons, tNil, tVar, tC, tAsg, gName, gCons, gNil, gTupN, gSub, tOp, rI, rI0, rU, tTest, rNe, rEq, rIxTN, rIxLN, rLenL, rLenT, tLstRg, tRg1, tRg2, rIntI, rIntB, rAbs, rSetLN, tTruL, tRaiseX, rIsTy, rIsOw, ixN0, ixN1, tRet, tIf, tIfS, tNext, tBreak, tCont, tDrop, tTupN, tLstN, tUn, tCB, tCall, tNot, tAnd, tOr, tB, tAndV, tOrV, tNotV, tChain, tApp, LamX.tLam, tRevLN, rCatN, rInTN, rInLN, flatV, inV, List.all_cons, List.all_nil, List.any_cons, List.any_nil, Bool.and_self, Bool.and_true, if_true, Bool.false_eq_true, if_false, tMt, tFldN, tSto, HO.ins.injEq, lkh, List.drop_zero, List.drop_succ_cons, List.drop_nil, rListS, wipe, L2.start, List.map_cons, List.map_nil, List.length_cons, List.length_nil, List.replicate, List.cons_append, List.nil_append, List.append_nil, Nat.reduceAdd, Nat.reduceSub, Nat.zero_add, List.replicate_succ, List.replicate_zero, List.getElem?_cons_zero, List.getElem?_cons_succ, List.set_cons_zero, List.set_cons_succ, Option.some.injEq, V.int.injEq, V.bl.injEq, V.ref.injEq, V.str.injEq, V.ty.injEq, List.cons.injEq, HO.tup.injEq, HO.lst.injEq, and_true, true_and, and_assoc, exists_eq_left, exists_eq_left', exists_and_left, exists_eq', atI0, atI1, atI2, atI3, Int.cast_ofNat_Int, Int.reduceToNat, scal_ii, scal_in, scal_ni, scal_nn, scal_bb, scal_ss, scal_sn, scal_ns, scal_bn, scal_nb, ite_iff, decide_eq_true_eq, decide_eq_false_iff_not, Bool.not_eq_true', Classical.not_not, ne_eq, not_false_eq_true, not_true_eq_false, forall_const, true_implies, false_implies, imp_self, sizeLine_eq, Nat.reduceLeDiff, reduceCtorEq, decide_true, decide_false]
  refine ⟨hP, by decide, by decide, fun d H1 d0 d1 hP1 t1 => ?_⟩
  refine ⟨hP1, by decide, by decide, fun e H2 e0 e1 hP2 t2 => ?_⟩
  refine ⟨hP2, by decide, by decide, fun f H3 f0 f1 hP3 t3 => ?_⟩
  have u3 := (t1.trans t2).trans t3
  intro m1 G1 _ r1 e1
  have fin : ∀ {G : Hp} (lo hi : Option Int), Same H3 G → okE lo hi → smallO lo → smallO hi → News G (.tup [ov lo, ov hi]) Q := fun {G} lo hi s ho hl hh p G2 hp s2 h2 => k p lo hi G2 ho hl hh (hP3.same (s.trans s2)) (u3.trans (StpP.of (s.trans s2))) h2
  have l1 : smallO (some (d - 5)) := ⟨by omega, by omega⟩
  have l2 : smallO (some (d - 5 + 1 + e)) := ⟨by omega, by omega⟩
  refine ⟨m1, rfl, _, e1, by simp [flatV], fun _ => ?_, fun _ => ?_⟩
  · intro m2 G2 _ r2 e2
    exact ⟨m2, rfl, _, e2, by simp [flatV], fun _ => fin none none (r1.trans r2) (fun l h q => by cases q) trivial trivial, fun _ => fin none (some _) (r1.trans r2) (fun l h q => by cases q) trivial l2⟩
  · intro m2 G2 _ r2 e2
    exact ⟨m2, rfl, _, e2, by simp [flatV], fun _ => fin (some _) none (r1.trans r2) (fun l h _ q => by cases q) l1 trivial, fun _ => fin (some _) (some _) (r1.trans r2) (fun l h q1 q2 => by cases q1; cases q2; omega) l1 l2⟩
def smallB (b : Box) : Prop := smallO b.1.1 ∧ smallO b.1.2 ∧ smallO b.2.1 ∧ smallO b.2.2
def spBoxD : Sp := fun vs H Q _ => ∃ a, vs = [.ref a] ∧ Po H a ∧ ∀ p b H', okBox b → smallB b → Po H' a → StpP a H H' → H' p = some (.tup [ov b.1.1, ov b.1.2, ov b.2.1, ov b.2.2]) → Q (.ref p) H'
theorem o__law_box (T : Txt K mg) : OkF P w K mg base CX0 3 "_law_box" ["_law_source"] spBoxD := by
  have o__law_side := o__law_side (P := P) (w := w) (base := base) T
  obtain ⟨f, fd, g, F⟩ := T.d__law_box
  refine ⟨f, fd, g, F.kp, F.binds (fun _ _ _ _ _ _ us hl => match us, hl with | [_], _ => rfl), F.ok sc__law_box (fun vs H Q E h => ?_) (fun cdv A outer s H vs Q E hr h => ?_)⟩
  · first | (obtain ⟨_, rfl, _⟩ := h; rfl) | (obtain ⟨rfl, _⟩ := h; rfl) | (obtain ⟨_, _, rfl, _⟩ := h; rfl) | (obtain ⟨_, _, _, rfl, _⟩ := h; rfl) | (obtain ⟨_, _, _, _, rfl, _⟩ := h; rfl) | (obtain ⟨_, _, _, _, _, rfl, _⟩ := h; rfl) | (obtain ⟨_, _, _, _, _, _, rfl, _⟩ := h; rfl) | (obtain ⟨_, _, _, _, _, _, _, rfl, _⟩ := h; rfl)
  have hu64 := hr.units
  refine ⟨_, pss_one (ps_ret (pe_op op_catTN (pcl o__law_side (hr.mono (by decide)) pass0 (pa_cons (pv 0) pa_nil)) (pcl o__law_side (hr.mono (by decide)) pass0 (pa_cons (pv 0) pa_nil)))), ?_⟩
  obtain ⟨a, rfl, hP, k⟩ := h
  simp only [spSide, rCatTN, exists_and_left, tD1, rTupN, rAll, rMax2, rMin2, tSl, tPart, tNoPart, rSlLN, tYes, rLenS, rRepN, unset, tEv2, calmS, tDNew, rInDN, rIxDN, rSetDN, tDN1, tDGetN, rSorted, cx_K, Value.ref.injEq, HO.xd.injEq, lk0, tSeq, tPar3, tPar, tCons, tNil, tVar, tC, tAsg, gName, gCons, gNil, gTupN, gSub, tOp, rI, rI0, rU, tTest, rNe, rEq, rIxTN, rIxLN, rLenL, rLenT, tLstRg, tRg1, tRg2, rIntI, rIntB, rAbs, rSetLN, tTruL, tRaiseX, rIsTy, rIsOw, ixN0, ixN1, tRet, tIf, tIfS, tNext, tBreak, tCont, tDrop, tTupN, tLstN, tUn, tCB, tCall, tNot, tAnd, tOr, tB, tAndV, tOrV, tNotV, tChain, tApp, LamX.tLam, tRevLN, rCatN, rInTN, rInLN, flatV, inV, List.all_cons, List.all_nil, List.any_cons, List.any_nil, Bool.and_self, Bool.and_true, if_true, Bool.false_eq_true, if_false, tMt, tFldN, tSto, HO.ins.injEq, lkh, List.drop_zero, List.drop_succ_cons, List.drop_nil, rListS, wipe, L2.start, List.map_cons, List.map_nil, List.length_cons, List.length_nil, List.replicate, List.cons_append, List.nil_append, List.append_nil, Nat.reduceAdd, Nat.reduceSub, Nat.zero_add, List.replicate_succ, List.replicate_zero, List.getElem?_cons_zero, List.getElem?_cons_succ, List.set_cons_zero, List.set_cons_succ, Option.some.injEq, V.int.injEq, V.bl.injEq, V.ref.injEq, V.str.injEq, V.ty.injEq, List.cons.injEq, HO.tup.injEq, HO.lst.injEq, and_true, true_and, and_assoc, exists_eq_left, exists_eq_left', exists_and_left, exists_eq', atI0, atI1, atI2, atI3, Int.cast_ofNat_Int, Int.reduceToNat, scal_ii, scal_in, scal_ni, scal_nn, scal_bb, scal_ss, scal_sn, scal_ns, scal_bn, scal_nb, ite_iff, decide_eq_true_eq, decide_eq_false_iff_not, Bool.not_eq_true', Classical.not_not, ne_eq, not_false_eq_true, not_true_eq_false, forall_const, true_implies, false_implies, imp_self, sizeLine_eq, Nat.reduceLeDiff, reduceCtorEq, decide_true, decide_false]
  refine ⟨hP, fun p1 x0 x1 H1 o1 a1 a2 P1 t1 h1 => ⟨P1, fun p2 y0 y1 H2 o2 b1 b2 P2 t2 h2 => ?_⟩⟩
  refine ⟨_, t2.at P1 h1 (fun g s z => by cases z), _, h2, by simp, by simp, by simp, fun p H3 np s3 h3 => ?_⟩
  exact k p ((x0, x1), (y0, y1)) H3 ⟨o1, o2⟩ ⟨a1, a2, b1, b2⟩ (P2.same s3) ((t1.trans t2).trans (StpP.of s3)) h3
def spEnded : Sp := fun vs H Q _ => ∃ a, vs = [.ref a] ∧ Po H a ∧ ∀ p b H', okBox b → smallB b → Po H' a → StpP a H H' → H' p = some (.tup [ov b.1.1, ov b.1.2, ov b.2.1, ov b.2.2]) → (∃ x0 x1 y0 y1, b = ((some x0, some x1), (some y0, some y1))) → Q (.ref p) H'
theorem o__law_ended (T : Txt K mg) : OkF P w K mg base CX0 2 "_law_ended" ["_law_source"] spEnded := by
  have o__law_take := o__law_take (P := P) (w := w) (base := base) T
  obtain ⟨f, fd, g, F⟩ := T.d__law_ended
  refine ⟨f, fd, g, F.kp, F.binds (fun _ _ _ _ _ _ us hl => match us, hl with | [_], _ => rfl), F.ok sc__law_ended (fun vs H Q E h => ?_) (fun cdv A outer s H vs Q E hr h => ?_)⟩
  · first | (obtain ⟨_, rfl, _⟩ := h; rfl) | (obtain ⟨rfl, _⟩ := h; rfl) | (obtain ⟨_, _, rfl, _⟩ := h; rfl) | (obtain ⟨_, _, _, rfl, _⟩ := h; rfl) | (obtain ⟨_, _, _, _, rfl, _⟩ := h; rfl) | (obtain ⟨_, _, _, _, _, rfl, _⟩ := h; rfl) | (obtain ⟨_, _, _, _, _, _, rfl, _⟩ := h; rfl) | (obtain ⟨_, _, _, _, _, _, _, rfl, _⟩ := h; rfl)
  have hu64 := hr.units
  refine ⟨_, pss_cons (ps_par (i := 1) (j := 2) (by rfl) sc__law_ended.nd rfl rfl (by decide) rfl rfl (pa_cons (pe_op op_sub (pcl o__law_take (hr.mono (by decide)) pass0 (pa_cons (pv 0) (pa_cons (pe_int) pa_nil))) (pe_int)) (pa_cons (pe_op op_sub (pcl o__law_take (hr.mono (by decide)) pass0 (pa_cons (pv 0) (pa_cons (pe_int) pa_nil))) (pe_int)) pa_nil)) (by rfl))
      (pss_one (ps_ret (pe_tupN (pa_cons (pv 1) (pa_cons (pe_op op_add (pe_op op_add (pv 1) (pe_int)) (pcl o__law_take (hr.mono (by decide)) pass0 (pa_cons (pv 0) (pa_cons (pe_int) pa_nil)))) (pa_cons (pv 2) (pa_cons (pe_op op_add (pe_op op_add (pv 2) (pe_int)) (pcl o__law_take (hr.mono (by decide)) pass0 (pa_cons (pv 0) (pa_cons (pe_int) pa_nil)))) pa_nil))))))), ?_⟩
  obtain ⟨a, rfl, hP, k⟩ := h
  simp only [spTake, exists_and_left, tD1, rTupN, rAll, rMax2, rMin2, tSl, tPart, tNoPart, rSlLN, tYes, rLenS, rRepN, unset, tEv2, calmS, tDNew, rInDN, rIxDN, rSetDN, tDN1, tDGetN, rSorted, cx_K, Value.ref.injEq, HO.xd.injEq, lk0, tSeq, tPar3, tPar, tCons, tNil, tVar, tC, tAsg, gName, gCons, gNil, gTupN, gSub, tOp, rI, rI0, rU, tTest, rNe, rEq, rIxTN, rIxLN, rLenL, rLenT, tLstRg, tRg1, tRg2, rIntI, rIntB, rAbs, rSetLN, tTruL, tRaiseX, rIsTy, rIsOw, ixN0, ixN1, tRet, tIf, tIfS, tNext, tBreak, tCont, tDrop, tTupN, tLstN, tUn, tCB, tCall, tNot, tAnd, tOr, tB, tAndV, tOrV, tNotV, tChain, tApp, LamX.tLam, tRevLN, rCatN, rInTN, rInLN, flatV, inV, List.all_cons, List.all_nil, List.any_cons, List.any_nil, Bool.and_self, Bool.and_true, if_true, Bool.false_eq_true, if_false, tMt, tFldN, tSto, HO.ins.injEq, lkh, List.drop_zero, List.drop_succ_cons, List.drop_nil, rListS, wipe, L2.start, List.map_cons, List.map_nil, List.length_cons, List.length_nil, List.replicate, List.cons_append, List.nil_append, List.append_nil, Nat.reduceAdd, Nat.reduceSub, Nat.zero_add, List.replicate_succ, List.replicate_zero, List.getElem?_cons_zero, List.getElem?_cons_succ, List.set_cons_zero, List.set_cons_succ, Option.some.injEq, V.int.injEq, V.bl.injEq, V.ref.injEq, V.str.injEq, V.ty.injEq, List.cons.injEq, HO.tup.injEq, HO.lst.injEq, and_true, true_and, and_assoc, exists_eq_left, exists_eq_left', exists_and_left, exists_eq', atI0, atI1, atI2, atI3, Int.cast_ofNat_Int, Int.reduceToNat, scal_ii, scal_in, scal_ni, scal_nn, scal_bb, scal_ss, scal_sn, scal_ns, scal_bn, scal_nb, ite_iff, decide_eq_true_eq, decide_eq_false_iff_not, Bool.not_eq_true', Classical.not_not, ne_eq, not_false_eq_true, not_true_eq_false, forall_const, true_implies, false_implies, imp_self, sizeLine_eq, Nat.reduceLeDiff, reduceCtorEq, decide_true, decide_false]
  refine ⟨hP, by decide, by decide, fun d1 H1 d10 d11 P1 t1 => ⟨P1, by decide, by decide, fun d2 H2 d20 d21 P2 t2 => ⟨P2, by decide, by decide, fun d3 H3 d30 d31 P3 t3 => ⟨P3, by decide, by decide, fun d4 H4 d40 d41 P4 t4 => ?_⟩⟩⟩⟩
  intro p H5 _ s5 h5
  exact k p ((some _, some _), (some _, some _)) H5 ⟨fun l h q1 q2 => by cases q1; cases q2; omega, fun l h q1 q2 => by cases q1; cases q2; omega⟩ ⟨⟨by omega, by omega⟩, ⟨by omega, by omega⟩, ⟨by omega, by omega⟩, ⟨by omega, by omega⟩⟩ (P4.same s5) (((t1.trans t2).trans (t3.trans t4)).trans (StpP.of s5)) h5 ⟨_, _, _, _, rfl⟩
theorem lc_in1 {ta : TA} {g : TG} {tt : TT} {te : TE} {vs : List Nat} {σ : L2.St} {H : Hp} {Q : VK} (h : ta σ H fun us H1 => ∃ n : Int, us = [.int n] ∧ -(2 ^ 62) ≤ n ∧ n < 2 ^ 62 ∧ tLc (fun _ H R => R (L2.Itr 0 n.toNat) H) g tt te vs σ H1 Q) : tLc (iRng1 ta) g tt te vs σ H Q := h
theorem st_lcI {g : TG} {tt : TT} {te : TE} {vs : List Nat} {σ : L2.St} {H : Hp} {Q : VK} {n : Nat} (Pv : Addr → Nat → Hp → Prop) (h0 : ∀ D H1, H D = none → Same H H1 → H1 D = some (.lst []) → Pv D 0 H1)
    (hs : ∀ D i H, i < n → Pv D i H → g (.int i) (wipe σ vs) H fun σ2 H2 => wipe σ2 vs = wipe σ vs ∧ tt σ2 H2 fun b H3 => if b = true then te σ2 H3 fun y H4 => ∃ acc, H4 D = some (.lst acc) ∧ acc.length < sizeLine ∧ Pv D (i + 1) (upd H4 D (.lst (acc ++ [y]))) else Pv D (i + 1) H3)
    (hd : ∀ D H, Pv D n H → Q (.ref D) H) : tLc (fun _ H R => R (L2.Itr 0 n) H) g tt te vs σ H Q :=
  fun D hD => lc_range (Pv D) (h0 D _ hD (Same.upd hD) upd_same) (fun i H hi p => by rw [Int.zero_add]; exact hs D i H hi p) (hd D)
theorem Po.but {H H' : Hp} {a L : Addr} (P : Po H a) (n : L ≠ a) (h : ∀ b, b ≠ L → H' b = H b) : Po H' a := let ⟨g, s, e⟩ := P; ⟨g, s, by rw [h a (Ne.symm n)]; exact e⟩
theorem Po.ne {H : Hp} {a L : Addr} (P : Po H a) (n : H L = none) : L ≠ a := let ⟨_, _, e⟩ := P; (ne_of_none e n).symm
theorem BxAt.snoc {H : Hp} {xs : List V} {B : List Box} {b : Box} {t : Addr} (h : BxAt H xs B) (e : H t = some (.tup [ov b.1.1, ov b.1.2, ov b.2.1, ov b.2.2])) : BxAt H (xs ++ [.ref t]) (B ++ [b]) := by
  refine ⟨by rw [List.length_append, List.length_append, h.1]; rfl, fun i c hi => ?_⟩
  by_cases l : i < B.length
  · rw [List.getElem?_append_left l] at hi
    obtain ⟨t, e1, e2⟩ := h.2 i c hi
    exact ⟨t, by rw [List.getElem?_append_left (by rw [h.1]; exact l)]; exact e1, e2⟩
  · rw [List.getElem?_append_right (by omega)] at hi
    have z : i - B.length = 0 := by
      have := (List.getElem?_eq_some_iff.mp hi).1
      simp at this; omega
    rw [z] at hi; cases hi
    exact ⟨t, by rw [List.getElem?_append_right (by rw [h.1]; omega), h.1, z]; rfl, e⟩
theorem StpP.kt {a : Addr} {H H' : Hp} (P : Po H a) (s : StpP a H H') : Kt H H' := fun b o n e => s.at P e fun g z q => n _ q
def spBoxes : Sp := fun vs H Q _ => ∃ a m e, vs = [.ref a, .int m, .bl e] ∧ Po H a ∧ 0 ≤ m ∧ m ≤ 40 ∧ ∀ L xs B H', H L = none → L ≠ a → Po H' a → StpP a H H' → H' L = some (.lst xs) → BxAt H' xs B → (∀ b ∈ B, okBox b ∧ smallB b) → B.length ≤ m.toNat → (e = true → ∀ b ∈ B, ∃ x0 x1 y0 y1, b = ((some x0, some x1), (some y0, some y1))) → Q (.ref L) H'
theorem o__law_boxes (T : Txt K mg) : OkF P w K mg base CX0 4 "_law_boxes" ["_law_source", "_law_most", "_law_ended_here"] spBoxes := by
  have o__law_take := o__law_take (P := P) (w := w) (base := base) T
  have o__law_box := o__law_box (P := P) (w := w) (base := base) T
  have o__law_ended := o__law_ended (P := P) (w := w) (base := base) T
  obtain ⟨f, fd, g, F⟩ := T.d__law_boxes
  refine ⟨f, fd, g, F.kp, F.binds (fun _ _ _ _ _ _ us hl => match us, hl with | [_, _, _], _ => rfl), F.ok sc__law_boxes (fun vs H Q E h => ?_) (fun cdv A outer s H vs Q E hr h => ?_)⟩
  · first | (obtain ⟨_, rfl, _⟩ := h; rfl) | (obtain ⟨rfl, _⟩ := h; rfl) | (obtain ⟨_, _, rfl, _⟩ := h; rfl) | (obtain ⟨_, _, _, rfl, _⟩ := h; rfl) | (obtain ⟨_, _, _, _, rfl, _⟩ := h; rfl) | (obtain ⟨_, _, _, _, _, rfl, _⟩ := h; rfl) | (obtain ⟨_, _, _, _, _, _, rfl, _⟩ := h; rfl) | (obtain ⟨_, _, _, _, _, _, _, rfl, _⟩ := h; rfl)
  have hu64 := hr.units
  refine ⟨_, pss_one (ps_ret (pe_lc (own := [("_law_turn", 3)]) (g := gName 3) (by rfl) sc__law_boxes.nd (pi_range1 (by rfl) T.m_range (pa_cons (pcl o__law_take (hr.mono (by decide)) pass0 (pa_cons (pv 0) (pa_cons (pe_op op_add (pv 1) (pe_int)) pa_nil))) pa_nil)) (blkOk_by (N := ["_law_source", "_law_most", "_law_ended_here", "_law_turn"]) (sc := defScope s__law_boxes) (own := [("_law_turn", 3)]) (by decide +kernel)) (fun _ _ _ _ _ => pg_name (i := 3) sc__law_boxes.nd rfl (Or.inl rfl)) (fun _ _ _ _ _ => pts_nil) (fun _ _ _ _ _ => pe_ifExp (pt_val (pv 2)) (pcl o__law_ended (hr.mono (by decide)) pass0 (pa_cons (pv 0) pa_nil)) (pcl o__law_box (hr.mono (by decide)) pass0 (pa_cons (pv 0) pa_nil))))), ?_⟩
  obtain ⟨a, m, e, rfl, hP, m0, m1, k⟩ := h
  refine lc_in1 ?_
  simp only [spTake, exists_and_left, tD1, rTupN, rAll, rMax2, rMin2, tSl, tPart, tNoPart, rSlLN, tYes, rLenS, rRepN, unset, tEv2, calmS, tDNew, rInDN, rIxDN, rSetDN, tDN1, tDGetN, rSorted, cx_K, Value.ref.injEq, HO.xd.injEq, lk0, tSeq, tPar3, tPar, tCons, tNil, tVar, tC, tAsg, gName, gCons, gNil, gTupN, gSub, tOp, rI, rI0, rU, tTest, rNe, rEq, rIxTN, rIxLN, rLenL, rLenT, tLstRg, tRg1, tRg2, rIntI, rIntB, rAbs, rSetLN, tTruL, tRaiseX, rIsTy, rIsOw, ixN0, ixN1, tRet, tIf, tIfS, tNext, tBreak, tCont, tDrop, tTupN, tLstN, tUn, tCB, tCall, tNot, tAnd, tOr, tB, tAndV, tOrV, tNotV, tChain, tApp, LamX.tLam, tRevLN, rCatN, rInTN, rInLN, flatV, inV, List.all_cons, List.all_nil, List.any_cons, List.any_nil, Bool.and_self, Bool.and_true, if_true, Bool.false_eq_true, if_false, tMt, tFldN, tSto, HO.ins.injEq, lkh, List.drop_zero, List.drop_succ_cons, List.drop_nil, rListS, wipe, L2.start, List.map_cons, List.map_nil, List.length_cons, List.length_nil, List.replicate, List.cons_append, List.nil_append, List.append_nil, Nat.reduceAdd, Nat.reduceSub, Nat.zero_add, List.replicate_succ, List.replicate_zero, List.getElem?_cons_zero, List.getElem?_cons_succ, List.set_cons_zero, List.set_cons_succ, Option.some.injEq, V.int.injEq, V.bl.injEq, V.ref.injEq, V.str.injEq, V.ty.injEq, List.cons.injEq, HO.tup.injEq, HO.lst.injEq, and_true, true_and, and_assoc, exists_eq_left, exists_eq_left', exists_and_left, exists_eq', atI0, atI1, atI2, atI3, Int.cast_ofNat_Int, Int.reduceToNat, scal_ii, scal_in, scal_ni, scal_nn, scal_bb, scal_ss, scal_sn, scal_ns, scal_bn, scal_nb, ite_iff, decide_eq_true_eq, decide_eq_false_iff_not, Bool.not_eq_true', Classical.not_not, ne_eq, not_false_eq_true, not_true_eq_false, forall_const, true_implies, false_implies, imp_self, sizeLine_eq, Nat.reduceLeDiff, reduceCtorEq, decide_true, decide_false]
  refine ⟨hP, by omega, by omega, fun d H1 d0 d1 P1 t1 => ⟨by omega, by omega, ?_⟩⟩
  refine st_lcI (fun D i H' => H1 D = none ∧ Po H' a ∧ StpP a H1 H' ∧ ∃ ys Bs, H' D = some (.lst ys) ∧ BxAt H' ys Bs ∧ Bs.length = i ∧ (∀ b ∈ Bs, okBox b ∧ smallB b) ∧ (e = true → ∀ b ∈ Bs, ∃ x0 x1 y0 y1, b = ((some x0, some x1), (some y0, some y1))))
    (fun D H2 n s h => ⟨n, P1.same s, StpP.of s, [], [], h, by simp [BxAt], rfl, by simp, by simp⟩) (fun D i H2 hi q => ?_) (fun D H2 q => ?_)
  · obtain ⟨nD, P2, t2, ys, Bs, h2, b2, l2, g2, e2⟩ := q
    have Da := P1.ne nD
    simp only [spEnded, spBoxD, exists_and_left, tD1, rTupN, rAll, rMax2, rMin2, tSl, tPart, tNoPart, rSlLN, tYes, rLenS, rRepN, unset, tEv2, calmS, tDNew, rInDN, rIxDN, rSetDN, tDN1, tDGetN, rSorted, cx_K, Value.ref.injEq, HO.xd.injEq, lk0, tSeq, tPar3, tPar, tCons, tNil, tVar, tC, tAsg, gName, gCons, gNil, gTupN, gSub, tOp, rI, rI0, rU, tTest, rNe, rEq, rIxTN, rIxLN, rLenL, rLenT, tLstRg, tRg1, tRg2, rIntI, rIntB, rAbs, rSetLN, tTruL, tRaiseX, rIsTy, rIsOw, ixN0, ixN1, tRet, tIf, tIfS, tNext, tBreak, tCont, tDrop, tTupN, tLstN, tUn, tCB, tCall, tNot, tAnd, tOr, tB, tAndV, tOrV, tNotV, tChain, tApp, LamX.tLam, tRevLN, rCatN, rInTN, rInLN, flatV, inV, List.all_cons, List.all_nil, List.any_cons, List.any_nil, Bool.and_self, Bool.and_true, if_true, Bool.false_eq_true, if_false, tMt, tFldN, tSto, HO.ins.injEq, lkh, List.drop_zero, List.drop_succ_cons, List.drop_nil, rListS, wipe, L2.start, List.map_cons, List.map_nil, List.length_cons, List.length_nil, List.replicate, List.cons_append, List.nil_append, List.append_nil, Nat.reduceAdd, Nat.reduceSub, Nat.zero_add, List.replicate_succ, List.replicate_zero, List.getElem?_cons_zero, List.getElem?_cons_succ, List.set_cons_zero, List.set_cons_succ, Option.some.injEq, V.int.injEq, V.bl.injEq, V.ref.injEq, V.str.injEq, V.ty.injEq, List.cons.injEq, HO.tup.injEq, HO.lst.injEq, and_true, true_and, and_assoc, exists_eq_left, exists_eq_left', exists_and_left, exists_eq', atI0, atI1, atI2, atI3, Int.cast_ofNat_Int, Int.reduceToNat, scal_ii, scal_in, scal_ni, scal_nn, scal_bb, scal_ss, scal_sn, scal_ns, scal_bn, scal_nb, ite_iff, decide_eq_true_eq, decide_eq_false_iff_not, Bool.not_eq_true', Classical.not_not, ne_eq, not_false_eq_true, not_true_eq_false, forall_const, true_implies, false_implies, imp_self, sizeLine_eq, Nat.reduceLeDiff, reduceCtorEq, decide_true, decide_false]
    have fin : ∀ p b H3, okBox b → smallB b → Po H3 a → StpP a H2 H3 → H3 p = some (.tup [ov b.1.1, ov b.1.2, ov b.2.1, ov b.2.2]) → (e = true → ∃ x0 x1 y0 y1, b = ((some x0, some x1), (some y0, some y1))) →
        ∃ acc, H3 D = some (.lst acc) ∧ acc.length < 16777216 ∧ H1 D = none ∧ Po (upd H3 D (.lst (acc ++ [V.ref p]))) a ∧ StpP a H1 (upd H3 D (.lst (acc ++ [V.ref p]))) ∧ ∃ ys, upd H3 D (.lst (acc ++ [V.ref p])) D = some (.lst ys) ∧ ∃ Bs, BxAt (upd H3 D (.lst (acc ++ [V.ref p]))) ys Bs ∧ Bs.length = i + 1 ∧ (∀ b ∈ Bs, okBox b ∧ smallB b) ∧ (e = true → ∀ b ∈ Bs, ∃ x0 x1 y0 y1, b = ((some x0, some x1), (some y0, some y1))) := fun p b H3 ob sb P3 t3 h3 eb => by
      have hD := t3 _ _ h2 Da
      have ku : Kt H3 (upd H3 D (.lst (ys ++ [V.ref p]))) := Kt.upd hD
      refine ⟨ys, hD, by have := b2.1; omega, nD, P3.but Da fun c n => upd_ne n, fun c o ho n => by rw [upd_ne (ne_of_none ho nD)]; exact (t2.trans t3) c o ho n, _, upd_same, Bs ++ [b], ((b2.keep (StpP.kt P2 t3)).keep ku).snoc (ku _ _ (fun _ z => by cases z) h3), by simp [l2], fun c hc => ?_, fun he c hc => ?_⟩
      · rcases List.mem_append.mp hc with hc | hc
        · exact g2 c hc
        · rw [List.mem_singleton.mp hc]; exact ⟨ob, sb⟩
      · rcases List.mem_append.mp hc with hc | hc
        · exact e2 he c hc
        · rw [List.mem_singleton.mp hc]; exact eb he
    exact ⟨fun he => ⟨P2, fun p b H3 ob sb P3 t3 h3 eb => fin p b H3 ob sb P3 t3 h3 fun _ => eb⟩, fun he => ⟨P2, fun p b H3 ob sb P3 t3 h3 => fin p b H3 ob sb P3 t3 h3 fun q => absurd q he⟩⟩
  · obtain ⟨nD, P2, t2, ys, Bs, h2, b2, l2, g2, e2⟩ := q
    refine k D ys Bs H2 ?_ (P1.ne nD) P2 (t1.trans t2) h2 b2 g2 (by omega) e2
    cases e : H D with
    | none => rfl
    | some o => have := t1 _ _ e (P1.ne nD); rw [nD] at this; cases this

end
end Iz
/-! k21_i -/
set_option Elab.async false
set_option linter.all false
set_option maxRecDepth 100000
set_option maxHeartbeats 4000000
namespace Iz
open PySem PySem.Spec PyProof.Rows L2
open He (ga)
open SX (S S_len)
local macro_rules | `(tactic| walk_at "wp") => `(tactic| simp only [tD1, rTupN, rAll, rMax2, rMin2, tSl, tPart, tNoPart, rSlLN, tYes, rLenS, rRepN, unset, tEv2, calmS, tDNew, rInDN, rIxDN, rSetDN, tDN1, tDGetN, rSorted, cx_K, Value.ref.injEq, HO.xd.injEq, lk0, tSeq, tPar3, tPar, tCons, tNil, tVar, tC, tAsg, gName, gCons, gNil, gTupN, gSub, tOp, rI, rI0, rU, tTest, rNe, rEq, rIxTN, rIxLN, rLenL, rLenT, tLstRg, tRg1, tRg2, rIntI, rIntB, rAbs, rSetLN, tTruL, tRaiseX, rIsTy, rIsOw, ixN0, ixN1, tRet, tIf, tIfS, tNext, tBreak, tCont, tDrop, tTupN, tLstN, tUn, tCB, tCall, tNot, tAnd, tOr, tB, tAndV, tOrV, tNotV, tChain, tApp, LamX.tLam, tRevLN, rCatN, rInTN, rInLN, flatV, inV, List.all_cons, List.all_nil, List.any_cons, List.any_nil, Bool.and_self, Bool.and_true, if_true, Bool.false_eq_true, if_false, tMt, tFldN, tSto, HO.ins.injEq, lkh, List.drop_zero, List.drop_succ_cons, List.drop_nil, rListS, wipe, L2.start, List.map_cons, List.map_nil, List.length_cons, List.length_nil, List.replicate, List.cons_append, List.nil_append, List.append_nil, Nat.reduceAdd, Nat.reduceSub, Nat.zero_add, List.replicate_succ, List.replicate_zero, List.getElem?_cons_zero, List.getElem?_cons_succ, List.set_cons_zero, List.set_cons_succ, Option.some.injEq, V.int.injEq, V.bl.injEq, V.ref.injEq, V.str.injEq, V.ty.injEq, List.cons.injEq, HO.tup.injEq, HO.lst.injEq, and_true, true_and, and_assoc, exists_eq_left, exists_eq_left', exists_and_left, exists_eq', atI0, atI1, atI2, atI3, Int.cast_ofNat_Int, Int.reduceToNat, scal_ii, scal_in, scal_ni, scal_nn, scal_bb, scal_ss, scal_sn, scal_ns, scal_bn, scal_nb, ite_iff, decide_eq_true_eq, decide_eq_false_iff_not, Bool.not_eq_true', Classical.not_not, ne_eq, not_false_eq_true, not_true_eq_false, forall_const, true_implies, false_implies, imp_self, sizeLine_eq, Nat.reduceLeDiff, reduceCtorEq, decide_true, decide_false])
section
variable {P : Program} {w : World} {K : PySem.W.Frag} {mg : Str → Option Value} {base : Heap}
/-! ### regions -/
def E2At (H : Hp) (xs : List V) (E : Row) : Prop := xs.length = E.length ∧ ∀ (i : Nat) p, E[i]? = some p → ∃ t r, xs[i]? = some (V.ref t) ∧ H t = some (.tup (ov p.1 :: ov p.2 :: r))
/-- ahead of n, so far -/
def spRowW (K : PySem.W.Frag) : Sp := fun vs H Q _ => ∃ q n, vs = [.ref q, .int n] ∧ ∃ xs E, SqT K H q xs ∧ E2At H xs E ∧ AscB (rb E) ∧ E.length ≤ 100000 ∧
  (∀ (i : Nat) t p, xs[i]? = some (.ref t) → E[i]? = some p → lies p.1 p.2 n = true → Q (.ref t) H) ∧ ((∀ p ∈ E, lies p.1 p.2 n = false) → Q .non H)
theorem o_row_with (T : Txt K mg) : OkF P w K mg base CX0 1 "row_with" ["rows", "number"] (spRowW K) := by
  obtain ⟨f, fd, g, F⟩ := T.d_row_with
  refine ⟨f, fd, g, F.kp, F.binds (fun _ _ _ _ _ _ us hl => match us, hl with | [_, _], _ => rfl), F.ok sc_row_with (fun vs H Q E h => ?_) (fun cdv A outer s H vs Q E hr h => ?_)⟩
  · first | (obtain ⟨_, rfl, _⟩ := h; rfl) | (obtain ⟨rfl, _⟩ := h; rfl) | (obtain ⟨_, _, rfl, _⟩ := h; rfl) | (obtain ⟨_, _, _, rfl, _⟩ := h; rfl) | (obtain ⟨_, _, _, _, rfl, _⟩ := h; rfl) | (obtain ⟨_, _, _, _, _, rfl, _⟩ := h; rfl) | (obtain ⟨_, _, _, _, _, _, rfl, _⟩ := h; rfl) | (obtain ⟨_, _, _, _, _, _, _, rfl, _⟩ := h; rfl)
  have hu64 := hr.units
  refine ⟨_, pss_cons (ps_par (i := 2) (j := 3) (by rfl) sc_row_with.nd rfl rfl (by decide) rfl rfl (pa_cons (pe_int) (pa_cons (pe_callB call_len_seq (by rfl) T.m_len (by decide +kernel) (pa_cons (pv 0) pa_nil)) pa_nil)) (by rfl))
      (pss_cons (ps_while PassesOwn.never (PTm (pt_cmpR op_lt (pv 2) (pv 3) (nomark _))) (pss_cons (ps_set (i := 4) sc_row_with.nd rfl (Or.inl rfl) (pe_op op_fdivW (pe_op op_add (pv 2) (pv 3)) (pe_int)))
      (pss_cons (ps_set (i := 5) sc_row_with.nd rfl (Or.inl rfl) (pe_ix ix_tupN (pe_ix ix_tup (pv 0) (pv 4) (fun _ _ => rfl)) (pe_int) (fun _ _ => rfl)))
      (pss_one (ps_if (PW.pt (pw_and (pt_cmpR op_notN (pv 5) (pe_non) (nomark _)) (pw_and1 (pt_cmpR op_le (pv 5) (pv 1) (nomark _))))) (pss_one (ps_set (i := 2) sc_row_with.nd rfl (Or.inl rfl) (pe_op op_add (pv 4) (pe_int)))) (pss_one (ps_set (i := 3) sc_row_with.nd rfl (Or.inl rfl) (pv 4))))))))
      (pss_cons (ps_if (pt_cmpR op_eq (pv 2) (pe_callB call_len_seq (by rfl) T.m_len (by decide +kernel) (pa_cons (pv 0) pa_nil)) (nomark _)) (pss_one (ps_ret (pe_non))) (pss_nil))
      (pss_cons (ps_set (i := 6) sc_row_with.nd rfl (Or.inl rfl) (pe_ix ix_tupN (pe_ix ix_tup (pv 0) (pv 2) (fun _ _ => rfl)) (pe_int) (fun _ _ => rfl)))
      (pss_one (ps_ret (pe_ifExp (PW.pt (pw_or (pt_cmpR op_isN (pv 6) (pe_non) (nomark _)) (pw_or1 (pt_cmpR op_le (pv 6) (pv 1) (nomark _))))) (pe_ix ix_tup (pv 0) (pv 2) (fun _ _ => rfl)) (pe_non))))))), ?_⟩
  obtain ⟨q, n, rfl, xs, E, hx, he, asc, big, k1, k2⟩ := h
  have len := he.1
  simp only [exists_and_left, tD1, rTupN, rAll, rMax2, rMin2, tSl, tPart, tNoPart, rSlLN, tYes, rLenS, rRepN, unset, tEv2, calmS, tDNew, rInDN, rIxDN, rSetDN, tDN1, tDGetN, rSorted, cx_K, Value.ref.injEq, HO.xd.injEq, lk0, tSeq, tPar3, tPar, tCons, tNil, tVar, tC, tAsg, gName, gCons, gNil, gTupN, gSub, tOp, rI, rI0, rU, tTest, rNe, rEq, rIxTN, rIxLN, rLenL, rLenT, tLstRg, tRg1, tRg2, rIntI, rIntB, rAbs, rSetLN, tTruL, tRaiseX, rIsTy, rIsOw, ixN0, ixN1, tRet, tIf, tIfS, tNext, tBreak, tCont, tDrop, tTupN, tLstN, tUn, tCB, tCall, tNot, tAnd, tOr, tB, tAndV, tOrV, tNotV, tChain, tApp, LamX.tLam, tRevLN, rCatN, rInTN, rInLN, flatV, inV, List.all_cons, List.all_nil, List.any_cons, List.any_nil, Bool.and_self, Bool.and_true, if_true, Bool.false_eq_true, if_false, tMt, tFldN, tSto, HO.ins.injEq, lkh, List.drop_zero, List.drop_succ_cons, List.drop_nil, rListS, wipe, L2.start, List.map_cons, List.map_nil, List.length_cons, List.length_nil, List.replicate, List.cons_append, List.nil_append, List.append_nil, Nat.reduceAdd, Nat.reduceSub, Nat.zero_add, List.replicate_succ, List.replicate_zero, List.getElem?_cons_zero, List.getElem?_cons_succ, List.set_cons_zero, List.set_cons_succ, Option.some.injEq, V.int.injEq, V.bl.injEq, V.ref.injEq, V.str.injEq, V.ty.injEq, List.cons.injEq, HO.tup.injEq, HO.lst.injEq, and_true, true_and, and_assoc, exists_eq_left, exists_eq_left', exists_and_left, exists_eq', atI0, atI1, atI2, atI3, Int.cast_ofNat_Int, Int.reduceToNat, scal_ii, scal_in, scal_ni, scal_nn, scal_bb, scal_ss, scal_sn, scal_ns, scal_bn, scal_nb, ite_iff, decide_eq_true_eq, decide_eq_false_iff_not, Bool.not_eq_true', Classical.not_not, ne_eq, not_false_eq_true, not_true_eq_false, forall_const, true_implies, false_implies, imp_self, sizeLine_eq, Nat.reduceLeDiff, reduceCtorEq, decide_true, decide_false]
  refine ⟨xs, .inr hx, ?_⟩
  refine while_by (fun σ' H' => H' = H ∧ ∃ lo hi : Nat, ∃ x4 x5, σ' = [some (V.ref q), some (V.int n), some (V.int lo), some (V.int hi), x4, x5, none] ∧ Srch E n lo hi)
    (fun σ' _ => match σ'[2]?, σ'[3]? with | some (some (V.int a)), some (some (V.int b)) => (b - a).toNat | _, _ => 0) ⟨rfl, 0, xs.length, none, none, rfl, by rw [len]; exact Srch.start⟩ ?_ mono_mcl
  rintro _ H7 ⟨rfl, lo, hi, x4, x5, rfl, S⟩
  refine ⟨_, ?_, fun b H2 q => q⟩
  have sl := S.le
  have st := S.top
  simp only [rIxT, exists_and_left, tD1, rTupN, rAll, rMax2, rMin2, tSl, tPart, tNoPart, rSlLN, tYes, rLenS, rRepN, unset, tEv2, calmS, tDNew, rInDN, rIxDN, rSetDN, tDN1, tDGetN, rSorted, cx_K, Value.ref.injEq, HO.xd.injEq, lk0, tSeq, tPar3, tPar, tCons, tNil, tVar, tC, tAsg, gName, gCons, gNil, gTupN, gSub, tOp, rI, rI0, rU, tTest, rNe, rEq, rIxTN, rIxLN, rLenL, rLenT, tLstRg, tRg1, tRg2, rIntI, rIntB, rAbs, rSetLN, tTruL, tRaiseX, rIsTy, rIsOw, ixN0, ixN1, tRet, tIf, tIfS, tNext, tBreak, tCont, tDrop, tTupN, tLstN, tUn, tCB, tCall, tNot, tAnd, tOr, tB, tAndV, tOrV, tNotV, tChain, tApp, LamX.tLam, tRevLN, rCatN, rInTN, rInLN, flatV, inV, List.all_cons, List.all_nil, List.any_cons, List.any_nil, Bool.and_self, Bool.and_true, if_true, Bool.false_eq_true, if_false, tMt, tFldN, tSto, HO.ins.injEq, lkh, List.drop_zero, List.drop_succ_cons, List.drop_nil, rListS, wipe, L2.start, List.map_cons, List.map_nil, List.length_cons, List.length_nil, List.replicate, List.cons_append, List.nil_append, List.append_nil, Nat.reduceAdd, Nat.reduceSub, Nat.zero_add, List.replicate_succ, List.replicate_zero, List.getElem?_cons_zero, List.getElem?_cons_succ, List.set_cons_zero, List.set_cons_succ, Option.some.injEq, V.int.injEq, V.bl.injEq, V.ref.injEq, V.str.injEq, V.ty.injEq, List.cons.injEq, HO.tup.injEq, HO.lst.injEq, and_true, true_and, and_assoc, exists_eq_left, exists_eq_left', exists_and_left, exists_eq', atI0, atI1, atI2, atI3, Int.cast_ofNat_Int, Int.reduceToNat, scal_ii, scal_in, scal_ni, scal_nn, scal_bb, scal_ss, scal_sn, scal_ns, scal_bn, scal_nb, ite_iff, decide_eq_true_eq, decide_eq_false_iff_not, Bool.not_eq_true', Classical.not_not, ne_eq, not_false_eq_true, not_true_eq_false, forall_const, true_implies, false_implies, imp_self, sizeLine_eq, Nat.reduceLeDiff, reduceCtorEq, decide_true, decide_false]
  have item : ∀ {m : Nat}, m < E.length → ∃ t p r, xs[m]? = some (V.ref t) ∧ E[m]? = some p ∧ H7 t = some (.tup (ov p.1 :: ov p.2 :: r)) := fun {m} hm => by
    have e := List.getElem?_eq_getElem hm
    obtain ⟨t, r, e1, e2⟩ := he.2 m _ e
    exact ⟨t, _, r, e1, e, e2⟩
  have at' : ∀ {m : Nat} {v : V}, xs[m]? = some v → atI xs (m : Int) = some v := fun e => atI_ok (by omega) (by rw [Int.toNat_natCast]; exact e)
  refine ⟨fun c => ?_, fun c => ?_⟩
  · obtain ⟨m, hm, m0, m1⟩ : ∃ m : Nat, ((lo : Int) + hi) / 2 = m ∧ lo ≤ m ∧ m < hi := ⟨(lo + hi) / 2, by omega, by omega, by omega⟩
    rw [hm]
    obtain ⟨t, ⟨pl, ph⟩, r, e1, e2, e3⟩ := item (show m < E.length by omega)
    refine ⟨by first | exact .inr ⟨by decide, by decide⟩ | exact ⟨by decide, by decide⟩, xs, hx, _, at' e1, t, rfl, _, e3, _, atI1, fun h => ?_, fun h => ?_⟩
    · cases ph with
      | none => exact absurd rfl h
      | some z => exact ⟨z, rfl, fun c2 => ⟨⟨m + 1, by omega, hi, rfl, S.right asc m1 e2 rfl c2⟩, by omega⟩, fun c2 => ⟨⟨lo, rfl, m, rfl, S.left asc m0 m1 e2 fun h eh => by cases eh; omega⟩, by omega⟩⟩
    · cases ph with
      | none => exact ⟨⟨lo, rfl, m, rfl, S.left asc m0 m1 e2 fun h eh => by cases eh⟩, by omega⟩
      | some z => cases h
  · obtain rfl : lo = hi := by omega
    refine ⟨xs, .inr hx, fun h => k2 (S.none (by omega)), fun h => ?_⟩
    obtain ⟨t, ⟨pl, ph⟩, r, e1, e2, e3⟩ := item (show lo < E.length by omega)
    refine ⟨xs, hx, _, at' e1, t, rfl, _, e3, _, atI0, fun h => ⟨xs, hx, _, at' e1, ?_⟩, fun h => ?_⟩
    · cases pl with
      | none => exact k1 lo t _ e1 e2 (S.yes e2 fun l el => by cases el)
      | some z => cases h
    · cases pl with
      | none => exact absurd rfl h
      | some z => exact ⟨z, rfl, fun c2 => ⟨xs, hx, _, at' e1, k1 lo t _ e1 e2 (S.yes e2 fun l el => by cases el; exact c2)⟩, fun c2 => k2 (S.not asc e2 rfl (by omega))⟩
/-- the region at a -/
def RegAt (K : PySem.W.Frag) (H : Hp) (a : Addr) (S : List (Bd Row)) : Prop := ∃ dx q, H a = some (.ins (ga K "Region") dx [("_slabs", .ref q)]) ∧ SlabsAt K H q S
theorem RegAt.kt {K : PySem.W.Frag} {H H' : Hp} {a : Addr} {S : List (Bd Row)} (h : RegAt K H a S) (k : Kt H H') : RegAt K H' a S := let ⟨dx, q, e, s⟩ := h; ⟨dx, q, k _ _ (fun _ z => by cases z) e, s.kt k⟩
/-- what is no list or tuple -/
def NoRow (K : PySem.W.Frag) (H : Hp) (v : V) : Prop := ∃ t, TyX K H v t ∧ PySem.W.kitAny K t [.type "list", .type "tuple"] = some false
def NoMd (K : PySem.W.Frag) (H : Hp) (v : V) : Prop := ∃ t, TyX K H v t ∧ PySem.W.kitOne K t (.ref (ga K "MadeSlabs")) = some false
/-- what a call with told boxes comes to -/
def TG (K : PySem.W.Frag) (H : Hp) (E : XK) (v : V) (G : List Box → Prop) : Prop :=
  (NoRow K H v ∧ Rse K E H "BadPart" "part" (.str "boxes")) ∨
  (∃ (q : Addr) (xs : List V) (i : Nat) (x : V), v = .ref q ∧ LG K H q xs ∧ xs[i]? = some x ∧ PairK K H x ∧ boxV H x = false ∧ (∀ (j : Nat) y, j < i → xs[j]? = some y → PairK K H y ∧ boxV H y = true) ∧ Rse K E H "BadIndex" "index" (.int i)) ∨
  (∃ (q : Addr) (xs : List V) (B : List Box), v = .ref q ∧ LG K H q xs ∧ BxAt H xs B ∧ B.length ≤ 1000 ∧ (∀ b ∈ B, okBox b) ∧ (40 < B.length → Rse K E H "TooMany" "limit" (.int 40)) ∧ (B.length ≤ 40 → G B))
theorem PairK.boxS {H H' : Hp} {v : V} (h : PairK K H v) (s : Same H H') : boxV H' v = boxV H v := by
  cases h with
  | non => rfl
  | bl b => rfl
  | int i => rfl
  | str x => rfl
  | lst h => simp only [boxV, h, s _ _ h]
  | tup h w => simp only [boxV, h, s _ _ h]
  | ins h T k => simp only [boxV, h, s _ _ h]
theorem okE_O {lo hi : Option Int} (h : okE lo hi) : okO lo hi := by
  cases lo <;> cases hi <;> first | trivial | exact h _ _ rfl rfl
theorem BxAt.box {H : Hp} {xs : List V} {B : List Box} {i : Nat} {x : V} (h : BxAt H xs B) (ok : ∀ b ∈ B, okBox b) (hi : xs[i]? = some x) : PairK K H x ∧ boxV H x = true := by
  have il : i < B.length := by rw [← h.1]; exact (List.getElem?_eq_some_iff.mp hi).1
  have e := List.getElem?_eq_getElem il
  obtain ⟨t, e1, e2⟩ := h.2 i _ e
  rw [hi] at e1; cases e1
  have o := ok _ (List.mem_of_getElem? e)
  refine ⟨.tup e2 fun z hz => ?_, ?_⟩
  · simp only [List.mem_cons, List.not_mem_nil, or_false] at hz
    rcases hz with rfl | rfl | rfl | rfl <;> exact wh_ov
  · simp only [boxV, e2, boxL, Bool.and_eq_true]
    exact ⟨okS_ov.mpr (okE_O o.1), okS_ov.mpr (okE_O o.2)⟩
def spIsRow (K : PySem.W.Frag) : Sp := fun vs H Q _ => ∃ x, vs = [x] ∧ ∃ t b, TyX K H x t ∧ PySem.W.kitAny K t [.type "list", .type "tuple"] = some b ∧ ∀ H', Same H H' → Q (.bl b) H'
theorem o_is_row (T : Txt K mg) : OkF P w K mg base CX0 2 "is_row" ["value"] (spIsRow K) := by
  obtain ⟨f, fd, g, F⟩ := T.d_is_row
  refine ⟨f, fd, g, F.kp, F.binds (fun _ _ _ _ _ _ us hl => match us, hl with | [_], _ => rfl), F.ok sc_is_row (fun vs H Q E h => ?_) (fun cdv A outer s H vs Q E hr h => ?_)⟩
  · first | (obtain ⟨_, rfl, _⟩ := h; rfl) | (obtain ⟨rfl, _⟩ := h; rfl) | (obtain ⟨_, _, rfl, _⟩ := h; rfl) | (obtain ⟨_, _, _, rfl, _⟩ := h; rfl) | (obtain ⟨_, _, _, _, rfl, _⟩ := h; rfl) | (obtain ⟨_, _, _, _, _, rfl, _⟩ := h; rfl) | (obtain ⟨_, _, _, _, _, _, rfl, _⟩ := h; rfl) | (obtain ⟨_, _, _, _, _, _, _, rfl, _⟩ := h; rfl)
  have hu64 := hr.units
  refine ⟨_, pss_one (ps_ret (pe_callB call_isiT (by rfl) T.m_isinstance (by decide +kernel) (pa_cons (pv 0) (pa_cons (pe_tupN (pa_cons ((pe_bltn (v := .ty "list") (by rfl) T.m_list (by decide +kernel) rfl)) (pa_cons ((pe_bltn (v := .ty "tuple") (by rfl) T.m_tuple (by decide +kernel) rfl)) pa_nil))) pa_nil)))), ?_⟩
  obtain ⟨x, rfl, t, b, ty, kt, k⟩ := h
  simp only [rIsiT, exists_and_left, tD1, rTupN, rAll, rMax2, rMin2, tSl, tPart, tNoPart, rSlLN, tYes, rLenS, rRepN, unset, tEv2, calmS, tDNew, rInDN, rIxDN, rSetDN, tDN1, tDGetN, rSorted, cx_K, Value.ref.injEq, HO.xd.injEq, lk0, tSeq, tPar3, tPar, tCons, tNil, tVar, tC, tAsg, gName, gCons, gNil, gTupN, gSub, tOp, rI, rI0, rU, tTest, rNe, rEq, rIxTN, rIxLN, rLenL, rLenT, tLstRg, tRg1, tRg2, rIntI, rIntB, rAbs, rSetLN, tTruL, tRaiseX, rIsTy, rIsOw, ixN0, ixN1, tRet, tIf, tIfS, tNext, tBreak, tCont, tDrop, tTupN, tLstN, tUn, tCB, tCall, tNot, tAnd, tOr, tB, tAndV, tOrV, tNotV, tChain, tApp, LamX.tLam, tRevLN, rCatN, rInTN, rInLN, flatV, inV, List.all_cons, List.all_nil, List.any_cons, List.any_nil, Bool.and_self, Bool.and_true, if_true, Bool.false_eq_true, if_false, tMt, tFldN, tSto, HO.ins.injEq, lkh, List.drop_zero, List.drop_succ_cons, List.drop_nil, rListS, wipe, L2.start, List.map_cons, List.map_nil, List.length_cons, List.length_nil, List.replicate, List.cons_append, List.nil_append, List.append_nil, Nat.reduceAdd, Nat.reduceSub, Nat.zero_add, List.replicate_succ, List.replicate_zero, List.getElem?_cons_zero, List.getElem?_cons_succ, List.set_cons_zero, List.set_cons_succ, Option.some.injEq, V.int.injEq, V.bl.injEq, V.ref.injEq, V.str.injEq, V.ty.injEq, List.cons.injEq, HO.tup.injEq, HO.lst.injEq, and_true, true_and, and_assoc, exists_eq_left, exists_eq_left', exists_and_left, exists_eq', atI0, atI1, atI2, atI3, Int.cast_ofNat_Int, Int.reduceToNat, scal_ii, scal_in, scal_ni, scal_nn, scal_bb, scal_ss, scal_sn, scal_ns, scal_bn, scal_nb, ite_iff, decide_eq_true_eq, decide_eq_false_iff_not, Bool.not_eq_true', Classical.not_not, ne_eq, not_false_eq_true, not_true_eq_false, forall_const, true_implies, false_implies, imp_self, sizeLine_eq, Nat.reduceLeDiff, reduceCtorEq, decide_true, decide_false]
  intro p H1 hp s1 h1
  exact ⟨p, rfl, _, h1, t, _, .cons (.ty _) (.cons (.ty _) .nil), tyX_mono ty s1, _, kt, k _ s1⟩
def spSOT (K : PySem.W.Frag) : Sp := fun vs H Q E => ∃ v, vs = [v] ∧ TG K H E v fun B => ∀ a S H', Same H H' → SlabsAt K H' a S → GoodS (exB B) (eyB B) S → (∀ x y, hasS S x y = B.any fun b => inBox b x y) → Q (.ref a) H'
theorem o__slabs_of_told (T : Txt K mg) : OkF P w K mg base (L2.CX P w) 8 "_slabs_of_told" ["boxes"] (spSOT K) := by
  have o_is_row := o_is_row (P := P) (w := w) (base := base) T
  have o_is_box := o_is_box (P := P) (w := w) (base := base) T
  have o_slabs_of_boxes := o_slabs_of_boxes (P := P) (w := w) (base := base) T
  obtain ⟨f, fd, g, F⟩ := T.d__slabs_of_told
  refine ⟨f, fd, g, F.kp, F.binds (fun _ _ _ _ _ _ us hl => match us, hl with | [_], _ => rfl), F.okX sc__slabs_of_told (fun vs H Q E h => ?_) (fun cdv A outer s H vs Q E hr h => ?_)⟩
  · first | (obtain ⟨_, rfl, _⟩ := h; rfl) | (obtain ⟨rfl, _⟩ := h; rfl) | (obtain ⟨_, _, rfl, _⟩ := h; rfl) | (obtain ⟨_, _, _, rfl, _⟩ := h; rfl) | (obtain ⟨_, _, _, _, rfl, _⟩ := h; rfl) | (obtain ⟨_, _, _, _, _, rfl, _⟩ := h; rfl) | (obtain ⟨_, _, _, _, _, _, rfl, _⟩ := h; rfl) | (obtain ⟨_, _, _, _, _, _, _, rfl, _⟩ := h; rfl)
  have hu64 := hr.units
  refine ⟨_, pss_cons (ps_if (pt_not (pt_val (pcl o_is_row (hr.mono (by decide)) pass0 (pa_cons (pv 0) pa_nil)))) (pss_one (ps_raiseX (T.x_BadPart) (hr.mono (by decide)) takesE (pe_str))) (pss_nil))
      (pss_cons (ps_for (passes_of rfl) rfl (pi_or (pi_enum rfl T.m_enumerate (pa_cons (pv 0) pa_nil)) (pi_enumG rfl T.m_enumerate (pa_cons (pv 0) pa_nil))) (pg_tupN (n := 2) (by rfl) (pgs_cons (pg_name (i := 1) sc__slabs_of_told.nd rfl (Or.inl rfl)) (pgs_cons (pg_name (i := 2) sc__slabs_of_told.nd rfl (Or.inl rfl)) pgs_nil))) (pss_one (ps_if (pt_not (pt_val (pcl o_is_box (hr.mono (by decide)) pass0 (pa_cons (pv 2) pa_nil)))) (pss_one (ps_raiseX (T.x_BadIndex) (hr.mono (by decide)) takesE (pv 1))) (pss_nil))))
      (pss_cons (ps_if (pt_cmpR op_gt (pe_callB call_len_seq (by rfl) T.m_len (by decide +kernel) (pa_cons (pv 0) pa_nil)) ((pe_glI T.k_MOST_BOXES)) (nomark _)) (pss_one (ps_raiseO (T.x_TooMany) (hr.mono (by decide)) takesE ((pe_glI T.k_MOST_BOXES)))) (pss_nil))
      (pss_one (ps_ret (pcl o_slabs_of_boxes (hr.mono (by decide)) pass0 (pa_cons (pv 0) pa_nil)))))), ?_⟩
  obtain ⟨v, rfl, hG⟩ := h
  simp only [spIsRow, exists_and_left, tD1, rTupN, rAll, rMax2, rMin2, tSl, tPart, tNoPart, rSlLN, tYes, rLenS, rRepN, unset, tEv2, calmS, tDNew, rInDN, rIxDN, rSetDN, tDN1, tDGetN, rSorted, cx_K, Value.ref.injEq, HO.xd.injEq, lk0, tSeq, tPar3, tPar, tCons, tNil, tVar, tC, tAsg, gName, gCons, gNil, gTupN, gSub, tOp, rI, rI0, rU, tTest, rNe, rEq, rIxTN, rIxLN, rLenL, rLenT, tLstRg, tRg1, tRg2, rIntI, rIntB, rAbs, rSetLN, tTruL, tRaiseX, rIsTy, rIsOw, ixN0, ixN1, tRet, tIf, tIfS, tNext, tBreak, tCont, tDrop, tTupN, tLstN, tUn, tCB, tCall, tNot, tAnd, tOr, tB, tAndV, tOrV, tNotV, tChain, tApp, LamX.tLam, tRevLN, rCatN, rInTN, rInLN, flatV, inV, List.all_cons, List.all_nil, List.any_cons, List.any_nil, Bool.and_self, Bool.and_true, if_true, Bool.false_eq_true, if_false, tMt, tFldN, tSto, HO.ins.injEq, lkh, List.drop_zero, List.drop_succ_cons, List.drop_nil, rListS, wipe, L2.start, List.map_cons, List.map_nil, List.length_cons, List.length_nil, List.replicate, List.cons_append, List.nil_append, List.append_nil, Nat.reduceAdd, Nat.reduceSub, Nat.zero_add, List.replicate_succ, List.replicate_zero, List.getElem?_cons_zero, List.getElem?_cons_succ, List.set_cons_zero, List.set_cons_succ, Option.some.injEq, V.int.injEq, V.bl.injEq, V.ref.injEq, V.str.injEq, V.ty.injEq, List.cons.injEq, HO.tup.injEq, HO.lst.injEq, and_true, true_and, and_assoc, exists_eq_left, exists_eq_left', exists_and_left, exists_eq', atI0, atI1, atI2, atI3, Int.cast_ofNat_Int, Int.reduceToNat, scal_ii, scal_in, scal_ni, scal_nn, scal_bb, scal_ss, scal_sn, scal_ns, scal_bn, scal_nb, ite_iff, decide_eq_true_eq, decide_eq_false_iff_not, Bool.not_eq_true', Classical.not_not, ne_eq, not_false_eq_true, not_true_eq_false, forall_const, true_implies, false_implies, imp_self, sizeLine_eq, Nat.reduceLeDiff, reduceCtorEq, decide_true, decide_false]
  rcases hG with ⟨⟨t, ty, e⟩, r⟩ | ⟨q, xs, i, x, rfl, hl, hx, hk, hb, hj, r⟩ | ⟨q, xs, B, rfl, hl, hb, b9, ok, r, g⟩
  · exact ⟨t, ty, false, e, fun H1 s1 => ⟨fun _ => r.mono s1, fun h => absurd rfl h⟩⟩
  · obtain ⟨t, ty, e⟩ := hl.ty
    refine ⟨t, ty, true, e, fun H1 s1 => ⟨fun h => (by cases h), fun _ => ?_⟩⟩
    refine st_forEG (fun R r => (by simp only [exists_and_left, tD1, rTupN, rAll, rMax2, rMin2, tSl, tPart, tNoPart, rSlLN, tYes, rLenS, rRepN, unset, tEv2, calmS, tDNew, rInDN, rIxDN, rSetDN, tDN1, tDGetN, rSorted, cx_K, Value.ref.injEq, HO.xd.injEq, lk0, tSeq, tPar3, tPar, tCons, tNil, tVar, tC, tAsg, gName, gCons, gNil, gTupN, gSub, tOp, rI, rI0, rU, tTest, rNe, rEq, rIxTN, rIxLN, rLenL, rLenT, tLstRg, tRg1, tRg2, rIntI, rIntB, rAbs, rSetLN, tTruL, tRaiseX, rIsTy, rIsOw, ixN0, ixN1, tRet, tIf, tIfS, tNext, tBreak, tCont, tDrop, tTupN, tLstN, tUn, tCB, tCall, tNot, tAnd, tOr, tB, tAndV, tOrV, tNotV, tChain, tApp, LamX.tLam, tRevLN, rCatN, rInTN, rInLN, flatV, inV, List.all_cons, List.all_nil, List.any_cons, List.any_nil, Bool.and_self, Bool.and_true, if_true, Bool.false_eq_true, if_false, tMt, tFldN, tSto, HO.ins.injEq, lkh, List.drop_zero, List.drop_succ_cons, List.drop_nil, rListS, wipe, L2.start, List.map_cons, List.map_nil, List.length_cons, List.length_nil, List.replicate, List.cons_append, List.nil_append, List.append_nil, Nat.reduceAdd, Nat.reduceSub, Nat.zero_add, List.replicate_succ, List.replicate_zero, List.getElem?_cons_zero, List.getElem?_cons_succ, List.set_cons_zero, List.set_cons_succ, Option.some.injEq, V.int.injEq, V.bl.injEq, V.ref.injEq, V.str.injEq, V.ty.injEq, List.cons.injEq, HO.tup.injEq, HO.lst.injEq, and_true, true_and, and_assoc, exists_eq_left, exists_eq_left', exists_and_left, exists_eq', atI0, atI1, atI2, atI3, Int.cast_ofNat_Int, Int.reduceToNat, scal_ii, scal_in, scal_ni, scal_nn, scal_bb, scal_ss, scal_sn, scal_ns, scal_bn, scal_nb, ite_iff, decide_eq_true_eq, decide_eq_false_iff_not, Bool.not_eq_true', Classical.not_not, ne_eq, not_false_eq_true, not_true_eq_false, forall_const, true_implies, false_implies, imp_self, sizeLine_eq, Nat.reduceLeDiff, reduceCtorEq, decide_true, decide_false]; exact r)) hl s1 (fun j σ' H' => ∃ x1 x2, σ' = [some (V.ref q), x1, x2] ∧ Same H H' ∧ j ≤ i) ⟨none, none, rfl, s1, Nat.zero_le _⟩ (fun j σ' H' h => by obtain ⟨_, _, _, h, _⟩ := h; exact h) ?_ ?_
    · rintro j y T' _ H2 H3 hj3 ⟨x1, x2, rfl, s2, hji⟩ s3 h3
      have s23 := s2.trans s3
      simp only [h3, spIsBox, exists_and_left, tD1, rTupN, rAll, rMax2, rMin2, tSl, tPart, tNoPart, rSlLN, tYes, rLenS, rRepN, unset, tEv2, calmS, tDNew, rInDN, rIxDN, rSetDN, tDN1, tDGetN, rSorted, cx_K, Value.ref.injEq, HO.xd.injEq, lk0, tSeq, tPar3, tPar, tCons, tNil, tVar, tC, tAsg, gName, gCons, gNil, gTupN, gSub, tOp, rI, rI0, rU, tTest, rNe, rEq, rIxTN, rIxLN, rLenL, rLenT, tLstRg, tRg1, tRg2, rIntI, rIntB, rAbs, rSetLN, tTruL, tRaiseX, rIsTy, rIsOw, ixN0, ixN1, tRet, tIf, tIfS, tNext, tBreak, tCont, tDrop, tTupN, tLstN, tUn, tCB, tCall, tNot, tAnd, tOr, tB, tAndV, tOrV, tNotV, tChain, tApp, LamX.tLam, tRevLN, rCatN, rInTN, rInLN, flatV, inV, List.all_cons, List.all_nil, List.any_cons, List.any_nil, Bool.and_self, Bool.and_true, if_true, Bool.false_eq_true, if_false, tMt, tFldN, tSto, HO.ins.injEq, lkh, List.drop_zero, List.drop_succ_cons, List.drop_nil, rListS, wipe, L2.start, List.map_cons, List.map_nil, List.length_cons, List.length_nil, List.replicate, List.cons_append, List.nil_append, List.append_nil, Nat.reduceAdd, Nat.reduceSub, Nat.zero_add, List.replicate_succ, List.replicate_zero, List.getElem?_cons_zero, List.getElem?_cons_succ, List.set_cons_zero, List.set_cons_succ, Option.some.injEq, V.int.injEq, V.bl.injEq, V.ref.injEq, V.str.injEq, V.ty.injEq, List.cons.injEq, HO.tup.injEq, HO.lst.injEq, and_true, true_and, and_assoc, exists_eq_left, exists_eq_left', exists_and_left, exists_eq', atI0, atI1, atI2, atI3, Int.cast_ofNat_Int, Int.reduceToNat, scal_ii, scal_in, scal_ni, scal_nn, scal_bb, scal_ss, scal_sn, scal_ns, scal_bn, scal_nb, ite_iff, decide_eq_true_eq, decide_eq_false_iff_not, Bool.not_eq_true', Classical.not_not, ne_eq, not_false_eq_true, not_true_eq_false, forall_const, true_implies, false_implies, imp_self, sizeLine_eq, Nat.reduceLeDiff, reduceCtorEq, decide_true, decide_false]
      by_cases c : j = i
      · subst c
        rw [hx] at hj3; cases hj3
        exact ⟨hk.mono s23, fun _ => r.mono s23, fun h => absurd (by rw [hk.boxS s23]; exact hb) h⟩
      · obtain ⟨ky, by'⟩ := hj j y (by omega) hj3
        exact ⟨ky.mono s23, fun h => absurd h (by rw [ky.boxS s23, by']; decide), fun _ => ⟨s23, by omega⟩⟩
    · rintro _ H2 ⟨x1, x2, rfl, s2, hji⟩
      have := (List.getElem?_eq_some_iff.mp hx).1
      omega
  · obtain ⟨t, ty, e⟩ := hl.ty
    refine ⟨t, ty, true, e, fun H1 s1 => ⟨fun h => (by cases h), fun _ => ?_⟩⟩
    refine st_forEG (fun R r => (by simp only [exists_and_left, tD1, rTupN, rAll, rMax2, rMin2, tSl, tPart, tNoPart, rSlLN, tYes, rLenS, rRepN, unset, tEv2, calmS, tDNew, rInDN, rIxDN, rSetDN, tDN1, tDGetN, rSorted, cx_K, Value.ref.injEq, HO.xd.injEq, lk0, tSeq, tPar3, tPar, tCons, tNil, tVar, tC, tAsg, gName, gCons, gNil, gTupN, gSub, tOp, rI, rI0, rU, tTest, rNe, rEq, rIxTN, rIxLN, rLenL, rLenT, tLstRg, tRg1, tRg2, rIntI, rIntB, rAbs, rSetLN, tTruL, tRaiseX, rIsTy, rIsOw, ixN0, ixN1, tRet, tIf, tIfS, tNext, tBreak, tCont, tDrop, tTupN, tLstN, tUn, tCB, tCall, tNot, tAnd, tOr, tB, tAndV, tOrV, tNotV, tChain, tApp, LamX.tLam, tRevLN, rCatN, rInTN, rInLN, flatV, inV, List.all_cons, List.all_nil, List.any_cons, List.any_nil, Bool.and_self, Bool.and_true, if_true, Bool.false_eq_true, if_false, tMt, tFldN, tSto, HO.ins.injEq, lkh, List.drop_zero, List.drop_succ_cons, List.drop_nil, rListS, wipe, L2.start, List.map_cons, List.map_nil, List.length_cons, List.length_nil, List.replicate, List.cons_append, List.nil_append, List.append_nil, Nat.reduceAdd, Nat.reduceSub, Nat.zero_add, List.replicate_succ, List.replicate_zero, List.getElem?_cons_zero, List.getElem?_cons_succ, List.set_cons_zero, List.set_cons_succ, Option.some.injEq, V.int.injEq, V.bl.injEq, V.ref.injEq, V.str.injEq, V.ty.injEq, List.cons.injEq, HO.tup.injEq, HO.lst.injEq, and_true, true_and, and_assoc, exists_eq_left, exists_eq_left', exists_and_left, exists_eq', atI0, atI1, atI2, atI3, Int.cast_ofNat_Int, Int.reduceToNat, scal_ii, scal_in, scal_ni, scal_nn, scal_bb, scal_ss, scal_sn, scal_ns, scal_bn, scal_nb, ite_iff, decide_eq_true_eq, decide_eq_false_iff_not, Bool.not_eq_true', Classical.not_not, ne_eq, not_false_eq_true, not_true_eq_false, forall_const, true_implies, false_implies, imp_self, sizeLine_eq, Nat.reduceLeDiff, reduceCtorEq, decide_true, decide_false]; exact r)) hl s1 (fun j σ' H' => ∃ x1 x2, σ' = [some (V.ref q), x1, x2] ∧ Same H H') ⟨none, none, rfl, s1⟩ (fun j σ' H' h => by obtain ⟨_, _, _, h⟩ := h; exact h) ?_ ?_
    · rintro j y T' _ H2 H3 hj3 ⟨x1, x2, rfl, s2⟩ s3 h3
      have s23 := s2.trans s3
      simp only [h3, spIsBox, exists_and_left, tD1, rTupN, rAll, rMax2, rMin2, tSl, tPart, tNoPart, rSlLN, tYes, rLenS, rRepN, unset, tEv2, calmS, tDNew, rInDN, rIxDN, rSetDN, tDN1, tDGetN, rSorted, cx_K, Value.ref.injEq, HO.xd.injEq, lk0, tSeq, tPar3, tPar, tCons, tNil, tVar, tC, tAsg, gName, gCons, gNil, gTupN, gSub, tOp, rI, rI0, rU, tTest, rNe, rEq, rIxTN, rIxLN, rLenL, rLenT, tLstRg, tRg1, tRg2, rIntI, rIntB, rAbs, rSetLN, tTruL, tRaiseX, rIsTy, rIsOw, ixN0, ixN1, tRet, tIf, tIfS, tNext, tBreak, tCont, tDrop, tTupN, tLstN, tUn, tCB, tCall, tNot, tAnd, tOr, tB, tAndV, tOrV, tNotV, tChain, tApp, LamX.tLam, tRevLN, rCatN, rInTN, rInLN, flatV, inV, List.all_cons, List.all_nil, List.any_cons, List.any_nil, Bool.and_self, Bool.and_true, if_true, Bool.false_eq_true, if_false, tMt, tFldN, tSto, HO.ins.injEq, lkh, List.drop_zero, List.drop_succ_cons, List.drop_nil, rListS, wipe, L2.start, List.map_cons, List.map_nil, List.length_cons, List.length_nil, List.replicate, List.cons_append, List.nil_append, List.append_nil, Nat.reduceAdd, Nat.reduceSub, Nat.zero_add, List.replicate_succ, List.replicate_zero, List.getElem?_cons_zero, List.getElem?_cons_succ, List.set_cons_zero, List.set_cons_succ, Option.some.injEq, V.int.injEq, V.bl.injEq, V.ref.injEq, V.str.injEq, V.ty.injEq, List.cons.injEq, HO.tup.injEq, HO.lst.injEq, and_true, true_and, and_assoc, exists_eq_left, exists_eq_left', exists_and_left, exists_eq', atI0, atI1, atI2, atI3, Int.cast_ofNat_Int, Int.reduceToNat, scal_ii, scal_in, scal_ni, scal_nn, scal_bb, scal_ss, scal_sn, scal_ns, scal_bn, scal_nb, ite_iff, decide_eq_true_eq, decide_eq_false_iff_not, Bool.not_eq_true', Classical.not_not, ne_eq, not_false_eq_true, not_true_eq_false, forall_const, true_implies, false_implies, imp_self, sizeLine_eq, Nat.reduceLeDiff, reduceCtorEq, decide_true, decide_false]
      obtain ⟨ky, by'⟩ := hb.box ok hj3
      exact ⟨ky.mono s23, fun h => absurd h (by rw [ky.boxS s23, by']; decide), fun _ => s23⟩
    · rintro _ H2 ⟨x1, x2, rfl, s2⟩
      have lx := hb.1
      simp only [spSlB, exists_and_left, tD1, rTupN, rAll, rMax2, rMin2, tSl, tPart, tNoPart, rSlLN, tYes, rLenS, rRepN, unset, tEv2, calmS, tDNew, rInDN, rIxDN, rSetDN, tDN1, tDGetN, rSorted, cx_K, Value.ref.injEq, HO.xd.injEq, lk0, tSeq, tPar3, tPar, tCons, tNil, tVar, tC, tAsg, gName, gCons, gNil, gTupN, gSub, tOp, rI, rI0, rU, tTest, rNe, rEq, rIxTN, rIxLN, rLenL, rLenT, tLstRg, tRg1, tRg2, rIntI, rIntB, rAbs, rSetLN, tTruL, tRaiseX, rIsTy, rIsOw, ixN0, ixN1, tRet, tIf, tIfS, tNext, tBreak, tCont, tDrop, tTupN, tLstN, tUn, tCB, tCall, tNot, tAnd, tOr, tB, tAndV, tOrV, tNotV, tChain, tApp, LamX.tLam, tRevLN, rCatN, rInTN, rInLN, flatV, inV, List.all_cons, List.all_nil, List.any_cons, List.any_nil, Bool.and_self, Bool.and_true, if_true, Bool.false_eq_true, if_false, tMt, tFldN, tSto, HO.ins.injEq, lkh, List.drop_zero, List.drop_succ_cons, List.drop_nil, rListS, wipe, L2.start, List.map_cons, List.map_nil, List.length_cons, List.length_nil, List.replicate, List.cons_append, List.nil_append, List.append_nil, Nat.reduceAdd, Nat.reduceSub, Nat.zero_add, List.replicate_succ, List.replicate_zero, List.getElem?_cons_zero, List.getElem?_cons_succ, List.set_cons_zero, List.set_cons_succ, Option.some.injEq, V.int.injEq, V.bl.injEq, V.ref.injEq, V.str.injEq, V.ty.injEq, List.cons.injEq, HO.tup.injEq, HO.lst.injEq, and_true, true_and, and_assoc, exists_eq_left, exists_eq_left', exists_and_left, exists_eq', atI0, atI1, atI2, atI3, Int.cast_ofNat_Int, Int.reduceToNat, scal_ii, scal_in, scal_ni, scal_nn, scal_bb, scal_ss, scal_sn, scal_ns, scal_bn, scal_nb, ite_iff, decide_eq_true_eq, decide_eq_false_iff_not, Bool.not_eq_true', Classical.not_not, ne_eq, not_false_eq_true, not_true_eq_false, forall_const, true_implies, false_implies, imp_self, sizeLine_eq, Nat.reduceLeDiff, reduceCtorEq, decide_true, decide_false]
      refine ⟨xs, (hl.same s2).imp SqL.of id, fun c => (r (by omega)).mono s2, fun c => ?_⟩
      exact ⟨xs, hl.same s2, B, hb.keep (Kt.same s2), by omega, ok, fun a S H3 s3 sl gs hv => g (by omega) a S H3 (s2.trans s3) sl gs hv⟩
/-- all but lists and instances stays -/
def Ku (H H' : Hp) : Prop := ∀ b o, (∀ ys, o ≠ HO.lst ys) → (∀ C dx fs, o ≠ HO.ins C dx fs) → H b = some o → H' b = some o
section
variable {H H' : Hp}
theorem SqT.ku {q : Addr} {xs : List V} (h : SqT K H q xs) (k : Ku H H') : SqT K H' q xs := by
  rcases h with (h | ⟨o, h⟩) | h
  · exact .inl (.inl (k _ _ (fun _ z => by cases z) (fun _ _ _ z => by cases z) h))
  · exact .inl (.inr ⟨o, k _ _ (fun _ z => by cases z) (fun _ _ _ z => by cases z) h⟩)
  · exact .inr h
theorem StAt.ku {xs : List V} {R : Row} (h : StAt H xs R) (k : Ku H H') : StAt H' xs R := ⟨h.1, fun i p hi => let ⟨t, e1, e2⟩ := h.2 i p hi; ⟨t, e1, k _ _ (fun _ q => by cases q) (fun _ _ _ q => by cases q) e2⟩⟩
theorem RowV.ku {v : V} {R : Row} (h : RowV K H v R) (k : Ku H H') : RowV K H' v R := let ⟨q, xs, e, a, b⟩ := h; ⟨q, xs, e, SqT.ku a k, b.ku k⟩
theorem BsAt.ku {xs : List V} {bs : List (Bd V)} (h : BsAt H xs bs) (k : Ku H H') : BsAt H' xs bs := ⟨h.1, fun i b hi => let ⟨t, e1, e2⟩ := h.2 i b hi; ⟨t, e1, k _ _ (fun _ q => by cases q) (fun _ _ _ q => by cases q) e2⟩⟩
theorem RelB.ku (k : Ku H H') : ∀ {bs : List (Bd V)} {S : List (Bd Row)}, RelB K H bs S → RelB K H' bs S
  | [], [], _ => trivial
  | b :: bs, s :: S, h => ⟨h.1, h.2.1, h.2.2.1.ku k, RelB.ku k h.2.2.2⟩
theorem SlabsAt.ku {q : Addr} {S : List (Bd Row)} (h : SlabsAt K H q S) (k : Ku H H') : SlabsAt K H' q S := let ⟨xs, bs, a, b, c⟩ := h; ⟨xs, bs, SqT.ku a k, b.ku k, c.ku k⟩
theorem NoMd.mono {v : V} (h : NoMd K H v) (s : Same H H') : NoMd K H' v := let ⟨t, ty, e⟩ := h; ⟨t, tyX_mono ty s, e⟩
theorem TG.imp {E : XK} {v : V} {G G' : List Box → Prop} (h : TG K H E v G) (s : Same H H') (f : ∀ B, G B → G' B) : TG K H' E v G' := by
  rcases h with ⟨⟨t, ty, e⟩, r⟩ | ⟨q, xs, i, x, rfl, hl, hx, hk, hb, hj, r⟩ | ⟨q, xs, B, rfl, hl, hb, b9, ok, r, g⟩
  · exact .inl ⟨⟨t, tyX_mono ty s, e⟩, r.mono s⟩
  · exact .inr (.inl ⟨q, xs, i, x, rfl, hl.same s, hx, hk.mono s, by rw [hk.boxS s]; exact hb, fun j y a b => let ⟨c, d⟩ := hj j y a b; ⟨c.mono s, by rw [c.boxS s]; exact d⟩, r.mono s⟩)
  · exact .inr (.inr ⟨q, xs, B, rfl, hl.same s, hb.keep (Kt.same s), b9, ok, fun c => (r c).mono s, fun c => f B (g c)⟩)
end
def spRegI (K : PySem.W.Frag) : Sp := fun vs H Q E => ∃ p v, vs = [.ref p, v] ∧ ∃ dx, H p = some (.ins (ga K "Region") dx []) ∧ NoMd K H v ∧ TG K H E v fun B => ∀ S H', (∀ b o, b ≠ p → H b = some o → H' b = some o) → RegAt K H' p S → GoodS (exB B) (eyB B) S → (∀ x y, hasS S x y = B.any fun b => inBox b x y) → Q .non H'
theorem i_Region___init__ (T : Txt K mg) {f : Addr} {fd : FuncData} {t0 : Addr} (F : FunD K "__init__" "Region.__init__" (defArgs s_Region___init__) (defBody s_Region___init__) (defScope s_Region___init__) [.ref t0] [] f fd) : FnOk P w K mg base (L2.CX P w) 9 f fd ["self", "boxes"] (spRegI K) := by
  have o__slabs_of_told := o__slabs_of_told (P := P) (w := w) (base := base) T
  refine F.ok (CX := (L2.CX P w)) sc_Region___init__ (fun vs H Q E h => ?_) (fun cdv A outer s H vs Q E hr h => ?_)
  · first | (obtain ⟨_, rfl, _⟩ := h; rfl) | (obtain ⟨rfl, _⟩ := h; rfl) | (obtain ⟨_, _, rfl, _⟩ := h; rfl) | (obtain ⟨_, _, _, rfl, _⟩ := h; rfl) | (obtain ⟨_, _, _, _, rfl, _⟩ := h; rfl) | (obtain ⟨_, _, _, _, _, rfl, _⟩ := h; rfl) | (obtain ⟨_, _, _, _, _, _, rfl, _⟩ := h; rfl) | (obtain ⟨_, _, _, _, _, _, _, rfl, _⟩ := h; rfl)
  have hu64 := hr.units
  refine ⟨_, (pss_one (ps_fldN T.c_Region T.na_Region__slabs (pv 0) (pe_ifExp (pt_val (pe_callB call_isOw (by rfl) T.m_isinstance (by decide +kernel) (pa_cons (pv 1) (pa_cons ((pe_glob (v := .ref (ga K "MadeSlabs")) (by rfl) T.g_MadeSlabs rfl)) pa_nil)))) (pe_fldN T.c_MadeSlabs T.na_MadeSlabs_ready (pv 1)) (pcl o__slabs_of_told (hr.mono (by decide)) passE (pa_cons (pv 1) pa_nil))))), ?_⟩
  obtain ⟨p, v, rfl, dx, hp, nm, hG⟩ := h
  simp only [spSOT, exists_and_left, tD1, rTupN, rAll, rMax2, rMin2, tSl, tPart, tNoPart, rSlLN, tYes, rLenS, rRepN, unset, tEv2, calmS, tDNew, rInDN, rIxDN, rSetDN, tDN1, tDGetN, rSorted, cx_K, Value.ref.injEq, HO.xd.injEq, lk0, tSeq, tPar3, tPar, tCons, tNil, tVar, tC, tAsg, gName, gCons, gNil, gTupN, gSub, tOp, rI, rI0, rU, tTest, rNe, rEq, rIxTN, rIxLN, rLenL, rLenT, tLstRg, tRg1, tRg2, rIntI, rIntB, rAbs, rSetLN, tTruL, tRaiseX, rIsTy, rIsOw, ixN0, ixN1, tRet, tIf, tIfS, tNext, tBreak, tCont, tDrop, tTupN, tLstN, tUn, tCB, tCall, tNot, tAnd, tOr, tB, tAndV, tOrV, tNotV, tChain, tApp, LamX.tLam, tRevLN, rCatN, rInTN, rInLN, flatV, inV, List.all_cons, List.all_nil, List.any_cons, List.any_nil, Bool.and_self, Bool.and_true, if_true, Bool.false_eq_true, if_false, tMt, tFldN, tSto, HO.ins.injEq, lkh, List.drop_zero, List.drop_succ_cons, List.drop_nil, rListS, wipe, L2.start, List.map_cons, List.map_nil, List.length_cons, List.length_nil, List.replicate, List.cons_append, List.nil_append, List.append_nil, Nat.reduceAdd, Nat.reduceSub, Nat.zero_add, List.replicate_succ, List.replicate_zero, List.getElem?_cons_zero, List.getElem?_cons_succ, List.set_cons_zero, List.set_cons_succ, Option.some.injEq, V.int.injEq, V.bl.injEq, V.ref.injEq, V.str.injEq, V.ty.injEq, List.cons.injEq, HO.tup.injEq, HO.lst.injEq, and_true, true_and, and_assoc, exists_eq_left, exists_eq_left', exists_and_left, exists_eq', atI0, atI1, atI2, atI3, Int.cast_ofNat_Int, Int.reduceToNat, scal_ii, scal_in, scal_ni, scal_nn, scal_bb, scal_ss, scal_sn, scal_ns, scal_bn, scal_nb, ite_iff, decide_eq_true_eq, decide_eq_false_iff_not, Bool.not_eq_true', Classical.not_not, ne_eq, not_false_eq_true, not_true_eq_false, forall_const, true_implies, false_implies, imp_self, sizeLine_eq, Nat.reduceLeDiff, reduceCtorEq, decide_true, decide_false]
  obtain ⟨t, ty, e⟩ := nm
  refine ⟨t, ty, false, e, fun h => (by cases h), fun _ => hG.imp (fun _ _ h => h) fun B g a S H1 s1 sl gs hv => ?_⟩
  have hp1 := s1 _ _ hp
  refine ⟨dx, [], hp1, by decide, fun H3 p3 => ?_⟩
  have e3 := p3.1
  rw [putF_nil] at e3
  refine g S H3 (fun b o n h => by rw [p3.2 b n]; exact s1 _ _ h) ⟨dx, a, e3, sl.ku fun b o n1 n2 h => ?_⟩ gs hv
  rw [p3.2 b (fun z => by rw [z, hp1] at h; exact n2 _ _ _ (Option.some.inj h).symm)]; exact h
def spReg (K : PySem.W.Frag) : Sp := fun vs H Q E => ∃ v, vs = [v] ∧ NoMd K H v ∧ TG K H E v fun B => ∀ a S H', H a = none → Same H H' → RegAt K H' a S → GoodS (exB B) (eyB B) S → (∀ x y, hasS S x y = B.any fun b => inBox b x y) → Q (.ref a) H'
theorem o_Region (T : Txt K mg) : ∃ t0, EmpT K t0 ∧ OkK P w K mg base (L2.CX P w) 9 "Region" ["boxes"] [.ref t0] (spReg K) := by
  obtain ⟨f, fd, t0, M, F, e0⟩ := T.d_Region___init__
  refine ⟨t0, e0, f, fd, spRegI K, M, T.g_Region, b_Region___init__ F, i_Region___init__ T F, fun vs H Q E h p dx hp hdx hne => ?_⟩
  obtain ⟨v, rfl, nm, hG⟩ := h
  have s := same_made (H' := upd (upd H dx (.own p)) p (.ins (ga K "Region") dx [])) hp hdx fun b _ => rfl
  exact ⟨p, v, rfl, dx, upd_same, nm.mono s, hG.imp s fun B g S H' k r gs hv => ⟨rfl, g p S H' hp (fun b o ob => k b o (ne_of_none ob hp) (s b o ob)) r gs hv⟩⟩
theorem lkR0 {x : V} : List.lookup ("_slabs" : Str) [(("_slabs" : Str), x)] = some x := lkh
theorem lkRn {x : V} {f : Str} (h : (f == ("_slabs" : Str)) = false) : List.lookup f [(("_slabs" : Str), x)] = none := by simp [List.lookup, h]
theorem lkRn_slabs {x : V} : List.lookup ("slabs" : Str) [(("_slabs" : Str), x)] = none := lkRn (by decide +kernel)
def spSlabs (K : PySem.W.Frag) : Sp := fun vs H Q _ => ∃ a, vs = [.ref a] ∧ ∃ dx q, H a = some (.ins (ga K "Region") dx [("_slabs", .ref q)]) ∧ Q (.ref q) H
theorem o_Region_slabs (T : Txt K mg) : OkM P w K mg base CX0 1 "Region" "slabs" ["self"] [] (spSlabs K) := by
  obtain ⟨f, fd, M, F⟩ := T.d_Region_slabs
  refine ⟨f, fd, M, b_Region_slabs F, F.ok (CX := CX0) sc_Region_slabs (fun vs H Q E h => ?_) (fun cdv A outer s H vs Q E hr h => ?_)⟩
  · first | (obtain ⟨_, rfl, _⟩ := h; rfl) | (obtain ⟨rfl, _⟩ := h; rfl) | (obtain ⟨_, _, rfl, _⟩ := h; rfl) | (obtain ⟨_, _, _, rfl, _⟩ := h; rfl) | (obtain ⟨_, _, _, _, rfl, _⟩ := h; rfl) | (obtain ⟨_, _, _, _, _, rfl, _⟩ := h; rfl) | (obtain ⟨_, _, _, _, _, _, rfl, _⟩ := h; rfl) | (obtain ⟨_, _, _, _, _, _, _, rfl, _⟩ := h; rfl)
  have hu64 := hr.units
  refine ⟨_, PSs.nox (pss_one (ps_ret (pe_fldN T.c_Region T.na_Region__slabs (pv 0)))), ?_⟩
  obtain ⟨a, rfl, dx, q, h, k⟩ := h
  simp only [h, exists_and_left, tD1, rTupN, rAll, rMax2, rMin2, tSl, tPart, tNoPart, rSlLN, tYes, rLenS, rRepN, unset, tEv2, calmS, tDNew, rInDN, rIxDN, rSetDN, tDN1, tDGetN, rSorted, cx_K, Value.ref.injEq, HO.xd.injEq, lk0, tSeq, tPar3, tPar, tCons, tNil, tVar, tC, tAsg, gName, gCons, gNil, gTupN, gSub, tOp, rI, rI0, rU, tTest, rNe, rEq, rIxTN, rIxLN, rLenL, rLenT, tLstRg, tRg1, tRg2, rIntI, rIntB, rAbs, rSetLN, tTruL, tRaiseX, rIsTy, rIsOw, ixN0, ixN1, tRet, tIf, tIfS, tNext, tBreak, tCont, tDrop, tTupN, tLstN, tUn, tCB, tCall, tNot, tAnd, tOr, tB, tAndV, tOrV, tNotV, tChain, tApp, LamX.tLam, tRevLN, rCatN, rInTN, rInLN, flatV, inV, List.all_cons, List.all_nil, List.any_cons, List.any_nil, Bool.and_self, Bool.and_true, if_true, Bool.false_eq_true, if_false, tMt, tFldN, tSto, HO.ins.injEq, lkh, List.drop_zero, List.drop_succ_cons, List.drop_nil, rListS, wipe, L2.start, List.map_cons, List.map_nil, List.length_cons, List.length_nil, List.replicate, List.cons_append, List.nil_append, List.append_nil, Nat.reduceAdd, Nat.reduceSub, Nat.zero_add, List.replicate_succ, List.replicate_zero, List.getElem?_cons_zero, List.getElem?_cons_succ, List.set_cons_zero, List.set_cons_succ, Option.some.injEq, V.int.injEq, V.bl.injEq, V.ref.injEq, V.str.injEq, V.ty.injEq, List.cons.injEq, HO.tup.injEq, HO.lst.injEq, and_true, true_and, and_assoc, exists_eq_left, exists_eq_left', exists_and_left, exists_eq', atI0, atI1, atI2, atI3, Int.cast_ofNat_Int, Int.reduceToNat, scal_ii, scal_in, scal_ni, scal_nn, scal_bb, scal_ss, scal_sn, scal_ns, scal_bn, scal_nb, ite_iff, decide_eq_true_eq, decide_eq_false_iff_not, Bool.not_eq_true', Classical.not_not, ne_eq, not_false_eq_true, not_true_eq_false, forall_const, true_implies, false_implies, imp_self, sizeLine_eq, Nat.reduceLeDiff, reduceCtorEq, decide_true, decide_false]
  exact k
def spReqR (K : PySem.W.Frag) : Sp := fun vs H Q _ => ∃ a, vs = [.ref a] ∧ ∃ S, RegAt K H a S ∧ Q .non H
theorem o_require_region (T : Txt K mg) : OkF P w K mg base CX0 1 "require_region" ["value"] (spReqR K) := by
  obtain ⟨f, fd, g, F⟩ := T.d_require_region
  refine ⟨f, fd, g, F.kp, F.binds (fun _ _ _ _ _ _ us hl => match us, hl with | [_], _ => rfl), F.ok sc_require_region (fun vs H Q E h => ?_) (fun cdv A outer s H vs Q E hr h => ?_)⟩
  · first | (obtain ⟨_, rfl, _⟩ := h; rfl) | (obtain ⟨rfl, _⟩ := h; rfl) | (obtain ⟨_, _, rfl, _⟩ := h; rfl) | (obtain ⟨_, _, _, rfl, _⟩ := h; rfl) | (obtain ⟨_, _, _, _, rfl, _⟩ := h; rfl) | (obtain ⟨_, _, _, _, _, rfl, _⟩ := h; rfl) | (obtain ⟨_, _, _, _, _, _, rfl, _⟩ := h; rfl) | (obtain ⟨_, _, _, _, _, _, _, rfl, _⟩ := h; rfl)
  have hu64 := hr.units
  refine ⟨_, pss_one (ps_if (pt_not (pt_val (pe_callB call_isOw (by rfl) T.m_isinstance (by decide +kernel) (pa_cons (pv 0) (pa_cons ((pe_glob (v := .ref (ga K "Region")) (by rfl) T.g_Region rfl)) pa_nil))))) (pss_one (ps_never)) (pss_nil)), ?_⟩
  obtain ⟨a, rfl, S, ⟨dx, q, h, sl⟩, k⟩ := h
  simp only [h, exists_and_left, tD1, rTupN, rAll, rMax2, rMin2, tSl, tPart, tNoPart, rSlLN, tYes, rLenS, rRepN, unset, tEv2, calmS, tDNew, rInDN, rIxDN, rSetDN, tDN1, tDGetN, rSorted, cx_K, Value.ref.injEq, HO.xd.injEq, lk0, tSeq, tPar3, tPar, tCons, tNil, tVar, tC, tAsg, gName, gCons, gNil, gTupN, gSub, tOp, rI, rI0, rU, tTest, rNe, rEq, rIxTN, rIxLN, rLenL, rLenT, tLstRg, tRg1, tRg2, rIntI, rIntB, rAbs, rSetLN, tTruL, tRaiseX, rIsTy, rIsOw, ixN0, ixN1, tRet, tIf, tIfS, tNext, tBreak, tCont, tDrop, tTupN, tLstN, tUn, tCB, tCall, tNot, tAnd, tOr, tB, tAndV, tOrV, tNotV, tChain, tApp, LamX.tLam, tRevLN, rCatN, rInTN, rInLN, flatV, inV, List.all_cons, List.all_nil, List.any_cons, List.any_nil, Bool.and_self, Bool.and_true, if_true, Bool.false_eq_true, if_false, tMt, tFldN, tSto, HO.ins.injEq, lkh, List.drop_zero, List.drop_succ_cons, List.drop_nil, rListS, wipe, L2.start, List.map_cons, List.map_nil, List.length_cons, List.length_nil, List.replicate, List.cons_append, List.nil_append, List.append_nil, Nat.reduceAdd, Nat.reduceSub, Nat.zero_add, List.replicate_succ, List.replicate_zero, List.getElem?_cons_zero, List.getElem?_cons_succ, List.set_cons_zero, List.set_cons_succ, Option.some.injEq, V.int.injEq, V.bl.injEq, V.ref.injEq, V.str.injEq, V.ty.injEq, List.cons.injEq, HO.tup.injEq, HO.lst.injEq, and_true, true_and, and_assoc, exists_eq_left, exists_eq_left', exists_and_left, exists_eq', atI0, atI1, atI2, atI3, Int.cast_ofNat_Int, Int.reduceToNat, scal_ii, scal_in, scal_ni, scal_nn, scal_bb, scal_ss, scal_sn, scal_ns, scal_bn, scal_nb, ite_iff, decide_eq_true_eq, decide_eq_false_iff_not, Bool.not_eq_true', Classical.not_not, ne_eq, not_false_eq_true, not_true_eq_false, forall_const, true_implies, false_implies, imp_self, sizeLine_eq, Nat.reduceLeDiff, reduceCtorEq, decide_true, decide_false]
  exact ⟨_, T.ci_Region.ty h, true, kit_self, fun e => (by cases e), fun _ => k⟩
def spReqWI : Sp := fun vs H Q _ => ∃ i : Int, vs = [.int i] ∧ Q .non H
theorem o_require_whole (T : Txt K mg) : OkF P w K mg base CX0 2 "require_whole" ["value"] spReqWI := by
  have o_is_whole := o_is_whole (P := P) (w := w) (base := base) T
  obtain ⟨f, fd, g, F⟩ := T.d_require_whole
  refine ⟨f, fd, g, F.kp, F.binds (fun _ _ _ _ _ _ us hl => match us, hl with | [_], _ => rfl), F.ok sc_require_whole (fun vs H Q E h => ?_) (fun cdv A outer s H vs Q E hr h => ?_)⟩
  · first | (obtain ⟨_, rfl, _⟩ := h; rfl) | (obtain ⟨rfl, _⟩ := h; rfl) | (obtain ⟨_, _, rfl, _⟩ := h; rfl) | (obtain ⟨_, _, _, rfl, _⟩ := h; rfl) | (obtain ⟨_, _, _, _, rfl, _⟩ := h; rfl) | (obtain ⟨_, _, _, _, _, rfl, _⟩ := h; rfl) | (obtain ⟨_, _, _, _, _, _, rfl, _⟩ := h; rfl) | (obtain ⟨_, _, _, _, _, _, _, rfl, _⟩ := h; rfl)
  have hu64 := hr.units
  refine ⟨_, pss_one (ps_if (pt_not (pt_val (pcl o_is_whole (hr.mono (by decide)) pass0 (pa_cons (pv 0) pa_nil)))) (pss_one (ps_never)) (pss_nil)), ?_⟩
  obtain ⟨i, rfl, k⟩ := h
  simp only [spWhole, exists_and_left, tD1, rTupN, rAll, rMax2, rMin2, tSl, tPart, tNoPart, rSlLN, tYes, rLenS, rRepN, unset, tEv2, calmS, tDNew, rInDN, rIxDN, rSetDN, tDN1, tDGetN, rSorted, cx_K, Value.ref.injEq, HO.xd.injEq, lk0, tSeq, tPar3, tPar, tCons, tNil, tVar, tC, tAsg, gName, gCons, gNil, gTupN, gSub, tOp, rI, rI0, rU, tTest, rNe, rEq, rIxTN, rIxLN, rLenL, rLenT, tLstRg, tRg1, tRg2, rIntI, rIntB, rAbs, rSetLN, tTruL, tRaiseX, rIsTy, rIsOw, ixN0, ixN1, tRet, tIf, tIfS, tNext, tBreak, tCont, tDrop, tTupN, tLstN, tUn, tCB, tCall, tNot, tAnd, tOr, tB, tAndV, tOrV, tNotV, tChain, tApp, LamX.tLam, tRevLN, rCatN, rInTN, rInLN, flatV, inV, List.all_cons, List.all_nil, List.any_cons, List.any_nil, Bool.and_self, Bool.and_true, if_true, Bool.false_eq_true, if_false, tMt, tFldN, tSto, HO.ins.injEq, lkh, List.drop_zero, List.drop_succ_cons, List.drop_nil, rListS, wipe, L2.start, List.map_cons, List.map_nil, List.length_cons, List.length_nil, List.replicate, List.cons_append, List.nil_append, List.append_nil, Nat.reduceAdd, Nat.reduceSub, Nat.zero_add, List.replicate_succ, List.replicate_zero, List.getElem?_cons_zero, List.getElem?_cons_succ, List.set_cons_zero, List.set_cons_succ, Option.some.injEq, V.int.injEq, V.bl.injEq, V.ref.injEq, V.str.injEq, V.ty.injEq, List.cons.injEq, HO.tup.injEq, HO.lst.injEq, and_true, true_and, and_assoc, exists_eq_left, exists_eq_left', exists_and_left, exists_eq', atI0, atI1, atI2, atI3, Int.cast_ofNat_Int, Int.reduceToNat, scal_ii, scal_in, scal_ni, scal_nn, scal_bb, scal_ss, scal_sn, scal_ns, scal_bn, scal_nb, ite_iff, decide_eq_true_eq, decide_eq_false_iff_not, Bool.not_eq_true', Classical.not_not, ne_eq, not_false_eq_true, not_true_eq_false, forall_const, true_implies, false_implies, imp_self, sizeLine_eq, Nat.reduceLeDiff, reduceCtorEq, decide_true, decide_false]
  exact ⟨wh_int, fun h => (by cases h), fun _ => k⟩
/-! ### slabs, read -/
theorem RelB.get {H : Hp} : ∀ {bs : List (Bd V)} {S : List (Bd Row)} {i : Nat} {s : Bd Row}, RelB K H bs S → S[i]? = some s → ∃ b, bs[i]? = some b ∧ b.1 = s.1 ∧ b.2.1 = s.2.1 ∧ RowV K H b.2.2 s.2.2
  | [], [], _, _, _, h => by simp at h
  | b :: bs, t :: S, 0, s, h, e => by cases e; exact ⟨b, rfl, h.1, h.2.1, h.2.2.1⟩
  | b :: bs, t :: S, i + 1, s, h, e => by
    have e : S[i]? = some s := e
    obtain ⟨c, h1, h2⟩ := RelB.get h.2.2.2 e
    exact ⟨c, h1, h2⟩
def emap (S : List (Bd Row)) : Row := S.map fun b => (b.1, b.2.1)
theorem emap_asc {S : List (Bd Row)} (a : AscB S) : AscB (rb (emap S)) := by
  have := AscB.map (fun _ : Row => true) a
  unfold rb emap
  rw [List.map_map]
  exact this
theorem slab_item {H : Hp} {xs : List V} {bs : List (Bd V)} {S : List (Bd Row)} (hb : BsAt H xs bs) (hv : RelB K H bs S) {i : Nat} {s : Bd Row} (e : S[i]? = some s) : ∃ t v, xs[i]? = some (V.ref t) ∧ H t = some (.tup [ov s.1, ov s.2.1, v]) ∧ RowV K H v s.2.2 := by
  obtain ⟨b, e1, e2, e3, e4⟩ := hv.get e
  obtain ⟨t, f1, f2⟩ := hb.2 i b e1
  rw [e2, e3] at f2
  exact ⟨t, _, f1, f2, e4⟩
theorem slab_e2 {H : Hp} {xs : List V} {bs : List (Bd V)} {S : List (Bd Row)} (hb : BsAt H xs bs) (hv : RelB K H bs S) : E2At H xs (emap S) := by
  refine ⟨by unfold emap; rw [List.length_map, hb.1, hv.len], fun i p hi => ?_⟩
  unfold emap at hi
  rw [List.getElem?_map] at hi
  cases e : S[i]? with
  | none => rw [e] at hi; cases hi
  | some s =>
    rw [e] at hi; cases hi
    obtain ⟨t, v, h1, h2, h3⟩ := slab_item hb hv e
    exact ⟨t, [v], h1, h2⟩
theorem StAt.e2 {H : Hp} {xs : List V} {R : Row} (h : StAt H xs R) : E2At H xs R := ⟨h.1, fun i p hi => let ⟨t, e1, e2⟩ := h.2 i p hi; ⟨t, [], e1, e2⟩⟩
def dSl (S : List (Bd Row)) : PyData := .tuple (S.map fun s => .tuple [dO s.1, dO s.2.1, dRw s.2.2])
theorem sh_dSl {S : List (Bd Row)} : ShN 4 (dSl S) := ShN.tuple fun d h => by
  obtain ⟨s, _, rfl⟩ := List.mem_map.mp h
  refine ShN.tuple fun d hd => ?_
  simp only [List.mem_cons, List.not_mem_nil, or_false] at hd
  rcases hd with rfl | rfl | rfl
  · exact sh_dO
  · exact sh_dO
  · exact sh_dRw (n := 0)
theorem eqv_dS1 (s t : Bd Row) : PyData.eqv (.tuple [dO s.1, dO s.2.1, dRw s.2.2]) (.tuple [dO t.1, dO t.2.1, dRw t.2.2]) = decide (s = t) := by
  obtain ⟨a, b, c⟩ := s
  obtain ⟨d, e, f⟩ := t
  simp only [PyData.eqv, PyData.eqvAll, eqv_dO, eqv_dRw, Bool.and_true, Prod.mk.injEq, Bool.decide_and]
theorem eqvA_dSl : ∀ a b : List (Bd Row), PyData.eqvAll (a.map fun s => .tuple [dO s.1, dO s.2.1, dRw s.2.2]) (b.map fun s => .tuple [dO s.1, dO s.2.1, dRw s.2.2]) = decide (a = b)
  | [], [] => rfl
  | [], _ :: _ => rfl
  | _ :: _, [] => rfl
  | p :: a, q :: b => by
    have ih := eqvA_dSl a b
    simp only [List.map_cons, PyData.eqvAll, eqv_dS1, ih, List.cons.injEq, Bool.decide_and]
theorem eqv_dSl (a b : List (Bd Row)) : PyData.eqv (dSl a) (dSl b) = decide (a = b) := by
  unfold dSl
  simp only [PyData.eqv]
  exact eqvA_dSl a b
theorem SlabsAt.dp {H : Hp} {q : Addr} {S : List (Bd Row)} (h : SlabsAt K H q S) : Dp K H (.ref q) (dSl S) := by
  obtain ⟨xs, bs, hx, hb, hv⟩ := h
  refine .tup hx (dpA_of (by rw [List.length_map, hb.1, hv.len]) fun i d hi => ?_)
  rw [List.getElem?_map] at hi
  cases e : S[i]? with
  | none => rw [e] at hi; cases hi
  | some s =>
    rw [e] at hi; cases hi
    obtain ⟨t, v, h1, h2, h3⟩ := slab_item hb hv e
    exact ⟨_, h1, .tup (SqT.of h2) (.cons dp_ov (.cons dp_ov (.cons h3.dp .nil)))⟩
/-- the row at y -/
def spRowAt (K : PySem.W.Frag) : Sp := fun vs H Q _ => ∃ a y, vs = [.ref a, .int y] ∧ ∃ S, RegAt K H a S ∧ AscB S ∧ S.length ≤ 100000 ∧ ∀ q xs R H', Same H H' → SqT K H' q xs → StAt H' xs R → R = valB [] S y → Q (.ref q) H'
theorem o_row_at (T : Txt K mg) : OkF P w K mg base CX0 3 "row_at" ["region", "y"] (spRowAt K) := by
  have o_require_region := o_require_region (P := P) (w := w) (base := base) T
  have o_require_whole := o_require_whole (P := P) (w := w) (base := base) T
  have o_Region_slabs := o_Region_slabs (P := P) (w := w) (base := base) T
  have o_row_with := o_row_with (P := P) (w := w) (base := base) T
  obtain ⟨f, fd, g, F⟩ := T.d_row_at
  refine ⟨f, fd, g, F.kp, F.binds (fun _ _ _ _ _ _ us hl => match us, hl with | [_, _], _ => rfl), F.ok sc_row_at (fun vs H Q E h => ?_) (fun cdv A outer s H vs Q E hr h => ?_)⟩
  · first | (obtain ⟨_, rfl, _⟩ := h; rfl) | (obtain ⟨rfl, _⟩ := h; rfl) | (obtain ⟨_, _, rfl, _⟩ := h; rfl) | (obtain ⟨_, _, _, rfl, _⟩ := h; rfl) | (obtain ⟨_, _, _, _, rfl, _⟩ := h; rfl) | (obtain ⟨_, _, _, _, _, rfl, _⟩ := h; rfl) | (obtain ⟨_, _, _, _, _, _, rfl, _⟩ := h; rfl) | (obtain ⟨_, _, _, _, _, _, _, rfl, _⟩ := h; rfl)
  have hu64 := hr.units
  refine ⟨_, pss_cons (ps_expr (pcl o_require_region (hr.mono (by decide)) pass0 (pa_cons (pv 0) pa_nil)))
      (pss_cons (ps_expr (pcl o_require_whole (hr.mono (by decide)) pass0 (pa_cons (pv 1) pa_nil)))
      (pss_cons (ps_set (i := 2) sc_row_at.nd rfl (Or.inl rfl) (pcl o_row_with (hr.mono (by decide)) pass0 (pa_cons (pmt0 (j := 0) o_Region_slabs T.c_Region (pv 0) (by decide) (hr.mono (by decide)) pass0) (pa_cons (pv 1) pa_nil))))
      (pss_one (ps_ret (pe_ifExp (pt_cmpR op_isN (pv 2) (pe_non) (nomark _)) (pe_tupN (pa_nil)) (pe_ix ix_tupN (pv 2) (pe_int) (fun _ _ => rfl))))))), ?_⟩
  obtain ⟨a, y, rfl, S, hR, asc, big, k⟩ := h
  obtain ⟨dx, q, hr, xs, bs, hx, hb, hv⟩ := hR
  simp only [spReqR, spReqWI, spSlabs, spRowW, hr, exists_and_left, tD1, rTupN, rAll, rMax2, rMin2, tSl, tPart, tNoPart, rSlLN, tYes, rLenS, rRepN, unset, tEv2, calmS, tDNew, rInDN, rIxDN, rSetDN, tDN1, tDGetN, rSorted, cx_K, Value.ref.injEq, HO.xd.injEq, lk0, tSeq, tPar3, tPar, tCons, tNil, tVar, tC, tAsg, gName, gCons, gNil, gTupN, gSub, tOp, rI, rI0, rU, tTest, rNe, rEq, rIxTN, rIxLN, rLenL, rLenT, tLstRg, tRg1, tRg2, rIntI, rIntB, rAbs, rSetLN, tTruL, tRaiseX, rIsTy, rIsOw, ixN0, ixN1, tRet, tIf, tIfS, tNext, tBreak, tCont, tDrop, tTupN, tLstN, tUn, tCB, tCall, tNot, tAnd, tOr, tB, tAndV, tOrV, tNotV, tChain, tApp, LamX.tLam, tRevLN, rCatN, rInTN, rInLN, flatV, inV, List.all_cons, List.all_nil, List.any_cons, List.any_nil, Bool.and_self, Bool.and_true, if_true, Bool.false_eq_true, if_false, tMt, tFldN, tSto, HO.ins.injEq, lkh, List.drop_zero, List.drop_succ_cons, List.drop_nil, rListS, wipe, L2.start, List.map_cons, List.map_nil, List.length_cons, List.length_nil, List.replicate, List.cons_append, List.nil_append, List.append_nil, Nat.reduceAdd, Nat.reduceSub, Nat.zero_add, List.replicate_succ, List.replicate_zero, List.getElem?_cons_zero, List.getElem?_cons_succ, List.set_cons_zero, List.set_cons_succ, Option.some.injEq, V.int.injEq, V.bl.injEq, V.ref.injEq, V.str.injEq, V.ty.injEq, List.cons.injEq, HO.tup.injEq, HO.lst.injEq, and_true, true_and, and_assoc, exists_eq_left, exists_eq_left', exists_and_left, exists_eq', atI0, atI1, atI2, atI3, Int.cast_ofNat_Int, Int.reduceToNat, scal_ii, scal_in, scal_ni, scal_nn, scal_bb, scal_ss, scal_sn, scal_ns, scal_bn, scal_nb, ite_iff, decide_eq_true_eq, decide_eq_false_iff_not, Bool.not_eq_true', Classical.not_not, ne_eq, not_false_eq_true, not_true_eq_false, forall_const, true_implies, false_implies, imp_self, sizeLine_eq, Nat.reduceLeDiff, reduceCtorEq, decide_true, decide_false]
  refine ⟨S, ⟨dx, q, hr, xs, bs, hx, hb, hv⟩, lkRn_slabs, q, rfl, xs, hx, emap S, slab_e2 hb hv, emap_asc asc, by unfold emap; rw [List.length_map]; exact big, fun i t p e1 e2 e3 => ?_, fun no => ?_⟩
  · unfold emap at e2
    rw [List.getElem?_map] at e2
    cases e : S[i]? with
    | none => rw [e] at e2; cases e2
    | some s =>
      rw [e] at e2; cases e2
      obtain ⟨t', v, h1, h2, h3⟩ := slab_item hb hv e
      rw [e1] at h1; cases h1
      obtain ⟨q2, xs2, rfl, a2, b2⟩ := h3
      exact ⟨_, h2, _, atI2, k q2 xs2 _ H (fun _ _ h => h) a2 b2 (asc_at asc (List.mem_of_getElem? e) e3).symm⟩
  · intro q2 H2 _ s2 h2
    refine k q2 [] [] H2 s2 (SqT.of h2) ⟨rfl, fun i p h => by simp at h⟩ (valB_none fun b hb => ?_).symm
    have := no (b.1, b.2.1) (List.mem_map.mpr ⟨b, hb, rfl⟩)
    intro q; rw [this] at q; cases q
def spCont (K : PySem.W.Frag) : Sp := fun vs H Q _ => ∃ a v, vs = [.ref a, v] ∧ ∃ S EX EY, RegAt K H a S ∧ GoodS EX EY S ∧ EX.length ≤ 900 ∧ EY.length ≤ 900 ∧ PairK K H v ∧ (pairV H v = none → Q (.bl false) H) ∧ ∀ x y H', pairV H v = some (x, y) → Same H H' → Q (.bl (hasS S x y)) H'
theorem o_Region___contains__ (T : Txt K mg) : OkM P w K mg base CX0 4 "Region" "__contains__" ["self", "cell"] [] (spCont K) := by
  have o_is_pair := o_is_pair (P := P) (w := w) (base := base) T
  have o_row_at := o_row_at (P := P) (w := w) (base := base) T
  have o_row_with := o_row_with (P := P) (w := w) (base := base) T
  obtain ⟨f, fd, M, F⟩ := T.d_Region___contains__
  refine ⟨f, fd, M, b_Region___contains__ F, F.ok (CX := CX0) sc_Region___contains__ (fun vs H Q E h => ?_) (fun cdv A outer s H vs Q E hr h => ?_)⟩
  · first | (obtain ⟨_, rfl, _⟩ := h; rfl) | (obtain ⟨rfl, _⟩ := h; rfl) | (obtain ⟨_, _, rfl, _⟩ := h; rfl) | (obtain ⟨_, _, _, rfl, _⟩ := h; rfl) | (obtain ⟨_, _, _, _, rfl, _⟩ := h; rfl) | (obtain ⟨_, _, _, _, _, rfl, _⟩ := h; rfl) | (obtain ⟨_, _, _, _, _, _, rfl, _⟩ := h; rfl) | (obtain ⟨_, _, _, _, _, _, _, rfl, _⟩ := h; rfl)
  have hu64 := hr.units
  refine ⟨_, PSs.nox (pss_one (ps_ret (pe_and (pcl o_is_pair (hr.mono (by decide)) pass0 (pa_cons (pv 1) pa_nil)) (pe_one (pe_cmpR op_notN (pcl o_row_with (hr.mono (by decide)) pass0 (pa_cons (pcl o_row_at (hr.mono (by decide)) pass0 (pa_cons (pv 0) (pa_cons (pe_ix ix_tupN (pv 1) (pe_int) (fun _ _ => rfl)) pa_nil))) (pa_cons (pe_ix ix_tupN (pv 1) (pe_int) (fun _ _ => rfl)) pa_nil))) (pe_non) (nomark _)))))), ?_⟩
  obtain ⟨a, v, rfl, S, EX, EY, hR, gs, lx, ly, pk, k1, k2⟩ := h
  simp only [spPair, spRowAt, spRowW, exists_and_left, tD1, rTupN, rAll, rMax2, rMin2, tSl, tPart, tNoPart, rSlLN, tYes, rLenS, rRepN, unset, tEv2, calmS, tDNew, rInDN, rIxDN, rSetDN, tDN1, tDGetN, rSorted, cx_K, Value.ref.injEq, HO.xd.injEq, lk0, tSeq, tPar3, tPar, tCons, tNil, tVar, tC, tAsg, gName, gCons, gNil, gTupN, gSub, tOp, rI, rI0, rU, tTest, rNe, rEq, rIxTN, rIxLN, rLenL, rLenT, tLstRg, tRg1, tRg2, rIntI, rIntB, rAbs, rSetLN, tTruL, tRaiseX, rIsTy, rIsOw, ixN0, ixN1, tRet, tIf, tIfS, tNext, tBreak, tCont, tDrop, tTupN, tLstN, tUn, tCB, tCall, tNot, tAnd, tOr, tB, tAndV, tOrV, tNotV, tChain, tApp, LamX.tLam, tRevLN, rCatN, rInTN, rInLN, flatV, inV, List.all_cons, List.all_nil, List.any_cons, List.any_nil, Bool.and_self, Bool.and_true, if_true, Bool.false_eq_true, if_false, tMt, tFldN, tSto, HO.ins.injEq, lkh, List.drop_zero, List.drop_succ_cons, List.drop_nil, rListS, wipe, L2.start, List.map_cons, List.map_nil, List.length_cons, List.length_nil, List.replicate, List.cons_append, List.nil_append, List.append_nil, Nat.reduceAdd, Nat.reduceSub, Nat.zero_add, List.replicate_succ, List.replicate_zero, List.getElem?_cons_zero, List.getElem?_cons_succ, List.set_cons_zero, List.set_cons_succ, Option.some.injEq, V.int.injEq, V.bl.injEq, V.ref.injEq, V.str.injEq, V.ty.injEq, List.cons.injEq, HO.tup.injEq, HO.lst.injEq, and_true, true_and, and_assoc, exists_eq_left, exists_eq_left', exists_and_left, exists_eq', atI0, atI1, atI2, atI3, Int.cast_ofNat_Int, Int.reduceToNat, scal_ii, scal_in, scal_ni, scal_nn, scal_bb, scal_ss, scal_sn, scal_ns, scal_bn, scal_nb, ite_iff, decide_eq_true_eq, decide_eq_false_iff_not, Bool.not_eq_true', Classical.not_not, ne_eq, not_false_eq_true, not_true_eq_false, forall_const, true_implies, false_implies, imp_self, sizeLine_eq, Nat.reduceLeDiff, reduceCtorEq, decide_true, decide_false]
  refine ⟨pk, fun h => ?_, fun h => k1 (by cases e : pairV H v <;> simp_all)⟩
  obtain ⟨⟨x, y⟩, e⟩ := Option.isSome_iff_exists.mp h
  obtain ⟨p, rfl, hp⟩ := pairV_some e
  have sl := gs.len
  refine ⟨p, rfl, _, hp, _, atI1, y, rfl, S, hR, gs.can.asc, by omega, fun q xs R H1 s1 hx hs hRe => ?_⟩
  subst hRe
  have rl := gs.row_len y
  have ra := (gs.rows y).asc
  refine ⟨p, rfl, _, s1 _ _ hp, _, atI0, x, rfl, xs, hx, _, hs.e2, ra, by omega, fun i t r e1 e2 e3 => ?_, fun no => ?_⟩
  · have := k2 x y H1 e s1
    rw [show hasS S x y = true from asc_at (z := false) ra (List.mem_of_getElem? (rb_get e2)) e3] at this
    exact this
  · have := k2 x y H1 e s1
    rw [show hasS S x y = false from valB_none fun b hb => ?_] at this
    · exact this
    · obtain ⟨r, hr, rfl⟩ := List.mem_map.mp hb
      rw [no r hr]; decide
def NoRg (K : PySem.W.Frag) (H : Hp) (v : V) : Prop := ∃ t, TyX K H v t ∧ PySem.W.kitOne K t (.ref (ga K "Region")) = some false
def spREq (K : PySem.W.Frag) : Sp := fun vs H Q _ => ∃ a v, vs = [.ref a, v] ∧ ∃ S, RegAt K H a S ∧ ((NoRg K H v ∧ Q (.bl false) H) ∨ ∃ b S', v = .ref b ∧ RegAt K H b S' ∧ Q (.bl (decide (S = S'))) H)
theorem o_Region___eq__ (T : Txt K mg) : OkM P w K mg base CX0 1 "Region" "__eq__" ["self", "other"] [] (spREq K) := by
  obtain ⟨f, fd, M, F⟩ := T.d_Region___eq__
  refine ⟨f, fd, M, b_Region___eq__ F, F.ok (CX := CX0) sc_Region___eq__ (fun vs H Q E h => ?_) (fun cdv A outer s H vs Q E hr h => ?_)⟩
  · first | (obtain ⟨_, rfl, _⟩ := h; rfl) | (obtain ⟨rfl, _⟩ := h; rfl) | (obtain ⟨_, _, rfl, _⟩ := h; rfl) | (obtain ⟨_, _, _, rfl, _⟩ := h; rfl) | (obtain ⟨_, _, _, _, rfl, _⟩ := h; rfl) | (obtain ⟨_, _, _, _, _, rfl, _⟩ := h; rfl) | (obtain ⟨_, _, _, _, _, _, rfl, _⟩ := h; rfl) | (obtain ⟨_, _, _, _, _, _, _, rfl, _⟩ := h; rfl)
  have hu64 := hr.units
  refine ⟨_, PSs.nox (pss_one (ps_ret (pe_and (pe_callB call_isOw (by rfl) T.m_isinstance (by decide +kernel) (pa_cons (pv 1) (pa_cons ((pe_glob (v := .ref (ga K "Region")) (by rfl) T.g_Region rfl)) pa_nil))) (pe_one (pe_cmpR (op_eqDk (K := K) rfl hu64) (pe_fldN T.c_Region T.na_Region__slabs (pv 0)) (pe_fldN T.c_Region T.na_Region__slabs (pv 1)) (nomark _)))))), ?_⟩
  obtain ⟨a, v, rfl, S, ⟨dx, q, h, sl⟩, hh⟩ := h
  simp only [h, exists_and_left, tD1, rTupN, rAll, rMax2, rMin2, tSl, tPart, tNoPart, rSlLN, tYes, rLenS, rRepN, unset, tEv2, calmS, tDNew, rInDN, rIxDN, rSetDN, tDN1, tDGetN, rSorted, cx_K, Value.ref.injEq, HO.xd.injEq, lk0, tSeq, tPar3, tPar, tCons, tNil, tVar, tC, tAsg, gName, gCons, gNil, gTupN, gSub, tOp, rI, rI0, rU, tTest, rNe, rEq, rIxTN, rIxLN, rLenL, rLenT, tLstRg, tRg1, tRg2, rIntI, rIntB, rAbs, rSetLN, tTruL, tRaiseX, rIsTy, rIsOw, ixN0, ixN1, tRet, tIf, tIfS, tNext, tBreak, tCont, tDrop, tTupN, tLstN, tUn, tCB, tCall, tNot, tAnd, tOr, tB, tAndV, tOrV, tNotV, tChain, tApp, LamX.tLam, tRevLN, rCatN, rInTN, rInLN, flatV, inV, List.all_cons, List.all_nil, List.any_cons, List.any_nil, Bool.and_self, Bool.and_true, if_true, Bool.false_eq_true, if_false, tMt, tFldN, tSto, HO.ins.injEq, lkh, List.drop_zero, List.drop_succ_cons, List.drop_nil, rListS, wipe, L2.start, List.map_cons, List.map_nil, List.length_cons, List.length_nil, List.replicate, List.cons_append, List.nil_append, List.append_nil, Nat.reduceAdd, Nat.reduceSub, Nat.zero_add, List.replicate_succ, List.replicate_zero, List.getElem?_cons_zero, List.getElem?_cons_succ, List.set_cons_zero, List.set_cons_succ, Option.some.injEq, V.int.injEq, V.bl.injEq, V.ref.injEq, V.str.injEq, V.ty.injEq, List.cons.injEq, HO.tup.injEq, HO.lst.injEq, and_true, true_and, and_assoc, exists_eq_left, exists_eq_left', exists_and_left, exists_eq', atI0, atI1, atI2, atI3, Int.cast_ofNat_Int, Int.reduceToNat, scal_ii, scal_in, scal_ni, scal_nn, scal_bb, scal_ss, scal_sn, scal_ns, scal_bn, scal_nb, ite_iff, decide_eq_true_eq, decide_eq_false_iff_not, Bool.not_eq_true', Classical.not_not, ne_eq, not_false_eq_true, not_true_eq_false, forall_const, true_implies, false_implies, imp_self, sizeLine_eq, Nat.reduceLeDiff, reduceCtorEq, decide_true, decide_false]
  rcases hh with ⟨⟨t, ty, e⟩, k⟩ | ⟨b, S', rfl, ⟨dx', q', h', sl'⟩, k⟩
  · exact ⟨t, ty, false, e, fun h => (by cases h), fun _ => k⟩
  · exact ⟨_, T.ci_Region.ty h', true, kit_self, fun _ => ⟨b, rfl, _, _, h', _, lkR0, _, _, sl.dp, sl'.dp, sh_dSl.ok, sh_dSl.ok, by rw [eqv_dSl]; exact k⟩, fun h => absurd rfl h⟩

end
end Iz
/-! k21_j -/
set_option Elab.async false
set_option linter.all false
set_option maxRecDepth 100000
set_option maxHeartbeats 4000000
namespace Iz
open PySem PySem.Spec PyProof.Rows L2
open He (ga)
open SX (S S_len)
local macro_rules | `(tactic| walk_at "wp") => `(tactic| simp only [tD1, rTupN, rAll, rMax2, rMin2, tSl, tPart, tNoPart, rSlLN, tYes, rLenS, rRepN, unset, tEv2, calmS, tDNew, rInDN, rIxDN, rSetDN, tDN1, tDGetN, rSorted, cx_K, Value.ref.injEq, HO.xd.injEq, lk0, tSeq, tPar3, tPar, tCons, tNil, tVar, tC, tAsg, gName, gCons, gNil, gTupN, gSub, tOp, rI, rI0, rU, tTest, rNe, rEq, rIxTN, rIxLN, rLenL, rLenT, tLstRg, tRg1, tRg2, rIntI, rIntB, rAbs, rSetLN, tTruL, tRaiseX, rIsTy, rIsOw, ixN0, ixN1, tRet, tIf, tIfS, tNext, tBreak, tCont, tDrop, tTupN, tLstN, tUn, tCB, tCall, tNot, tAnd, tOr, tB, tAndV, tOrV, tNotV, tChain, tApp, LamX.tLam, tRevLN, rCatN, rInTN, rInLN, flatV, inV, List.all_cons, List.all_nil, List.any_cons, List.any_nil, Bool.and_self, Bool.and_true, if_true, Bool.false_eq_true, if_false, tMt, tFldN, tSto, HO.ins.injEq, lkh, List.drop_zero, List.drop_succ_cons, List.drop_nil, rListS, wipe, L2.start, List.map_cons, List.map_nil, List.length_cons, List.length_nil, List.replicate, List.cons_append, List.nil_append, List.append_nil, Nat.reduceAdd, Nat.reduceSub, Nat.zero_add, List.replicate_succ, List.replicate_zero, List.getElem?_cons_zero, List.getElem?_cons_succ, List.set_cons_zero, List.set_cons_succ, Option.some.injEq, V.int.injEq, V.bl.injEq, V.ref.injEq, V.str.injEq, V.ty.injEq, List.cons.injEq, HO.tup.injEq, HO.lst.injEq, and_true, true_and, and_assoc, exists_eq_left, exists_eq_left', exists_and_left, exists_eq', atI0, atI1, atI2, atI3, Int.cast_ofNat_Int, Int.reduceToNat, scal_ii, scal_in, scal_ni, scal_nn, scal_bb, scal_ss, scal_sn, scal_ns, scal_bn, scal_nb, ite_iff, decide_eq_true_eq, decide_eq_false_iff_not, Bool.not_eq_true', Classical.not_not, ne_eq, not_false_eq_true, not_true_eq_false, forall_const, true_implies, false_implies, imp_self, sizeLine_eq, Nat.reduceLeDiff, reduceCtorEq, decide_true, decide_false])
section
variable {P : Program} {w : World} {K : PySem.W.Frag} {mg : Str → Option Value} {base : Heap}
def spLies : Sp := fun vs H Q _ => ∃ lo hi i, vs = [ov lo, ov hi, .int i] ∧ Q (.bl (lies lo hi i)) H
theorem o__law_lies (T : Txt K mg) : OkF P w K mg base CX0 1 "_law_lies" ["_law_low", "_law_high", "_law_i"] spLies := by
  obtain ⟨f, fd, g, F⟩ := T.d__law_lies
  refine ⟨f, fd, g, F.kp, F.binds (fun _ _ _ _ _ _ us hl => match us, hl with | [_, _, _], _ => rfl), F.ok sc__law_lies (fun vs H Q E h => ?_) (fun cdv A outer s H vs Q E hr h => ?_)⟩
  · first | (obtain ⟨_, rfl, _⟩ := h; rfl) | (obtain ⟨rfl, _⟩ := h; rfl) | (obtain ⟨_, _, rfl, _⟩ := h; rfl) | (obtain ⟨_, _, _, rfl, _⟩ := h; rfl) | (obtain ⟨_, _, _, _, rfl, _⟩ := h; rfl) | (obtain ⟨_, _, _, _, _, rfl, _⟩ := h; rfl) | (obtain ⟨_, _, _, _, _, _, rfl, _⟩ := h; rfl) | (obtain ⟨_, _, _, _, _, _, _, rfl, _⟩ := h; rfl)
  have hu64 := hr.units
  refine ⟨_, pss_one (ps_ret (pe_and (pe_or (pe_cmpR op_isN (pv 0) (pe_non) (nomark _)) (pe_one (pe_cmpR op_le (pv 0) (pv 2) (nomark _)))) (pe_one (pe_or (pe_cmpR op_isN (pv 1) (pe_non) (nomark _)) (pe_one (pe_cmpR op_lt (pv 2) (pv 1) (nomark _))))))), ?_⟩
  obtain ⟨lo, hi, i, rfl, k⟩ := h
  cases lo with
  | none => cases hi with
    | none => simp only [exists_and_left, ov, tD1, rTupN, rAll, rMax2, rMin2, tSl, tPart, tNoPart, rSlLN, tYes, rLenS, rRepN, unset, tEv2, calmS, tDNew, rInDN, rIxDN, rSetDN, tDN1, tDGetN, rSorted, cx_K, Value.ref.injEq, HO.xd.injEq, lk0, tSeq, tPar3, tPar, tCons, tNil, tVar, tC, tAsg, gName, gCons, gNil, gTupN, gSub, tOp, rI, rI0, rU, tTest, rNe, rEq, rIxTN, rIxLN, rLenL, rLenT, tLstRg, tRg1, tRg2, rIntI, rIntB, rAbs, rSetLN, tTruL, tRaiseX, rIsTy, rIsOw, ixN0, ixN1, tRet, tIf, tIfS, tNext, tBreak, tCont, tDrop, tTupN, tLstN, tUn, tCB, tCall, tNot, tAnd, tOr, tB, tAndV, tOrV, tNotV, tChain, tApp, LamX.tLam, tRevLN, rCatN, rInTN, rInLN, flatV, inV, List.all_cons, List.all_nil, List.any_cons, List.any_nil, Bool.and_self, Bool.and_true, if_true, Bool.false_eq_true, if_false, tMt, tFldN, tSto, HO.ins.injEq, lkh, List.drop_zero, List.drop_succ_cons, List.drop_nil, rListS, wipe, L2.start, List.map_cons, List.map_nil, List.length_cons, List.length_nil, List.replicate, List.cons_append, List.nil_append, List.append_nil, Nat.reduceAdd, Nat.reduceSub, Nat.zero_add, List.replicate_succ, List.replicate_zero, List.getElem?_cons_zero, List.getElem?_cons_succ, List.set_cons_zero, List.set_cons_succ, Option.some.injEq, V.int.injEq, V.bl.injEq, V.ref.injEq, V.str.injEq, V.ty.injEq, List.cons.injEq, HO.tup.injEq, HO.lst.injEq, and_true, true_and, and_assoc, exists_eq_left, exists_eq_left', exists_and_left, exists_eq', atI0, atI1, atI2, atI3, Int.cast_ofNat_Int, Int.reduceToNat, scal_ii, scal_in, scal_ni, scal_nn, scal_bb, scal_ss, scal_sn, scal_ns, scal_bn, scal_nb, ite_iff, decide_eq_true_eq, decide_eq_false_iff_not, Bool.not_eq_true', Classical.not_not, ne_eq, not_false_eq_true, not_true_eq_false, forall_const, true_implies, false_implies, imp_self, sizeLine_eq, Nat.reduceLeDiff, reduceCtorEq, decide_true, decide_false]; exact k
    | some h => simp only [exists_and_left, ov, tD1, rTupN, rAll, rMax2, rMin2, tSl, tPart, tNoPart, rSlLN, tYes, rLenS, rRepN, unset, tEv2, calmS, tDNew, rInDN, rIxDN, rSetDN, tDN1, tDGetN, rSorted, cx_K, Value.ref.injEq, HO.xd.injEq, lk0, tSeq, tPar3, tPar, tCons, tNil, tVar, tC, tAsg, gName, gCons, gNil, gTupN, gSub, tOp, rI, rI0, rU, tTest, rNe, rEq, rIxTN, rIxLN, rLenL, rLenT, tLstRg, tRg1, tRg2, rIntI, rIntB, rAbs, rSetLN, tTruL, tRaiseX, rIsTy, rIsOw, ixN0, ixN1, tRet, tIf, tIfS, tNext, tBreak, tCont, tDrop, tTupN, tLstN, tUn, tCB, tCall, tNot, tAnd, tOr, tB, tAndV, tOrV, tNotV, tChain, tApp, LamX.tLam, tRevLN, rCatN, rInTN, rInLN, flatV, inV, List.all_cons, List.all_nil, List.any_cons, List.any_nil, Bool.and_self, Bool.and_true, if_true, Bool.false_eq_true, if_false, tMt, tFldN, tSto, HO.ins.injEq, lkh, List.drop_zero, List.drop_succ_cons, List.drop_nil, rListS, wipe, L2.start, List.map_cons, List.map_nil, List.length_cons, List.length_nil, List.replicate, List.cons_append, List.nil_append, List.append_nil, Nat.reduceAdd, Nat.reduceSub, Nat.zero_add, List.replicate_succ, List.replicate_zero, List.getElem?_cons_zero, List.getElem?_cons_succ, List.set_cons_zero, List.set_cons_succ, Option.some.injEq, V.int.injEq, V.bl.injEq, V.ref.injEq, V.str.injEq, V.ty.injEq, List.cons.injEq, HO.tup.injEq, HO.lst.injEq, and_true, true_and, and_assoc, exists_eq_left, exists_eq_left', exists_and_left, exists_eq', atI0, atI1, atI2, atI3, Int.cast_ofNat_Int, Int.reduceToNat, scal_ii, scal_in, scal_ni, scal_nn, scal_bb, scal_ss, scal_sn, scal_ns, scal_bn, scal_nb, ite_iff, decide_eq_true_eq, decide_eq_false_iff_not, Bool.not_eq_true', Classical.not_not, ne_eq, not_false_eq_true, not_true_eq_false, forall_const, true_implies, false_implies, imp_self, sizeLine_eq, Nat.reduceLeDiff, reduceCtorEq, decide_true, decide_false]; simpa [lies, lowOk, highOk] using k
  | some l => cases hi with
    | none =>
      simp only [exists_and_left, ov, tD1, rTupN, rAll, rMax2, rMin2, tSl, tPart, tNoPart, rSlLN, tYes, rLenS, rRepN, unset, tEv2, calmS, tDNew, rInDN, rIxDN, rSetDN, tDN1, tDGetN, rSorted, cx_K, Value.ref.injEq, HO.xd.injEq, lk0, tSeq, tPar3, tPar, tCons, tNil, tVar, tC, tAsg, gName, gCons, gNil, gTupN, gSub, tOp, rI, rI0, rU, tTest, rNe, rEq, rIxTN, rIxLN, rLenL, rLenT, tLstRg, tRg1, tRg2, rIntI, rIntB, rAbs, rSetLN, tTruL, tRaiseX, rIsTy, rIsOw, ixN0, ixN1, tRet, tIf, tIfS, tNext, tBreak, tCont, tDrop, tTupN, tLstN, tUn, tCB, tCall, tNot, tAnd, tOr, tB, tAndV, tOrV, tNotV, tChain, tApp, LamX.tLam, tRevLN, rCatN, rInTN, rInLN, flatV, inV, List.all_cons, List.all_nil, List.any_cons, List.any_nil, Bool.and_self, Bool.and_true, if_true, Bool.false_eq_true, if_false, tMt, tFldN, tSto, HO.ins.injEq, lkh, List.drop_zero, List.drop_succ_cons, List.drop_nil, rListS, wipe, L2.start, List.map_cons, List.map_nil, List.length_cons, List.length_nil, List.replicate, List.cons_append, List.nil_append, List.append_nil, Nat.reduceAdd, Nat.reduceSub, Nat.zero_add, List.replicate_succ, List.replicate_zero, List.getElem?_cons_zero, List.getElem?_cons_succ, List.set_cons_zero, List.set_cons_succ, Option.some.injEq, V.int.injEq, V.bl.injEq, V.ref.injEq, V.str.injEq, V.ty.injEq, List.cons.injEq, HO.tup.injEq, HO.lst.injEq, and_true, true_and, and_assoc, exists_eq_left, exists_eq_left', exists_and_left, exists_eq', atI0, atI1, atI2, atI3, Int.cast_ofNat_Int, Int.reduceToNat, scal_ii, scal_in, scal_ni, scal_nn, scal_bb, scal_ss, scal_sn, scal_ns, scal_bn, scal_nb, ite_iff, decide_eq_true_eq, decide_eq_false_iff_not, Bool.not_eq_true', Classical.not_not, ne_eq, not_false_eq_true, not_true_eq_false, forall_const, true_implies, false_implies, imp_self, sizeLine_eq, Nat.reduceLeDiff, reduceCtorEq, decide_true, decide_false]
      refine ⟨fun c => ?_, fun c => ?_⟩ <;> simpa [lies, lowOk, highOk, c] using k
    | some h =>
      simp only [exists_and_left, ov, tD1, rTupN, rAll, rMax2, rMin2, tSl, tPart, tNoPart, rSlLN, tYes, rLenS, rRepN, unset, tEv2, calmS, tDNew, rInDN, rIxDN, rSetDN, tDN1, tDGetN, rSorted, cx_K, Value.ref.injEq, HO.xd.injEq, lk0, tSeq, tPar3, tPar, tCons, tNil, tVar, tC, tAsg, gName, gCons, gNil, gTupN, gSub, tOp, rI, rI0, rU, tTest, rNe, rEq, rIxTN, rIxLN, rLenL, rLenT, tLstRg, tRg1, tRg2, rIntI, rIntB, rAbs, rSetLN, tTruL, tRaiseX, rIsTy, rIsOw, ixN0, ixN1, tRet, tIf, tIfS, tNext, tBreak, tCont, tDrop, tTupN, tLstN, tUn, tCB, tCall, tNot, tAnd, tOr, tB, tAndV, tOrV, tNotV, tChain, tApp, LamX.tLam, tRevLN, rCatN, rInTN, rInLN, flatV, inV, List.all_cons, List.all_nil, List.any_cons, List.any_nil, Bool.and_self, Bool.and_true, if_true, Bool.false_eq_true, if_false, tMt, tFldN, tSto, HO.ins.injEq, lkh, List.drop_zero, List.drop_succ_cons, List.drop_nil, rListS, wipe, L2.start, List.map_cons, List.map_nil, List.length_cons, List.length_nil, List.replicate, List.cons_append, List.nil_append, List.append_nil, Nat.reduceAdd, Nat.reduceSub, Nat.zero_add, List.replicate_succ, List.replicate_zero, List.getElem?_cons_zero, List.getElem?_cons_succ, List.set_cons_zero, List.set_cons_succ, Option.some.injEq, V.int.injEq, V.bl.injEq, V.ref.injEq, V.str.injEq, V.ty.injEq, List.cons.injEq, HO.tup.injEq, HO.lst.injEq, and_true, true_and, and_assoc, exists_eq_left, exists_eq_left', exists_and_left, exists_eq', atI0, atI1, atI2, atI3, Int.cast_ofNat_Int, Int.reduceToNat, scal_ii, scal_in, scal_ni, scal_nn, scal_bb, scal_ss, scal_sn, scal_ns, scal_bn, scal_nb, ite_iff, decide_eq_true_eq, decide_eq_false_iff_not, Bool.not_eq_true', Classical.not_not, ne_eq, not_false_eq_true, not_true_eq_false, forall_const, true_implies, false_implies, imp_self, sizeLine_eq, Nat.reduceLeDiff, reduceCtorEq, decide_true, decide_false]
      refine ⟨fun c => ?_, fun c => ?_⟩ <;> simpa [lies, lowOk, highOk, c] using k
def vo : V → Option Int
  | .int i => some i
  | _ => none
theorem vo_ov {o : Option Int} : vo (ov o) = o := by cases o <;> rfl
theorem BxAt.cons {H : Hp} {x : V} {xs : List V} {b : Box} {B : List Box} (h : BxAt H (x :: xs) (b :: B)) : (∃ t, x = .ref t ∧ H t = some (.tup [ov b.1.1, ov b.1.2, ov b.2.1, ov b.2.2])) ∧ BxAt H xs B := by
  obtain ⟨t, e1, e2⟩ := h.2 0 b rfl
  cases e1
  exact ⟨⟨t, rfl, e2⟩, Nat.succ.inj h.1, fun i c hc => h.2 (i + 1) c hc⟩
theorem BxAt.mk' {H : Hp} {t : Addr} {xs : List V} {b : Box} {B : List Box} (e : H t = some (.tup [ov b.1.1, ov b.1.2, ov b.2.1, ov b.2.2])) (h : BxAt H xs B) : BxAt H (.ref t :: xs) (b :: B) :=
  ⟨by rw [List.length_cons, List.length_cons, h.1], fun i c hc => by
    cases i with
    | zero => cases hc; exact ⟨t, rfl, e⟩
    | succ i => exact h.2 i c hc⟩
theorem BxAt.filter {H : Hp} {p : V → Bool} {q : Box → Bool} : ∀ {xs : List V} {B : List Box}, BxAt H xs B → (∀ (i : Nat) x b, xs[i]? = some x → B[i]? = some b → p x = q b) → BxAt H (xs.filter p) (B.filter q)
  | [], [], _, _ => ⟨rfl, fun i b h => by simp at h⟩
  | [], _ :: _, h, _ => by cases h.1
  | _ :: _, [], h, _ => by cases h.1
  | x :: xs, b :: B, h, e => by
    obtain ⟨⟨t, rfl, ht⟩, h'⟩ := h.cons
    have ih := BxAt.filter h' fun i x b hx hb => e (i + 1) x b hx hb
    have e0 := e 0 _ _ rfl rfl
    rw [List.filter_cons, List.filter_cons, e0]
    split
    · exact BxAt.mk' ht ih
    · exact ih
def dB (b : Box) : PyData := .tuple [dO b.1.1, dO b.1.2, dO b.2.1, dO b.2.2]
theorem sh_dB {b : Box} : ShN 1 (dB b) := ShN.tuple fun d hd => by
  simp only [List.mem_cons, List.not_mem_nil, or_false] at hd
  rcases hd with rfl | rfl | rfl | rfl <;> exact sh_dO
theorem BxAt.dpA {H : Hp} : ∀ {xs : List V} {B : List Box}, BxAt H xs B → DpAll K H xs (B.map dB)
  | [], [], _ => .nil
  | [], _ :: _, h => by cases h.1
  | _ :: _, [], h => by cases h.1
  | x :: xs, b :: B, h => by
    obtain ⟨⟨t, rfl, ht⟩, h'⟩ := h.cons
    exact .cons (.tup (SqT.of ht) (.cons dp_ov (.cons dp_ov (.cons dp_ov (.cons dp_ov .nil))))) (BxAt.dpA h')
theorem filter_empty {α : Type} {q : α → Bool} : ∀ {l : List α}, (l.filter q).isEmpty = !l.any q
  | [] => rfl
  | a :: l => by
    rw [List.filter_cons, List.any_cons]
    by_cases c : q a = true
    · rw [if_pos c, c]; rfl
    · rw [if_neg c]; simp only [Bool.not_eq_true] at c; rw [c, filter_empty]; rfl
def pBx (H : Hp) (x y : Int) : V → Bool
  | .ref t => (match H t with | some (.tup [a, b, c, d]) => inBox ((vo a, vo b), (vo c, vo d)) x y | _ => false)
  | _ => false
def spHasB : Sp := fun vs H Q _ => ∃ L x y, vs = [.ref L, .int x, .int y] ∧ ∃ xs B, H L = some (.lst xs) ∧ BxAt H xs B ∧ B.length ≤ 1000 ∧ ∀ H', Same H H' → Q (.bl (B.any fun b => inBox b x y)) H'
theorem o__law_has (T : Txt K mg) : OkF P w K mg base CX0 2 "_law_has" ["_law_boxes_here", "_law_x", "_law_y"] spHasB := by
  have o__law_lies := o__law_lies (P := P) (w := w) (base := base) T
  obtain ⟨f, fd, g, F⟩ := T.d__law_has
  refine ⟨f, fd, g, F.kp, F.binds (fun _ _ _ _ _ _ us hl => match us, hl with | [_, _, _], _ => rfl), F.ok sc__law_has (fun vs H Q E h => ?_) (fun cdv A outer s H vs Q E hr h => ?_)⟩
  · first | (obtain ⟨_, rfl, _⟩ := h; rfl) | (obtain ⟨rfl, _⟩ := h; rfl) | (obtain ⟨_, _, rfl, _⟩ := h; rfl) | (obtain ⟨_, _, _, rfl, _⟩ := h; rfl) | (obtain ⟨_, _, _, _, rfl, _⟩ := h; rfl) | (obtain ⟨_, _, _, _, _, rfl, _⟩ := h; rfl) | (obtain ⟨_, _, _, _, _, _, rfl, _⟩ := h; rfl) | (obtain ⟨_, _, _, _, _, _, _, rfl, _⟩ := h; rfl)
  have hu64 := hr.units
  refine ⟨_, pss_one (ps_ret (pe_cmpR (op_neDk (K := K) rfl hu64) (pe_lc (own := [("_law_box_here", 3)]) (g := gName 3) (by rfl) sc__law_has.nd (pi_list (pv 0)) (blkOk_by (N := ["_law_boxes_here", "_law_x", "_law_y", "_law_box_here"]) (sc := defScope s__law_has) (own := [("_law_box_here", 3)]) (by decide +kernel)) (fun _ _ _ _ _ => pg_name (i := 3) sc__law_has.nd rfl (Or.inl rfl)) (fun _ _ _ _ _ => pts_one (PW.pt (pw_and (pt_val (pcl o__law_lies (hr.mono (by decide)) pass0 (pa_cons (pe_ix ix_tupN (pv 3) (pe_int) (fun _ _ => rfl)) (pa_cons (pe_ix ix_tupN (pv 3) (pe_int) (fun _ _ => rfl)) (pa_cons (pv 1) pa_nil))))) (pw_and1 (pt_val (pcl o__law_lies (hr.mono (by decide)) pass0 (pa_cons (pe_ix ix_tupN (pv 3) (pe_int) (fun _ _ => rfl)) (pa_cons (pe_ix ix_tupN (pv 3) (pe_int) (fun _ _ => rfl)) (pa_cons (pv 2) pa_nil))))))))) (fun _ _ _ _ _ => pv 3)) (pe_lstN (pa_nil)) (nomark _))), ?_⟩
  obtain ⟨L, x, y, rfl, xs, B, hL, hb, hl, k⟩ := h
  simp only [spLies, exists_and_left, tD1, rTupN, rAll, rMax2, rMin2, tSl, tPart, tNoPart, rSlLN, tYes, rLenS, rRepN, unset, tEv2, calmS, tDNew, rInDN, rIxDN, rSetDN, tDN1, tDGetN, rSorted, cx_K, Value.ref.injEq, HO.xd.injEq, lk0, tSeq, tPar3, tPar, tCons, tNil, tVar, tC, tAsg, gName, gCons, gNil, gTupN, gSub, tOp, rI, rI0, rU, tTest, rNe, rEq, rIxTN, rIxLN, rLenL, rLenT, tLstRg, tRg1, tRg2, rIntI, rIntB, rAbs, rSetLN, tTruL, tRaiseX, rIsTy, rIsOw, ixN0, ixN1, tRet, tIf, tIfS, tNext, tBreak, tCont, tDrop, tTupN, tLstN, tUn, tCB, tCall, tNot, tAnd, tOr, tB, tAndV, tOrV, tNotV, tChain, tApp, LamX.tLam, tRevLN, rCatN, rInTN, rInLN, flatV, inV, List.all_cons, List.all_nil, List.any_cons, List.any_nil, Bool.and_self, Bool.and_true, if_true, Bool.false_eq_true, if_false, tMt, tFldN, tSto, HO.ins.injEq, lkh, List.drop_zero, List.drop_succ_cons, List.drop_nil, rListS, wipe, L2.start, List.map_cons, List.map_nil, List.length_cons, List.length_nil, List.replicate, List.cons_append, List.nil_append, List.append_nil, Nat.reduceAdd, Nat.reduceSub, Nat.zero_add, List.replicate_succ, List.replicate_zero, List.getElem?_cons_zero, List.getElem?_cons_succ, List.set_cons_zero, List.set_cons_succ, Option.some.injEq, V.int.injEq, V.bl.injEq, V.ref.injEq, V.str.injEq, V.ty.injEq, List.cons.injEq, HO.tup.injEq, HO.lst.injEq, and_true, true_and, and_assoc, exists_eq_left, exists_eq_left', exists_and_left, exists_eq', atI0, atI1, atI2, atI3, Int.cast_ofNat_Int, Int.reduceToNat, scal_ii, scal_in, scal_ni, scal_nn, scal_bb, scal_ss, scal_sn, scal_ns, scal_bn, scal_nb, ite_iff, decide_eq_true_eq, decide_eq_false_iff_not, Bool.not_eq_true', Classical.not_not, ne_eq, not_false_eq_true, not_true_eq_false, forall_const, true_implies, false_implies, imp_self, sizeLine_eq, Nat.reduceLeDiff, reduceCtorEq, decide_true, decide_false]
  refine st_lcLF (fun R r => (by simp only [exists_and_left, tD1, rTupN, rAll, rMax2, rMin2, tSl, tPart, tNoPart, rSlLN, tYes, rLenS, rRepN, unset, tEv2, calmS, tDNew, rInDN, rIxDN, rSetDN, tDN1, tDGetN, rSorted, cx_K, Value.ref.injEq, HO.xd.injEq, lk0, tSeq, tPar3, tPar, tCons, tNil, tVar, tC, tAsg, gName, gCons, gNil, gTupN, gSub, tOp, rI, rI0, rU, tTest, rNe, rEq, rIxTN, rIxLN, rLenL, rLenT, tLstRg, tRg1, tRg2, rIntI, rIntB, rAbs, rSetLN, tTruL, tRaiseX, rIsTy, rIsOw, ixN0, ixN1, tRet, tIf, tIfS, tNext, tBreak, tCont, tDrop, tTupN, tLstN, tUn, tCB, tCall, tNot, tAnd, tOr, tB, tAndV, tOrV, tNotV, tChain, tApp, LamX.tLam, tRevLN, rCatN, rInTN, rInLN, flatV, inV, List.all_cons, List.all_nil, List.any_cons, List.any_nil, Bool.and_self, Bool.and_true, if_true, Bool.false_eq_true, if_false, tMt, tFldN, tSto, HO.ins.injEq, lkh, List.drop_zero, List.drop_succ_cons, List.drop_nil, rListS, wipe, L2.start, List.map_cons, List.map_nil, List.length_cons, List.length_nil, List.replicate, List.cons_append, List.nil_append, List.append_nil, Nat.reduceAdd, Nat.reduceSub, Nat.zero_add, List.replicate_succ, List.replicate_zero, List.getElem?_cons_zero, List.getElem?_cons_succ, List.set_cons_zero, List.set_cons_succ, Option.some.injEq, V.int.injEq, V.bl.injEq, V.ref.injEq, V.str.injEq, V.ty.injEq, List.cons.injEq, HO.tup.injEq, HO.lst.injEq, and_true, true_and, and_assoc, exists_eq_left, exists_eq_left', exists_and_left, exists_eq', atI0, atI1, atI2, atI3, Int.cast_ofNat_Int, Int.reduceToNat, scal_ii, scal_in, scal_ni, scal_nn, scal_bb, scal_ss, scal_sn, scal_ns, scal_bn, scal_nb, ite_iff, decide_eq_true_eq, decide_eq_false_iff_not, Bool.not_eq_true', Classical.not_not, ne_eq, not_false_eq_true, not_true_eq_false, forall_const, true_implies, false_implies, imp_self, sizeLine_eq, Nat.reduceLeDiff, reduceCtorEq, decide_true, decide_false]; exact r)) hL (by rw [hb.1, sizeLine_eq]; omega) (pBx H x y) (fun v => v) (fun v H3 A B' hv s3 hA hB => ?_) (fun D H3 n3 s3 h3 => ?_)
  · obtain ⟨i, hi⟩ := List.getElem?_of_mem hv
    have il : i < B.length := by rw [← hb.1]; exact (List.getElem?_eq_some_iff.mp hi).1
    obtain ⟨t, e1, e2⟩ := hb.2 i _ (List.getElem?_eq_getElem il)
    rw [hi] at e1; cases e1
    have e3 := s3 _ _ e2
    generalize B[i] = b at *
    simp only [pBx, e2, vo_ov] at hA hB
    simp only [e3, spLies, exists_and_left, tD1, rTupN, rAll, rMax2, rMin2, tSl, tPart, tNoPart, rSlLN, tYes, rLenS, rRepN, unset, tEv2, calmS, tDNew, rInDN, rIxDN, rSetDN, tDN1, tDGetN, rSorted, cx_K, Value.ref.injEq, HO.xd.injEq, lk0, tSeq, tPar3, tPar, tCons, tNil, tVar, tC, tAsg, gName, gCons, gNil, gTupN, gSub, tOp, rI, rI0, rU, tTest, rNe, rEq, rIxTN, rIxLN, rLenL, rLenT, tLstRg, tRg1, tRg2, rIntI, rIntB, rAbs, rSetLN, tTruL, tRaiseX, rIsTy, rIsOw, ixN0, ixN1, tRet, tIf, tIfS, tNext, tBreak, tCont, tDrop, tTupN, tLstN, tUn, tCB, tCall, tNot, tAnd, tOr, tB, tAndV, tOrV, tNotV, tChain, tApp, LamX.tLam, tRevLN, rCatN, rInTN, rInLN, flatV, inV, List.all_cons, List.all_nil, List.any_cons, List.any_nil, Bool.and_self, Bool.and_true, if_true, Bool.false_eq_true, if_false, tMt, tFldN, tSto, HO.ins.injEq, lkh, List.drop_zero, List.drop_succ_cons, List.drop_nil, rListS, wipe, L2.start, List.map_cons, List.map_nil, List.length_cons, List.length_nil, List.replicate, List.cons_append, List.nil_append, List.append_nil, Nat.reduceAdd, Nat.reduceSub, Nat.zero_add, List.replicate_succ, List.replicate_zero, List.getElem?_cons_zero, List.getElem?_cons_succ, List.set_cons_zero, List.set_cons_succ, Option.some.injEq, V.int.injEq, V.bl.injEq, V.ref.injEq, V.str.injEq, V.ty.injEq, List.cons.injEq, HO.tup.injEq, HO.lst.injEq, and_true, true_and, and_assoc, exists_eq_left, exists_eq_left', exists_and_left, exists_eq', atI0, atI1, atI2, atI3, Int.cast_ofNat_Int, Int.reduceToNat, scal_ii, scal_in, scal_ni, scal_nn, scal_bb, scal_ss, scal_sn, scal_ns, scal_bn, scal_nb, ite_iff, decide_eq_true_eq, decide_eq_false_iff_not, Bool.not_eq_true', Classical.not_not, ne_eq, not_false_eq_true, not_true_eq_false, forall_const, true_implies, false_implies, imp_self, sizeLine_eq, Nat.reduceLeDiff, reduceCtorEq, decide_true, decide_false]
    refine ⟨b.1.1, rfl, b.1.2, rfl, fun c1 => ?_, fun c1 => ?_⟩
    · refine ⟨b.2.1, rfl, b.2.2, rfl, fun c2 => hB (by simp [inBox, c1, c2]) H3 fun _ _ h => h, fun c2 => hA (by simp [inBox, c2]) H3 fun _ _ h => h⟩
    · exact hA (by simp [inBox, c1]) H3 fun _ _ h => h
  · intro e H4 _ s4 h4
    rw [List.map_id'] at h3
    have hb4 := hb.keep (Kt.same (s3.trans s4))
    have hf := hb4.filter (p := pBx H x y) (q := fun b => inBox b x y) (fun i v b hv hbb => ?_) 
    · refine ⟨_, _, .lst (SqL.of (s4 _ _ h3)) hf.dpA, .lst (SqL.of h4) .nil, (ShN.list (n := 1) fun d hd => ?_).ok, (ShN.list (n := 0) fun d hd => by simp at hd).ok, ?_⟩
      · obtain ⟨b, _, rfl⟩ := List.mem_map.mp hd
        exact sh_dB
      · have e : PyData.eqv (.list ((B.filter fun b => inBox b x y).map dB)) (.list []) = !(B.any fun b => inBox b x y) := by
          rw [← filter_empty]
          cases B.filter (fun b => inBox b x y) <;> rfl
        rw [e, Bool.not_not]
        exact k H4 (s3.trans s4)
    · obtain ⟨t, e1, e2⟩ := hb.2 i b hbb
      rw [hv] at e1; cases e1
      simp only [pBx, e2, vo_ov]
def spSquare : Sp := fun vs H Q _ => vs = [] ∧ ∀ L H', H L = none → Same H H' → H' L = some (.lst (L2.rgV (-9) 9)) → Q (.ref L) H'
theorem o__law_square (T : Txt K mg) : OkF P w K mg base CX0 1 "_law_square" [] spSquare := by
  obtain ⟨f, fd, g, F⟩ := T.d__law_square
  refine ⟨f, fd, g, F.kp, F.binds (fun _ _ _ _ _ _ us hl => match us, hl with | [], _ => rfl), F.ok sc__law_square (fun vs H Q E h => ?_) (fun cdv A outer s H vs Q E hr h => ?_)⟩
  · first | (obtain ⟨_, rfl, _⟩ := h; rfl) | (obtain ⟨rfl, _⟩ := h; rfl) | (obtain ⟨_, _, rfl, _⟩ := h; rfl) | (obtain ⟨_, _, _, rfl, _⟩ := h; rfl) | (obtain ⟨_, _, _, _, rfl, _⟩ := h; rfl) | (obtain ⟨_, _, _, _, _, rfl, _⟩ := h; rfl) | (obtain ⟨_, _, _, _, _, _, rfl, _⟩ := h; rfl) | (obtain ⟨_, _, _, _, _, _, _, rfl, _⟩ := h; rfl)
  have hu64 := hr.units
  refine ⟨_, pss_one (ps_ret (L2.pe_listRg rfl (by rfl) T.m_list (L2.prg_2 (by rfl) T.m_range (pe_op op_sub (pe_int) (pe_int)) (pe_int)))), ?_⟩
  obtain ⟨e0, k⟩ := h
  subst e0
  simp only [exists_and_left, tD1, rTupN, rAll, rMax2, rMin2, tSl, tPart, tNoPart, rSlLN, tYes, rLenS, rRepN, unset, tEv2, calmS, tDNew, rInDN, rIxDN, rSetDN, tDN1, tDGetN, rSorted, cx_K, Value.ref.injEq, HO.xd.injEq, lk0, tSeq, tPar3, tPar, tCons, tNil, tVar, tC, tAsg, gName, gCons, gNil, gTupN, gSub, tOp, rI, rI0, rU, tTest, rNe, rEq, rIxTN, rIxLN, rLenL, rLenT, tLstRg, tRg1, tRg2, rIntI, rIntB, rAbs, rSetLN, tTruL, tRaiseX, rIsTy, rIsOw, ixN0, ixN1, tRet, tIf, tIfS, tNext, tBreak, tCont, tDrop, tTupN, tLstN, tUn, tCB, tCall, tNot, tAnd, tOr, tB, tAndV, tOrV, tNotV, tChain, tApp, LamX.tLam, tRevLN, rCatN, rInTN, rInLN, flatV, inV, List.all_cons, List.all_nil, List.any_cons, List.any_nil, Bool.and_self, Bool.and_true, if_true, Bool.false_eq_true, if_false, tMt, tFldN, tSto, HO.ins.injEq, lkh, List.drop_zero, List.drop_succ_cons, List.drop_nil, rListS, wipe, L2.start, List.map_cons, List.map_nil, List.length_cons, List.length_nil, List.replicate, List.cons_append, List.nil_append, List.append_nil, Nat.reduceAdd, Nat.reduceSub, Nat.zero_add, List.replicate_succ, List.replicate_zero, List.getElem?_cons_zero, List.getElem?_cons_succ, List.set_cons_zero, List.set_cons_succ, Option.some.injEq, V.int.injEq, V.bl.injEq, V.ref.injEq, V.str.injEq, V.ty.injEq, List.cons.injEq, HO.tup.injEq, HO.lst.injEq, and_true, true_and, and_assoc, exists_eq_left, exists_eq_left', exists_and_left, exists_eq', atI0, atI1, atI2, atI3, Int.cast_ofNat_Int, Int.reduceToNat, scal_ii, scal_in, scal_ni, scal_nn, scal_bb, scal_ss, scal_sn, scal_ns, scal_bn, scal_nb, ite_iff, decide_eq_true_eq, decide_eq_false_iff_not, Bool.not_eq_true', Classical.not_not, ne_eq, not_false_eq_true, not_true_eq_false, forall_const, true_implies, false_implies, imp_self, sizeLine_eq, Nat.reduceLeDiff, reduceCtorEq, decide_true, decide_false]
  exact ⟨⟨by decide, by decide, by decide, by decide, by decide⟩, fun L nL => k L _ nL (Same.upd nL) upd_same⟩
theorem rg_int {a b : Int} {v : V} (h : v ∈ L2.rgV a b) : ∃ x : Int, v = .int x := by
  obtain ⟨j, _, rfl⟩ := List.mem_map.mp h
  exact ⟨_, rfl⟩
def spCells (K : PySem.W.Frag) : Sp := fun vs H Q _ => ∃ L a, vs = [.ref L, .ref a] ∧ ∃ xs B S EX EY, H L = some (.lst xs) ∧ BxAt H xs B ∧ B.length ≤ 1000 ∧ RegAt K H a S ∧ GoodS EX EY S ∧ EX.length ≤ 900 ∧ EY.length ≤ 900 ∧ (∀ x y, hasS S x y = B.any fun b => inBox b x y) ∧ ∀ H', Same H H' → Q (.bl true) H'
theorem o__law_cells_right (T : Txt K mg) : OkF P w K mg base CX0 6 "_law_cells_right" ["_law_boxes_here", "_law_made"] (spCells K) := by
  have o__law_has := o__law_has (P := P) (w := w) (base := base) T
  have o__law_square := o__law_square (P := P) (w := w) (base := base) T
  have o_Region___contains__ := o_Region___contains__ (P := P) (w := w) (base := base) T
  obtain ⟨f, fd, g, F⟩ := T.d__law_cells_right
  refine ⟨f, fd, g, F.kp, F.binds (fun _ _ _ _ _ _ us hl => match us, hl with | [_, _], _ => rfl), F.ok sc__law_cells_right (fun vs H Q E h => ?_) (fun cdv A outer s H vs Q E hr h => ?_)⟩
  · first | (obtain ⟨_, rfl, _⟩ := h; rfl) | (obtain ⟨rfl, _⟩ := h; rfl) | (obtain ⟨_, _, rfl, _⟩ := h; rfl) | (obtain ⟨_, _, _, rfl, _⟩ := h; rfl) | (obtain ⟨_, _, _, _, rfl, _⟩ := h; rfl) | (obtain ⟨_, _, _, _, _, rfl, _⟩ := h; rfl) | (obtain ⟨_, _, _, _, _, _, rfl, _⟩ := h; rfl) | (obtain ⟨_, _, _, _, _, _, _, rfl, _⟩ := h; rfl)
  have hu64 := hr.units
  refine ⟨_, pss_cons (ps_for PassesOwn.never rfl (pi_list (pe_op op_catN (pcl0 o__law_square (hr.mono (by decide)) pass0) (pe_lstN (pa_cons (pe_op op_pow (pe_int) (pe_int)) (pa_cons (pe_op op_sub (pe_int) (pe_op op_pow (pe_int) (pe_int))) pa_nil))))) (pg_name (i := 2) sc__law_cells_right.nd rfl (Or.inl rfl)) (pss_one (ps_for PassesOwn.never rfl (pi_list (pcl0 o__law_square (hr.mono (by decide)) pass0)) (pg_name (i := 3) sc__law_cells_right.nd rfl (Or.inl rfl)) (pss_cons (ps_if (pt_cmpR op_ne (pe_cmpR (op_ownIn o_Region___contains__ (hr.mono (by decide)) pass0) (pe_tupN (pa_cons (pv 3) (pa_cons (pv 2) pa_nil))) (pv 1) (by rfl)) (pcl o__law_has (hr.mono (by decide)) pass0 (pa_cons (pv 0) (pa_cons (pv 3) (pa_cons (pv 2) pa_nil)))) (nomark _)) (pss_one (ps_ret (pe_bl))) (pss_nil))
      (pss_one (ps_if (pt_cmpR op_ne (pe_cmpR (op_ownIn o_Region___contains__ (hr.mono (by decide)) pass0) (pe_tupN (pa_cons (pe_op op_pow (pe_int) (pe_int)) (pa_cons (pv 3) pa_nil))) (pv 1) (by rfl)) (pcl o__law_has (hr.mono (by decide)) pass0 (pa_cons (pv 0) (pa_cons (pe_op op_pow (pe_int) (pe_int)) (pa_cons (pv 3) pa_nil)))) (nomark _)) (pss_one (ps_ret (pe_bl))) (pss_nil)))))))
      (pss_one (ps_ret (pe_cmpR (op_eqDk (K := K) rfl hu64) (pe_lc (own := [("_law_odd", 4)]) (g := gName 4) (by rfl) sc__law_cells_right.nd (pi_list (pe_lstN (pa_cons (pe_non) (pa_cons (pe_int) (pa_cons (pe_tupN (pa_cons (pe_int) pa_nil)) (pa_cons (pe_tupN (pa_cons (pe_int) (pa_cons (pe_int) (pa_cons (pe_int) pa_nil)))) (pa_cons (pe_lstN (pa_cons (pe_int) (pa_cons (pe_int) pa_nil))) (pa_cons (pe_tupN (pa_cons (pe_int) (pa_cons (pe_bl) pa_nil))) (pa_cons (pe_tupN (pa_cons (pe_str) (pa_cons (pe_int) pa_nil))) (pa_cons (pe_tupN (pa_cons (pe_int) (pa_cons (pe_non) pa_nil))) pa_nil)))))))))) (blkOk_by (N := ["_law_boxes_here", "_law_made", "_law_y", "_law_x", "_law_odd"]) (sc := defScope s__law_cells_right) (own := [("_law_odd", 4)]) (by decide +kernel)) (fun _ _ _ _ _ => pg_name (i := 4) sc__law_cells_right.nd rfl (Or.inl rfl)) (fun _ _ _ _ _ => pts_one (pt_cmpR (op_ownInK (K := K) rfl o_Region___contains__ (hr.mono (by decide)) pass0) (pv 4) (pv 1) (by rfl))) (fun _ _ _ _ _ => pv 4)) (pe_lstN (pa_nil)) (nomark _)))), ?_⟩
  obtain ⟨L, a, rfl, xs, B, S, EX, EY, hL, hb, hl, hR, gs, lx, ly, hv, k⟩ := h
  refine for_inL ?_
  simp only [spSquare, exists_and_left, tD1, rTupN, rAll, rMax2, rMin2, tSl, tPart, tNoPart, rSlLN, tYes, rLenS, rRepN, unset, tEv2, calmS, tDNew, rInDN, rIxDN, rSetDN, tDN1, tDGetN, rSorted, cx_K, Value.ref.injEq, HO.xd.injEq, lk0, tSeq, tPar3, tPar, tCons, tNil, tVar, tC, tAsg, gName, gCons, gNil, gTupN, gSub, tOp, rI, rI0, rU, tTest, rNe, rEq, rIxTN, rIxLN, rLenL, rLenT, tLstRg, tRg1, tRg2, rIntI, rIntB, rAbs, rSetLN, tTruL, tRaiseX, rIsTy, rIsOw, ixN0, ixN1, tRet, tIf, tIfS, tNext, tBreak, tCont, tDrop, tTupN, tLstN, tUn, tCB, tCall, tNot, tAnd, tOr, tB, tAndV, tOrV, tNotV, tChain, tApp, LamX.tLam, tRevLN, rCatN, rInTN, rInLN, flatV, inV, List.all_cons, List.all_nil, List.any_cons, List.any_nil, Bool.and_self, Bool.and_true, if_true, Bool.false_eq_true, if_false, tMt, tFldN, tSto, HO.ins.injEq, lkh, List.drop_zero, List.drop_succ_cons, List.drop_nil, rListS, wipe, L2.start, List.map_cons, List.map_nil, List.length_cons, List.length_nil, List.replicate, List.cons_append, List.nil_append, List.append_nil, Nat.reduceAdd, Nat.reduceSub, Nat.zero_add, List.replicate_succ, List.replicate_zero, List.getElem?_cons_zero, List.getElem?_cons_succ, List.set_cons_zero, List.set_cons_succ, Option.some.injEq, V.int.injEq, V.bl.injEq, V.ref.injEq, V.str.injEq, V.ty.injEq, List.cons.injEq, HO.tup.injEq, HO.lst.injEq, and_true, true_and, and_assoc, exists_eq_left, exists_eq_left', exists_and_left, exists_eq', atI0, atI1, atI2, atI3, Int.cast_ofNat_Int, Int.reduceToNat, scal_ii, scal_in, scal_ni, scal_nn, scal_bb, scal_ss, scal_sn, scal_ns, scal_bn, scal_nb, ite_iff, decide_eq_true_eq, decide_eq_false_iff_not, Bool.not_eq_true', Classical.not_not, ne_eq, not_false_eq_true, not_true_eq_false, forall_const, true_implies, false_implies, imp_self, sizeLine_eq, Nat.reduceLeDiff, reduceCtorEq, decide_true, decide_false]
  intro L1 H1 n1 s1 h1
  refine ⟨⟨by decide, by decide, by decide⟩, ⟨by decide, by decide, by decide⟩, ?_⟩
  intro L2' H2 n2 s2 h2
  refine ⟨_, rfl, _, s2 _ _ h1, _, h2, by simp [L2.rgV], ?_⟩
  intro L3 H3 n3 s3 h3
  have s03 := (s1.trans s2).trans s3
  have intsV : ∀ (i : Nat) v, (L2.rgV (-9) 9 ++ [V.int (10 ^ 40), V.int (0 - 10 ^ 40)])[i]? = some v → ∃ y : Int, v = .int y := fun i v h => by
    have := List.mem_of_getElem? h
    rcases List.mem_append.mp this with h | h
    · obtain ⟨j, _, rfl⟩ := List.mem_map.mp h; exact ⟨_, rfl⟩
    · simp only [List.mem_cons, List.not_mem_nil, or_false] at h
      rcases h with rfl | rfl <;> exact ⟨_, rfl⟩
  have cont : ∀ {H' : Hp} {p : Addr} {x y : Int} {R : VK}, Same H H' → H' p = some (.tup [.int x, .int y]) → (∀ H'', Same H' H'' → R (.bl (B.any fun b => inBox b x y)) H'') → spCont K [.ref a, .ref p] H' R E0 := fun {H' p x y R} s hp r =>
    ⟨a, _, rfl, S, EX, EY, hR.kt (Kt.same s), gs, lx, ly, P2.k hp, fun e => (by rw [pairV_of hp] at e; cases e), fun x' y' H'' e s' => by
      rw [pairV_of hp] at e; cases e
      rw [hv]; exact r H'' s'⟩
  refine st_forL (fun R r => r) h3 (fun i σ' H' => ∃ x2 x3 x4, σ' = [some (V.ref L), some (V.ref a), x2, x3, x4] ∧ Same H3 H') ⟨_, _, _, rfl, fun _ _ h => h⟩ (fun i σ' H' h => by obtain ⟨_, _, _, _, h⟩ := h; exact h _ _ h3) ?_ ?_
  · rintro i v _ H4 hi ⟨x2, x3, x4, rfl, s4⟩
    obtain ⟨y, rfl⟩ := intsV i v hi
    clear hi
    simp only [exists_and_left, tD1, rTupN, rAll, rMax2, rMin2, tSl, tPart, tNoPart, rSlLN, tYes, rLenS, rRepN, unset, tEv2, calmS, tDNew, rInDN, rIxDN, rSetDN, tDN1, tDGetN, rSorted, cx_K, Value.ref.injEq, HO.xd.injEq, lk0, tSeq, tPar3, tPar, tCons, tNil, tVar, tC, tAsg, gName, gCons, gNil, gTupN, gSub, tOp, rI, rI0, rU, tTest, rNe, rEq, rIxTN, rIxLN, rLenL, rLenT, tLstRg, tRg1, tRg2, rIntI, rIntB, rAbs, rSetLN, tTruL, tRaiseX, rIsTy, rIsOw, ixN0, ixN1, tRet, tIf, tIfS, tNext, tBreak, tCont, tDrop, tTupN, tLstN, tUn, tCB, tCall, tNot, tAnd, tOr, tB, tAndV, tOrV, tNotV, tChain, tApp, LamX.tLam, tRevLN, rCatN, rInTN, rInLN, flatV, inV, List.all_cons, List.all_nil, List.any_cons, List.any_nil, Bool.and_self, Bool.and_true, if_true, Bool.false_eq_true, if_false, tMt, tFldN, tSto, HO.ins.injEq, lkh, List.drop_zero, List.drop_succ_cons, List.drop_nil, rListS, wipe, L2.start, List.map_cons, List.map_nil, List.length_cons, List.length_nil, List.replicate, List.cons_append, List.nil_append, List.append_nil, Nat.reduceAdd, Nat.reduceSub, Nat.zero_add, List.replicate_succ, List.replicate_zero, List.getElem?_cons_zero, List.getElem?_cons_succ, List.set_cons_zero, List.set_cons_succ, Option.some.injEq, V.int.injEq, V.bl.injEq, V.ref.injEq, V.str.injEq, V.ty.injEq, List.cons.injEq, HO.tup.injEq, HO.lst.injEq, and_true, true_and, and_assoc, exists_eq_left, exists_eq_left', exists_and_left, exists_eq', atI0, atI1, atI2, atI3, Int.cast_ofNat_Int, Int.reduceToNat, scal_ii, scal_in, scal_ni, scal_nn, scal_bb, scal_ss, scal_sn, scal_ns, scal_bn, scal_nb, ite_iff, decide_eq_true_eq, decide_eq_false_iff_not, Bool.not_eq_true', Classical.not_not, ne_eq, not_false_eq_true, not_true_eq_false, forall_const, true_implies, false_implies, imp_self, sizeLine_eq, Nat.reduceLeDiff, reduceCtorEq, decide_true, decide_false]
    refine for_inL ?_
    simp only [spSquare, exists_and_left, tD1, rTupN, rAll, rMax2, rMin2, tSl, tPart, tNoPart, rSlLN, tYes, rLenS, rRepN, unset, tEv2, calmS, tDNew, rInDN, rIxDN, rSetDN, tDN1, tDGetN, rSorted, cx_K, Value.ref.injEq, HO.xd.injEq, lk0, tSeq, tPar3, tPar, tCons, tNil, tVar, tC, tAsg, gName, gCons, gNil, gTupN, gSub, tOp, rI, rI0, rU, tTest, rNe, rEq, rIxTN, rIxLN, rLenL, rLenT, tLstRg, tRg1, tRg2, rIntI, rIntB, rAbs, rSetLN, tTruL, tRaiseX, rIsTy, rIsOw, ixN0, ixN1, tRet, tIf, tIfS, tNext, tBreak, tCont, tDrop, tTupN, tLstN, tUn, tCB, tCall, tNot, tAnd, tOr, tB, tAndV, tOrV, tNotV, tChain, tApp, LamX.tLam, tRevLN, rCatN, rInTN, rInLN, flatV, inV, List.all_cons, List.all_nil, List.any_cons, List.any_nil, Bool.and_self, Bool.and_true, if_true, Bool.false_eq_true, if_false, tMt, tFldN, tSto, HO.ins.injEq, lkh, List.drop_zero, List.drop_succ_cons, List.drop_nil, rListS, wipe, L2.start, List.map_cons, List.map_nil, List.length_cons, List.length_nil, List.replicate, List.cons_append, List.nil_append, List.append_nil, Nat.reduceAdd, Nat.reduceSub, Nat.zero_add, List.replicate_succ, List.replicate_zero, List.getElem?_cons_zero, List.getElem?_cons_succ, List.set_cons_zero, List.set_cons_succ, Option.some.injEq, V.int.injEq, V.bl.injEq, V.ref.injEq, V.str.injEq, V.ty.injEq, List.cons.injEq, HO.tup.injEq, HO.lst.injEq, and_true, true_and, and_assoc, exists_eq_left, exists_eq_left', exists_and_left, exists_eq', atI0, atI1, atI2, atI3, Int.cast_ofNat_Int, Int.reduceToNat, scal_ii, scal_in, scal_ni, scal_nn, scal_bb, scal_ss, scal_sn, scal_ns, scal_bn, scal_nb, ite_iff, decide_eq_true_eq, decide_eq_false_iff_not, Bool.not_eq_true', Classical.not_not, ne_eq, not_false_eq_true, not_true_eq_false, forall_const, true_implies, false_implies, imp_self, sizeLine_eq, Nat.reduceLeDiff, reduceCtorEq, decide_true, decide_false]
    intro L5 H5 n5 s5 h5
    refine st_forL (fun R r => r) h5 (fun j σ' H' => ∃ x3 x4, σ' = [some (V.ref L), some (V.ref a), some (V.int y), x3, x4] ∧ Same H5 H') ⟨_, _, rfl, fun _ _ h => h⟩ (fun j σ' H' h => by obtain ⟨_, _, _, h⟩ := h; exact h _ _ h5) ?_ ?_
    · rintro j v _ H6 hj ⟨x3, x4, rfl, s6⟩
      obtain ⟨x, rfl⟩ := rg_int (List.mem_of_getElem? hj)
      clear hj
      simp only [exists_and_left, tD1, rTupN, rAll, rMax2, rMin2, tSl, tPart, tNoPart, rSlLN, tYes, rLenS, rRepN, unset, tEv2, calmS, tDNew, rInDN, rIxDN, rSetDN, tDN1, tDGetN, rSorted, cx_K, Value.ref.injEq, HO.xd.injEq, lk0, tSeq, tPar3, tPar, tCons, tNil, tVar, tC, tAsg, gName, gCons, gNil, gTupN, gSub, tOp, rI, rI0, rU, tTest, rNe, rEq, rIxTN, rIxLN, rLenL, rLenT, tLstRg, tRg1, tRg2, rIntI, rIntB, rAbs, rSetLN, tTruL, tRaiseX, rIsTy, rIsOw, ixN0, ixN1, tRet, tIf, tIfS, tNext, tBreak, tCont, tDrop, tTupN, tLstN, tUn, tCB, tCall, tNot, tAnd, tOr, tB, tAndV, tOrV, tNotV, tChain, tApp, LamX.tLam, tRevLN, rCatN, rInTN, rInLN, flatV, inV, List.all_cons, List.all_nil, List.any_cons, List.any_nil, Bool.and_self, Bool.and_true, if_true, Bool.false_eq_true, if_false, tMt, tFldN, tSto, HO.ins.injEq, lkh, List.drop_zero, List.drop_succ_cons, List.drop_nil, rListS, wipe, L2.start, List.map_cons, List.map_nil, List.length_cons, List.length_nil, List.replicate, List.cons_append, List.nil_append, List.append_nil, Nat.reduceAdd, Nat.reduceSub, Nat.zero_add, List.replicate_succ, List.replicate_zero, List.getElem?_cons_zero, List.getElem?_cons_succ, List.set_cons_zero, List.set_cons_succ, Option.some.injEq, V.int.injEq, V.bl.injEq, V.ref.injEq, V.str.injEq, V.ty.injEq, List.cons.injEq, HO.tup.injEq, HO.lst.injEq, and_true, true_and, and_assoc, exists_eq_left, exists_eq_left', exists_and_left, exists_eq', atI0, atI1, atI2, atI3, Int.cast_ofNat_Int, Int.reduceToNat, scal_ii, scal_in, scal_ni, scal_nn, scal_bb, scal_ss, scal_sn, scal_ns, scal_bn, scal_nb, ite_iff, decide_eq_true_eq, decide_eq_false_iff_not, Bool.not_eq_true', Classical.not_not, ne_eq, not_false_eq_true, not_true_eq_false, forall_const, true_implies, false_implies, imp_self, sizeLine_eq, Nat.reduceLeDiff, reduceCtorEq, decide_true, decide_false]
      have sH6 : Same H H6 := ((s03.trans s4).trans s5).trans s6
      have reg : ∀ {G : Hp}, Same H6 G → ∃ dx q, G a = some (.ins (ga K "Region") dx [("_slabs", .ref q)]) := fun {G} s => let ⟨dx, q, e, _⟩ := hR; ⟨dx, q, s _ _ (sH6 _ _ e)⟩
      intro p1 G1 _ r1 e1
      obtain ⟨dx, q, hr1⟩ := reg r1
      refine ⟨a, dx, _, rfl, hr1, cont (sH6.trans r1) e1 fun G2 r2 => ⟨_, rfl, ?_⟩⟩
      have r12 := r1.trans r2
      refine ⟨L, x, y, rfl, xs, B, r12 _ _ (sH6 _ _ hL), hb.keep (Kt.same (sH6.trans r12)), hl, fun G3 r3 => ⟨scal_bb, fun n => absurd rfl n, fun _ => ⟨⟨by decide, by decide, by decide⟩, ?_⟩⟩⟩
      have r13 := r12.trans r3
      intro p2 G4 _ r4 e4
      have r14 := r13.trans r4
      obtain ⟨dx, q, hr4⟩ := reg r14
      refine ⟨a, dx, _, rfl, hr4, cont (sH6.trans r14) e4 fun G5 r5 => ⟨_, rfl, ?_⟩⟩
      have r15 := r14.trans r5
      refine ⟨⟨by decide, by decide, by decide⟩, L, _, x, rfl, xs, B, r15 _ _ (sH6 _ _ hL), hb.keep (Kt.same (sH6.trans r15)), hl, fun G6 r6 => ⟨scal_bb, fun n => absurd rfl n, fun _ => s6.trans (r15.trans r6)⟩⟩
    · rintro _ H6 ⟨x3, x4, rfl, s6⟩
      exact ⟨_, _, _, rfl, s4.trans (s5.trans s6)⟩
  · rintro _ H4 ⟨x2, x3, x4, rfl, s4⟩
    simp only [tRet]
    change tLc _ _ _ _ _ _ _ _
    refine lc_inL ?_
    simp only [exists_and_left, tD1, rTupN, rAll, rMax2, rMin2, tSl, tPart, tNoPart, rSlLN, tYes, rLenS, rRepN, unset, tEv2, calmS, tDNew, rInDN, rIxDN, rSetDN, tDN1, tDGetN, rSorted, cx_K, Value.ref.injEq, HO.xd.injEq, lk0, tSeq, tPar3, tPar, tCons, tNil, tVar, tC, tAsg, gName, gCons, gNil, gTupN, gSub, tOp, rI, rI0, rU, tTest, rNe, rEq, rIxTN, rIxLN, rLenL, rLenT, tLstRg, tRg1, tRg2, rIntI, rIntB, rAbs, rSetLN, tTruL, tRaiseX, rIsTy, rIsOw, ixN0, ixN1, tRet, tIf, tIfS, tNext, tBreak, tCont, tDrop, tTupN, tLstN, tUn, tCB, tCall, tNot, tAnd, tOr, tB, tAndV, tOrV, tNotV, tChain, tApp, LamX.tLam, tRevLN, rCatN, rInTN, rInLN, flatV, inV, List.all_cons, List.all_nil, List.any_cons, List.any_nil, Bool.and_self, Bool.and_true, if_true, Bool.false_eq_true, if_false, tMt, tFldN, tSto, HO.ins.injEq, lkh, List.drop_zero, List.drop_succ_cons, List.drop_nil, rListS, wipe, L2.start, List.map_cons, List.map_nil, List.length_cons, List.length_nil, List.replicate, List.cons_append, List.nil_append, List.append_nil, Nat.reduceAdd, Nat.reduceSub, Nat.zero_add, List.replicate_succ, List.replicate_zero, List.getElem?_cons_zero, List.getElem?_cons_succ, List.set_cons_zero, List.set_cons_succ, Option.some.injEq, V.int.injEq, V.bl.injEq, V.ref.injEq, V.str.injEq, V.ty.injEq, List.cons.injEq, HO.tup.injEq, HO.lst.injEq, and_true, true_and, and_assoc, exists_eq_left, exists_eq_left', exists_and_left, exists_eq', atI0, atI1, atI2, atI3, Int.cast_ofNat_Int, Int.reduceToNat, scal_ii, scal_in, scal_ni, scal_nn, scal_bb, scal_ss, scal_sn, scal_ns, scal_bn, scal_nb, ite_iff, decide_eq_true_eq, decide_eq_false_iff_not, Bool.not_eq_true', Classical.not_not, ne_eq, not_false_eq_true, not_true_eq_false, forall_const, true_implies, false_implies, imp_self, sizeLine_eq, Nat.reduceLeDiff, reduceCtorEq, decide_true, decide_false]
    intro p1 G1 _ r1 e1 p2 G2 _ r2 e2 p3 G3 _ r3 e3 p4 G4 _ r4 e4 p5 G5 _ r5 e5 p6 G6 _ r6 e6 p7 G7 _ r7 e7
    have q56 := r6.trans r7
    have q46 := r5.trans q56
    have q36 := r4.trans q46
    have q26 := r3.trans q36
    have q16 := r2.trans q26
    have s07 : Same H G7 := (s03.trans s4).trans (r1.trans q16)
    obtain ⟨dx, q, hr, sl⟩ := hR.kt (Kt.same s07)
    have odd : ∀ v ∈ [V.non, V.int 5, V.ref p1, V.ref p2, V.ref p3, V.ref p4, V.ref p5, V.ref p6], PairK K G7 v ∧ pairV G7 v = none := fun v hv => by
      simp only [List.mem_cons, List.not_mem_nil, or_false] at hv
      have w1 : Wh K G7 (.int 0) := wh_int
      rcases hv with rfl | rfl | rfl | rfl | rfl | rfl | rfl | rfl
      · exact ⟨.non, rfl⟩
      · exact ⟨.int 5, rfl⟩
      · exact ⟨.tup (q16 _ _ e1) (by simpa using w1), by simp only [pairV, q16 _ _ e1, pairL]⟩
      · exact ⟨.tup (q26 _ _ e2) (by simpa using w1), by simp only [pairV, q26 _ _ e2, pairL]⟩
      · exact ⟨.lst (q36 _ _ e3), by simp only [pairV, q36 _ _ e3]⟩
      · exact ⟨.tup (q46 _ _ e4) (by simpa using ⟨w1, wh_bl⟩), by simp only [pairV, q46 _ _ e4, pairL]⟩
      · exact ⟨.tup (q56 _ _ e5) (by simpa using ⟨wh_str, w1⟩), by simp only [pairV, q56 _ _ e5, pairL]⟩
      · exact ⟨.tup (r7 _ _ e6) (by simpa using ⟨w1, wh_non⟩), by simp only [pairV, r7 _ _ e6, pairL]⟩
    refine st_lcLF (fun R r => r) e7 (by rw [sizeLine_eq]; simp) (fun _ => false) (fun v => v) (fun v G A B' hv s hA hB => ?_) (fun D G n s hD => ?_)
    · obtain ⟨pk, pn⟩ := odd v hv
      simp only [exists_and_left, tD1, rTupN, rAll, rMax2, rMin2, tSl, tPart, tNoPart, rSlLN, tYes, rLenS, rRepN, unset, tEv2, calmS, tDNew, rInDN, rIxDN, rSetDN, tDN1, tDGetN, rSorted, cx_K, Value.ref.injEq, HO.xd.injEq, lk0, tSeq, tPar3, tPar, tCons, tNil, tVar, tC, tAsg, gName, gCons, gNil, gTupN, gSub, tOp, rI, rI0, rU, tTest, rNe, rEq, rIxTN, rIxLN, rLenL, rLenT, tLstRg, tRg1, tRg2, rIntI, rIntB, rAbs, rSetLN, tTruL, tRaiseX, rIsTy, rIsOw, ixN0, ixN1, tRet, tIf, tIfS, tNext, tBreak, tCont, tDrop, tTupN, tLstN, tUn, tCB, tCall, tNot, tAnd, tOr, tB, tAndV, tOrV, tNotV, tChain, tApp, LamX.tLam, tRevLN, rCatN, rInTN, rInLN, flatV, inV, List.all_cons, List.all_nil, List.any_cons, List.any_nil, Bool.and_self, Bool.and_true, if_true, Bool.false_eq_true, if_false, tMt, tFldN, tSto, HO.ins.injEq, lkh, List.drop_zero, List.drop_succ_cons, List.drop_nil, rListS, wipe, L2.start, List.map_cons, List.map_nil, List.length_cons, List.length_nil, List.replicate, List.cons_append, List.nil_append, List.append_nil, Nat.reduceAdd, Nat.reduceSub, Nat.zero_add, List.replicate_succ, List.replicate_zero, List.getElem?_cons_zero, List.getElem?_cons_succ, List.set_cons_zero, List.set_cons_succ, Option.some.injEq, V.int.injEq, V.bl.injEq, V.ref.injEq, V.str.injEq, V.ty.injEq, List.cons.injEq, HO.tup.injEq, HO.lst.injEq, and_true, true_and, and_assoc, exists_eq_left, exists_eq_left', exists_and_left, exists_eq', atI0, atI1, atI2, atI3, Int.cast_ofNat_Int, Int.reduceToNat, scal_ii, scal_in, scal_ni, scal_nn, scal_bb, scal_ss, scal_sn, scal_ns, scal_bn, scal_nb, ite_iff, decide_eq_true_eq, decide_eq_false_iff_not, Bool.not_eq_true', Classical.not_not, ne_eq, not_false_eq_true, not_true_eq_false, forall_const, true_implies, false_implies, imp_self, sizeLine_eq, Nat.reduceLeDiff, reduceCtorEq, decide_true, decide_false]
      exact ⟨a, dx, _, rfl, s _ _ hr, a, _, rfl, S, EX, EY, ⟨dx, q, s _ _ hr, sl.keep (Kt.same s)⟩, gs, lx, ly, pk.mono s, fun _ => ⟨false, rfl, _, rfl, fun e => (by cases e), fun _ => hA rfl G fun _ _ h => h⟩, fun x y H' e => by rw [pk.same s, pn] at e; cases e⟩
    · intro e G' _ s' h'
      rw [List.map_id', show List.filter (fun _ : V => false) _ = [] from List.filter_eq_nil_iff.mpr fun _ _ => by decide] at hD
      exact eq_sameN (n := 0 + 1) (.lst (SqL.of (s' _ _ hD)) .nil) (.lst (SqL.of h') .nil) (ShN.list fun d hd => by simp at hd) (k G' ((s07.trans s).trans s'))

end
end Iz
/-! k21_k -/
set_option Elab.async false
set_option linter.all false
set_option maxRecDepth 100000
set_option maxHeartbeats 4000000
namespace Iz
open PySem PySem.Spec PyProof.Rows L2
open He (ga)
open SX (S S_len)
local macro_rules | `(tactic| walk_at "wp") => `(tactic| simp only [tD1, rTupN, rAll, rMax2, rMin2, tSl, tPart, tNoPart, rSlLN, tYes, rLenS, rRepN, unset, tEv2, calmS, tDNew, rInDN, rIxDN, rSetDN, tDN1, tDGetN, rSorted, cx_K, Value.ref.injEq, HO.xd.injEq, lk0, tSeq, tPar3, tPar, tCons, tNil, tVar, tC, tAsg, gName, gCons, gNil, gTupN, gSub, tOp, rI, rI0, rU, tTest, rNe, rEq, rIxTN, rIxLN, rLenL, rLenT, tLstRg, tRg1, tRg2, rIntI, rIntB, rAbs, rSetLN, tTruL, tRaiseX, rIsTy, rIsOw, ixN0, ixN1, tRet, tIf, tIfS, tNext, tBreak, tCont, tDrop, tTupN, tLstN, tUn, tCB, tCall, tNot, tAnd, tOr, tB, tAndV, tOrV, tNotV, tChain, tApp, LamX.tLam, tRevLN, rCatN, rInTN, rInLN, flatV, inV, List.all_cons, List.all_nil, List.any_cons, List.any_nil, Bool.and_self, Bool.and_true, if_true, Bool.false_eq_true, if_false, tMt, tFldN, tSto, HO.ins.injEq, lkh, List.drop_zero, List.drop_succ_cons, List.drop_nil, rListS, wipe, L2.start, List.map_cons, List.map_nil, List.length_cons, List.length_nil, List.replicate, List.cons_append, List.nil_append, List.append_nil, Nat.reduceAdd, Nat.reduceSub, Nat.zero_add, List.replicate_succ, List.replicate_zero, List.getElem?_cons_zero, List.getElem?_cons_succ, List.set_cons_zero, List.set_cons_succ, Option.some.injEq, V.int.injEq, V.bl.injEq, V.ref.injEq, V.str.injEq, V.ty.injEq, List.cons.injEq, HO.tup.injEq, HO.lst.injEq, and_true, true_and, and_assoc, exists_eq_left, exists_eq_left', exists_and_left, exists_eq', atI0, atI1, atI2, atI3, Int.cast_ofNat_Int, Int.reduceToNat, scal_ii, scal_in, scal_ni, scal_nn, scal_bb, scal_ss, scal_sn, scal_ns, scal_bn, scal_nb, ite_iff, decide_eq_true_eq, decide_eq_false_iff_not, Bool.not_eq_true', Classical.not_not, ne_eq, not_false_eq_true, not_true_eq_false, forall_const, true_implies, false_implies, imp_self, sizeLine_eq, Nat.reduceLeDiff, reduceCtorEq, decide_true, decide_false])
section
variable {P : Program} {w : World} {K : PySem.W.Frag} {mg : Str → Option Value} {base : Heap}
/-! ### what is refused -/
open LamX
def qn__law_refused : Str := (("_law_refused" : Str) ++ ".<locals>.") ++ "<lambda>"
abbrev Tb1 (K : PySem.W.Frag) : List (Addr × Str) := [(pOf K "_law_refused", qn__law_refused)]
theorem hu_rf : ∀ q ∈ Tb1 K, q.1 = pOf K "_law_refused" → q.2 = qn__law_refused := by
  intro q hq e
  rw [List.mem_singleton.mp hq]
/-- what _law_caught makes of an error -/
def CauQ (K : PySem.W.Frag) (Q : VK) : XK := fun cls d H' => ∃ dd, d = some dd ∧ ((cls = .ref (ga K "BadPart") ∧ ∃ v, H' dd = some (.xd [("part", v)]) ∧ News H' (.lst [.str "part", v]) Q) ∨ (cls = .ref (ga K "BadIndex") ∧ ∃ v, H' dd = some (.xd [("index", v)]) ∧ News H' (.lst [.str "index", v]) Q) ∨
  (cls = .ref (ga K "TooMany") ∧ ∃ v, H' dd = some (.xd [("limit", v)]) ∧ News H' (.lst [.str "many", v]) Q))
def TTc (K : PySem.W.Frag) : (XK → Hp → VK → Prop) → Hp → VK → Prop := fun tl H Q => tl (CauQ K Q) H fun _ H' => Q .non H'
theorem caught_gives {X : Cx} {g : Addr} {cdg : Value} {q : Str} (T : Txt X.K X.mg) : GivesTo X ["_law_call", "e"] "_law_caught" (defScope s__law_caught) g cdg (defBody s__law_caught) "_law_call" q (TTc X.K) := by
  intro f c' s H Q tl act hc h
  refine ⟨_, pss_cons (ps_try_named (X := (cxOf C8.CX0 X.prog X.w X.K X.mg X.base ["_law_call", "e"] "_law_caught" (defScope s__law_caught) g cdg X.A X.stack s H C8.E0).nox)
    (tb := fun W D σ H => ∃ Ech : XK, (∀ cls d σ' H', Ech cls d H' → W cls d σ' H') ∧ σ[0]? = some (some (.ref f)) ∧ H c' = some (CodeO c' q) ∧ tl Ech H fun _ H1 => D.nx σ H1)
    sc__law_caught.nd (fun W pn xe tk _ => ?_)
    (.cons (q := (.ref (ga X.K "BadPart"), 1, fun a cls d => _)) ⟨rfl, rfl, ⟨rfl, by decide, .inl T.x_BadPart.g⟩, fun a oe cls d pn hz hf => pss_len (n := 2) (pss_one (ps_ret (pe_lstN (pa_cons pe_str (pa_cons (pe_xf T.x_BadPart.xf T.x_BadPart.no hz hf (pv 1)) pa_nil))))) rfl⟩
      (.cons (q := (.ref (ga X.K "BadIndex"), 1, fun a cls d => _)) ⟨rfl, rfl, ⟨rfl, by decide, .inl T.x_BadIndex.g⟩, fun a oe cls d pn hz hf => pss_len (n := 2) (pss_one (ps_ret (pe_lstN (pa_cons pe_str (pa_cons (pe_xf T.x_BadIndex.xf T.x_BadIndex.no hz hf (pv 1)) pa_nil))))) rfl⟩
        (.cons (q := (.ref (ga X.K "BadNumber"), 1, fun _ _ _ _ _ _ => False)) ⟨rfl, rfl, ⟨rfl, by decide, .inl T.gN⟩, fun _ _ _ _ _ _ _ => pss_one ps_never⟩
          (.cons (q := (.ref (ga X.K "NotSo"), 1, fun _ _ _ _ _ _ => False)) ⟨rfl, rfl, ⟨rfl, by decide, .inl T.gS⟩, fun _ _ _ _ _ _ _ => pss_one ps_never⟩
            (.cons (q := (.ref (ga X.K "TooMany"), 1, fun a cls d => _)) ⟨rfl, rfl, ⟨rfl, by decide, .inl T.x_TooMany.g⟩, fun a oe cls d pn hz hf => pss_len (n := 2) (pss_one (ps_ret (pe_lstN (pa_cons pe_str (pa_cons (pe_xf T.x_TooMany.xf T.x_TooMany.no hz hf (pv 1)) pa_nil))))) rfl⟩ .nil))))))
    (pss_one (ps_ret pe_non)), ?_⟩
  · refine ⟨fun pins s' σ H' D I h' => ?_⟩
    obtain ⟨Ech, hW, h1, h2, h3⟩ := h'
    exact (pss_one (ps_expr (act W pn xe Ech _ _ tk hW))).run pins s' σ H' D I ⟨h1, h2, h3⟩
  · refine ⟨CauQ X.K Q, fun cls d σ' H' hh => ?_, rfl, hc, ?_⟩
    · obtain ⟨dd, rfl, ⟨rfl, v, hd, n⟩ | ⟨rfl, v, hd, n⟩ | ⟨rfl, v, hd, n⟩⟩ := hh
      · refine ⟨true, T.mPP, fun _ a ha hlen => ?_, fun z => nomatch z⟩
        rw [List.length_set] at hlen
        have hs1 : (σ'.set 1 (some (V.ref a)))[1]? = some (some (V.ref a)) := by simp [hlen]
        simp only [rIsX, tXf, hs1, hd, exists_and_left, unset, tD1, rTupN, rAll, rMax2, rMin2, tSl, tPart, tNoPart, rSlLN, tYes, rLenS, rRepN, unset, tEv2, calmS, tDNew, rInDN, rIxDN, rSetDN, tDN1, tDGetN, rSorted, cx_K, Value.ref.injEq, HO.xd.injEq, lk0, tSeq, tPar3, tPar, tCons, tNil, tVar, tC, tAsg, gName, gCons, gNil, gTupN, gSub, tOp, rI, rI0, rU, tTest, rNe, rEq, rIxTN, rIxLN, rLenL, rLenT, tLstRg, tRg1, tRg2, rIntI, rIntB, rAbs, rSetLN, tTruL, tRaiseX, rIsTy, rIsOw, ixN0, ixN1, tRet, tIf, tIfS, tNext, tBreak, tCont, tDrop, tTupN, tLstN, tUn, tCB, tCall, tNot, tAnd, tOr, tB, tAndV, tOrV, tNotV, tChain, tApp, LamX.tLam, tRevLN, rCatN, rInTN, rInLN, flatV, inV, List.all_cons, List.all_nil, List.any_cons, List.any_nil, Bool.and_self, Bool.and_true, if_true, Bool.false_eq_true, if_false, tMt, tFldN, tSto, HO.ins.injEq, lkh, List.drop_zero, List.drop_succ_cons, List.drop_nil, rListS, wipe, L2.start, List.map_cons, List.map_nil, List.length_cons, List.length_nil, List.replicate, List.cons_append, List.nil_append, List.append_nil, Nat.reduceAdd, Nat.reduceSub, Nat.zero_add, List.replicate_succ, List.replicate_zero, List.getElem?_cons_zero, List.getElem?_cons_succ, List.set_cons_zero, List.set_cons_succ, Option.some.injEq, V.int.injEq, V.bl.injEq, V.ref.injEq, V.str.injEq, V.ty.injEq, List.cons.injEq, HO.tup.injEq, HO.lst.injEq, and_true, true_and, and_assoc, exists_eq_left, exists_eq_left', exists_and_left, exists_eq', atI0, atI1, atI2, atI3, Int.cast_ofNat_Int, Int.reduceToNat, scal_ii, scal_in, scal_ni, scal_nn, scal_bb, scal_ss, scal_sn, scal_ns, scal_bn, scal_nb, ite_iff, decide_eq_true_eq, decide_eq_false_iff_not, Bool.not_eq_true', Classical.not_not, ne_eq, not_false_eq_true, not_true_eq_false, forall_const, true_implies, false_implies, imp_self, sizeLine_eq, Nat.reduceLeDiff, reduceCtorEq, decide_true, decide_false]
        exact n
      · refine ⟨false, T.mIP, (fun z => nomatch z), fun _ => ⟨true, T.mII, fun _ a ha hlen => ?_, fun z => nomatch z⟩⟩
        rw [List.length_set] at hlen
        have hs1 : (σ'.set 1 (some (V.ref a)))[1]? = some (some (V.ref a)) := by simp [hlen]
        simp only [rIsX, tXf, hs1, hd, exists_and_left, unset, tD1, rTupN, rAll, rMax2, rMin2, tSl, tPart, tNoPart, rSlLN, tYes, rLenS, rRepN, unset, tEv2, calmS, tDNew, rInDN, rIxDN, rSetDN, tDN1, tDGetN, rSorted, cx_K, Value.ref.injEq, HO.xd.injEq, lk0, tSeq, tPar3, tPar, tCons, tNil, tVar, tC, tAsg, gName, gCons, gNil, gTupN, gSub, tOp, rI, rI0, rU, tTest, rNe, rEq, rIxTN, rIxLN, rLenL, rLenT, tLstRg, tRg1, tRg2, rIntI, rIntB, rAbs, rSetLN, tTruL, tRaiseX, rIsTy, rIsOw, ixN0, ixN1, tRet, tIf, tIfS, tNext, tBreak, tCont, tDrop, tTupN, tLstN, tUn, tCB, tCall, tNot, tAnd, tOr, tB, tAndV, tOrV, tNotV, tChain, tApp, LamX.tLam, tRevLN, rCatN, rInTN, rInLN, flatV, inV, List.all_cons, List.all_nil, List.any_cons, List.any_nil, Bool.and_self, Bool.and_true, if_true, Bool.false_eq_true, if_false, tMt, tFldN, tSto, HO.ins.injEq, lkh, List.drop_zero, List.drop_succ_cons, List.drop_nil, rListS, wipe, L2.start, List.map_cons, List.map_nil, List.length_cons, List.length_nil, List.replicate, List.cons_append, List.nil_append, List.append_nil, Nat.reduceAdd, Nat.reduceSub, Nat.zero_add, List.replicate_succ, List.replicate_zero, List.getElem?_cons_zero, List.getElem?_cons_succ, List.set_cons_zero, List.set_cons_succ, Option.some.injEq, V.int.injEq, V.bl.injEq, V.ref.injEq, V.str.injEq, V.ty.injEq, List.cons.injEq, HO.tup.injEq, HO.lst.injEq, and_true, true_and, and_assoc, exists_eq_left, exists_eq_left', exists_and_left, exists_eq', atI0, atI1, atI2, atI3, Int.cast_ofNat_Int, Int.reduceToNat, scal_ii, scal_in, scal_ni, scal_nn, scal_bb, scal_ss, scal_sn, scal_ns, scal_bn, scal_nb, ite_iff, decide_eq_true_eq, decide_eq_false_iff_not, Bool.not_eq_true', Classical.not_not, ne_eq, not_false_eq_true, not_true_eq_false, forall_const, true_implies, false_implies, imp_self, sizeLine_eq, Nat.reduceLeDiff, reduceCtorEq, decide_true, decide_false]
        exact n
      · refine ⟨false, T.mMP, (fun z => nomatch z), fun _ => ⟨false, T.mMI, (fun z => nomatch z), fun _ => ⟨false, T.mMN, (fun z => nomatch z), fun _ => ⟨false, T.mMS, (fun z => nomatch z), fun _ => ⟨true, T.mMM, fun _ a ha hlen => ?_, fun z => nomatch z⟩⟩⟩⟩⟩
        rw [List.length_set] at hlen
        have hs1 : (σ'.set 1 (some (V.ref a)))[1]? = some (some (V.ref a)) := by simp [hlen]
        simp only [rIsX, tXf, hs1, hd, exists_and_left, unset, tD1, rTupN, rAll, rMax2, rMin2, tSl, tPart, tNoPart, rSlLN, tYes, rLenS, rRepN, unset, tEv2, calmS, tDNew, rInDN, rIxDN, rSetDN, tDN1, tDGetN, rSorted, cx_K, Value.ref.injEq, HO.xd.injEq, lk0, tSeq, tPar3, tPar, tCons, tNil, tVar, tC, tAsg, gName, gCons, gNil, gTupN, gSub, tOp, rI, rI0, rU, tTest, rNe, rEq, rIxTN, rIxLN, rLenL, rLenT, tLstRg, tRg1, tRg2, rIntI, rIntB, rAbs, rSetLN, tTruL, tRaiseX, rIsTy, rIsOw, ixN0, ixN1, tRet, tIf, tIfS, tNext, tBreak, tCont, tDrop, tTupN, tLstN, tUn, tCB, tCall, tNot, tAnd, tOr, tB, tAndV, tOrV, tNotV, tChain, tApp, LamX.tLam, tRevLN, rCatN, rInTN, rInLN, flatV, inV, List.all_cons, List.all_nil, List.any_cons, List.any_nil, Bool.and_self, Bool.and_true, if_true, Bool.false_eq_true, if_false, tMt, tFldN, tSto, HO.ins.injEq, lkh, List.drop_zero, List.drop_succ_cons, List.drop_nil, rListS, wipe, L2.start, List.map_cons, List.map_nil, List.length_cons, List.length_nil, List.replicate, List.cons_append, List.nil_append, List.append_nil, Nat.reduceAdd, Nat.reduceSub, Nat.zero_add, List.replicate_succ, List.replicate_zero, List.getElem?_cons_zero, List.getElem?_cons_succ, List.set_cons_zero, List.set_cons_succ, Option.some.injEq, V.int.injEq, V.bl.injEq, V.ref.injEq, V.str.injEq, V.ty.injEq, List.cons.injEq, HO.tup.injEq, HO.lst.injEq, and_true, true_and, and_assoc, exists_eq_left, exists_eq_left', exists_and_left, exists_eq', atI0, atI1, atI2, atI3, Int.cast_ofNat_Int, Int.reduceToNat, scal_ii, scal_in, scal_ni, scal_nn, scal_bb, scal_ss, scal_sn, scal_ns, scal_bn, scal_nb, ite_iff, decide_eq_true_eq, decide_eq_false_iff_not, Bool.not_eq_true', Classical.not_not, ne_eq, not_false_eq_true, not_true_eq_false, forall_const, true_implies, false_implies, imp_self, sizeLine_eq, Nat.reduceLeDiff, reduceCtorEq, decide_true, decide_false]
        exact n
    · simp only [exists_and_left, tD1, rTupN, rAll, rMax2, rMin2, tSl, tPart, tNoPart, rSlLN, tYes, rLenS, rRepN, unset, tEv2, calmS, tDNew, rInDN, rIxDN, rSetDN, tDN1, tDGetN, rSorted, cx_K, Value.ref.injEq, HO.xd.injEq, lk0, tSeq, tPar3, tPar, tCons, tNil, tVar, tC, tAsg, gName, gCons, gNil, gTupN, gSub, tOp, rI, rI0, rU, tTest, rNe, rEq, rIxTN, rIxLN, rLenL, rLenT, tLstRg, tRg1, tRg2, rIntI, rIntB, rAbs, rSetLN, tTruL, tRaiseX, rIsTy, rIsOw, ixN0, ixN1, tRet, tIf, tIfS, tNext, tBreak, tCont, tDrop, tTupN, tLstN, tUn, tCB, tCall, tNot, tAnd, tOr, tB, tAndV, tOrV, tNotV, tChain, tApp, LamX.tLam, tRevLN, rCatN, rInTN, rInLN, flatV, inV, List.all_cons, List.all_nil, List.any_cons, List.any_nil, Bool.and_self, Bool.and_true, if_true, Bool.false_eq_true, if_false, tMt, tFldN, tSto, HO.ins.injEq, lkh, List.drop_zero, List.drop_succ_cons, List.drop_nil, rListS, wipe, L2.start, List.map_cons, List.map_nil, List.length_cons, List.length_nil, List.replicate, List.cons_append, List.nil_append, List.append_nil, Nat.reduceAdd, Nat.reduceSub, Nat.zero_add, List.replicate_succ, List.replicate_zero, List.getElem?_cons_zero, List.getElem?_cons_succ, List.set_cons_zero, List.set_cons_succ, Option.some.injEq, V.int.injEq, V.bl.injEq, V.ref.injEq, V.str.injEq, V.ty.injEq, List.cons.injEq, HO.tup.injEq, HO.lst.injEq, and_true, true_and, and_assoc, exists_eq_left, exists_eq_left', exists_and_left, exists_eq', atI0, atI1, atI2, atI3, Int.cast_ofNat_Int, Int.reduceToNat, scal_ii, scal_in, scal_ni, scal_nn, scal_bb, scal_ss, scal_sn, scal_ns, scal_bn, scal_nb, ite_iff, decide_eq_true_eq, decide_eq_false_iff_not, Bool.not_eq_true', Classical.not_not, ne_eq, not_false_eq_true, not_true_eq_false, forall_const, true_implies, false_implies, imp_self, sizeLine_eq, Nat.reduceLeDiff, reduceCtorEq, decide_true, decide_false]
      exact h
section
variable {H : Hp} {v : V} {TT0 : List (Addr × Str)} {tl : XK → Hp → VK → Prop} {R : VK}
theorem told_part (hT : Tabs TT0 H) (hsp : ∀ H1 (Q : VK) (E : XK), ExtN H H1 → Rse K E H1 "BadPart" "part" v → tl E H1 Q)
    (k : ∀ H2 q, ExtN H H2 → Tabs TT0 H2 → H2 q = some (.lst [.str "part", v]) → R (.ref q) H2) : Tabs TT0 H ∧ ∀ H1, ExtN H H1 → Tabs TT0 H1 → TTc K tl H1 R :=
  ⟨hT, fun H1 e1 hT1 => hsp H1 _ _ e1 (fun d H' hd hs h2 => ⟨d, rfl, .inl ⟨rfl, v, h2, fun q H3 hq s3 h3 => k H3 q (e1.trans (extS (hs.trans s3))) (hT1.ext (hs.trans s3)) h3⟩⟩)⟩
theorem told_idx (hT : Tabs TT0 H) (hsp : ∀ H1 (Q : VK) (E : XK), ExtN H H1 → Rse K E H1 "BadIndex" "index" v → tl E H1 Q)
    (k : ∀ H2 q, ExtN H H2 → Tabs TT0 H2 → H2 q = some (.lst [.str "index", v]) → R (.ref q) H2) : Tabs TT0 H ∧ ∀ H1, ExtN H H1 → Tabs TT0 H1 → TTc K tl H1 R :=
  ⟨hT, fun H1 e1 hT1 => hsp H1 _ _ e1 (fun d H' hd hs h2 => ⟨d, rfl, .inr (.inl ⟨rfl, v, h2, fun q H3 hq s3 h3 => k H3 q (e1.trans (extS (hs.trans s3))) (hT1.ext (hs.trans s3)) h3⟩)⟩)⟩
theorem told_many (hT : Tabs TT0 H) (hsp : ∀ H1 (Q : VK) (E : XK), ExtN H H1 → Rse K E H1 "TooMany" "limit" v → tl E H1 Q)
    (k : ∀ H2 q, ExtN H H2 → Tabs TT0 H2 → H2 q = some (.lst [.str "many", v]) → R (.ref q) H2) : Tabs TT0 H ∧ ∀ H1, ExtN H H1 → Tabs TT0 H1 → TTc K tl H1 R :=
  ⟨hT, fun H1 e1 hT1 => hsp H1 _ _ e1 (fun d H' hd hs h2 => ⟨d, rfl, .inr (.inr ⟨rfl, v, h2, fun q H3 hq s3 h3 => k H3 q (e1.trans (extS (hs.trans s3))) (hT1.ext (hs.trans s3)) h3⟩)⟩)⟩
end

end
end Iz
/-! k21_l -/
set_option Elab.async false
set_option linter.all false
set_option maxRecDepth 100000
set_option maxHeartbeats 4000000
namespace Iz
open PySem PySem.Spec PyProof.Rows L2
open He (ga)
open SX (S S_len)
local macro_rules | `(tactic| walk_at "wp") => `(tactic| simp only [tD1, rTupN, rAll, rMax2, rMin2, tSl, tPart, tNoPart, rSlLN, tYes, rLenS, rRepN, unset, tEv2, calmS, tDNew, rInDN, rIxDN, rSetDN, tDN1, tDGetN, rSorted, cx_K, Value.ref.injEq, HO.xd.injEq, lk0, tSeq, tPar3, tPar, tCons, tNil, tVar, tC, tAsg, gName, gCons, gNil, gTupN, gSub, tOp, rI, rI0, rU, tTest, rNe, rEq, rIxTN, rIxLN, rLenL, rLenT, tLstRg, tRg1, tRg2, rIntI, rIntB, rAbs, rSetLN, tTruL, tRaiseX, rIsTy, rIsOw, ixN0, ixN1, tRet, tIf, tIfS, tNext, tBreak, tCont, tDrop, tTupN, tLstN, tUn, tCB, tCall, tNot, tAnd, tOr, tB, tAndV, tOrV, tNotV, tChain, tApp, LamX.tLam, tRevLN, rCatN, rInTN, rInLN, flatV, inV, List.all_cons, List.all_nil, List.any_cons, List.any_nil, Bool.and_self, Bool.and_true, if_true, Bool.false_eq_true, if_false, tMt, tFldN, tSto, HO.ins.injEq, lkh, List.drop_zero, List.drop_succ_cons, List.drop_nil, rListS, wipe, L2.start, List.map_cons, List.map_nil, List.length_cons, List.length_nil, List.replicate, List.cons_append, List.nil_append, List.append_nil, Nat.reduceAdd, Nat.reduceSub, Nat.zero_add, List.replicate_succ, List.replicate_zero, List.getElem?_cons_zero, List.getElem?_cons_succ, List.set_cons_zero, List.set_cons_succ, Option.some.injEq, V.int.injEq, V.bl.injEq, V.ref.injEq, V.str.injEq, V.ty.injEq, List.cons.injEq, HO.tup.injEq, HO.lst.injEq, and_true, true_and, and_assoc, exists_eq_left, exists_eq_left', exists_and_left, exists_eq', atI0, atI1, atI2, atI3, Int.cast_ofNat_Int, Int.reduceToNat, scal_ii, scal_in, scal_ni, scal_nn, scal_bb, scal_ss, scal_sn, scal_ns, scal_bn, scal_nb, ite_iff, decide_eq_true_eq, decide_eq_false_iff_not, Bool.not_eq_true', Classical.not_not, ne_eq, not_false_eq_true, not_true_eq_false, forall_const, true_implies, false_implies, imp_self, sizeLine_eq, Nat.reduceLeDiff, reduceCtorEq, decide_true, decide_false])
section
variable {P : Program} {w : World} {K : PySem.W.Frag} {mg : Str → Option Value} {base : Heap}
open LamX
/-- what is no box -/
inductive OddB (H : Hp) : V → Prop
  | non : OddB H .non
  | int (i : Int) : OddB H (.int i)
  | tup {p : Addr} {xs : List V} : H p = some (.tup xs) → boxL xs = false → (∀ z ∈ xs, (∃ i, z = .int i) ∨ (∃ b, z = .bl b) ∨ ∃ s, z = .str s) → OddB H (.ref p)
  | lst {p : Addr} : H p = some (.lst [.int 0, .int 1, .int 0, .int 1]) → OddB H (.ref p)
section
variable {H H' : Hp} {v : V}
theorem OddB.k (h : OddB H v) : PairK K H v := by
  cases h with
  | non => exact .non
  | int i => exact .int i
  | tup h _ w =>
    refine .tup h fun z hz => ?_
    rcases w z hz with ⟨_, rfl⟩ | ⟨_, rfl⟩ | ⟨_, rfl⟩
    · exact wh_int
    · exact wh_bl
    · exact wh_str
  | lst h => exact .lst h
theorem OddB.n (h : OddB H v) : boxV H v = false := by
  cases h with
  | non => rfl
  | int i => rfl
  | tup h b _ => simp only [boxV, h, b]
  | lst h => simp only [boxV, h]
theorem OddB.ext (h : OddB H v) (s : ExtN H H') : OddB H' v := by
  cases h with
  | non => exact .non
  | int i => exact .int i
  | tup h b w => exact .tup (s _ _ h (fun _ z => by cases z)) b w
  | lst h => exact .lst (s _ _ h (fun _ z => by cases z))
theorem OddB.stp {a : Addr} (h : OddB H v) (P : Po H a) (s : StpP a H H') : OddB H' v := by
  cases h with
  | non => exact .non
  | int i => exact .int i
  | tup h b w => exact .tup (s.at P h (fun _ _ z => by cases z)) b w
  | lst h => exact .lst (s.at P h (fun _ _ z => by cases z))
end
theorem Tabs.stpP {TT0 : List (Addr × Str)} {a : Addr} {H H' : Hp} (hT : Tabs TT0 H) (hP : Po H a) (e : StpP a H H') : Tabs TT0 H' := by
  intro p hp
  obtain ⟨ps, h1, h2, h3⟩ := hT p hp
  refine ⟨ps, e.at hP h1 (fun g s z => by cases z), h2, fun pos cv hcv => ?_⟩
  obtain ⟨c0, e1, e2⟩ := h3 pos cv hcv
  exact ⟨c0, e1, e.at hP e2 (fun g s z => by unfold CodeO at z; cases z)⟩
theorem Po.neL {H : Hp} {a L : Addr} {xs : List V} (P : Po H a) (h : H L = some (.lst xs)) (n : xs.length ≠ 2) : L ≠ a := fun z => by
  obtain ⟨g, s, q⟩ := P
  subst z
  have w := h.symm.trans q
  cases w
  exact n rfl
theorem BxAt.ext {H H' : Hp} {xs : List V} {B : List Box} (h : BxAt H xs B) (x : ExtN H H') : BxAt H' xs B := ⟨h.1, fun i p hi => let ⟨t, e1, e2⟩ := h.2 i p hi; ⟨t, e1, x _ _ e2 (fun _ q => by cases q)⟩⟩
theorem cutV_len (ws : List V) (a b : Option Int) : (cutV ws a b).length ≤ ws.length := by
  unfold cutV
  rw [List.length_take, List.length_drop]; omega
theorem cutV_to {ws : List V} {i : Int} (h0 : 0 ≤ i) (h1 : i ≤ ws.length) : cutV ws none (some i) = ws.take i.toNat := by
  simp only [cutV, HT.sIx]
  rw [if_neg (by omega), List.drop_zero, Nat.sub_zero, Nat.min_eq_left (by omega)]
theorem dp_si {H : Hp} {a : Addr} {x : Str} {i : Int} (h : H a = some (.lst [.str x, .int i])) : Dp K H (.ref a) (.list [.str x, .int i]) := .lst (SqL.of h) (.cons (.str x) (.cons (.int i) .nil))
theorem sh_si {n : Nat} {x : Str} {i : Int} (hx : PyData.strOk x = true) : ShN (n + 1) (.list [.str x, .int i]) := (ShN.list (n := 0) fun d h => by
  simp only [List.mem_cons, List.not_mem_nil, or_false] at h
  rcases h with rfl | rfl
  · exact ⟨hx, Nat.le_refl 0⟩
  · exact .int).up (by omega)
theorem strOk_ix : PyData.strOk "index" = true := by decide +kernel
def mB (n : Nat) : List Box := (List.range n).map fun (k : Nat) => ((some (k : Int), some ((k : Int) + 1)), (some 0, some 1))
theorem mB_any (n : Nat) (x y : Int) : ((mB n).any fun b => inBox b x y) = inBox ((some 0, some (n : Int)), (some 0, some 1)) x y := by
  refine Bool.eq_iff_iff.mpr ⟨fun h => ?_, fun h => ?_⟩
  · obtain ⟨b, hb, h2⟩ := List.any_eq_true.mp h
    obtain ⟨k, hk, rfl⟩ := List.mem_map.mp hb
    have := List.mem_range.mp hk
    simp [inBox, lies, lowOk, highOk] at h2 ⊢
    omega
  · simp [inBox, lies, lowOk, highOk] at h
    refine List.any_eq_true.mpr ⟨_, List.mem_map.mpr ⟨x.toNat, List.mem_range.mpr (by omega), rfl⟩, ?_⟩
    simp [inBox, lies, lowOk, highOk]
    omega
theorem strOk_bx : PyData.strOk "part" = true ∧ PyData.strOk "boxes" = true := by decide +kernel
theorem strOk_mn : PyData.strOk "many" = true := by decide +kernel
theorem mB_len {n : Nat} : (mB n).length = n := by simp [mB]
theorem mB_succ {n : Nat} : mB (n + 1) = mB n ++ [((some (n : Int), some ((n : Int) + 1)), (some 0, some 1))] := by simp [mB, List.range_succ]
theorem mB_ok {n : Nat} : ∀ b ∈ mB n, okBox b := fun b hb => by
  obtain ⟨k, _, rfl⟩ := List.mem_map.mp hb
  exact ⟨fun l h e1 e2 => by cases e1; cases e2; omega, fun l h e1 e2 => by cases e1; cases e2; omega⟩
theorem mB_take {m n : Nat} (h : m ≤ n) : (mB n).take m = mB m := by unfold mB; rw [← List.map_take, List.take_range, Nat.min_eq_left h]
theorem BxAt.take {H : Hp} {xs : List V} {B : List Box} (h : BxAt H xs B) (n : Nat) : BxAt H (xs.take n) (B.take n) := ⟨by rw [List.length_take, List.length_take, h.1], fun i b hi => by
  rw [List.getElem?_take] at hi
  split at hi
  · rename_i c
    obtain ⟨t, e1, e2⟩ := h.2 i b hi
    exact ⟨t, by rw [List.getElem?_take, if_pos c]; exact e1, e2⟩
  · cases hi⟩
/-- all but the pool and the tables stays -/
def ExP (a : Addr) (H H' : Hp) : Prop := ∀ b o, H b = some o → b ≠ a → (∀ ps, o ≠ .tbl ps) → H' b = some o
theorem ExP.of {a : Addr} {H H' : Hp} (e : ExtN H H') : ExP a H H' := fun b o h _ m => e b o h m
theorem ExP.stp {a : Addr} {H H' : Hp} (e : StpP a H H') : ExP a H H' := fun b o h n _ => e b o h n
theorem ExP.trans {a : Addr} {H H1 H2 : Hp} (x : ExP a H H1) (y : ExP a H1 H2) : ExP a H H2 := fun b o h n m => y b o (x b o h n m) n m
def spRefd (K : PySem.W.Frag) : Sp := fun vs H Q _ => ∃ a L, vs = [.ref a, .ref L] ∧ ∃ xs B, Po H a ∧ L ≠ a ∧ H L = some (.lst xs) ∧ BxAt H xs B ∧ B.length ≤ 6 ∧ (∀ b ∈ B, okBox b) ∧ Tabs (Tb1 K) H ∧ ∀ H', ExP a H H' → Tabs (Tb1 K) H' → Q (.bl true) H'
theorem o__law_refused (T : Txt K mg) (TB : TabB base mg (cOf K "_law_refused") (pOf K "_law_refused")) : OkF P w K mg base (L2.CX P w) 13 "_law_refused" ["_law_source", "_law_boxes_here"] (spRefd K) := by
  have o__law_one := o__law_one (P := P) (w := w) (base := base) T
  have o__law_take := o__law_take (P := P) (w := w) (base := base) T
  obtain ⟨t0, e0, o_Region⟩ := o_Region (P := P) (w := w) (base := base) (mg := mg) (K := K) T
  have o_Region___eq__ := o_Region___eq__ (P := P) (w := w) (base := base) T
  refine T.lam__law_refused.okF sc__law_refused (fun _ _ _ _ _ _ us hl => match us, hl with | [_, _], _ => rfl) (fun vs H Q E h => ?_) (fun f A outer s H vs Q E hr h => ?_)
  · first | (obtain ⟨_, rfl, _⟩ := h; rfl) | (obtain ⟨rfl, _⟩ := h; rfl) | (obtain ⟨_, _, rfl, _⟩ := h; rfl) | (obtain ⟨_, _, _, rfl, _⟩ := h; rfl) | (obtain ⟨_, _, _, _, rfl, _⟩ := h; rfl) | (obtain ⟨_, _, _, _, _, rfl, _⟩ := h; rfl) | (obtain ⟨_, _, _, _, _, _, rfl, _⟩ := h; rfl) | (obtain ⟨_, _, _, _, _, _, _, rfl, _⟩ := h; rfl)
  have hu64 := hr.units
  refine ⟨_, pss_cons (ps_set (i := 2) sc__law_refused.nd rfl (Or.inl rfl) (pe_lstN (pa_cons (pe_non) (pa_cons (pe_int) (pa_cons (pe_tupN (pa_cons (pe_int) (pa_cons (pe_int) (pa_cons (pe_int) pa_nil)))) (pa_cons (pe_lstN (pa_cons (pe_int) (pa_cons (pe_int) (pa_cons (pe_int) (pa_cons (pe_int) pa_nil))))) (pa_cons (pe_tupN (pa_cons (pe_int) (pa_cons (pe_int) (pa_cons (pe_int) (pa_cons (pe_int) pa_nil))))) (pa_cons (pe_tupN (pa_cons (pe_int) (pa_cons (pe_int) (pa_cons (pe_int) (pa_cons (pe_int) pa_nil))))) (pa_cons (pe_tupN (pa_cons (pe_int) (pa_cons (pe_int) (pa_cons (pe_int) (pa_cons (pe_int) pa_nil))))) (pa_cons (pe_tupN (pa_cons (pe_int) (pa_cons (pe_int) (pa_cons (pe_int) (pa_cons (pe_str) pa_nil))))) (pa_cons (pe_tupN (pa_cons (pe_int) (pa_cons (pe_bl) (pa_cons (pe_int) (pa_cons (pe_int) pa_nil))))) pa_nil)))))))))))
      (pss_cons (ps_asg (pe_tupN (pa_cons (pcl o__law_one (hr.mono (by decide)) pass0 (pa_cons (pv 0) (pa_cons (pv 2) pa_nil))) (pa_cons (pcl o__law_take (hr.mono (by decide)) pass0 (pa_cons (pv 0) (pa_cons (pe_op op_add (pe_callB call_lenL (by rfl) T.m_len (by decide +kernel) (pa_cons (pv 1) pa_nil)) (pe_int)) pa_nil))) pa_nil))) (pg_tupN (n := 2) (by rfl) (pgs_cons (pg_name (i := 5) sc__law_refused.nd rfl (Or.inr rfl)) (pgs_cons (pg_name (i := 3) sc__law_refused.nd rfl (Or.inr rfl)) pgs_nil))))
      (pss_cons (ps_cut (ps_if (pt_cmpR (op_neDk (K := K) rfl hu64) (plamT (k := 10) (qn := qn__law_refused) (TS := (Tb1 K)) T.d__law_caught sc__law_caught (fun _ _ _ _ _ _ us hl => match us, hl with | [_], _ => rfl) (fun g cdg => caught_gives T) (.head _) hu_rf TB rfl rfl (hr.mono (by decide)) (by show lamSB (defScope s__law_refused) _ = true; decide +kernel) (fun A outer s H E f c hr2 => by exact (pmk (j := 1) o_Region (show _ ≤ 1 by decide) (hr2.mono (by decide)) passLam (pa_cons (pe_op op_catN (pe_op op_catN (pe_slice (sl_listNk (K := K) rfl) (pv 1) (po_none) (po_some (pv 3))) (pe_lstN (pa_cons (pv 5) (pa_cons (pe_non) pa_nil)))) (pe_slice (sl_listNk (K := K) rfl) (pv 1) (po_some (pv 3)) (po_none))) pa_nil)))) (pe_lstN (pa_cons (pe_str) (pa_cons (pv 3) pa_nil))) (nomark _)) (pss_one (ps_ret (pe_bl))) (pss_nil)))
      (pss_cons (ps_for (passes_of rfl) rfl (pi_list (pe_lstN (pa_cons (pe_non) (pa_cons (pe_int) (pa_cons (pe_str) (pa_cons (L2.pe_dnewK) pa_nil)))))) (pg_name (i := 6) sc__law_refused.nd rfl (Or.inr rfl)) (pss_one (ps_if (pt_cmpR (op_neDk (K := K) rfl hu64) (plamT (k := 10) (qn := qn__law_refused) (TS := (Tb1 K)) T.d__law_caught sc__law_caught (fun _ _ _ _ _ _ us hl => match us, hl with | [_], _ => rfl) (fun g cdg => caught_gives T) (.head _) hu_rf TB rfl rfl (hr.mono (by decide)) (by show lamSB (defScope s__law_refused) _ = true; decide +kernel) (fun A outer s H E f c hr2 => by exact (pmk (j := 1) o_Region (show _ ≤ 1 by decide) (hr2.mono (by decide)) passLam (pa_cons (pv 6) pa_nil)))) (pe_lstN (pa_cons (pe_str) (pa_cons (pe_str) pa_nil))) (nomark _)) (pss_one (ps_ret (pe_bl))) (pss_nil))))
      (pss_cons (ps_set (i := 4) sc__law_refused.nd rfl (Or.inr rfl) (pe_lc (own := [("_law_k", 7)]) (g := gName 7) (by rfl) sc__law_refused.nd (pi_range1 (by rfl) T.m_range (pa_cons (pe_int) pa_nil)) (blkOk_by (N := ["_law_source", "_law_boxes_here", "_law_some", "_law_at", "_law_many", "_law_odd", "_law_thing", "_law_k"]) (sc := defScope s__law_refused) (own := [("_law_k", 7)]) (by decide +kernel)) (fun _ _ _ _ _ => pg_name (i := 7) sc__law_refused.nd rfl (Or.inl rfl)) (fun _ _ _ _ _ => pts_nil) (fun _ _ _ _ _ => pe_tupN (pa_cons (pv 7) (pa_cons (pe_op op_add (pv 7) (pe_int)) (pa_cons (pe_int) (pa_cons (pe_int) pa_nil)))))))
      (pss_cons (ps_cut (ps_if (pt_cmpR (op_neDk (K := K) rfl hu64) (plamT (k := 10) (qn := qn__law_refused) (TS := (Tb1 K)) T.d__law_caught sc__law_caught (fun _ _ _ _ _ _ us hl => match us, hl with | [_], _ => rfl) (fun g cdg => caught_gives T) (.head _) hu_rf TB rfl rfl (hr.mono (by decide)) (by show lamSB (defScope s__law_refused) _ = true; decide +kernel) (fun A outer s H E f c hr2 => by exact (pmk (j := 1) o_Region (show _ ≤ 1 by decide) (hr2.mono (by decide)) passLam (pa_cons (pv 4) pa_nil)))) (pe_lstN (pa_cons (pe_str) (pa_cons (pe_int) pa_nil))) (nomark _)) (pss_one (ps_ret (pe_bl))) (pss_nil)))
      (pss_cons (ps_cut (ps_if (pt_cmpR (op_neDk (K := K) rfl hu64) (plamT (k := 10) (qn := qn__law_refused) (TS := (Tb1 K)) T.d__law_caught sc__law_caught (fun _ _ _ _ _ _ us hl => match us, hl with | [_], _ => rfl) (fun g cdg => caught_gives T) (.head _) hu_rf TB rfl rfl (hr.mono (by decide)) (by show lamSB (defScope s__law_refused) _ = true; decide +kernel) (fun A outer s H E f c hr2 => by exact (pmk (j := 1) o_Region (show _ ≤ 1 by decide) (hr2.mono (by decide)) passLam (pa_cons (pe_op op_catN (pv 4) (pe_lstN (pa_cons (pv 5) pa_nil))) pa_nil)))) (pe_lstN (pa_cons (pe_str) (pa_cons (pe_int) pa_nil))) (nomark _)) (pss_one (ps_ret (pe_bl))) (pss_nil)))
      (pss_one (ps_ret (pe_cmpR (op_own (fun _ _ => rfl) o_Region___eq__ rfl (hr.mono (by decide)) pass0) (pmk (j := 1) o_Region (show _ ≤ 1 by decide) (hr.mono (by decide)) passE (pa_cons (pe_slice sl_listN (pv 4) (po_none) (po_some (pe_int))) pa_nil)) (pmk (j := 1) o_Region (show _ ≤ 1 by decide) (hr.mono (by decide)) passE (pa_cons (pe_lstN (pa_cons (pe_tupN (pa_cons (pe_int) (pa_cons (pe_int) (pa_cons (pe_int) (pa_cons (pe_int) pa_nil))))) pa_nil)) pa_nil)) (nomark _)))))))))), ?_⟩
  obtain ⟨a, L, rfl, xs, B, hP, La, hL, hb, bl, ok, hT, k⟩ := h
  simp only [spOne, spTake, tDNewK, exists_and_left, tD1, rTupN, rAll, rMax2, rMin2, tSl, tPart, tNoPart, rSlLN, tYes, rLenS, rRepN, unset, tEv2, calmS, tDNew, rInDN, rIxDN, rSetDN, tDN1, tDGetN, rSorted, cx_K, Value.ref.injEq, HO.xd.injEq, lk0, tSeq, tPar3, tPar, tCons, tNil, tVar, tC, tAsg, gName, gCons, gNil, gTupN, gSub, tOp, rI, rI0, rU, tTest, rNe, rEq, rIxTN, rIxLN, rLenL, rLenT, tLstRg, tRg1, tRg2, rIntI, rIntB, rAbs, rSetLN, tTruL, tRaiseX, rIsTy, rIsOw, ixN0, ixN1, tRet, tIf, tIfS, tNext, tBreak, tCont, tDrop, tTupN, tLstN, tUn, tCB, tCall, tNot, tAnd, tOr, tB, tAndV, tOrV, tNotV, tChain, tApp, LamX.tLam, tRevLN, rCatN, rInTN, rInLN, flatV, inV, List.all_cons, List.all_nil, List.any_cons, List.any_nil, Bool.and_self, Bool.and_true, if_true, Bool.false_eq_true, if_false, tMt, tFldN, tSto, HO.ins.injEq, lkh, List.drop_zero, List.drop_succ_cons, List.drop_nil, rListS, wipe, L2.start, List.map_cons, List.map_nil, List.length_cons, List.length_nil, List.replicate, List.cons_append, List.nil_append, List.append_nil, Nat.reduceAdd, Nat.reduceSub, Nat.zero_add, List.replicate_succ, List.replicate_zero, List.getElem?_cons_zero, List.getElem?_cons_succ, List.set_cons_zero, List.set_cons_succ, Option.some.injEq, V.int.injEq, V.bl.injEq, V.ref.injEq, V.str.injEq, V.ty.injEq, List.cons.injEq, HO.tup.injEq, HO.lst.injEq, and_true, true_and, and_assoc, exists_eq_left, exists_eq_left', exists_and_left, exists_eq', atI0, atI1, atI2, atI3, Int.cast_ofNat_Int, Int.reduceToNat, scal_ii, scal_in, scal_ni, scal_nn, scal_bb, scal_ss, scal_sn, scal_ns, scal_bn, scal_nb, ite_iff, decide_eq_true_eq, decide_eq_false_iff_not, Bool.not_eq_true', Classical.not_not, ne_eq, not_false_eq_true, not_true_eq_false, forall_const, true_implies, false_implies, imp_self, sizeLine_eq, Nat.reduceLeDiff, reduceCtorEq, decide_true, decide_false]
  intro p1 G1 _ r1 e1 p2 G2 _ r2 e2 p3 G3 _ r3 e3 p4 G4 _ r4 e4 p5 G5 _ r5 e5 p6 G6 _ r6 e6 p7 G7 _ r7 e7 p8 G8 n8 r8 e8
  have q78 := r7.trans r8
  have q68 := r6.trans q78
  have q58 := r5.trans q68
  have q48 := r4.trans q58
  have q38 := r3.trans q48
  have q28 := r2.trans q38
  have s08 : Same H G8 := r1.trans q28
  have P8 := hP.same s08
  have odd : ∀ v ∈ [V.non, V.int 5, V.ref p1, V.ref p2, V.ref p3, V.ref p4, V.ref p5, V.ref p6, V.ref p7], OddB G8 v := fun v hv => by
    simp only [List.mem_cons, List.not_mem_nil, or_false] at hv
    rcases hv with rfl | rfl | rfl | rfl | rfl | rfl | rfl | rfl | rfl
    · exact .non
    · exact .int 5
    · exact .tup (q28 _ _ e1) rfl (by simp)
    · exact .lst (q38 _ _ e2)
    · exact .tup (q48 _ _ e3) rfl (by simp)
    · exact .tup (q58 _ _ e4) rfl (by simp)
    · exact .tup (q68 _ _ e5) rfl (by simp)
    · exact .tup (q78 _ _ e6) rfl (by simp)
    · exact .tup (r8 _ _ e7) rfl (by simp)
  have La8 : p8 ≠ a := P8.neL e8 (by simp)
  refine ⟨p8, rfl, P8, La8, _, e8, by simp, by simp, fun v G9 hv P9 t9 => ?_⟩
  have o9 := (odd v hv).stp P8 t9
  have hL9 := t9 _ _ (s08 _ _ hL) La
  have hb9 := hb.keep ((Kt.same s08).trans (StpP.kt P8 t9))
  have T9 : Tabs (Tb1 K) G9 := Tabs.stpP (Tabs.ext hT s08) P8 t9
  refine ⟨_, hL9, P9, by omega, by have := hb.1; omega, fun d G10 d0 d1 P10 t10 => ?_⟩
  have o10 := o9.stp P9 t10
  have hL10 := t10 _ _ hL9 La
  have hb10 := hb9.keep (StpP.kt P9 t10)
  have T10 : Tabs (Tb1 K) G10 := Tabs.stpP T9 P9 t10
  intro p11 G11 _ r11 e11
  clear hv odd e1 e2 e3 e4 e5 e6 e7 e8 r1 r2 r3 r4 r5 r6 r7 r8 q28 q38 q48 q58 q68 q78
  have lx := hb.1
  refine ⟨p11, rfl, _, e11, rfl, _, _, rfl, _, _, rfl, rfl, ?_⟩
  have hL11 := r11 _ _ hL10
  have hb11 := hb10.keep (Kt.same r11)
  have o11 := o10.ext (extS r11)
  have T11 : Tabs (Tb1 K) G11 := Tabs.ext T10 r11
  have z11 : ExP a H G11 := (((ExP.of (extS s08)).trans (ExP.stp t9)).trans (ExP.stp t10)).trans (ExP.of (extS r11))
  clear e11 r11
  refine ⟨fun σ' H' => σ' = [some (V.ref a), some (V.ref L), some (V.ref p8), some (V.int d), none, some v, none, none] ∧ ExtN G11 H' ∧ Tabs (Tb1 K) H', ?_, ?_⟩
  · simp only [exists_and_left, tD1, rTupN, rAll, rMax2, rMin2, tSl, tPart, tNoPart, rSlLN, tYes, rLenS, rRepN, unset, tEv2, calmS, tDNew, rInDN, rIxDN, rSetDN, tDN1, tDGetN, rSorted, cx_K, Value.ref.injEq, HO.xd.injEq, lk0, tSeq, tPar3, tPar, tCons, tNil, tVar, tC, tAsg, gName, gCons, gNil, gTupN, gSub, tOp, rI, rI0, rU, tTest, rNe, rEq, rIxTN, rIxLN, rLenL, rLenT, tLstRg, tRg1, tRg2, rIntI, rIntB, rAbs, rSetLN, tTruL, tRaiseX, rIsTy, rIsOw, ixN0, ixN1, tRet, tIf, tIfS, tNext, tBreak, tCont, tDrop, tTupN, tLstN, tUn, tCB, tCall, tNot, tAnd, tOr, tB, tAndV, tOrV, tNotV, tChain, tApp, LamX.tLam, tRevLN, rCatN, rInTN, rInLN, flatV, inV, List.all_cons, List.all_nil, List.any_cons, List.any_nil, Bool.and_self, Bool.and_true, if_true, Bool.false_eq_true, if_false, tMt, tFldN, tSto, HO.ins.injEq, lkh, List.drop_zero, List.drop_succ_cons, List.drop_nil, rListS, wipe, L2.start, List.map_cons, List.map_nil, List.length_cons, List.length_nil, List.replicate, List.cons_append, List.nil_append, List.append_nil, Nat.reduceAdd, Nat.reduceSub, Nat.zero_add, List.replicate_succ, List.replicate_zero, List.getElem?_cons_zero, List.getElem?_cons_succ, List.set_cons_zero, List.set_cons_succ, Option.some.injEq, V.int.injEq, V.bl.injEq, V.ref.injEq, V.str.injEq, V.ty.injEq, List.cons.injEq, HO.tup.injEq, HO.lst.injEq, and_true, true_and, and_assoc, exists_eq_left, exists_eq_left', exists_and_left, exists_eq', atI0, atI1, atI2, atI3, Int.cast_ofNat_Int, Int.reduceToNat, scal_ii, scal_in, scal_ni, scal_nn, scal_bb, scal_ss, scal_sn, scal_ns, scal_bn, scal_nb, ite_iff, decide_eq_true_eq, decide_eq_false_iff_not, Bool.not_eq_true', Classical.not_not, ne_eq, not_false_eq_true, not_true_eq_false, forall_const, true_implies, false_implies, imp_self, sizeLine_eq, Nat.reduceLeDiff, reduceCtorEq, decide_true, decide_false]
    refine told_idx (v := .int d) T11 (fun H1 Q1 E1 x1 rs => ?_) (fun H2 q x2 T2 h2 => ?_)
    · have hL1 := x1 _ _ hL11 (fun _ z => by cases z)
      simp only [hL1, spReg, exists_and_left, tD1, rTupN, rAll, rMax2, rMin2, tSl, tPart, tNoPart, rSlLN, tYes, rLenS, rRepN, unset, tEv2, calmS, tDNew, rInDN, rIxDN, rSetDN, tDN1, tDGetN, rSorted, cx_K, Value.ref.injEq, HO.xd.injEq, lk0, tSeq, tPar3, tPar, tCons, tNil, tVar, tC, tAsg, gName, gCons, gNil, gTupN, gSub, tOp, rI, rI0, rU, tTest, rNe, rEq, rIxTN, rIxLN, rLenL, rLenT, tLstRg, tRg1, tRg2, rIntI, rIntB, rAbs, rSetLN, tTruL, tRaiseX, rIsTy, rIsOw, ixN0, ixN1, tRet, tIf, tIfS, tNext, tBreak, tCont, tDrop, tTupN, tLstN, tUn, tCB, tCall, tNot, tAnd, tOr, tB, tAndV, tOrV, tNotV, tChain, tApp, LamX.tLam, tRevLN, rCatN, rInTN, rInLN, flatV, inV, List.all_cons, List.all_nil, List.any_cons, List.any_nil, Bool.and_self, Bool.and_true, if_true, Bool.false_eq_true, if_false, tMt, tFldN, tSto, HO.ins.injEq, lkh, List.drop_zero, List.drop_succ_cons, List.drop_nil, rListS, wipe, L2.start, List.map_cons, List.map_nil, List.length_cons, List.length_nil, List.replicate, List.cons_append, List.nil_append, List.append_nil, Nat.reduceAdd, Nat.reduceSub, Nat.zero_add, List.replicate_succ, List.replicate_zero, List.getElem?_cons_zero, List.getElem?_cons_succ, List.set_cons_zero, List.set_cons_succ, Option.some.injEq, V.int.injEq, V.bl.injEq, V.ref.injEq, V.str.injEq, V.ty.injEq, List.cons.injEq, HO.tup.injEq, HO.lst.injEq, and_true, true_and, and_assoc, exists_eq_left, exists_eq_left', exists_and_left, exists_eq', atI0, atI1, atI2, atI3, Int.cast_ofNat_Int, Int.reduceToNat, scal_ii, scal_in, scal_ni, scal_nn, scal_bb, scal_ss, scal_sn, scal_ns, scal_bn, scal_nb, ite_iff, decide_eq_true_eq, decide_eq_false_iff_not, Bool.not_eq_true', Classical.not_not, ne_eq, not_false_eq_true, not_true_eq_false, forall_const, true_implies, false_implies, imp_self, sizeLine_eq, Nat.reduceLeDiff, reduceCtorEq, decide_true, decide_false]
      refine ⟨_, SqL.of hL1, ?_⟩
      intro m1 M1 _ w1 f1 m2 M2 _ w2 f2
      refine ⟨m1, rfl, m2, rfl, _, w2 _ _ f1, _, f2, by have := cutV_len xs none (some d); simp; omega, ?_⟩
      intro m3 M3 _ w3 f3
      have w13 := (w1.trans w2).trans w3
      refine ⟨_, SqL.of (w13 _ _ hL1), ?_⟩
      intro m4 M4 _ w4 f4
      refine ⟨m3, rfl, m4, rfl, _, w4 _ _ f3, _, f4, by have := cutV_len xs none (some d); have := cutV_len xs (some d) none; simp; omega, ?_⟩
      intro m5 M5 _ w5 f5
      have w15 := (w13.trans w4).trans w5
      rw [cutV_to d0 (by omega), cutV_from d0 (by omega)] at f5
      refine ⟨⟨_, .base (.lst f5), T.kM_list⟩, .inr (.inl ⟨m5, _, d.toNat, v, rfl, .inl f5, ?_, (o11.ext (x1.trans (extS w15))).k, (o11.ext (x1.trans (extS w15))).n, fun j y hj hy => ?_, ?_⟩)⟩
      · rw [List.append_assoc, List.getElem?_append_right (by rw [List.length_take]; omega), List.length_take, show d.toNat - min d.toNat xs.length = 0 by omega]; rfl
      · rw [List.append_assoc, List.getElem?_append_left (by rw [List.length_take]; omega), List.getElem?_take, if_pos hj] at hy
        exact ((hb11.ext x1).keep (Kt.same w15)).box ok hy
      · rw [show ((d.toNat : Nat) : Int) = d by omega]; exact rs.mono w15
    · intro e H3 _ s3 h3
      exact ne_sameN (dp_si (s3 _ _ h2)) (dp_si h3) (sh_si (n := 0) strOk_ix) ⟨false, rfl, fun e => (by cases e), fun _ => ⟨x2.trans (extS s3), Tabs.ext T2 s3⟩⟩
  · rintro _ H12 ⟨rfl, x12, T12⟩
    simp only [exists_and_left, tD1, rTupN, rAll, rMax2, rMin2, tSl, tPart, tNoPart, rSlLN, tYes, rLenS, rRepN, unset, tEv2, calmS, tDNew, rInDN, rIxDN, rSetDN, tDN1, tDGetN, rSorted, cx_K, Value.ref.injEq, HO.xd.injEq, lk0, tSeq, tPar3, tPar, tCons, tNil, tVar, tC, tAsg, gName, gCons, gNil, gTupN, gSub, tOp, rI, rI0, rU, tTest, rNe, rEq, rIxTN, rIxLN, rLenL, rLenT, tLstRg, tRg1, tRg2, rIntI, rIntB, rAbs, rSetLN, tTruL, tRaiseX, rIsTy, rIsOw, ixN0, ixN1, tRet, tIf, tIfS, tNext, tBreak, tCont, tDrop, tTupN, tLstN, tUn, tCB, tCall, tNot, tAnd, tOr, tB, tAndV, tOrV, tNotV, tChain, tApp, LamX.tLam, tRevLN, rCatN, rInTN, rInLN, flatV, inV, List.all_cons, List.all_nil, List.any_cons, List.any_nil, Bool.and_self, Bool.and_true, if_true, Bool.false_eq_true, if_false, tMt, tFldN, tSto, HO.ins.injEq, lkh, List.drop_zero, List.drop_succ_cons, List.drop_nil, rListS, wipe, L2.start, List.map_cons, List.map_nil, List.length_cons, List.length_nil, List.replicate, List.cons_append, List.nil_append, List.append_nil, Nat.reduceAdd, Nat.reduceSub, Nat.zero_add, List.replicate_succ, List.replicate_zero, List.getElem?_cons_zero, List.getElem?_cons_succ, List.set_cons_zero, List.set_cons_succ, Option.some.injEq, V.int.injEq, V.bl.injEq, V.ref.injEq, V.str.injEq, V.ty.injEq, List.cons.injEq, HO.tup.injEq, HO.lst.injEq, and_true, true_and, and_assoc, exists_eq_left, exists_eq_left', exists_and_left, exists_eq', atI0, atI1, atI2, atI3, Int.cast_ofNat_Int, Int.reduceToNat, scal_ii, scal_in, scal_ni, scal_nn, scal_bb, scal_ss, scal_sn, scal_ns, scal_bn, scal_nb, ite_iff, decide_eq_true_eq, decide_eq_false_iff_not, Bool.not_eq_true', Classical.not_not, ne_eq, not_false_eq_true, not_true_eq_false, forall_const, true_implies, false_implies, imp_self, sizeLine_eq, Nat.reduceLeDiff, reduceCtorEq, decide_true, decide_false]
    refine for_inL ?_
    simp only [tDNewK, exists_and_left, tD1, rTupN, rAll, rMax2, rMin2, tSl, tPart, tNoPart, rSlLN, tYes, rLenS, rRepN, unset, tEv2, calmS, tDNew, rInDN, rIxDN, rSetDN, tDN1, tDGetN, rSorted, cx_K, Value.ref.injEq, HO.xd.injEq, lk0, tSeq, tPar3, tPar, tCons, tNil, tVar, tC, tAsg, gName, gCons, gNil, gTupN, gSub, tOp, rI, rI0, rU, tTest, rNe, rEq, rIxTN, rIxLN, rLenL, rLenT, tLstRg, tRg1, tRg2, rIntI, rIntB, rAbs, rSetLN, tTruL, tRaiseX, rIsTy, rIsOw, ixN0, ixN1, tRet, tIf, tIfS, tNext, tBreak, tCont, tDrop, tTupN, tLstN, tUn, tCB, tCall, tNot, tAnd, tOr, tB, tAndV, tOrV, tNotV, tChain, tApp, LamX.tLam, tRevLN, rCatN, rInTN, rInLN, flatV, inV, List.all_cons, List.all_nil, List.any_cons, List.any_nil, Bool.and_self, Bool.and_true, if_true, Bool.false_eq_true, if_false, tMt, tFldN, tSto, HO.ins.injEq, lkh, List.drop_zero, List.drop_succ_cons, List.drop_nil, rListS, wipe, L2.start, List.map_cons, List.map_nil, List.length_cons, List.length_nil, List.replicate, List.cons_append, List.nil_append, List.append_nil, Nat.reduceAdd, Nat.reduceSub, Nat.zero_add, List.replicate_succ, List.replicate_zero, List.getElem?_cons_zero, List.getElem?_cons_succ, List.set_cons_zero, List.set_cons_succ, Option.some.injEq, V.int.injEq, V.bl.injEq, V.ref.injEq, V.str.injEq, V.ty.injEq, List.cons.injEq, HO.tup.injEq, HO.lst.injEq, and_true, true_and, and_assoc, exists_eq_left, exists_eq_left', exists_and_left, exists_eq', atI0, atI1, atI2, atI3, Int.cast_ofNat_Int, Int.reduceToNat, scal_ii, scal_in, scal_ni, scal_nn, scal_bb, scal_ss, scal_sn, scal_ns, scal_bn, scal_nb, ite_iff, decide_eq_true_eq, decide_eq_false_iff_not, Bool.not_eq_true', Classical.not_not, ne_eq, not_false_eq_true, not_true_eq_false, forall_const, true_implies, false_implies, imp_self, sizeLine_eq, Nat.reduceLeDiff, reduceCtorEq, decide_true, decide_false]
    intro pd nd pL H13 _ s13 h13
    have hd13 := s13 _ _ (upd_same (H := H12) (a := pd) (o := .dK []))
    have x13 : ExtN H12 H13 := extS ((Same.upd nd).trans s13)
    have T13 : Tabs (Tb1 K) H13 := Tabs.ext T12 ((Same.upd nd).trans s13)
    refine st_forL (fun R r => r) h13 (fun i σ' H' => ∃ x6, σ' = [some (V.ref a), some (V.ref L), some (V.ref p8), some (V.int d), none, some v, x6, none] ∧ ExtN H13 H' ∧ Tabs (Tb1 K) H') ⟨_, rfl, ExtN.refl _, T13⟩ (fun i σ' H' h => by obtain ⟨_, _, h, _⟩ := h; exact h _ _ h13 (fun _ z => by cases z)) ?_ ?_
    · rintro i z _ H14 hi ⟨x6, rfl, x14, T14⟩
      have hz : ∀ G : Hp, G pd = some (.dK []) → NoRow K G z ∧ NoMd K G z := fun G hG => by
        have := List.mem_of_getElem? hi
        simp only [List.mem_cons, List.not_mem_nil, or_false] at this
        rcases this with rfl | rfl | rfl | rfl
        · exact ⟨⟨_, .base .non, kitAny_no (kit_ty (by decide +kernel)) (kit_ty (by decide +kernel))⟩, ⟨_, .base .non, T.kM_NoneType⟩⟩
        · exact ⟨⟨_, .base (.int _), kitAny_no (kit_ty (by decide +kernel)) (kit_ty (by decide +kernel))⟩, ⟨_, .base (.int _), T.kM_int⟩⟩
        · exact ⟨⟨_, .base (.str _), kitAny_no (kit_ty (by decide +kernel)) (kit_ty (by decide +kernel))⟩, ⟨_, .base (.str _), T.kM_str⟩⟩
        · exact ⟨⟨_, .base (.dK hG), kitAny_no (kit_ty (by decide +kernel)) (kit_ty (by decide +kernel))⟩, ⟨_, .base (.dK hG), T.kM_dict⟩⟩
      clear hi
      simp only [exists_and_left, tD1, rTupN, rAll, rMax2, rMin2, tSl, tPart, tNoPart, rSlLN, tYes, rLenS, rRepN, unset, tEv2, calmS, tDNew, rInDN, rIxDN, rSetDN, tDN1, tDGetN, rSorted, cx_K, Value.ref.injEq, HO.xd.injEq, lk0, tSeq, tPar3, tPar, tCons, tNil, tVar, tC, tAsg, gName, gCons, gNil, gTupN, gSub, tOp, rI, rI0, rU, tTest, rNe, rEq, rIxTN, rIxLN, rLenL, rLenT, tLstRg, tRg1, tRg2, rIntI, rIntB, rAbs, rSetLN, tTruL, tRaiseX, rIsTy, rIsOw, ixN0, ixN1, tRet, tIf, tIfS, tNext, tBreak, tCont, tDrop, tTupN, tLstN, tUn, tCB, tCall, tNot, tAnd, tOr, tB, tAndV, tOrV, tNotV, tChain, tApp, LamX.tLam, tRevLN, rCatN, rInTN, rInLN, flatV, inV, List.all_cons, List.all_nil, List.any_cons, List.any_nil, Bool.and_self, Bool.and_true, if_true, Bool.false_eq_true, if_false, tMt, tFldN, tSto, HO.ins.injEq, lkh, List.drop_zero, List.drop_succ_cons, List.drop_nil, rListS, wipe, L2.start, List.map_cons, List.map_nil, List.length_cons, List.length_nil, List.replicate, List.cons_append, List.nil_append, List.append_nil, Nat.reduceAdd, Nat.reduceSub, Nat.zero_add, List.replicate_succ, List.replicate_zero, List.getElem?_cons_zero, List.getElem?_cons_succ, List.set_cons_zero, List.set_cons_succ, Option.some.injEq, V.int.injEq, V.bl.injEq, V.ref.injEq, V.str.injEq, V.ty.injEq, List.cons.injEq, HO.tup.injEq, HO.lst.injEq, and_true, true_and, and_assoc, exists_eq_left, exists_eq_left', exists_and_left, exists_eq', atI0, atI1, atI2, atI3, Int.cast_ofNat_Int, Int.reduceToNat, scal_ii, scal_in, scal_ni, scal_nn, scal_bb, scal_ss, scal_sn, scal_ns, scal_bn, scal_nb, ite_iff, decide_eq_true_eq, decide_eq_false_iff_not, Bool.not_eq_true', Classical.not_not, ne_eq, not_false_eq_true, not_true_eq_false, forall_const, true_implies, false_implies, imp_self, sizeLine_eq, Nat.reduceLeDiff, reduceCtorEq, decide_true, decide_false]
      have hd14 := x14 _ _ hd13 (fun _ z => by cases z)
      refine told_part (v := .str "boxes") T14 (fun H1 Q1 E1 x1 rs => ?_) (fun H2 q x2 T2 h2 => ?_)
      · obtain ⟨n1, n2⟩ := hz H1 (x1 _ _ hd14 (fun _ z => by cases z))
        exact ⟨z, rfl, n2, .inl ⟨n1, rs⟩⟩
      · intro e H3 _ s3 h3
        exact ne_sameN (dp_l2 (s3 _ _ h2)) (dp_l2 h3) (sh_l2 (n := 0) strOk_bx.1 strOk_bx.2) ⟨false, rfl, fun e => (by cases e), fun _ => ⟨(x14.trans x2).trans (extS s3), Tabs.ext T2 s3⟩⟩
    · rintro _ H14 ⟨x6, rfl, x14, T14⟩
      simp only [exists_and_left, tD1, rTupN, rAll, rMax2, rMin2, tSl, tPart, tNoPart, rSlLN, tYes, rLenS, rRepN, unset, tEv2, calmS, tDNew, rInDN, rIxDN, rSetDN, tDN1, tDGetN, rSorted, cx_K, Value.ref.injEq, HO.xd.injEq, lk0, tSeq, tPar3, tPar, tCons, tNil, tVar, tC, tAsg, gName, gCons, gNil, gTupN, gSub, tOp, rI, rI0, rU, tTest, rNe, rEq, rIxTN, rIxLN, rLenL, rLenT, tLstRg, tRg1, tRg2, rIntI, rIntB, rAbs, rSetLN, tTruL, tRaiseX, rIsTy, rIsOw, ixN0, ixN1, tRet, tIf, tIfS, tNext, tBreak, tCont, tDrop, tTupN, tLstN, tUn, tCB, tCall, tNot, tAnd, tOr, tB, tAndV, tOrV, tNotV, tChain, tApp, LamX.tLam, tRevLN, rCatN, rInTN, rInLN, flatV, inV, List.all_cons, List.all_nil, List.any_cons, List.any_nil, Bool.and_self, Bool.and_true, if_true, Bool.false_eq_true, if_false, tMt, tFldN, tSto, HO.ins.injEq, lkh, List.drop_zero, List.drop_succ_cons, List.drop_nil, rListS, wipe, L2.start, List.map_cons, List.map_nil, List.length_cons, List.length_nil, List.replicate, List.cons_append, List.nil_append, List.append_nil, Nat.reduceAdd, Nat.reduceSub, Nat.zero_add, List.replicate_succ, List.replicate_zero, List.getElem?_cons_zero, List.getElem?_cons_succ, List.set_cons_zero, List.set_cons_succ, Option.some.injEq, V.int.injEq, V.bl.injEq, V.ref.injEq, V.str.injEq, V.ty.injEq, List.cons.injEq, HO.tup.injEq, HO.lst.injEq, and_true, true_and, and_assoc, exists_eq_left, exists_eq_left', exists_and_left, exists_eq', atI0, atI1, atI2, atI3, Int.cast_ofNat_Int, Int.reduceToNat, scal_ii, scal_in, scal_ni, scal_nn, scal_bb, scal_ss, scal_sn, scal_ns, scal_bn, scal_nb, ite_iff, decide_eq_true_eq, decide_eq_false_iff_not, Bool.not_eq_true', Classical.not_not, ne_eq, not_false_eq_true, not_true_eq_false, forall_const, true_implies, false_implies, imp_self, sizeLine_eq, Nat.reduceLeDiff, reduceCtorEq, decide_true, decide_false]
      have hL14 := x14 _ _ (x13 _ _ (x12 _ _ hL11 (fun _ z => by cases z)) (fun _ z => by cases z)) (fun _ z => by cases z)
      have o14 := ((o11.ext x12).ext x13).ext x14
      have z14 : ExP a H H14 := ((z11.trans (ExP.of x12)).trans (ExP.of x13)).trans (ExP.of x14)
      clear x12 x13 x14 T12 T13 hd13 h13 s13 nd T11 o11 hb11 hL11 o10 hL10 hb10 T10 o9 hL9 hb9 T9 s08
      refine st_lcR1 41 (by decide) (fun R r => (by simp only [exists_and_left, tD1, rTupN, rAll, rMax2, rMin2, tSl, tPart, tNoPart, rSlLN, tYes, rLenS, rRepN, unset, tEv2, calmS, tDNew, rInDN, rIxDN, rSetDN, tDN1, tDGetN, rSorted, cx_K, Value.ref.injEq, HO.xd.injEq, lk0, tSeq, tPar3, tPar, tCons, tNil, tVar, tC, tAsg, gName, gCons, gNil, gTupN, gSub, tOp, rI, rI0, rU, tTest, rNe, rEq, rIxTN, rIxLN, rLenL, rLenT, tLstRg, tRg1, tRg2, rIntI, rIntB, rAbs, rSetLN, tTruL, tRaiseX, rIsTy, rIsOw, ixN0, ixN1, tRet, tIf, tIfS, tNext, tBreak, tCont, tDrop, tTupN, tLstN, tUn, tCB, tCall, tNot, tAnd, tOr, tB, tAndV, tOrV, tNotV, tChain, tApp, LamX.tLam, tRevLN, rCatN, rInTN, rInLN, flatV, inV, List.all_cons, List.all_nil, List.any_cons, List.any_nil, Bool.and_self, Bool.and_true, if_true, Bool.false_eq_true, if_false, tMt, tFldN, tSto, HO.ins.injEq, lkh, List.drop_zero, List.drop_succ_cons, List.drop_nil, rListS, wipe, L2.start, List.map_cons, List.map_nil, List.length_cons, List.length_nil, List.replicate, List.cons_append, List.nil_append, List.append_nil, Nat.reduceAdd, Nat.reduceSub, Nat.zero_add, List.replicate_succ, List.replicate_zero, List.getElem?_cons_zero, List.getElem?_cons_succ, List.set_cons_zero, List.set_cons_succ, Option.some.injEq, V.int.injEq, V.bl.injEq, V.ref.injEq, V.str.injEq, V.ty.injEq, List.cons.injEq, HO.tup.injEq, HO.lst.injEq, and_true, true_and, and_assoc, exists_eq_left, exists_eq_left', exists_and_left, exists_eq', atI0, atI1, atI2, atI3, Int.cast_ofNat_Int, Int.reduceToNat, scal_ii, scal_in, scal_ni, scal_nn, scal_bb, scal_ss, scal_sn, scal_ns, scal_bn, scal_nb, ite_iff, decide_eq_true_eq, decide_eq_false_iff_not, Bool.not_eq_true', Classical.not_not, ne_eq, not_false_eq_true, not_true_eq_false, forall_const, true_implies, false_implies, imp_self, sizeLine_eq, Nat.reduceLeDiff, reduceCtorEq, decide_true, decide_false]; exact r)) (fun D i H' => H14 D = none ∧ Same H14 H' ∧ ∃ ys, H' D = some (.lst ys) ∧ BxAt H' ys (mB i)) (fun D H1 n s h => ⟨n, s, [], h, by simp [mB, BxAt]⟩) (fun D i H15 hi q => ?_) (fun D H15 q => ?_)
      · obtain ⟨nD, s5, ys, h5, b5⟩ := q
        simp only [exists_and_left, tD1, rTupN, rAll, rMax2, rMin2, tSl, tPart, tNoPart, rSlLN, tYes, rLenS, rRepN, unset, tEv2, calmS, tDNew, rInDN, rIxDN, rSetDN, tDN1, tDGetN, rSorted, cx_K, Value.ref.injEq, HO.xd.injEq, lk0, tSeq, tPar3, tPar, tCons, tNil, tVar, tC, tAsg, gName, gCons, gNil, gTupN, gSub, tOp, rI, rI0, rU, tTest, rNe, rEq, rIxTN, rIxLN, rLenL, rLenT, tLstRg, tRg1, tRg2, rIntI, rIntB, rAbs, rSetLN, tTruL, tRaiseX, rIsTy, rIsOw, ixN0, ixN1, tRet, tIf, tIfS, tNext, tBreak, tCont, tDrop, tTupN, tLstN, tUn, tCB, tCall, tNot, tAnd, tOr, tB, tAndV, tOrV, tNotV, tChain, tApp, LamX.tLam, tRevLN, rCatN, rInTN, rInLN, flatV, inV, List.all_cons, List.all_nil, List.any_cons, List.any_nil, Bool.and_self, Bool.and_true, if_true, Bool.false_eq_true, if_false, tMt, tFldN, tSto, HO.ins.injEq, lkh, List.drop_zero, List.drop_succ_cons, List.drop_nil, rListS, wipe, L2.start, List.map_cons, List.map_nil, List.length_cons, List.length_nil, List.replicate, List.cons_append, List.nil_append, List.append_nil, Nat.reduceAdd, Nat.reduceSub, Nat.zero_add, List.replicate_succ, List.replicate_zero, List.getElem?_cons_zero, List.getElem?_cons_succ, List.set_cons_zero, List.set_cons_succ, Option.some.injEq, V.int.injEq, V.bl.injEq, V.ref.injEq, V.str.injEq, V.ty.injEq, List.cons.injEq, HO.tup.injEq, HO.lst.injEq, and_true, true_and, and_assoc, exists_eq_left, exists_eq_left', exists_and_left, exists_eq', atI0, atI1, atI2, atI3, Int.cast_ofNat_Int, Int.reduceToNat, scal_ii, scal_in, scal_ni, scal_nn, scal_bb, scal_ss, scal_sn, scal_ns, scal_bn, scal_nb, ite_iff, decide_eq_true_eq, decide_eq_false_iff_not, Bool.not_eq_true', Classical.not_not, ne_eq, not_false_eq_true, not_true_eq_false, forall_const, true_implies, false_implies, imp_self, sizeLine_eq, Nat.reduceLeDiff, reduceCtorEq, decide_true, decide_false]
        intro t K6 _ r6 e6
        have hD := r6 _ _ h5
        have ku : Kt K6 (upd K6 D (.lst (ys ++ [V.ref t]))) := Kt.upd hD
        refine ⟨_, hD, by have := b5.1; rw [mB_len] at this; omega, nD, fun c o e => by rw [upd_ne (ne_of_none e nD)]; exact r6 _ _ (s5 _ _ e), _, upd_same, ?_⟩
        rw [mB_succ]
        exact ((b5.keep (Kt.same r6)).keep ku).snoc (ku _ _ (fun _ z => by cases z) e6)
      · obtain ⟨nD, s5, ys, h5, b5⟩ := q
        have b5 : BxAt H15 ys (mB 41) := b5
        have T15 : Tabs (Tb1 K) H15 := Tabs.ext T14 s5
        have o15 := o14.ext (extS s5)
        have ly : ys.length = 41 := by rw [b5.1, mB_len]
        refine ⟨fun σ' H' => σ' = [some (V.ref a), some (V.ref L), some (V.ref p8), some (V.int d), some (V.ref D), some v, x6, none] ∧ ExtN H15 H' ∧ Tabs (Tb1 K) H', ?_, ?_⟩
        · simp only [exists_and_left, tD1, rTupN, rAll, rMax2, rMin2, tSl, tPart, tNoPart, rSlLN, tYes, rLenS, rRepN, unset, tEv2, calmS, tDNew, rInDN, rIxDN, rSetDN, tDN1, tDGetN, rSorted, cx_K, Value.ref.injEq, HO.xd.injEq, lk0, tSeq, tPar3, tPar, tCons, tNil, tVar, tC, tAsg, gName, gCons, gNil, gTupN, gSub, tOp, rI, rI0, rU, tTest, rNe, rEq, rIxTN, rIxLN, rLenL, rLenT, tLstRg, tRg1, tRg2, rIntI, rIntB, rAbs, rSetLN, tTruL, tRaiseX, rIsTy, rIsOw, ixN0, ixN1, tRet, tIf, tIfS, tNext, tBreak, tCont, tDrop, tTupN, tLstN, tUn, tCB, tCall, tNot, tAnd, tOr, tB, tAndV, tOrV, tNotV, tChain, tApp, LamX.tLam, tRevLN, rCatN, rInTN, rInLN, flatV, inV, List.all_cons, List.all_nil, List.any_cons, List.any_nil, Bool.and_self, Bool.and_true, if_true, Bool.false_eq_true, if_false, tMt, tFldN, tSto, HO.ins.injEq, lkh, List.drop_zero, List.drop_succ_cons, List.drop_nil, rListS, wipe, L2.start, List.map_cons, List.map_nil, List.length_cons, List.length_nil, List.replicate, List.cons_append, List.nil_append, List.append_nil, Nat.reduceAdd, Nat.reduceSub, Nat.zero_add, List.replicate_succ, List.replicate_zero, List.getElem?_cons_zero, List.getElem?_cons_succ, List.set_cons_zero, List.set_cons_succ, Option.some.injEq, V.int.injEq, V.bl.injEq, V.ref.injEq, V.str.injEq, V.ty.injEq, List.cons.injEq, HO.tup.injEq, HO.lst.injEq, and_true, true_and, and_assoc, exists_eq_left, exists_eq_left', exists_and_left, exists_eq', atI0, atI1, atI2, atI3, Int.cast_ofNat_Int, Int.reduceToNat, scal_ii, scal_in, scal_ni, scal_nn, scal_bb, scal_ss, scal_sn, scal_ns, scal_bn, scal_nb, ite_iff, decide_eq_true_eq, decide_eq_false_iff_not, Bool.not_eq_true', Classical.not_not, ne_eq, not_false_eq_true, not_true_eq_false, forall_const, true_implies, false_implies, imp_self, sizeLine_eq, Nat.reduceLeDiff, reduceCtorEq, decide_true, decide_false]
          refine told_many (v := .int 40) T15 (fun H1 Q1 E1 x1 rs => ?_) (fun H2 q x2 T2 h2 => ?_)
          · have h1 := x1 _ _ h5 (fun _ z => by cases z)
            exact ⟨_, rfl, ⟨_, .base (.lst h1), T.kM_list⟩, .inr (.inr ⟨D, ys, mB 41, rfl, .inl h1, b5.ext x1, by rw [mB_len]; decide, mB_ok, fun _ => rs, fun c => absurd c (by rw [mB_len]; decide)⟩)⟩
          · intro e H3 _ s3 h3
            exact ne_sameN (dp_si (s3 _ _ h2)) (dp_si h3) (sh_si (n := 0) strOk_mn) ⟨false, rfl, fun e => (by cases e), fun _ => ⟨x2.trans (extS s3), Tabs.ext T2 s3⟩⟩
        · rintro _ H16 ⟨rfl, x16, T16⟩
          simp only [exists_and_left, tD1, rTupN, rAll, rMax2, rMin2, tSl, tPart, tNoPart, rSlLN, tYes, rLenS, rRepN, unset, tEv2, calmS, tDNew, rInDN, rIxDN, rSetDN, tDN1, tDGetN, rSorted, cx_K, Value.ref.injEq, HO.xd.injEq, lk0, tSeq, tPar3, tPar, tCons, tNil, tVar, tC, tAsg, gName, gCons, gNil, gTupN, gSub, tOp, rI, rI0, rU, tTest, rNe, rEq, rIxTN, rIxLN, rLenL, rLenT, tLstRg, tRg1, tRg2, rIntI, rIntB, rAbs, rSetLN, tTruL, tRaiseX, rIsTy, rIsOw, ixN0, ixN1, tRet, tIf, tIfS, tNext, tBreak, tCont, tDrop, tTupN, tLstN, tUn, tCB, tCall, tNot, tAnd, tOr, tB, tAndV, tOrV, tNotV, tChain, tApp, LamX.tLam, tRevLN, rCatN, rInTN, rInLN, flatV, inV, List.all_cons, List.all_nil, List.any_cons, List.any_nil, Bool.and_self, Bool.and_true, if_true, Bool.false_eq_true, if_false, tMt, tFldN, tSto, HO.ins.injEq, lkh, List.drop_zero, List.drop_succ_cons, List.drop_nil, rListS, wipe, L2.start, List.map_cons, List.map_nil, List.length_cons, List.length_nil, List.replicate, List.cons_append, List.nil_append, List.append_nil, Nat.reduceAdd, Nat.reduceSub, Nat.zero_add, List.replicate_succ, List.replicate_zero, List.getElem?_cons_zero, List.getElem?_cons_succ, List.set_cons_zero, List.set_cons_succ, Option.some.injEq, V.int.injEq, V.bl.injEq, V.ref.injEq, V.str.injEq, V.ty.injEq, List.cons.injEq, HO.tup.injEq, HO.lst.injEq, and_true, true_and, and_assoc, exists_eq_left, exists_eq_left', exists_and_left, exists_eq', atI0, atI1, atI2, atI3, Int.cast_ofNat_Int, Int.reduceToNat, scal_ii, scal_in, scal_ni, scal_nn, scal_bb, scal_ss, scal_sn, scal_ns, scal_bn, scal_nb, ite_iff, decide_eq_true_eq, decide_eq_false_iff_not, Bool.not_eq_true', Classical.not_not, ne_eq, not_false_eq_true, not_true_eq_false, forall_const, true_implies, false_implies, imp_self, sizeLine_eq, Nat.reduceLeDiff, reduceCtorEq, decide_true, decide_false]
          refine ⟨fun σ' H' => σ' = [some (V.ref a), some (V.ref L), some (V.ref p8), some (V.int d), some (V.ref D), some v, x6, none] ∧ ExtN H15 H' ∧ Tabs (Tb1 K) H', ?_, ?_⟩
          · simp only [exists_and_left, tD1, rTupN, rAll, rMax2, rMin2, tSl, tPart, tNoPart, rSlLN, tYes, rLenS, rRepN, unset, tEv2, calmS, tDNew, rInDN, rIxDN, rSetDN, tDN1, tDGetN, rSorted, cx_K, Value.ref.injEq, HO.xd.injEq, lk0, tSeq, tPar3, tPar, tCons, tNil, tVar, tC, tAsg, gName, gCons, gNil, gTupN, gSub, tOp, rI, rI0, rU, tTest, rNe, rEq, rIxTN, rIxLN, rLenL, rLenT, tLstRg, tRg1, tRg2, rIntI, rIntB, rAbs, rSetLN, tTruL, tRaiseX, rIsTy, rIsOw, ixN0, ixN1, tRet, tIf, tIfS, tNext, tBreak, tCont, tDrop, tTupN, tLstN, tUn, tCB, tCall, tNot, tAnd, tOr, tB, tAndV, tOrV, tNotV, tChain, tApp, LamX.tLam, tRevLN, rCatN, rInTN, rInLN, flatV, inV, List.all_cons, List.all_nil, List.any_cons, List.any_nil, Bool.and_self, Bool.and_true, if_true, Bool.false_eq_true, if_false, tMt, tFldN, tSto, HO.ins.injEq, lkh, List.drop_zero, List.drop_succ_cons, List.drop_nil, rListS, wipe, L2.start, List.map_cons, List.map_nil, List.length_cons, List.length_nil, List.replicate, List.cons_append, List.nil_append, List.append_nil, Nat.reduceAdd, Nat.reduceSub, Nat.zero_add, List.replicate_succ, List.replicate_zero, List.getElem?_cons_zero, List.getElem?_cons_succ, List.set_cons_zero, List.set_cons_succ, Option.some.injEq, V.int.injEq, V.bl.injEq, V.ref.injEq, V.str.injEq, V.ty.injEq, List.cons.injEq, HO.tup.injEq, HO.lst.injEq, and_true, true_and, and_assoc, exists_eq_left, exists_eq_left', exists_and_left, exists_eq', atI0, atI1, atI2, atI3, Int.cast_ofNat_Int, Int.reduceToNat, scal_ii, scal_in, scal_ni, scal_nn, scal_bb, scal_ss, scal_sn, scal_ns, scal_bn, scal_nb, ite_iff, decide_eq_true_eq, decide_eq_false_iff_not, Bool.not_eq_true', Classical.not_not, ne_eq, not_false_eq_true, not_true_eq_false, forall_const, true_implies, false_implies, imp_self, sizeLine_eq, Nat.reduceLeDiff, reduceCtorEq, decide_true, decide_false]
            refine told_idx (v := .int 41) T16 (fun H1 Q1 E1 x1 rs => ?_) (fun H2 q x2 T2 h2 => ?_)
            · have h1 := x1 _ _ (x16 _ _ h5 (fun _ z => by cases z)) (fun _ z => by cases z)
              simp only [h1, spReg, exists_and_left, tD1, rTupN, rAll, rMax2, rMin2, tSl, tPart, tNoPart, rSlLN, tYes, rLenS, rRepN, unset, tEv2, calmS, tDNew, rInDN, rIxDN, rSetDN, tDN1, tDGetN, rSorted, cx_K, Value.ref.injEq, HO.xd.injEq, lk0, tSeq, tPar3, tPar, tCons, tNil, tVar, tC, tAsg, gName, gCons, gNil, gTupN, gSub, tOp, rI, rI0, rU, tTest, rNe, rEq, rIxTN, rIxLN, rLenL, rLenT, tLstRg, tRg1, tRg2, rIntI, rIntB, rAbs, rSetLN, tTruL, tRaiseX, rIsTy, rIsOw, ixN0, ixN1, tRet, tIf, tIfS, tNext, tBreak, tCont, tDrop, tTupN, tLstN, tUn, tCB, tCall, tNot, tAnd, tOr, tB, tAndV, tOrV, tNotV, tChain, tApp, LamX.tLam, tRevLN, rCatN, rInTN, rInLN, flatV, inV, List.all_cons, List.all_nil, List.any_cons, List.any_nil, Bool.and_self, Bool.and_true, if_true, Bool.false_eq_true, if_false, tMt, tFldN, tSto, HO.ins.injEq, lkh, List.drop_zero, List.drop_succ_cons, List.drop_nil, rListS, wipe, L2.start, List.map_cons, List.map_nil, List.length_cons, List.length_nil, List.replicate, List.cons_append, List.nil_append, List.append_nil, Nat.reduceAdd, Nat.reduceSub, Nat.zero_add, List.replicate_succ, List.replicate_zero, List.getElem?_cons_zero, List.getElem?_cons_succ, List.set_cons_zero, List.set_cons_succ, Option.some.injEq, V.int.injEq, V.bl.injEq, V.ref.injEq, V.str.injEq, V.ty.injEq, List.cons.injEq, HO.tup.injEq, HO.lst.injEq, and_true, true_and, and_assoc, exists_eq_left, exists_eq_left', exists_and_left, exists_eq', atI0, atI1, atI2, atI3, Int.cast_ofNat_Int, Int.reduceToNat, scal_ii, scal_in, scal_ni, scal_nn, scal_bb, scal_ss, scal_sn, scal_ns, scal_bn, scal_nb, ite_iff, decide_eq_true_eq, decide_eq_false_iff_not, Bool.not_eq_true', Classical.not_not, ne_eq, not_false_eq_true, not_true_eq_false, forall_const, true_implies, false_implies, imp_self, sizeLine_eq, Nat.reduceLeDiff, reduceCtorEq, decide_true, decide_false]
              intro m1 M1 _ w1 f1
              refine ⟨m1, rfl, _, w1 _ _ h1, _, f1, by simp [ly], ?_⟩
              intro m2 M2 _ w2 f2
              have w12 := w1.trans w2
              refine ⟨⟨_, .base (.lst f2), T.kM_list⟩, .inr (.inl ⟨m2, _, 41, v, rfl, .inl f2, ?_, (o15.ext ((x16.trans x1).trans (extS w12))).k, (o15.ext ((x16.trans x1).trans (extS w12))).n, fun j y hj hy => ?_, rs.mono w12⟩)⟩
              · rw [List.getElem?_append_right (by omega), ly]; rfl
              · rw [List.getElem?_append_left (by omega)] at hy
                exact (((b5.ext x16).ext x1).keep (Kt.same w12)).box mB_ok hy
            · intro e H3 _ s3 h3
              exact ne_sameN (dp_si (s3 _ _ h2)) (dp_si h3) (sh_si (n := 0) strOk_ix) ⟨false, rfl, fun e => (by cases e), fun _ => ⟨(x16.trans x2).trans (extS s3), Tabs.ext T2 s3⟩⟩
          · rintro _ H17 ⟨rfl, x17, T17⟩
            have h17 := x17 _ _ h5 (fun _ z => by cases z)
            have b17 := b5.ext x17
            simp only [h17, spReg, spREq, exists_and_left, tD1, rTupN, rAll, rMax2, rMin2, tSl, tPart, tNoPart, rSlLN, tYes, rLenS, rRepN, unset, tEv2, calmS, tDNew, rInDN, rIxDN, rSetDN, tDN1, tDGetN, rSorted, cx_K, Value.ref.injEq, HO.xd.injEq, lk0, tSeq, tPar3, tPar, tCons, tNil, tVar, tC, tAsg, gName, gCons, gNil, gTupN, gSub, tOp, rI, rI0, rU, tTest, rNe, rEq, rIxTN, rIxLN, rLenL, rLenT, tLstRg, tRg1, tRg2, rIntI, rIntB, rAbs, rSetLN, tTruL, tRaiseX, rIsTy, rIsOw, ixN0, ixN1, tRet, tIf, tIfS, tNext, tBreak, tCont, tDrop, tTupN, tLstN, tUn, tCB, tCall, tNot, tAnd, tOr, tB, tAndV, tOrV, tNotV, tChain, tApp, LamX.tLam, tRevLN, rCatN, rInTN, rInLN, flatV, inV, List.all_cons, List.all_nil, List.any_cons, List.any_nil, Bool.and_self, Bool.and_true, if_true, Bool.false_eq_true, if_false, tMt, tFldN, tSto, HO.ins.injEq, lkh, List.drop_zero, List.drop_succ_cons, List.drop_nil, rListS, wipe, L2.start, List.map_cons, List.map_nil, List.length_cons, List.length_nil, List.replicate, List.cons_append, List.nil_append, List.append_nil, Nat.reduceAdd, Nat.reduceSub, Nat.zero_add, List.replicate_succ, List.replicate_zero, List.getElem?_cons_zero, List.getElem?_cons_succ, List.set_cons_zero, List.set_cons_succ, Option.some.injEq, V.int.injEq, V.bl.injEq, V.ref.injEq, V.str.injEq, V.ty.injEq, List.cons.injEq, HO.tup.injEq, HO.lst.injEq, and_true, true_and, and_assoc, exists_eq_left, exists_eq_left', exists_and_left, exists_eq', atI0, atI1, atI2, atI3, Int.cast_ofNat_Int, Int.reduceToNat, scal_ii, scal_in, scal_ni, scal_nn, scal_bb, scal_ss, scal_sn, scal_ns, scal_bn, scal_nb, ite_iff, decide_eq_true_eq, decide_eq_false_iff_not, Bool.not_eq_true', Classical.not_not, ne_eq, not_false_eq_true, not_true_eq_false, forall_const, true_implies, false_implies, imp_self, sizeLine_eq, Nat.reduceLeDiff, reduceCtorEq, decide_true, decide_false]
            refine ⟨_, SqL.of h17, ?_⟩
            intro m1 M1 _ w1 f1
            rw [cutV_to (by decide) (by rw [ly]; decide)] at f1
            have bt : BxAt M1 (ys.take 40) (mB 40) := by
              have := (b17.keep (Kt.same w1)).take 40
              rwa [mB_take (by decide)] at this
            refine ⟨⟨_, .base (.lst f1), T.kM_list⟩, .inr (.inr ⟨m1, _, mB 40, rfl, .inl f1, bt, by rw [mB_len]; decide, mB_ok, fun c => absurd c (by rw [mB_len]; decide), fun _ g1 S1 M2 ng1 w2 R1 G1 V1 => ?_⟩)⟩
            intro m3 M3 _ w3 f3 m4 M4 _ w4 f4
            refine ⟨⟨_, .base (.lst f4), T.kM_list⟩, .inr (.inr ⟨m4, [.ref m3], [((some 0, some 40), (some 0, some 1))], rfl, .inl f4, BxAt.mk' (w4 _ _ f3) ⟨rfl, fun i b h => by simp at h⟩, by decide, fun b hb => ?_, fun c => absurd c (by decide), fun _ g2 S2 M5 ng2 w5 R2 G2 V2 => ?_⟩)⟩
            · rw [List.mem_singleton.mp hb]
              exact ⟨fun l h e1 e2 => by cases e1; cases e2; decide, fun l h e1 e2 => by cases e1; cases e2; decide⟩
            · have eS : S1 = S2 := G1.uniq G2 fun x y => by rw [V1, V2, mB_any]; simp
              obtain ⟨dx1, q1, a1, l1⟩ := R1.kt (Kt.same ((w3.trans w4).trans w5))
              obtain ⟨dx2, q2, a2, l2⟩ := R2
              refine ⟨g1, dx1, _, rfl, a1, ⟨_, T.ci_Region.ty a2, T.nR_Region⟩, g1, _, rfl, S1, ⟨dx1, q1, a1, l1⟩, .inr ⟨g2, S2, rfl, ⟨dx2, q2, a2, l2⟩, ⟨_, rfl, ?_⟩⟩⟩
              rw [decide_eq_true eS]
              exact k M5 (z14.trans (ExP.of (((extS s5).trans x17).trans (extS (((w1.trans w2).trans (w3.trans w4)).trans w5))))) (Tabs.ext T17 (((w1.trans w2).trans (w3.trans w4)).trans w5))

end
end Iz
/-! k21_m -/
set_option Elab.async false
set_option linter.all false
set_option maxRecDepth 100000
set_option maxHeartbeats 4000000
namespace Iz
open PySem PySem.Spec PyProof.Rows L2
open He (ga)
open SX (S S_len)
local macro_rules | `(tactic| walk_at "wp") => `(tactic| simp only [tD1, rTupN, rAll, rMax2, rMin2, tSl, tPart, tNoPart, rSlLN, tYes, rLenS, rRepN, unset, tEv2, calmS, tDNew, rInDN, rIxDN, rSetDN, tDN1, tDGetN, rSorted, cx_K, Value.ref.injEq, HO.xd.injEq, lk0, tSeq, tPar3, tPar, tCons, tNil, tVar, tC, tAsg, gName, gCons, gNil, gTupN, gSub, tOp, rI, rI0, rU, tTest, rNe, rEq, rIxTN, rIxLN, rLenL, rLenT, tLstRg, tRg1, tRg2, rIntI, rIntB, rAbs, rSetLN, tTruL, tRaiseX, rIsTy, rIsOw, ixN0, ixN1, tRet, tIf, tIfS, tNext, tBreak, tCont, tDrop, tTupN, tLstN, tUn, tCB, tCall, tNot, tAnd, tOr, tB, tAndV, tOrV, tNotV, tChain, tApp, LamX.tLam, tRevLN, rCatN, rInTN, rInLN, flatV, inV, List.all_cons, List.all_nil, List.any_cons, List.any_nil, Bool.and_self, Bool.and_true, if_true, Bool.false_eq_true, if_false, tMt, tFldN, tSto, HO.ins.injEq, lkh, List.drop_zero, List.drop_succ_cons, List.drop_nil, rListS, wipe, L2.start, List.map_cons, List.map_nil, List.length_cons, List.length_nil, List.replicate, List.cons_append, List.nil_append, List.append_nil, Nat.reduceAdd, Nat.reduceSub, Nat.zero_add, List.replicate_succ, List.replicate_zero, List.getElem?_cons_zero, List.getElem?_cons_succ, List.set_cons_zero, List.set_cons_succ, Option.some.injEq, V.int.injEq, V.bl.injEq, V.ref.injEq, V.str.injEq, V.ty.injEq, List.cons.injEq, HO.tup.injEq, HO.lst.injEq, and_true, true_and, and_assoc, exists_eq_left, exists_eq_left', exists_and_left, exists_eq', atI0, atI1, atI2, atI3, Int.cast_ofNat_Int, Int.reduceToNat, scal_ii, scal_in, scal_ni, scal_nn, scal_bb, scal_ss, scal_sn, scal_ns, scal_bn, scal_nb, ite_iff, decide_eq_true_eq, decide_eq_false_iff_not, Bool.not_eq_true', Classical.not_not, ne_eq, not_false_eq_true, not_true_eq_false, forall_const, true_implies, false_implies, imp_self, sizeLine_eq, Nat.reduceLeDiff, reduceCtorEq, decide_true, decide_false])
section
variable {P : Program} {w : World} {K : PySem.W.Frag} {mg : Str → Option Value} {base : Heap}
open LamX
theorem EmpT.ty {t : Addr} {H : Hp} (h : EmpT K t) : TyX K H (.ref t) (.type "tuple") := let ⟨o, n, h1, h2, h3⟩ := h; .kTuple h1 h2
theorem reg_nil {S : List (Bd Row)} {EX EY : List Int} (g : GoodS EX EY S) (h : ∀ x y, hasS S x y = false) : S = [] := g.uniq (GoodS.nil (EX := []) (EY := [])) fun x y => h x y
/-- a region told by boxes -/
theorem reg_of {H : Hp} {E : XK} {q : Addr} {xs : List V} {B : List Box} {R : VK} (nm : NoMd K H (.ref q)) (hl : LG K H q xs) (hb : BxAt H xs B) (l : B.length ≤ 40) (ok : ∀ b ∈ B, okBox b)
    (k : ∀ a S H', H a = none → Same H H' → RegAt K H' a S → GoodS (exB B) (eyB B) S → (∀ x y, hasS S x y = B.any fun b => inBox b x y) → R (.ref a) H') : spReg K [.ref q] H R E :=
  ⟨_, rfl, nm, .inr (.inr ⟨q, xs, B, rfl, hl, hb, by omega, ok, fun c => absurd c (by omega), fun _ => k⟩)⟩
def spLaw (K : PySem.W.Frag) : Sp := fun vs H Q _ => ∃ sc, vs = [.ref sc] ∧ ∃ ns : List Int, SqL K H sc (ns.map V.int) ∧ ns.length ≤ 63 ∧ Tabs (Tb1 K) H ∧ ∀ H', Q (.bl true) H'
theorem o_law (T : Txt K mg) (TB : TabB base mg (cOf K "_law_refused") (pOf K "_law_refused")) {f : Addr} {fd : FuncData} (F : Fun K "law" "law" s_law f fd) : FnOk P w K mg base (L2.CX P w) 14 f fd ["_law_script"] (spLaw K) := by
  have o__law_rounds := o__law_rounds (P := P) (w := w) (base := base) T
  have o__law_pool := o__law_pool (P := P) (w := w) (base := base) T
  have o__law_boxes := o__law_boxes (P := P) (w := w) (base := base) T
  have o__law_cells_right := o__law_cells_right (P := P) (w := w) (base := base) T
  have o__law_refused := o__law_refused (P := P) (w := w) (base := base) T TB
  obtain ⟨t0, e0, o_Region⟩ := o_Region (P := P) (w := w) (base := base) (mg := mg) (K := K) T
  have o_Region___eq__ := o_Region___eq__ (P := P) (w := w) (base := base) T
  have o_Region___contains__ := o_Region___contains__ (P := P) (w := w) (base := base) T
  refine F.okX sc_law (fun vs H Q E h => ?_) (fun cdv A outer s H vs Q E hr h => ?_)
  · first | (obtain ⟨_, rfl, _⟩ := h; rfl) | (obtain ⟨rfl, _⟩ := h; rfl) | (obtain ⟨_, _, rfl, _⟩ := h; rfl) | (obtain ⟨_, _, _, rfl, _⟩ := h; rfl) | (obtain ⟨_, _, _, _, rfl, _⟩ := h; rfl) | (obtain ⟨_, _, _, _, _, rfl, _⟩ := h; rfl) | (obtain ⟨_, _, _, _, _, _, rfl, _⟩ := h; rfl) | (obtain ⟨_, _, _, _, _, _, _, rfl, _⟩ := h; rfl)
  have hu64 := hr.units
  refine ⟨_, pss_cons (ps_for (passes_of rfl) rfl (pi_list (pcl o__law_rounds (hr.mono (by decide)) pass0 (pa_cons (pv 0) pa_nil))) (pg_name (i := 1) sc_law.nd rfl (Or.inl rfl)) (pss_cons (ps_set (i := 2) sc_law.nd rfl (Or.inl rfl) (pcl o__law_pool (hr.mono (by decide)) pass0 (pa_cons (pv 0) (pa_cons (pv 1) pa_nil))))
      (pss_cons (ps_set (i := 3) sc_law.nd rfl (Or.inl rfl) (pcl o__law_boxes (hr.mono (by decide)) pass0 (pa_cons (pv 2) (pa_cons (pe_int) (pa_cons (pe_bl) pa_nil)))))
      (pss_cons (ps_set (i := 4) sc_law.nd rfl (Or.inl rfl) (pe_callTy call_listS (by rfl) T.m_list (by decide +kernel) (pa_cons (pv 3) pa_nil)))
      (pss_cons (ps_set (i := 5) sc_law.nd rfl (Or.inl rfl) (pmk (j := 1) o_Region (show _ ≤ 1 by decide) (hr.mono (by decide)) passE (pa_cons (pv 4) pa_nil)))
      (pss_cons (ps_expr (pe_appN (pv 4) (pa_cons (pe_tupN (pa_cons (pe_int) (pa_cons (pe_int) (pa_cons (pe_int) (pa_cons (pe_int) pa_nil))))) pa_nil)))
      (pss_cons (ps_cut (ps_if (PW.pt (pw_or (pt_not (pt_val (pcl o__law_cells_right (hr.mono (by decide)) pass0 (pa_cons (pv 3) (pa_cons (pv 5) pa_nil))))) (pw_or1 (pt_cmpR (op_ownNe o_Region___eq__ T.ci_Region.hm T.ne_Region (hr.mono (by decide)) pass0) (pv 5) (pmk (j := 1) o_Region (show _ ≤ 1 by decide) (hr.mono (by decide)) passE (pa_cons (pe_callTy call_tupN (by rfl) T.m_tuple (by decide +kernel) (pa_cons (pv 3) pa_nil)) pa_nil)) (nomark _))))) (pss_one (ps_ret (pe_bl))) (pss_nil)))
      (pss_one (ps_if (PW.pt (pw_or (pt_cmpR (op_own (fun _ _ => rfl) o_Region___eq__ rfl (hr.mono (by decide)) pass0) (pv 5) (pv 3) (nomark _)) (pw_or (pt_cmpR (op_own (fun _ _ => rfl) o_Region___eq__ rfl (hr.mono (by decide)) pass0) (pv 5) (pe_int) (nomark _)) (pw_or1 (pt_not (pt_val (pcl o__law_refused (hr.mono (by decide)) passE (pa_cons (pv 2) (pa_cons (pv 3) pa_nil))))))))) (pss_one (ps_ret (pe_bl))) (pss_nil))))))))))
      (pss_one (ps_ret (pe_and (pe_cmpR (op_own (fun _ _ => rfl) o_Region___eq__ rfl (hr.mono (by decide)) pass0) (pmk0 (j := 0) o_Region (show _ ≤ 1 by decide) (hr.mono (by decide)) passE) (pmk (j := 1) o_Region (show _ ≤ 1 by decide) (hr.mono (by decide)) passE (pa_cons (pe_lstN (pa_nil)) pa_nil)) (nomark _)) (pe_and (pe_cmpR (op_ownNe o_Region___eq__ T.ci_Region.hm T.ne_Region (hr.mono (by decide)) pass0) (pmk0 (j := 0) o_Region (show _ ≤ 1 by decide) (hr.mono (by decide)) passE) (pmk (j := 1) o_Region (show _ ≤ 1 by decide) (hr.mono (by decide)) passE (pa_cons (pe_lstN (pa_cons (pe_tupN (pa_cons (pe_int) (pa_cons (pe_int) (pa_cons (pe_int) (pa_cons (pe_int) pa_nil))))) pa_nil)) pa_nil)) (nomark _)) (pe_one (pe_cmpR (op_ownNotIn o_Region___contains__ (hr.mono (by decide)) pass0) (pe_tupN (pa_cons (pe_int) (pa_cons (pe_int) pa_nil))) (pmk0 (j := 0) o_Region (show _ ≤ 1 by decide) (hr.mono (by decide)) passE) (by rfl))))))), ?_⟩
  obtain ⟨sc, rfl, ns, hsc, hns, hT, k⟩ := h
  refine for_inL ?_
  simp only [spRounds, exists_and_left, tD1, rTupN, rAll, rMax2, rMin2, tSl, tPart, tNoPart, rSlLN, tYes, rLenS, rRepN, unset, tEv2, calmS, tDNew, rInDN, rIxDN, rSetDN, tDN1, tDGetN, rSorted, cx_K, Value.ref.injEq, HO.xd.injEq, lk0, tSeq, tPar3, tPar, tCons, tNil, tVar, tC, tAsg, gName, gCons, gNil, gTupN, gSub, tOp, rI, rI0, rU, tTest, rNe, rEq, rIxTN, rIxLN, rLenL, rLenT, tLstRg, tRg1, tRg2, rIntI, rIntB, rAbs, rSetLN, tTruL, tRaiseX, rIsTy, rIsOw, ixN0, ixN1, tRet, tIf, tIfS, tNext, tBreak, tCont, tDrop, tTupN, tLstN, tUn, tCB, tCall, tNot, tAnd, tOr, tB, tAndV, tOrV, tNotV, tChain, tApp, LamX.tLam, tRevLN, rCatN, rInTN, rInLN, flatV, inV, List.all_cons, List.all_nil, List.any_cons, List.any_nil, Bool.and_self, Bool.and_true, if_true, Bool.false_eq_true, if_false, tMt, tFldN, tSto, HO.ins.injEq, lkh, List.drop_zero, List.drop_succ_cons, List.drop_nil, rListS, wipe, L2.start, List.map_cons, List.map_nil, List.length_cons, List.length_nil, List.replicate, List.cons_append, List.nil_append, List.append_nil, Nat.reduceAdd, Nat.reduceSub, Nat.zero_add, List.replicate_succ, List.replicate_zero, List.getElem?_cons_zero, List.getElem?_cons_succ, List.set_cons_zero, List.set_cons_succ, Option.some.injEq, V.int.injEq, V.bl.injEq, V.ref.injEq, V.str.injEq, V.ty.injEq, List.cons.injEq, HO.tup.injEq, HO.lst.injEq, and_true, true_and, and_assoc, exists_eq_left, exists_eq_left', exists_and_left, exists_eq', atI0, atI1, atI2, atI3, Int.cast_ofNat_Int, Int.reduceToNat, scal_ii, scal_in, scal_ni, scal_nn, scal_bb, scal_ss, scal_sn, scal_ns, scal_bn, scal_nb, ite_iff, decide_eq_true_eq, decide_eq_false_iff_not, Bool.not_eq_true', Classical.not_not, ne_eq, not_false_eq_true, not_true_eq_false, forall_const, true_implies, false_implies, imp_self, sizeLine_eq, Nat.reduceLeDiff, reduceCtorEq, decide_true, decide_false]
  refine ⟨ns, hsc, hns, fun Lr H1 xr nr s1 h1 hxr => ?_⟩
  refine st_forL (fun R r => r) h1 (fun i σ' H' => ∃ x1 x2 x3 x4 x5, σ' = [some (V.ref sc), x1, x2, x3, x4, x5] ∧ ExtN H1 H' ∧ Tabs (Tb1 K) H') ⟨_, _, _, _, _, rfl, ExtN.refl _, Tabs.ext hT s1⟩ (fun i σ' H' h => by obtain ⟨_, _, _, _, _, _, h, _⟩ := h; exact h _ _ h1 (fun _ z => by cases z)) ?_ ?_
  · rintro i v _ H3 hi ⟨x1, x2, x3, x4, x5, rfl, E3, T3⟩
    obtain ⟨i0, rfl, i1, i2⟩ := hxr v (List.mem_of_getElem? hi)
    clear hi hxr
    simp only [spPool, exists_and_left, tD1, rTupN, rAll, rMax2, rMin2, tSl, tPart, tNoPart, rSlLN, tYes, rLenS, rRepN, unset, tEv2, calmS, tDNew, rInDN, rIxDN, rSetDN, tDN1, tDGetN, rSorted, cx_K, Value.ref.injEq, HO.xd.injEq, lk0, tSeq, tPar3, tPar, tCons, tNil, tVar, tC, tAsg, gName, gCons, gNil, gTupN, gSub, tOp, rI, rI0, rU, tTest, rNe, rEq, rIxTN, rIxLN, rLenL, rLenT, tLstRg, tRg1, tRg2, rIntI, rIntB, rAbs, rSetLN, tTruL, tRaiseX, rIsTy, rIsOw, ixN0, ixN1, tRet, tIf, tIfS, tNext, tBreak, tCont, tDrop, tTupN, tLstN, tUn, tCB, tCall, tNot, tAnd, tOr, tB, tAndV, tOrV, tNotV, tChain, tApp, LamX.tLam, tRevLN, rCatN, rInTN, rInLN, flatV, inV, List.all_cons, List.all_nil, List.any_cons, List.any_nil, Bool.and_self, Bool.and_true, if_true, Bool.false_eq_true, if_false, tMt, tFldN, tSto, HO.ins.injEq, lkh, List.drop_zero, List.drop_succ_cons, List.drop_nil, rListS, wipe, L2.start, List.map_cons, List.map_nil, List.length_cons, List.length_nil, List.replicate, List.cons_append, List.nil_append, List.append_nil, Nat.reduceAdd, Nat.reduceSub, Nat.zero_add, List.replicate_succ, List.replicate_zero, List.getElem?_cons_zero, List.getElem?_cons_succ, List.set_cons_zero, List.set_cons_succ, Option.some.injEq, V.int.injEq, V.bl.injEq, V.ref.injEq, V.str.injEq, V.ty.injEq, List.cons.injEq, HO.tup.injEq, HO.lst.injEq, and_true, true_and, and_assoc, exists_eq_left, exists_eq_left', exists_and_left, exists_eq', atI0, atI1, atI2, atI3, Int.cast_ofNat_Int, Int.reduceToNat, scal_ii, scal_in, scal_ni, scal_nn, scal_bb, scal_ss, scal_sn, scal_ns, scal_bn, scal_nb, ite_iff, decide_eq_true_eq, decide_eq_false_iff_not, Bool.not_eq_true', Classical.not_not, ne_eq, not_false_eq_true, not_true_eq_false, forall_const, true_implies, false_implies, imp_self, sizeLine_eq, Nat.reduceLeDiff, reduceCtorEq, decide_true, decide_false]
    refine ⟨ns, sqL_ext hsc ((extS s1).trans E3), i1, i2, fun p H4 np s4 P4 => ?_⟩
    have nH1 : ∀ b o, H1 b = some o → (∀ ps, o ≠ .tbl ps) → b ≠ p := fun b o h m => ne_of_none (E3 b o h m) np
    have E4 : ExtN H1 H4 := E3.trans (extS s4)
    have T4 : Tabs (Tb1 K) H4 := Tabs.ext T3 s4
    simp only [spBoxes, exists_and_left, tD1, rTupN, rAll, rMax2, rMin2, tSl, tPart, tNoPart, rSlLN, tYes, rLenS, rRepN, unset, tEv2, calmS, tDNew, rInDN, rIxDN, rSetDN, tDN1, tDGetN, rSorted, cx_K, Value.ref.injEq, HO.xd.injEq, lk0, tSeq, tPar3, tPar, tCons, tNil, tVar, tC, tAsg, gName, gCons, gNil, gTupN, gSub, tOp, rI, rI0, rU, tTest, rNe, rEq, rIxTN, rIxLN, rLenL, rLenT, tLstRg, tRg1, tRg2, rIntI, rIntB, rAbs, rSetLN, tTruL, tRaiseX, rIsTy, rIsOw, ixN0, ixN1, tRet, tIf, tIfS, tNext, tBreak, tCont, tDrop, tTupN, tLstN, tUn, tCB, tCall, tNot, tAnd, tOr, tB, tAndV, tOrV, tNotV, tChain, tApp, LamX.tLam, tRevLN, rCatN, rInTN, rInLN, flatV, inV, List.all_cons, List.all_nil, List.any_cons, List.any_nil, Bool.and_self, Bool.and_true, if_true, Bool.false_eq_true, if_false, tMt, tFldN, tSto, HO.ins.injEq, lkh, List.drop_zero, List.drop_succ_cons, List.drop_nil, rListS, wipe, L2.start, List.map_cons, List.map_nil, List.length_cons, List.length_nil, List.replicate, List.cons_append, List.nil_append, List.append_nil, Nat.reduceAdd, Nat.reduceSub, Nat.zero_add, List.replicate_succ, List.replicate_zero, List.getElem?_cons_zero, List.getElem?_cons_succ, List.set_cons_zero, List.set_cons_succ, Option.some.injEq, V.int.injEq, V.bl.injEq, V.ref.injEq, V.str.injEq, V.ty.injEq, List.cons.injEq, HO.tup.injEq, HO.lst.injEq, and_true, true_and, and_assoc, exists_eq_left, exists_eq_left', exists_and_left, exists_eq', atI0, atI1, atI2, atI3, Int.cast_ofNat_Int, Int.reduceToNat, scal_ii, scal_in, scal_ni, scal_nn, scal_bb, scal_ss, scal_sn, scal_ns, scal_bn, scal_nb, ite_iff, decide_eq_true_eq, decide_eq_false_iff_not, Bool.not_eq_true', Classical.not_not, ne_eq, not_false_eq_true, not_true_eq_false, forall_const, true_implies, false_implies, imp_self, sizeLine_eq, Nat.reduceLeDiff, reduceCtorEq, decide_true, decide_false]
    refine ⟨P4, by decide, by decide, fun Lb xs B H5 nLb La P5 t5 hLb bB okB lB => ?_⟩
    have okB' : ∀ b ∈ B, okBox b := fun b hb => (okB b hb).1
    have lx := bB.1
    have E5 : ExtN H1 H5 := fun b o h m => t5 b o (E4 b o h m) (nH1 b o h m)
    have T5 : Tabs (Tb1 K) H5 := Tabs.stpP T4 P4 t5
    clear okB E4 T4
    refine ⟨_, SqL.of hLb, ?_⟩
    intro Lh H6 nLh s6 h6
    refine reg_of ⟨_, .base (.lst h6), T.kM_list⟩ (.inl h6) (bB.keep (Kt.same s6)) (by omega) okB' fun r S H7 nr7 s7 R7 G7 V7 => ?_
    have h7 := s7 _ _ h6
    refine ⟨Lh, rfl, ⟨_, h7⟩, ?_⟩
    intro tp H8 _ s8 h8
    refine ⟨_, s8 _ _ h7, by omega, fun H9 p9 => ?_⟩
    have h8' := s8 _ _ h7
    have s58 := (s6.trans s7).trans s8
    have ku : Kt H8 H9 := Kt.put h8' p9
    have Lhp : Lh ≠ p := P5.ne nLh
    have LbL : Lb ≠ Lh := ne_of_none hLb nLh
    have hLb9 : H9 Lb = some (.lst xs) := by rw [p9.2 _ LbL]; exact s58 _ _ hLb
    have bB9 := (bB.keep (Kt.same s58)).keep ku
    have R9 := (R7.kt (Kt.same s8)).kt ku
    have P9 : Po H9 p := (P5.same s58).but Lhp p9.2
    have E9 : ExtN H1 H9 := fun b o h m => by rw [p9.2 b (ne_of_none (E5 b o h m) nLh)]; exact s58 _ _ (E5 b o h m)
    have T9 : Tabs (Tb1 K) H9 := Tabs.put (Tabs.ext T5 s58) h8' p9
    have lex := exB_len B
    have ley := eyB_len B
    clear h7 h8 h8' s8 s7 s6 h6 nLh hLb bB R7 P5 E5 T5 t5 P4 np s4 ku s58 p9
    have reg : ∀ {G : Hp}, Same H9 G → ∃ dx q, G r = some (.ins (ga K "Region") dx [("_slabs", .ref q)]) := fun {G} s => let ⟨dx, q, e, _⟩ := R9; ⟨dx, q, s _ _ e⟩
    refine ⟨fun σ' H' => σ' = [some (V.ref sc), some (V.int i0), some (V.ref p), some (V.ref Lb), some (V.ref Lh), some (V.ref r)] ∧ Same H9 H', ?_, ?_⟩
    · simp only [spCells, exists_and_left, tD1, rTupN, rAll, rMax2, rMin2, tSl, tPart, tNoPart, rSlLN, tYes, rLenS, rRepN, unset, tEv2, calmS, tDNew, rInDN, rIxDN, rSetDN, tDN1, tDGetN, rSorted, cx_K, Value.ref.injEq, HO.xd.injEq, lk0, tSeq, tPar3, tPar, tCons, tNil, tVar, tC, tAsg, gName, gCons, gNil, gTupN, gSub, tOp, rI, rI0, rU, tTest, rNe, rEq, rIxTN, rIxLN, rLenL, rLenT, tLstRg, tRg1, tRg2, rIntI, rIntB, rAbs, rSetLN, tTruL, tRaiseX, rIsTy, rIsOw, ixN0, ixN1, tRet, tIf, tIfS, tNext, tBreak, tCont, tDrop, tTupN, tLstN, tUn, tCB, tCall, tNot, tAnd, tOr, tB, tAndV, tOrV, tNotV, tChain, tApp, LamX.tLam, tRevLN, rCatN, rInTN, rInLN, flatV, inV, List.all_cons, List.all_nil, List.any_cons, List.any_nil, Bool.and_self, Bool.and_true, if_true, Bool.false_eq_true, if_false, tMt, tFldN, tSto, HO.ins.injEq, lkh, List.drop_zero, List.drop_succ_cons, List.drop_nil, rListS, wipe, L2.start, List.map_cons, List.map_nil, List.length_cons, List.length_nil, List.replicate, List.cons_append, List.nil_append, List.append_nil, Nat.reduceAdd, Nat.reduceSub, Nat.zero_add, List.replicate_succ, List.replicate_zero, List.getElem?_cons_zero, List.getElem?_cons_succ, List.set_cons_zero, List.set_cons_succ, Option.some.injEq, V.int.injEq, V.bl.injEq, V.ref.injEq, V.str.injEq, V.ty.injEq, List.cons.injEq, HO.tup.injEq, HO.lst.injEq, and_true, true_and, and_assoc, exists_eq_left, exists_eq_left', exists_and_left, exists_eq', atI0, atI1, atI2, atI3, Int.cast_ofNat_Int, Int.reduceToNat, scal_ii, scal_in, scal_ni, scal_nn, scal_bb, scal_ss, scal_sn, scal_ns, scal_bn, scal_nb, ite_iff, decide_eq_true_eq, decide_eq_false_iff_not, Bool.not_eq_true', Classical.not_not, ne_eq, not_false_eq_true, not_true_eq_false, forall_const, true_implies, false_implies, imp_self, sizeLine_eq, Nat.reduceLeDiff, reduceCtorEq, decide_true, decide_false]
      refine ⟨xs, hLb9, B, bB9, by omega, S, R9, exB B, eyB B, G7, by omega, by omega, V7, fun H10 s10 => ?_⟩
      refine ⟨_, s10 _ _ hLb9, ?_⟩
      intro tb G1 _ r1 f1
      have s11 := s10.trans r1
      refine reg_of ⟨_, .base (.tup f1), T.kM_tuple⟩ (.inr (SqT.of f1)) (bB9.keep (Kt.same s11)) (by omega) okB' fun r2 S2 G2 n2 s2 R2 G2' V2 => ?_
      have eS : S = S2 := G7.uniq G2' fun x y => by rw [V7, V2]
      obtain ⟨dx1, q1, a1, l1⟩ := R9.kt (Kt.same (s11.trans s2))
      obtain ⟨dx2, q2, a2, l2⟩ := R2
      refine ⟨r, dx1, _, rfl, a1, ⟨_, T.ci_Region.ty a2, T.nR_Region⟩, r, _, rfl, S, ⟨dx1, q1, a1, l1⟩, .inr ⟨r2, S2, rfl, ⟨dx2, q2, a2, l2⟩, ⟨_, rfl, ⟨_, rfl, fun c => ?_, fun _ => s11.trans s2⟩⟩⟩⟩
      rw [decide_eq_true eS] at c; cases c
    · rintro _ H10 ⟨rfl, s10⟩
      simp only [spREq, exists_and_left, tD1, rTupN, rAll, rMax2, rMin2, tSl, tPart, tNoPart, rSlLN, tYes, rLenS, rRepN, unset, tEv2, calmS, tDNew, rInDN, rIxDN, rSetDN, tDN1, tDGetN, rSorted, cx_K, Value.ref.injEq, HO.xd.injEq, lk0, tSeq, tPar3, tPar, tCons, tNil, tVar, tC, tAsg, gName, gCons, gNil, gTupN, gSub, tOp, rI, rI0, rU, tTest, rNe, rEq, rIxTN, rIxLN, rLenL, rLenT, tLstRg, tRg1, tRg2, rIntI, rIntB, rAbs, rSetLN, tTruL, tRaiseX, rIsTy, rIsOw, ixN0, ixN1, tRet, tIf, tIfS, tNext, tBreak, tCont, tDrop, tTupN, tLstN, tUn, tCB, tCall, tNot, tAnd, tOr, tB, tAndV, tOrV, tNotV, tChain, tApp, LamX.tLam, tRevLN, rCatN, rInTN, rInLN, flatV, inV, List.all_cons, List.all_nil, List.any_cons, List.any_nil, Bool.and_self, Bool.and_true, if_true, Bool.false_eq_true, if_false, tMt, tFldN, tSto, HO.ins.injEq, lkh, List.drop_zero, List.drop_succ_cons, List.drop_nil, rListS, wipe, L2.start, List.map_cons, List.map_nil, List.length_cons, List.length_nil, List.replicate, List.cons_append, List.nil_append, List.append_nil, Nat.reduceAdd, Nat.reduceSub, Nat.zero_add, List.replicate_succ, List.replicate_zero, List.getElem?_cons_zero, List.getElem?_cons_succ, List.set_cons_zero, List.set_cons_succ, Option.some.injEq, V.int.injEq, V.bl.injEq, V.ref.injEq, V.str.injEq, V.ty.injEq, List.cons.injEq, HO.tup.injEq, HO.lst.injEq, and_true, true_and, and_assoc, exists_eq_left, exists_eq_left', exists_and_left, exists_eq', atI0, atI1, atI2, atI3, Int.cast_ofNat_Int, Int.reduceToNat, scal_ii, scal_in, scal_ni, scal_nn, scal_bb, scal_ss, scal_sn, scal_ns, scal_bn, scal_nb, ite_iff, decide_eq_true_eq, decide_eq_false_iff_not, Bool.not_eq_true', Classical.not_not, ne_eq, not_false_eq_true, not_true_eq_false, forall_const, true_implies, false_implies, imp_self, sizeLine_eq, Nat.reduceLeDiff, reduceCtorEq, decide_true, decide_false]
      obtain ⟨dx, q, a1, l1⟩ := R9.kt (Kt.same s10)
      have hLb10 := s10 _ _ hLb9
      refine ⟨r, dx, _, rfl, a1, ⟨_, .base (.lst hLb10), T.nR_list⟩, r, _, rfl, S, ⟨dx, q, a1, l1⟩, .inl ⟨⟨_, .base (.lst hLb10), T.kR_list⟩, ⟨_, rfl, ⟨_, rfl, fun c => (by cases c), fun _ => ?_⟩⟩⟩⟩
      refine ⟨r, dx, _, rfl, a1, ⟨_, .base (.int 5), T.nR_int⟩, r, _, rfl, S, ⟨dx, q, a1, l1⟩, .inl ⟨⟨_, .base (.int 5), T.kR_int⟩, ⟨_, rfl, ⟨_, rfl, fun c => (by cases c), fun _ => ?_⟩⟩⟩⟩
      refine ⟨p, Lb, rfl, xs, B, P9.same s10, La, hLb10, bB9.keep (Kt.same s10), lB, okB', Tabs.ext T9 s10, fun H11 z11 T11 => ⟨true, rfl, fun c => (by cases c), fun _ => ⟨fun b o h m => z11 b o (s10 _ _ (E9 b o h m)) (nH1 b o h m) m, T11⟩⟩⟩
  · rintro _ H3 ⟨x1, x2, x3, x4, x5, rfl, E3, T3⟩
    simp only [exists_and_left, tD1, rTupN, rAll, rMax2, rMin2, tSl, tPart, tNoPart, rSlLN, tYes, rLenS, rRepN, unset, tEv2, calmS, tDNew, rInDN, rIxDN, rSetDN, tDN1, tDGetN, rSorted, cx_K, Value.ref.injEq, HO.xd.injEq, lk0, tSeq, tPar3, tPar, tCons, tNil, tVar, tC, tAsg, gName, gCons, gNil, gTupN, gSub, tOp, rI, rI0, rU, tTest, rNe, rEq, rIxTN, rIxLN, rLenL, rLenT, tLstRg, tRg1, tRg2, rIntI, rIntB, rAbs, rSetLN, tTruL, tRaiseX, rIsTy, rIsOw, ixN0, ixN1, tRet, tIf, tIfS, tNext, tBreak, tCont, tDrop, tTupN, tLstN, tUn, tCB, tCall, tNot, tAnd, tOr, tB, tAndV, tOrV, tNotV, tChain, tApp, LamX.tLam, tRevLN, rCatN, rInTN, rInLN, flatV, inV, List.all_cons, List.all_nil, List.any_cons, List.any_nil, Bool.and_self, Bool.and_true, if_true, Bool.false_eq_true, if_false, tMt, tFldN, tSto, HO.ins.injEq, lkh, List.drop_zero, List.drop_succ_cons, List.drop_nil, rListS, wipe, L2.start, List.map_cons, List.map_nil, List.length_cons, List.length_nil, List.replicate, List.cons_append, List.nil_append, List.append_nil, Nat.reduceAdd, Nat.reduceSub, Nat.zero_add, List.replicate_succ, List.replicate_zero, List.getElem?_cons_zero, List.getElem?_cons_succ, List.set_cons_zero, List.set_cons_succ, Option.some.injEq, V.int.injEq, V.bl.injEq, V.ref.injEq, V.str.injEq, V.ty.injEq, List.cons.injEq, HO.tup.injEq, HO.lst.injEq, and_true, true_and, and_assoc, exists_eq_left, exists_eq_left', exists_and_left, exists_eq', atI0, atI1, atI2, atI3, Int.cast_ofNat_Int, Int.reduceToNat, scal_ii, scal_in, scal_ni, scal_nn, scal_bb, scal_ss, scal_sn, scal_ns, scal_bn, scal_nb, ite_iff, decide_eq_true_eq, decide_eq_false_iff_not, Bool.not_eq_true', Classical.not_not, ne_eq, not_false_eq_true, not_true_eq_false, forall_const, true_implies, false_implies, imp_self, sizeLine_eq, Nat.reduceLeDiff, reduceCtorEq, decide_true, decide_false]
    have hE : ∀ {G : Hp} {R : VK}, (∀ a S G', G a = none → Same G G' → RegAt K G' a S → GoodS [] [] S → S = [] → R (.ref a) G') → spReg K [.ref t0] G R E := fun {G R} r =>
      reg_of (B := []) ⟨_, e0.ty, T.kM_tuple⟩ (.inr e0.sq) ⟨rfl, fun i b h => by simp at h⟩ (by decide) (fun b hb => by simp at hb) fun a S G' n s R G V => r a S G' n s R G (reg_nil G fun x y => by rw [V]; rfl)
    refine hE fun a S1 G1 n1 s1' R1 G1' e1 => ?_
    intro m1 M1 _ w1 f1
    refine reg_of (B := []) ⟨_, .base (.lst f1), T.kM_list⟩ (.inl f1) ⟨rfl, fun i b h => by simp at h⟩ (by decide) (fun b hb => by simp at hb) fun b S2 G2 n2 s2 R2 G2' V2 => ?_
    have e2 : S2 = [] := reg_nil G2' fun x y => by rw [V2]; rfl
    subst e1; subst e2
    obtain ⟨dx1, q1, a1, l1⟩ := R1.kt (Kt.same (w1.trans s2))
    have R2' := R2
    obtain ⟨dx2, q2, a2, l2⟩ := R2
    refine ⟨a, dx1, _, rfl, a1, ⟨_, T.ci_Region.ty a2, T.nR_Region⟩, a, _, rfl, [], ⟨dx1, q1, a1, l1⟩, .inr ⟨b, [], rfl, ⟨dx2, q2, a2, l2⟩, ⟨_, rfl, ⟨_, rfl, fun _ => ?_, fun c => absurd (by simp) c⟩⟩⟩⟩
    refine hE fun a3 S3 G3 n3 s3 R3 G3' e3 => ?_
    intro m2 M2 _ w2 f2 m3 M3 _ w3 f3
    refine reg_of (B := [((some 0, some 1), (some 0, some 1))]) ⟨_, .base (.lst f3), T.kM_list⟩ (.inl f3) (BxAt.mk' (w3 _ _ f2) ⟨rfl, fun i b h => by simp at h⟩) (by decide) (fun b hb => by
      rw [List.mem_singleton.mp hb]
      exact ⟨fun l h e1 e2 => by cases e1; cases e2; decide, fun l h e1 e2 => by cases e1; cases e2; decide⟩) fun a4 S4 G4 n4 s4 R4 G4' V4 => ?_
    subst e3
    have ne4 : ([] : List (Bd Row)) ≠ S4 := fun e => by
      subst e
      have := V4 0 0
      revert this
      decide
    obtain ⟨dx3, q3, a3', l3⟩ := R3.kt (Kt.same ((w2.trans w3).trans s4))
    obtain ⟨dx4, q4, a4', l4⟩ := R4
    refine ⟨a3, dx3, _, rfl, a3', ⟨_, T.ci_Region.ty a4', T.nR_Region⟩, a3, _, rfl, [], ⟨dx3, q3, a3', l3⟩, .inr ⟨a4, S4, rfl, ⟨dx4, q4, a4', l4⟩, ⟨_, rfl, ⟨_, rfl, fun _ => ?_, fun c => absurd (by simp [ne4]) c⟩⟩⟩⟩
    intro pc M5 _ w5 f5
    refine hE fun a5 S5 G5 n5 s5 R5 G5' e5 => ?_
    subst e5
    have hc := s5 _ _ f5
    obtain ⟨dx5, q5, a5', l5⟩ := R5
    refine ⟨a5, dx5, _, rfl, a5', a5, _, rfl, [], [], [], ⟨dx5, q5, a5', l5⟩, GoodS.nil, by decide, by decide, P2.k hc, fun e => (by rw [pairV_of hc] at e; cases e), fun x y H' e s' => ⟨_, rfl, ?_⟩⟩
    exact k H'

end
end Iz
/-! k21_n -/
set_option Elab.async false
set_option linter.all false
set_option maxRecDepth 100000
set_option maxHeartbeats 4000000
namespace Iz
open PySem PySem.Spec PyProof.Rows L2
open He (ga)
open SX (S S_len)
local macro_rules | `(tactic| walk_at "wp") => `(tactic| simp only [tD1, rTupN, rAll, rMax2, rMin2, tSl, tPart, tNoPart, rSlLN, tYes, rLenS, rRepN, unset, tEv2, calmS, tDNew, rInDN, rIxDN, rSetDN, tDN1, tDGetN, rSorted, cx_K, Value.ref.injEq, HO.xd.injEq, lk0, tSeq, tPar3, tPar, tCons, tNil, tVar, tC, tAsg, gName, gCons, gNil, gTupN, gSub, tOp, rI, rI0, rU, tTest, rNe, rEq, rIxTN, rIxLN, rLenL, rLenT, tLstRg, tRg1, tRg2, rIntI, rIntB, rAbs, rSetLN, tTruL, tRaiseX, rIsTy, rIsOw, ixN0, ixN1, tRet, tIf, tIfS, tNext, tBreak, tCont, tDrop, tTupN, tLstN, tUn, tCB, tCall, tNot, tAnd, tOr, tB, tAndV, tOrV, tNotV, tChain, tApp, LamX.tLam, tRevLN, rCatN, rInTN, rInLN, flatV, inV, List.all_cons, List.all_nil, List.any_cons, List.any_nil, Bool.and_self, Bool.and_true, if_true, Bool.false_eq_true, if_false, tMt, tFldN, tSto, HO.ins.injEq, lkh, List.drop_zero, List.drop_succ_cons, List.drop_nil, rListS, wipe, L2.start, List.map_cons, List.map_nil, List.length_cons, List.length_nil, List.replicate, List.cons_append, List.nil_append, List.append_nil, Nat.reduceAdd, Nat.reduceSub, Nat.zero_add, List.replicate_succ, List.replicate_zero, List.getElem?_cons_zero, List.getElem?_cons_succ, List.set_cons_zero, List.set_cons_succ, Option.some.injEq, V.int.injEq, V.bl.injEq, V.ref.injEq, V.str.injEq, V.ty.injEq, List.cons.injEq, HO.tup.injEq, HO.lst.injEq, and_true, true_and, and_assoc, exists_eq_left, exists_eq_left', exists_and_left, exists_eq', atI0, atI1, atI2, atI3, Int.cast_ofNat_Int, Int.reduceToNat, scal_ii, scal_in, scal_ni, scal_nn, scal_bb, scal_ss, scal_sn, scal_ns, scal_bn, scal_nb, ite_iff, decide_eq_true_eq, decide_eq_false_iff_not, Bool.not_eq_true', Classical.not_not, ne_eq, not_false_eq_true, not_true_eq_false, forall_const, true_implies, false_implies, imp_self, sizeLine_eq, Nat.reduceLeDiff, reduceCtorEq, decide_true, decide_false])
section
variable {P : Program} {w : World} {K : PySem.W.Frag} {mg : Str → Option Value} {base : Heap}
theorem txt_mk {h : Heap} (X : K.In h) (G : h.Ns mainGlobals mg) {f_is_whole f_is_row f_is_pair f_is_span f_is_box f_Region___init__ f_Region___eq__ f_Region___contains__ f_Region_slabs f_row_at f_require_region f_require_whole f_slabs_of_boxes f_row_with f_slab_changes f_stretch_changes f_side_by_side f__changes f__joined_bands f__slabs_together f__row_together f__slabs_of_told f__law_pool f__law_take f__law_one f__law_rounds f__law_side f__law_box f__law_ended f__law_boxes f__law_lies f__law_has f__law_square f__law_caught f__law_cells_right f__law_refused f_law c__law_refused P__law_refused C_BadPart N_BadPart fi_BadPart C_BadIndex N_BadIndex fi_BadIndex C_TooMany N_TooMany fi_TooMany C_BadNumber C_NotSo : Addr} {od_is_whole an_is_whole od_is_row an_is_row od_is_pair an_is_pair od_is_span an_is_span od_is_box an_is_box od_Region___init__ an_Region___init__ od_Region___eq__ an_Region___eq__ od_Region___contains__ an_Region___contains__ od_Region_slabs an_Region_slabs od_row_at an_row_at od_require_region an_require_region od_require_whole an_require_whole od_slabs_of_boxes an_slabs_of_boxes od_row_with an_row_with od_slab_changes an_slab_changes od_stretch_changes an_stretch_changes od_side_by_side an_side_by_side od__changes an__changes od__joined_bands an__joined_bands od__slabs_together an__slabs_together od__row_together an__row_together od__slabs_of_told an__slabs_of_told od__law_pool an__law_pool od__law_take an__law_take od__law_one an__law_one od__law_rounds an__law_rounds od__law_side an__law_side od__law_box an__law_box od__law_ended an__law_ended od__law_boxes an__law_boxes od__law_lies an__law_lies od__law_has an__law_has od__law_square an__law_square od__law_caught an__law_caught od__law_cells_right an__law_cells_right od__law_refused an__law_refused od_law an_law : Option Addr} {sl_is_whole sl_is_row sl_is_pair sl_is_span sl_is_box sl_Region___init__ sl_Region___eq__ sl_Region___contains__ sl_Region_slabs sl_row_at sl_require_region sl_require_whole sl_slabs_of_boxes sl_row_with sl_slab_changes sl_stretch_changes sl_side_by_side sl__changes sl__joined_bands sl__slabs_together sl__row_together sl__slabs_of_told sl__law_pool sl__law_take sl__law_one sl__law_rounds sl__law_side sl__law_box sl__law_ended sl__law_boxes sl__law_lies sl__law_has sl__law_square sl__law_caught sl__law_cells_right sl__law_refused sl_law : Array (Option Value)} {oc_is_whole kV_is_whole dc_is_whole pm_is_whole ct_is_whole oc_is_row kV_is_row dc_is_row pm_is_row ct_is_row oc_is_pair kV_is_pair dc_is_pair pm_is_pair ct_is_pair oc_is_span kV_is_span dc_is_span pm_is_span ct_is_span oc_is_box kV_is_box dc_is_box pm_is_box ct_is_box oc_Region___init__ kV_Region___init__ dc_Region___init__ pm_Region___init__ ct_Region___init__ oc_Region___eq__ kV_Region___eq__ dc_Region___eq__ pm_Region___eq__ ct_Region___eq__ oc_Region___contains__ kV_Region___contains__ dc_Region___contains__ pm_Region___contains__ ct_Region___contains__ oc_Region_slabs kV_Region_slabs dc_Region_slabs pm_Region_slabs ct_Region_slabs oc_row_at kV_row_at dc_row_at pm_row_at ct_row_at oc_require_region kV_require_region dc_require_region pm_require_region ct_require_region oc_require_whole kV_require_whole dc_require_whole pm_require_whole ct_require_whole oc_slabs_of_boxes kV_slabs_of_boxes dc_slabs_of_boxes pm_slabs_of_boxes ct_slabs_of_boxes oc_row_with kV_row_with dc_row_with pm_row_with ct_row_with oc_slab_changes kV_slab_changes dc_slab_changes pm_slab_changes ct_slab_changes oc_stretch_changes kV_stretch_changes dc_stretch_changes pm_stretch_changes ct_stretch_changes oc_side_by_side kV_side_by_side dc_side_by_side pm_side_by_side ct_side_by_side oc__changes kV__changes dc__changes pm__changes ct__changes oc__joined_bands kV__joined_bands dc__joined_bands pm__joined_bands ct__joined_bands oc__slabs_together kV__slabs_together dc__slabs_together pm__slabs_together ct__slabs_together oc__row_together kV__row_together dc__row_together pm__row_together ct__row_together oc__slabs_of_told kV__slabs_of_told dc__slabs_of_told pm__slabs_of_told ct__slabs_of_told oc__law_pool kV__law_pool dc__law_pool pm__law_pool ct__law_pool oc__law_take kV__law_take dc__law_take pm__law_take ct__law_take oc__law_one kV__law_one dc__law_one pm__law_one ct__law_one oc__law_rounds kV__law_rounds dc__law_rounds pm__law_rounds ct__law_rounds oc__law_side kV__law_side dc__law_side pm__law_side ct__law_side oc__law_box kV__law_box dc__law_box pm__law_box ct__law_box oc__law_ended kV__law_ended dc__law_ended pm__law_ended ct__law_ended oc__law_boxes kV__law_boxes dc__law_boxes pm__law_boxes ct__law_boxes oc__law_lies kV__law_lies dc__law_lies pm__law_lies ct__law_lies oc__law_has kV__law_has dc__law_has pm__law_has ct__law_has oc__law_square kV__law_square dc__law_square pm__law_square ct__law_square oc__law_caught kV__law_caught dc__law_caught pm__law_caught ct__law_caught oc__law_cells_right kV__law_cells_right dc__law_cells_right pm__law_cells_right ct__law_cells_right oc__law_refused kV__law_refused dc__law_refused pm__law_refused ct__law_refused oc_law kV_law dc_law pm_law ct_law cd_is_whole cd_is_row cd_is_pair cd_is_span cd_is_box cd_Region___init__ cd_Region___eq__ cd_Region___contains__ cd_Region_slabs cd_row_at cd_require_region cd_require_whole cd_slabs_of_boxes cd_row_with cd_slab_changes cd_stretch_changes cd_side_by_side cd__changes cd__joined_bands cd__slabs_together cd__row_together cd__slabs_of_told cd__law_pool cd__law_take cd__law_one cd__law_rounds cd__law_side cd__law_box cd__law_ended cd__law_boxes cd__law_lies cd__law_has cd__law_square cd__law_caught cd__law_cells_right cd_law : Value} {C_MadeSlabs C_Region : Addr} {T_Region___init__ : Addr} {ocT_Region___init__ : Value} {odT_Region___init__ : Option Addr} {nT_Region___init__ : Nat} {slT_Region___init__ : Array (Option Value)} {tk_Region___init___0 : Addr} {od0_Region___init__ : Option Addr} {n0_Region___init__ : Nat} {sl0_Region___init__ : Array (Option Value)} {C_EITHER tt_EITHER_0 tt_EITHER_1 tt_EITHER_2 : Addr} {odt_EITHER odt_EITHER_0 odt_EITHER_1 odt_EITHER_2 : Option Addr} {nt_EITHER nt_EITHER_0 nt_EITHER_1 nt_EITHER_2 : Nat} {slt_EITHER slt_EITHER_0 slt_EITHER_1 slt_EITHER_2 : Array (Option Value)} {tc_MOST_BOXES : Tok} {dd_BadPart odx_BadPart anx_BadPart dd_BadIndex odx_BadIndex anx_BadIndex dd_TooMany odx_TooMany anx_TooMany : Option Addr} {nm_BadPart q_BadPart nm_BadIndex q_BadIndex nm_TooMany q_TooMany : Str} {bs_BadPart bm_BadPart sub_BadPart bs_BadIndex bm_BadIndex sub_BadIndex bs_TooMany bm_TooMany sub_TooMany : List Value} {sn_BadPart sn_BadIndex sn_TooMany : List Str} {ab_BadPart ab_BadIndex ab_TooMany : Bool} {col_BadPart col_BadIndex col_TooMany : Option Bool} {m0_BadPart m1_BadPart m2_BadPart m3_BadPart m5_BadPart m0_BadIndex m1_BadIndex m2_BadIndex m3_BadIndex m5_BadIndex m0_TooMany m1_TooMany m2_TooMany m3_TooMany m5_TooMany : Option Value} {ocx_BadPart kVx_BadPart dcx_BadPart pmx_BadPart cdx_BadPart ctx_BadPart ocx_BadIndex kVx_BadIndex dcx_BadIndex pmx_BadIndex cdx_BadIndex ctx_BadIndex ocx_TooMany kVx_TooMany dcx_TooMany pmx_TooMany cdx_TooMany ctx_TooMany : Value} {slx_BadPart slx_BadIndex slx_TooMany : Array (Option Value)}
    (a_is_whole : PySem.W.nsIn K mainGlobals "is_whole" = some (some (.ref f_is_whole)))
    (l_is_whole : K.lookup f_is_whole = some ⟨oc_is_whole, od_is_whole, .func (PySem.W.fnOf "is_whole" "is_whole" (defArgs s_is_whole) (defBody s_is_whole) (defScope s_is_whole) .none kV_is_whole dc_is_whole pm_is_whole an_is_whole cd_is_whole ct_is_whole), sl_is_whole⟩)
    (d_is_whole : PySem.W.codeIn K cd_is_whole "is_whole" = true)
    (k_is_whole : PySem.W.keepIn K (.ref f_is_whole) = true)
    (a_is_row : PySem.W.nsIn K mainGlobals "is_row" = some (some (.ref f_is_row)))
    (l_is_row : K.lookup f_is_row = some ⟨oc_is_row, od_is_row, .func (PySem.W.fnOf "is_row" "is_row" (defArgs s_is_row) (defBody s_is_row) (defScope s_is_row) .none kV_is_row dc_is_row pm_is_row an_is_row cd_is_row ct_is_row), sl_is_row⟩)
    (d_is_row : PySem.W.codeIn K cd_is_row "is_row" = true)
    (k_is_row : PySem.W.keepIn K (.ref f_is_row) = true)
    (a_is_pair : PySem.W.nsIn K mainGlobals "is_pair" = some (some (.ref f_is_pair)))
    (l_is_pair : K.lookup f_is_pair = some ⟨oc_is_pair, od_is_pair, .func (PySem.W.fnOf "is_pair" "is_pair" (defArgs s_is_pair) (defBody s_is_pair) (defScope s_is_pair) .none kV_is_pair dc_is_pair pm_is_pair an_is_pair cd_is_pair ct_is_pair), sl_is_pair⟩)
    (d_is_pair : PySem.W.codeIn K cd_is_pair "is_pair" = true)
    (k_is_pair : PySem.W.keepIn K (.ref f_is_pair) = true)
    (a_is_span : PySem.W.nsIn K mainGlobals "is_span" = some (some (.ref f_is_span)))
    (l_is_span : K.lookup f_is_span = some ⟨oc_is_span, od_is_span, .func (PySem.W.fnOf "is_span" "is_span" (defArgs s_is_span) (defBody s_is_span) (defScope s_is_span) .none kV_is_span dc_is_span pm_is_span an_is_span cd_is_span ct_is_span), sl_is_span⟩)
    (d_is_span : PySem.W.codeIn K cd_is_span "is_span" = true)
    (k_is_span : PySem.W.keepIn K (.ref f_is_span) = true)
    (a_is_box : PySem.W.nsIn K mainGlobals "is_box" = some (some (.ref f_is_box)))
    (l_is_box : K.lookup f_is_box = some ⟨oc_is_box, od_is_box, .func (PySem.W.fnOf "is_box" "is_box" (defArgs s_is_box) (defBody s_is_box) (defScope s_is_box) .none kV_is_box dc_is_box pm_is_box an_is_box cd_is_box ct_is_box), sl_is_box⟩)
    (d_is_box : PySem.W.codeIn K cd_is_box "is_box" = true)
    (k_is_box : PySem.W.keepIn K (.ref f_is_box) = true)
    (a_row_at : PySem.W.nsIn K mainGlobals "row_at" = some (some (.ref f_row_at)))
    (l_row_at : K.lookup f_row_at = some ⟨oc_row_at, od_row_at, .func (PySem.W.fnOf "row_at" "row_at" (defArgs s_row_at) (defBody s_row_at) (defScope s_row_at) .none kV_row_at dc_row_at pm_row_at an_row_at cd_row_at ct_row_at), sl_row_at⟩)
    (d_row_at : PySem.W.codeIn K cd_row_at "row_at" = true)
    (k_row_at : PySem.W.keepIn K (.ref f_row_at) = true)
    (a_require_region : PySem.W.nsIn K mainGlobals "require_region" = some (some (.ref f_require_region)))
    (l_require_region : K.lookup f_require_region = some ⟨oc_require_region, od_require_region, .func (PySem.W.fnOf "require_region" "require_region" (defArgs s_require_region) (defBody s_require_region) (defScope s_require_region) .none kV_require_region dc_require_region pm_require_region an_require_region cd_require_region ct_require_region), sl_require_region⟩)
    (d_require_region : PySem.W.codeIn K cd_require_region "require_region" = true)
    (k_require_region : PySem.W.keepIn K (.ref f_require_region) = true)
    (a_require_whole : PySem.W.nsIn K mainGlobals "require_whole" = some (some (.ref f_require_whole)))
    (l_require_whole : K.lookup f_require_whole = some ⟨oc_require_whole, od_require_whole, .func (PySem.W.fnOf "require_whole" "require_whole" (defArgs s_require_whole) (defBody s_require_whole) (defScope s_require_whole) .none kV_require_whole dc_require_whole pm_require_whole an_require_whole cd_require_whole ct_require_whole), sl_require_whole⟩)
    (d_require_whole : PySem.W.codeIn K cd_require_whole "require_whole" = true)
    (k_require_whole : PySem.W.keepIn K (.ref f_require_whole) = true)
    (a_slabs_of_boxes : PySem.W.nsIn K mainGlobals "slabs_of_boxes" = some (some (.ref f_slabs_of_boxes)))
    (l_slabs_of_boxes : K.lookup f_slabs_of_boxes = some ⟨oc_slabs_of_boxes, od_slabs_of_boxes, .func (PySem.W.fnOf "slabs_of_boxes" "slabs_of_boxes" (defArgs s_slabs_of_boxes) (defBody s_slabs_of_boxes) (defScope s_slabs_of_boxes) .none kV_slabs_of_boxes dc_slabs_of_boxes pm_slabs_of_boxes an_slabs_of_boxes cd_slabs_of_boxes ct_slabs_of_boxes), sl_slabs_of_boxes⟩)
    (d_slabs_of_boxes : PySem.W.codeIn K cd_slabs_of_boxes "slabs_of_boxes" = true)
    (k_slabs_of_boxes : PySem.W.keepIn K (.ref f_slabs_of_boxes) = true)
    (a_row_with : PySem.W.nsIn K mainGlobals "row_with" = some (some (.ref f_row_with)))
    (l_row_with : K.lookup f_row_with = some ⟨oc_row_with, od_row_with, .func (PySem.W.fnOf "row_with" "row_with" (defArgs s_row_with) (defBody s_row_with) (defScope s_row_with) .none kV_row_with dc_row_with pm_row_with an_row_with cd_row_with ct_row_with), sl_row_with⟩)
    (d_row_with : PySem.W.codeIn K cd_row_with "row_with" = true)
    (k_row_with : PySem.W.keepIn K (.ref f_row_with) = true)
    (a_slab_changes : PySem.W.nsIn K mainGlobals "slab_changes" = some (some (.ref f_slab_changes)))
    (l_slab_changes : K.lookup f_slab_changes = some ⟨oc_slab_changes, od_slab_changes, .func (PySem.W.fnOf "slab_changes" "slab_changes" (defArgs s_slab_changes) (defBody s_slab_changes) (defScope s_slab_changes) .none kV_slab_changes dc_slab_changes pm_slab_changes an_slab_changes cd_slab_changes ct_slab_changes), sl_slab_changes⟩)
    (d_slab_changes : PySem.W.codeIn K cd_slab_changes "slab_changes" = true)
    (k_slab_changes : PySem.W.keepIn K (.ref f_slab_changes) = true)
    (a_stretch_changes : PySem.W.nsIn K mainGlobals "stretch_changes" = some (some (.ref f_stretch_changes)))
    (l_stretch_changes : K.lookup f_stretch_changes = some ⟨oc_stretch_changes, od_stretch_changes, .func (PySem.W.fnOf "stretch_changes" "stretch_changes" (defArgs s_stretch_changes) (defBody s_stretch_changes) (defScope s_stretch_changes) .none kV_stretch_changes dc_stretch_changes pm_stretch_changes an_stretch_changes cd_stretch_changes ct_stretch_changes), sl_stretch_changes⟩)
    (d_stretch_changes : PySem.W.codeIn K cd_stretch_changes "stretch_changes" = true)
    (k_stretch_changes : PySem.W.keepIn K (.ref f_stretch_changes) = true)
    (a_side_by_side : PySem.W.nsIn K mainGlobals "side_by_side" = some (some (.ref f_side_by_side)))
    (l_side_by_side : K.lookup f_side_by_side = some ⟨oc_side_by_side, od_side_by_side, .func (PySem.W.fnOf "side_by_side" "side_by_side" (defArgs s_side_by_side) (defBody s_side_by_side) (defScope s_side_by_side) .none kV_side_by_side dc_side_by_side pm_side_by_side an_side_by_side cd_side_by_side ct_side_by_side), sl_side_by_side⟩)
    (d_side_by_side : PySem.W.codeIn K cd_side_by_side "side_by_side" = true)
    (k_side_by_side : PySem.W.keepIn K (.ref f_side_by_side) = true)
    (a__changes : PySem.W.nsIn K mainGlobals "_changes" = some (some (.ref f__changes)))
    (l__changes : K.lookup f__changes = some ⟨oc__changes, od__changes, .func (PySem.W.fnOf "_changes" "_changes" (defArgs s__changes) (defBody s__changes) (defScope s__changes) .none kV__changes dc__changes pm__changes an__changes cd__changes ct__changes), sl__changes⟩)
    (d__changes : PySem.W.codeIn K cd__changes "_changes" = true)
    (k__changes : PySem.W.keepIn K (.ref f__changes) = true)
    (a__joined_bands : PySem.W.nsIn K mainGlobals "_joined_bands" = some (some (.ref f__joined_bands)))
    (l__joined_bands : K.lookup f__joined_bands = some ⟨oc__joined_bands, od__joined_bands, .func (PySem.W.fnOf "_joined_bands" "_joined_bands" (defArgs s__joined_bands) (defBody s__joined_bands) (defScope s__joined_bands) .none kV__joined_bands dc__joined_bands pm__joined_bands an__joined_bands cd__joined_bands ct__joined_bands), sl__joined_bands⟩)
    (d__joined_bands : PySem.W.codeIn K cd__joined_bands "_joined_bands" = true)
    (k__joined_bands : PySem.W.keepIn K (.ref f__joined_bands) = true)
    (a__slabs_together : PySem.W.nsIn K mainGlobals "_slabs_together" = some (some (.ref f__slabs_together)))
    (l__slabs_together : K.lookup f__slabs_together = some ⟨oc__slabs_together, od__slabs_together, .func (PySem.W.fnOf "_slabs_together" "_slabs_together" (defArgs s__slabs_together) (defBody s__slabs_together) (defScope s__slabs_together) .none kV__slabs_together dc__slabs_together pm__slabs_together an__slabs_together cd__slabs_together ct__slabs_together), sl__slabs_together⟩)
    (d__slabs_together : PySem.W.codeIn K cd__slabs_together "_slabs_together" = true)
    (k__slabs_together : PySem.W.keepIn K (.ref f__slabs_together) = true)
    (a__row_together : PySem.W.nsIn K mainGlobals "_row_together" = some (some (.ref f__row_together)))
    (l__row_together : K.lookup f__row_together = some ⟨oc__row_together, od__row_together, .func (PySem.W.fnOf "_row_together" "_row_together" (defArgs s__row_together) (defBody s__row_together) (defScope s__row_together) .none kV__row_together dc__row_together pm__row_together an__row_together cd__row_together ct__row_together), sl__row_together⟩)
    (d__row_together : PySem.W.codeIn K cd__row_together "_row_together" = true)
    (k__row_together : PySem.W.keepIn K (.ref f__row_together) = true)
    (a__slabs_of_told : PySem.W.nsIn K mainGlobals "_slabs_of_told" = some (some (.ref f__slabs_of_told)))
    (l__slabs_of_told : K.lookup f__slabs_of_told = some ⟨oc__slabs_of_told, od__slabs_of_told, .func (PySem.W.fnOf "_slabs_of_told" "_slabs_of_told" (defArgs s__slabs_of_told) (defBody s__slabs_of_told) (defScope s__slabs_of_told) .none kV__slabs_of_told dc__slabs_of_told pm__slabs_of_told an__slabs_of_told cd__slabs_of_told ct__slabs_of_told), sl__slabs_of_told⟩)
    (d__slabs_of_told : PySem.W.codeIn K cd__slabs_of_told "_slabs_of_told" = true)
    (k__slabs_of_told : PySem.W.keepIn K (.ref f__slabs_of_told) = true)
    (a__law_pool : PySem.W.nsIn K mainGlobals "_law_pool" = some (some (.ref f__law_pool)))
    (l__law_pool : K.lookup f__law_pool = some ⟨oc__law_pool, od__law_pool, .func (PySem.W.fnOf "_law_pool" "_law_pool" (defArgs s__law_pool) (defBody s__law_pool) (defScope s__law_pool) .none kV__law_pool dc__law_pool pm__law_pool an__law_pool cd__law_pool ct__law_pool), sl__law_pool⟩)
    (d__law_pool : PySem.W.codeIn K cd__law_pool "_law_pool" = true)
    (k__law_pool : PySem.W.keepIn K (.ref f__law_pool) = true)
    (a__law_take : PySem.W.nsIn K mainGlobals "_law_take" = some (some (.ref f__law_take)))
    (l__law_take : K.lookup f__law_take = some ⟨oc__law_take, od__law_take, .func (PySem.W.fnOf "_law_take" "_law_take" (defArgs s__law_take) (defBody s__law_take) (defScope s__law_take) .none kV__law_take dc__law_take pm__law_take an__law_take cd__law_take ct__law_take), sl__law_take⟩)
    (d__law_take : PySem.W.codeIn K cd__law_take "_law_take" = true)
    (k__law_take : PySem.W.keepIn K (.ref f__law_take) = true)
    (a__law_one : PySem.W.nsIn K mainGlobals "_law_one" = some (some (.ref f__law_one)))
    (l__law_one : K.lookup f__law_one = some ⟨oc__law_one, od__law_one, .func (PySem.W.fnOf "_law_one" "_law_one" (defArgs s__law_one) (defBody s__law_one) (defScope s__law_one) .none kV__law_one dc__law_one pm__law_one an__law_one cd__law_one ct__law_one), sl__law_one⟩)
    (d__law_one : PySem.W.codeIn K cd__law_one "_law_one" = true)
    (k__law_one : PySem.W.keepIn K (.ref f__law_one) = true)
    (a__law_rounds : PySem.W.nsIn K mainGlobals "_law_rounds" = some (some (.ref f__law_rounds)))
    (l__law_rounds : K.lookup f__law_rounds = some ⟨oc__law_rounds, od__law_rounds, .func (PySem.W.fnOf "_law_rounds" "_law_rounds" (defArgs s__law_rounds) (defBody s__law_rounds) (defScope s__law_rounds) .none kV__law_rounds dc__law_rounds pm__law_rounds an__law_rounds cd__law_rounds ct__law_rounds), sl__law_rounds⟩)
    (d__law_rounds : PySem.W.codeIn K cd__law_rounds "_law_rounds" = true)
    (k__law_rounds : PySem.W.keepIn K (.ref f__law_rounds) = true)
    (a__law_side : PySem.W.nsIn K mainGlobals "_law_side" = some (some (.ref f__law_side)))
    (l__law_side : K.lookup f__law_side = some ⟨oc__law_side, od__law_side, .func (PySem.W.fnOf "_law_side" "_law_side" (defArgs s__law_side) (defBody s__law_side) (defScope s__law_side) .none kV__law_side dc__law_side pm__law_side an__law_side cd__law_side ct__law_side), sl__law_side⟩)
    (d__law_side : PySem.W.codeIn K cd__law_side "_law_side" = true)
    (k__law_side : PySem.W.keepIn K (.ref f__law_side) = true)
    (a__law_box : PySem.W.nsIn K mainGlobals "_law_box" = some (some (.ref f__law_box)))
    (l__law_box : K.lookup f__law_box = some ⟨oc__law_box, od__law_box, .func (PySem.W.fnOf "_law_box" "_law_box" (defArgs s__law_box) (defBody s__law_box) (defScope s__law_box) .none kV__law_box dc__law_box pm__law_box an__law_box cd__law_box ct__law_box), sl__law_box⟩)
    (d__law_box : PySem.W.codeIn K cd__law_box "_law_box" = true)
    (k__law_box : PySem.W.keepIn K (.ref f__law_box) = true)
    (a__law_ended : PySem.W.nsIn K mainGlobals "_law_ended" = some (some (.ref f__law_ended)))
    (l__law_ended : K.lookup f__law_ended = some ⟨oc__law_ended, od__law_ended, .func (PySem.W.fnOf "_law_ended" "_law_ended" (defArgs s__law_ended) (defBody s__law_ended) (defScope s__law_ended) .none kV__law_ended dc__law_ended pm__law_ended an__law_ended cd__law_ended ct__law_ended), sl__law_ended⟩)
    (d__law_ended : PySem.W.codeIn K cd__law_ended "_law_ended" = true)
    (k__law_ended : PySem.W.keepIn K (.ref f__law_ended) = true)
    (a__law_boxes : PySem.W.nsIn K mainGlobals "_law_boxes" = some (some (.ref f__law_boxes)))
    (l__law_boxes : K.lookup f__law_boxes = some ⟨oc__law_boxes, od__law_boxes, .func (PySem.W.fnOf "_law_boxes" "_law_boxes" (defArgs s__law_boxes) (defBody s__law_boxes) (defScope s__law_boxes) .none kV__law_boxes dc__law_boxes pm__law_boxes an__law_boxes cd__law_boxes ct__law_boxes), sl__law_boxes⟩)
    (d__law_boxes : PySem.W.codeIn K cd__law_boxes "_law_boxes" = true)
    (k__law_boxes : PySem.W.keepIn K (.ref f__law_boxes) = true)
    (a__law_lies : PySem.W.nsIn K mainGlobals "_law_lies" = some (some (.ref f__law_lies)))
    (l__law_lies : K.lookup f__law_lies = some ⟨oc__law_lies, od__law_lies, .func (PySem.W.fnOf "_law_lies" "_law_lies" (defArgs s__law_lies) (defBody s__law_lies) (defScope s__law_lies) .none kV__law_lies dc__law_lies pm__law_lies an__law_lies cd__law_lies ct__law_lies), sl__law_lies⟩)
    (d__law_lies : PySem.W.codeIn K cd__law_lies "_law_lies" = true)
    (k__law_lies : PySem.W.keepIn K (.ref f__law_lies) = true)
    (a__law_has : PySem.W.nsIn K mainGlobals "_law_has" = some (some (.ref f__law_has)))
    (l__law_has : K.lookup f__law_has = some ⟨oc__law_has, od__law_has, .func (PySem.W.fnOf "_law_has" "_law_has" (defArgs s__law_has) (defBody s__law_has) (defScope s__law_has) .none kV__law_has dc__law_has pm__law_has an__law_has cd__law_has ct__law_has), sl__law_has⟩)
    (d__law_has : PySem.W.codeIn K cd__law_has "_law_has" = true)
    (k__law_has : PySem.W.keepIn K (.ref f__law_has) = true)
    (a__law_square : PySem.W.nsIn K mainGlobals "_law_square" = some (some (.ref f__law_square)))
    (l__law_square : K.lookup f__law_square = some ⟨oc__law_square, od__law_square, .func (PySem.W.fnOf "_law_square" "_law_square" (defArgs s__law_square) (defBody s__law_square) (defScope s__law_square) .none kV__law_square dc__law_square pm__law_square an__law_square cd__law_square ct__law_square), sl__law_square⟩)
    (d__law_square : PySem.W.codeIn K cd__law_square "_law_square" = true)
    (k__law_square : PySem.W.keepIn K (.ref f__law_square) = true)
    (a__law_caught : PySem.W.nsIn K mainGlobals "_law_caught" = some (some (.ref f__law_caught)))
    (l__law_caught : K.lookup f__law_caught = some ⟨oc__law_caught, od__law_caught, .func (PySem.W.fnOf "_law_caught" "_law_caught" (defArgs s__law_caught) (defBody s__law_caught) (defScope s__law_caught) .none kV__law_caught dc__law_caught pm__law_caught an__law_caught cd__law_caught ct__law_caught), sl__law_caught⟩)
    (d__law_caught : PySem.W.codeIn K cd__law_caught "_law_caught" = true)
    (k__law_caught : PySem.W.keepIn K (.ref f__law_caught) = true)
    (a__law_cells_right : PySem.W.nsIn K mainGlobals "_law_cells_right" = some (some (.ref f__law_cells_right)))
    (l__law_cells_right : K.lookup f__law_cells_right = some ⟨oc__law_cells_right, od__law_cells_right, .func (PySem.W.fnOf "_law_cells_right" "_law_cells_right" (defArgs s__law_cells_right) (defBody s__law_cells_right) (defScope s__law_cells_right) .none kV__law_cells_right dc__law_cells_right pm__law_cells_right an__law_cells_right cd__law_cells_right ct__law_cells_right), sl__law_cells_right⟩)
    (d__law_cells_right : PySem.W.codeIn K cd__law_cells_right "_law_cells_right" = true)
    (k__law_cells_right : PySem.W.keepIn K (.ref f__law_cells_right) = true)
    (a__law_refused : PySem.W.nsIn K mainGlobals "_law_refused" = some (some (.ref f__law_refused)))
    (l__law_refused : K.lookup f__law_refused = some ⟨oc__law_refused, od__law_refused, .func (PySem.W.fnOf "_law_refused" "_law_refused" (defArgs s__law_refused) (defBody s__law_refused) (defScope s__law_refused) .none kV__law_refused dc__law_refused pm__law_refused an__law_refused (.ref c__law_refused) ct__law_refused), sl__law_refused⟩)
    (d__law_refused : PySem.W.codeIn K (.ref c__law_refused) "_law_refused" = true)
    (k__law_refused : PySem.W.keepIn K (.ref f__law_refused) = true)
    (t__law_refused : PySem.W.tabIn K "_law_refused" = some (c__law_refused, P__law_refused))
    (a_law : PySem.W.nsIn K mainGlobals "law" = some (some (.ref f_law)))
    (l_law : K.lookup f_law = some ⟨oc_law, od_law, .func (PySem.W.fnOf "law" "law" (defArgs s_law) (defBody s_law) (defScope s_law) .none kV_law dc_law pm_law an_law cd_law ct_law), sl_law⟩)
    (d_law : PySem.W.codeIn K cd_law "law" = true)
    (k_law : PySem.W.keepIn K (.ref f_law) = true)
    (xa_MadeSlabs : PySem.W.nsIn K mainGlobals "MadeSlabs" = some (some (.ref C_MadeSlabs)))
    (pg_MadeSlabs : PySem.W.plainGet K C_MadeSlabs Str.empty = true)
    (hd_MadeSlabs : PySem.W.hasDictIn K C_MadeSlabs = true)
    (po_MadeSlabs : PySem.W.plainOver K C_MadeSlabs = true)
    (sa_MadeSlabs : PySem.W.findIn K (.ref C_MadeSlabs) "__setattr__" = some (some (.builtin "object.__setattr__")))
    (mm_MadeSlabs : PySem.W.makesIn K C_MadeSlabs = true)
    (kc_MadeSlabs : PySem.W.keepIn K (.ref C_MadeSlabs) = true)
    (ya_MadeSlabs : PySem.W.findIn K (.ref C_MadeSlabs) "__class__" = some (some (.builtin "object.__class__")))
    (ym_MadeSlabs : PySem.W.mroIn K C_MadeSlabs (.type "object") = some true)
    (na_MadeSlabs_ready : PySem.W.findIn K (.ref C_MadeSlabs) "ready" = some none)
    (xa_Region : PySem.W.nsIn K mainGlobals "Region" = some (some (.ref C_Region)))
    (pg_Region : PySem.W.plainGet K C_Region Str.empty = true)
    (hd_Region : PySem.W.hasDictIn K C_Region = true)
    (po_Region : PySem.W.plainOver K C_Region = true)
    (sa_Region : PySem.W.findIn K (.ref C_Region) "__setattr__" = some (some (.builtin "object.__setattr__")))
    (mm_Region : PySem.W.makesIn K C_Region = true)
    (kc_Region : PySem.W.keepIn K (.ref C_Region) = true)
    (ya_Region : PySem.W.findIn K (.ref C_Region) "__class__" = some (some (.builtin "object.__class__")))
    (ym_Region : PySem.W.mroIn K C_Region (.type "object") = some true)
    (na_Region__slabs : PySem.W.findIn K (.ref C_Region) "_slabs" = some none)
    (ma_Region___init__ : PySem.W.findIn K (.ref C_Region) "__init__" = some (some (.ref f_Region___init__)))
    (mi_Region___init__ : PySem.W.isFn K (.ref f_Region___init__) = true)
    (mk_Region___init__ : PySem.W.keepIn K (.ref f_Region___init__) = true)
    (l_Region___init__ : K.lookup f_Region___init__ = some ⟨oc_Region___init__, od_Region___init__, .func (PySem.W.fnOf "__init__" "Region.__init__" (defArgs s_Region___init__) (defBody s_Region___init__) (defScope s_Region___init__) (.ref T_Region___init__) kV_Region___init__ dc_Region___init__ pm_Region___init__ an_Region___init__ cd_Region___init__ ct_Region___init__), sl_Region___init__⟩)
    (d_Region___init__ : PySem.W.codeIn K cd_Region___init__ "Region.__init__" = true)
    (t_Region___init__ : K.lookup T_Region___init__ = some ⟨ocT_Region___init__, odT_Region___init__, .seq [Value.ref tk_Region___init___0].toArray nT_Region___init__, slT_Region___init__⟩)
    (e0_Region___init__ : K.lookup tk_Region___init___0 = some ⟨.type "tuple", od0_Region___init__, .seq #[] n0_Region___init__, sl0_Region___init__⟩)
    (ma_Region___eq__ : PySem.W.findIn K (.ref C_Region) "__eq__" = some (some (.ref f_Region___eq__)))
    (mi_Region___eq__ : PySem.W.isFn K (.ref f_Region___eq__) = true)
    (mk_Region___eq__ : PySem.W.keepIn K (.ref f_Region___eq__) = true)
    (l_Region___eq__ : K.lookup f_Region___eq__ = some ⟨oc_Region___eq__, od_Region___eq__, .func (PySem.W.fnOf "__eq__" "Region.__eq__" (defArgs s_Region___eq__) (defBody s_Region___eq__) (defScope s_Region___eq__) .none kV_Region___eq__ dc_Region___eq__ pm_Region___eq__ an_Region___eq__ cd_Region___eq__ ct_Region___eq__), sl_Region___eq__⟩)
    (d_Region___eq__ : PySem.W.codeIn K cd_Region___eq__ "Region.__eq__" = true)
    (ma_Region___contains__ : PySem.W.findIn K (.ref C_Region) "__contains__" = some (some (.ref f_Region___contains__)))
    (mi_Region___contains__ : PySem.W.isFn K (.ref f_Region___contains__) = true)
    (mk_Region___contains__ : PySem.W.keepIn K (.ref f_Region___contains__) = true)
    (l_Region___contains__ : K.lookup f_Region___contains__ = some ⟨oc_Region___contains__, od_Region___contains__, .func (PySem.W.fnOf "__contains__" "Region.__contains__" (defArgs s_Region___contains__) (defBody s_Region___contains__) (defScope s_Region___contains__) .none kV_Region___contains__ dc_Region___contains__ pm_Region___contains__ an_Region___contains__ cd_Region___contains__ ct_Region___contains__), sl_Region___contains__⟩)
    (d_Region___contains__ : PySem.W.codeIn K cd_Region___contains__ "Region.__contains__" = true)
    (ma_Region_slabs : PySem.W.findIn K (.ref C_Region) "slabs" = some (some (.ref f_Region_slabs)))
    (mi_Region_slabs : PySem.W.isFn K (.ref f_Region_slabs) = true)
    (mk_Region_slabs : PySem.W.keepIn K (.ref f_Region_slabs) = true)
    (l_Region_slabs : K.lookup f_Region_slabs = some ⟨oc_Region_slabs, od_Region_slabs, .func (PySem.W.fnOf "slabs" "Region.slabs" (defArgs s_Region_slabs) (defBody s_Region_slabs) (defScope s_Region_slabs) .none kV_Region_slabs dc_Region_slabs pm_Region_slabs an_Region_slabs cd_Region_slabs ct_Region_slabs), sl_Region_slabs⟩)
    (d_Region_slabs : PySem.W.codeIn K cd_Region_slabs "Region.slabs" = true)
    (xa_BadPart : PySem.W.nsIn K mainGlobals "BadPart" = some (some (.ref C_BadPart)))
    (xl_BadPart : K.lookup C_BadPart = some (excClassObj nm_BadPart q_BadPart C_BadPart N_BadPart bs_BadPart bm_BadPart true sn_BadPart sub_BadPart ab_BadPart col_BadPart dd_BadPart m0_BadPart m1_BadPart m2_BadPart m3_BadPart m5_BadPart "ValueError.__new__"))
    (xr_BadPart : PySem.HandSPX.refsVE bm_BadPart = true)
    (xs_BadPart : PySem.W.findIn K (.ref C_BadPart) "__setattr__" = some (some (.builtin "object.__setattr__")))
    (xe_BadPart : PySem.W.subIn K (.ref C_BadPart) (.type "BaseException") = some true)
    (xt_BadPart : PySem.W.typeIn K (.ref C_BadPart) = some (.type "type"))
    (xk_BadPart : PySem.W.keepIn K (.ref C_BadPart) = true)
    (xg_BadPart : PySem.W.findIn K (.ref C_BadPart) "__getattribute__" = some (some (.builtin "BaseException.__getattribute__")))
    (xG_BadPart : PySem.W.findIn K (.ref C_BadPart) "__getattr__" = some none)
    (xd_BadPart : PySem.W.hasDictIn K C_BadPart = true)
    (xn_BadPart : PySem.W.findIn K (.ref C_BadPart) "part" = some none)
    (xi_BadPart : PySem.W.findIn K (.ref C_BadPart) "__init__" = some (some (.ref fi_BadPart)))
    (xf_BadPart : PySem.W.typeIn K (.ref fi_BadPart) = some (.type "function"))
    (xL_BadPart : K.lookup fi_BadPart = some ⟨ocx_BadPart, odx_BadPart, .func (PySem.W.fnOf "__init__" "BadPart.__init__" (defArgs s_BadPart___init__) (defBody s_BadPart___init__) (defScope s_BadPart___init__) .none kVx_BadPart dcx_BadPart pmx_BadPart anx_BadPart cdx_BadPart ctx_BadPart), slx_BadPart⟩)
    (xc_BadPart : PySem.W.codeIn K cdx_BadPart "BadPart.__init__" = true)
    (xK_BadPart : PySem.W.keepIn K (.ref fi_BadPart) = true)
    (yc_BadPart : (PySem.W.clsIn K C_BadPart).isSome = true)
    (ya_BadPart : PySem.W.findIn K (.ref C_BadPart) "__class__" = some (some (.builtin "object.__class__")))
    (ym_BadPart : PySem.W.mroIn K C_BadPart (.type "object") = some true)
    (xa_BadIndex : PySem.W.nsIn K mainGlobals "BadIndex" = some (some (.ref C_BadIndex)))
    (xl_BadIndex : K.lookup C_BadIndex = some (excClassObj nm_BadIndex q_BadIndex C_BadIndex N_BadIndex bs_BadIndex bm_BadIndex true sn_BadIndex sub_BadIndex ab_BadIndex col_BadIndex dd_BadIndex m0_BadIndex m1_BadIndex m2_BadIndex m3_BadIndex m5_BadIndex "ValueError.__new__"))
    (xr_BadIndex : PySem.HandSPX.refsVE bm_BadIndex = true)
    (xs_BadIndex : PySem.W.findIn K (.ref C_BadIndex) "__setattr__" = some (some (.builtin "object.__setattr__")))
    (xe_BadIndex : PySem.W.subIn K (.ref C_BadIndex) (.type "BaseException") = some true)
    (xt_BadIndex : PySem.W.typeIn K (.ref C_BadIndex) = some (.type "type"))
    (xk_BadIndex : PySem.W.keepIn K (.ref C_BadIndex) = true)
    (xg_BadIndex : PySem.W.findIn K (.ref C_BadIndex) "__getattribute__" = some (some (.builtin "BaseException.__getattribute__")))
    (xG_BadIndex : PySem.W.findIn K (.ref C_BadIndex) "__getattr__" = some none)
    (xd_BadIndex : PySem.W.hasDictIn K C_BadIndex = true)
    (xn_BadIndex : PySem.W.findIn K (.ref C_BadIndex) "index" = some none)
    (xi_BadIndex : PySem.W.findIn K (.ref C_BadIndex) "__init__" = some (some (.ref fi_BadIndex)))
    (xf_BadIndex : PySem.W.typeIn K (.ref fi_BadIndex) = some (.type "function"))
    (xL_BadIndex : K.lookup fi_BadIndex = some ⟨ocx_BadIndex, odx_BadIndex, .func (PySem.W.fnOf "__init__" "BadIndex.__init__" (defArgs s_BadIndex___init__) (defBody s_BadIndex___init__) (defScope s_BadIndex___init__) .none kVx_BadIndex dcx_BadIndex pmx_BadIndex anx_BadIndex cdx_BadIndex ctx_BadIndex), slx_BadIndex⟩)
    (xc_BadIndex : PySem.W.codeIn K cdx_BadIndex "BadIndex.__init__" = true)
    (xK_BadIndex : PySem.W.keepIn K (.ref fi_BadIndex) = true)
    (yc_BadIndex : (PySem.W.clsIn K C_BadIndex).isSome = true)
    (ya_BadIndex : PySem.W.findIn K (.ref C_BadIndex) "__class__" = some (some (.builtin "object.__class__")))
    (ym_BadIndex : PySem.W.mroIn K C_BadIndex (.type "object") = some true)
    (xa_TooMany : PySem.W.nsIn K mainGlobals "TooMany" = some (some (.ref C_TooMany)))
    (xl_TooMany : K.lookup C_TooMany = some (excClassObj nm_TooMany q_TooMany C_TooMany N_TooMany bs_TooMany bm_TooMany true sn_TooMany sub_TooMany ab_TooMany col_TooMany dd_TooMany m0_TooMany m1_TooMany m2_TooMany m3_TooMany m5_TooMany "OverflowError.__new__"))
    (xr_TooMany : bm_TooMany = Iz.oeT)
    (xs_TooMany : PySem.W.findIn K (.ref C_TooMany) "__setattr__" = some (some (.builtin "object.__setattr__")))
    (xe_TooMany : PySem.W.subIn K (.ref C_TooMany) (.type "BaseException") = some true)
    (xt_TooMany : PySem.W.typeIn K (.ref C_TooMany) = some (.type "type"))
    (xk_TooMany : PySem.W.keepIn K (.ref C_TooMany) = true)
    (xg_TooMany : PySem.W.findIn K (.ref C_TooMany) "__getattribute__" = some (some (.builtin "BaseException.__getattribute__")))
    (xG_TooMany : PySem.W.findIn K (.ref C_TooMany) "__getattr__" = some none)
    (xd_TooMany : PySem.W.hasDictIn K C_TooMany = true)
    (xn_TooMany : PySem.W.findIn K (.ref C_TooMany) "limit" = some none)
    (xi_TooMany : PySem.W.findIn K (.ref C_TooMany) "__init__" = some (some (.ref fi_TooMany)))
    (xf_TooMany : PySem.W.typeIn K (.ref fi_TooMany) = some (.type "function"))
    (xL_TooMany : K.lookup fi_TooMany = some ⟨ocx_TooMany, odx_TooMany, .func (PySem.W.fnOf "__init__" "TooMany.__init__" (defArgs s_TooMany___init__) (defBody s_TooMany___init__) (defScope s_TooMany___init__) .none kVx_TooMany dcx_TooMany pmx_TooMany anx_TooMany cdx_TooMany ctx_TooMany), slx_TooMany⟩)
    (xc_TooMany : PySem.W.codeIn K cdx_TooMany "TooMany.__init__" = true)
    (xK_TooMany : PySem.W.keepIn K (.ref fi_TooMany) = true)
    (yc_TooMany : (PySem.W.clsIn K C_TooMany).isSome = true)
    (ya_TooMany : PySem.W.findIn K (.ref C_TooMany) "__class__" = some (some (.builtin "object.__class__")))
    (ym_TooMany : PySem.W.mroIn K C_TooMany (.type "object") = some true)
    (yn : PySem.W.specialIn K (.builtin "object.__class__") "__get__" = some (some (.builtin "getset_descriptor.__get__")))
    (yt : PySem.W.takesIn K (.builtin "object.__class__") = some true)
    (xa_BadNumber : PySem.W.nsIn K mainGlobals "BadNumber" = some (some (.ref C_BadNumber)))
    (xa_NotSo : PySem.W.nsIn K mainGlobals "NotSo" = some (some (.ref C_NotSo)))
    (ePP : PySem.W.exmOne K (.ref C_BadPart) (.ref C_BadPart) = some true)
    (eIP : PySem.W.exmOne K (.ref C_BadIndex) (.ref C_BadPart) = some false)
    (eII : PySem.W.exmOne K (.ref C_BadIndex) (.ref C_BadIndex) = some true)
    (eMP : PySem.W.exmOne K (.ref C_TooMany) (.ref C_BadPart) = some false)
    (eMI : PySem.W.exmOne K (.ref C_TooMany) (.ref C_BadIndex) = some false)
    (eMN : PySem.W.exmOne K (.ref C_TooMany) (.ref C_BadNumber) = some false)
    (eMS : PySem.W.exmOne K (.ref C_TooMany) (.ref C_NotSo) = some false)
    (eMM : PySem.W.exmOne K (.ref C_TooMany) (.ref C_TooMany) = some true)
    (nR_Region : PySem.W.notFirst K C_Region (.ref C_Region) = true)
    (nR_list : PySem.W.notFirst K C_Region (.type "list") = true)
    (nR_int : PySem.W.notFirst K C_Region (.type "int") = true)
    (kR_list : PySem.W.kitOne K (.type "list") (.ref C_Region) = some false)
    (kR_int : PySem.W.kitOne K (.type "int") (.ref C_Region) = some false)
    (kM_NoneType : PySem.W.kitOne K (.type "NoneType") (.ref C_MadeSlabs) = some false)
    (kM_int : PySem.W.kitOne K (.type "int") (.ref C_MadeSlabs) = some false)
    (kM_str : PySem.W.kitOne K (.type "str") (.ref C_MadeSlabs) = some false)
    (kM_dict : PySem.W.kitOne K (.type "dict") (.ref C_MadeSlabs) = some false)
    (kM_list : PySem.W.kitOne K (.type "list") (.ref C_MadeSlabs) = some false)
    (kM_tuple : PySem.W.kitOne K (.type "tuple") (.ref C_MadeSlabs) = some false)
    (ne_Region : PySem.W.findIn K (.ref C_Region) "__ne__" = some (some (.builtin "object.__ne__")))
    (xt_EITHER : PySem.W.nsIn K mainGlobals "EITHER" = some (some (.ref C_EITHER)))
    (lt_EITHER : K.lookup C_EITHER = some ⟨.type "tuple", odt_EITHER, .seq [Value.ref tt_EITHER_0, Value.ref tt_EITHER_1, Value.ref tt_EITHER_2].toArray nt_EITHER, slt_EITHER⟩)
    (lt_EITHER_0 : K.lookup tt_EITHER_0 = some ⟨.type "tuple", odt_EITHER_0, .seq [Value.bool true, Value.bool false].toArray nt_EITHER_0, slt_EITHER_0⟩)
    (lt_EITHER_1 : K.lookup tt_EITHER_1 = some ⟨.type "tuple", odt_EITHER_1, .seq [Value.bool false, Value.bool true].toArray nt_EITHER_1, slt_EITHER_1⟩)
    (lt_EITHER_2 : K.lookup tt_EITHER_2 = some ⟨.type "tuple", odt_EITHER_2, .seq [Value.bool true, Value.bool true].toArray nt_EITHER_2, slt_EITHER_2⟩)
    (kk_MOST_BOXES : PySem.W.nsIn K mainGlobals "MOST_BOXES" = some (some (.int 40 tc_MOST_BOXES)))
    (z_isinstance : PySem.W.nsIn K mainGlobals "isinstance" = some none)
    (z_int : PySem.W.nsIn K mainGlobals "int" = some none)
    (z_bool : PySem.W.nsIn K mainGlobals "bool" = some none)
    (z_tuple : PySem.W.nsIn K mainGlobals "tuple" = some none)
    (z_len : PySem.W.nsIn K mainGlobals "len" = some none)
    (z_list : PySem.W.nsIn K mainGlobals "list" = some none)
    (z_range : PySem.W.nsIn K mainGlobals "range" = some none)
    (z_min : PySem.W.nsIn K mainGlobals "min" = some none)
    (z_max : PySem.W.nsIn K mainGlobals "max" = some none)
    (z_sorted : PySem.W.nsIn K mainGlobals "sorted" = some none)
    (z_zip : PySem.W.nsIn K mainGlobals "zip" = some none)
    (z_enumerate : PySem.W.nsIn K mainGlobals "enumerate" = some none) : Txt K mg :=
  { d_is_whole := ⟨_, _, PySem.W.mg_of X G a_is_whole, fun_mk (st := s_is_whole) l_is_whole d_is_whole k_is_whole⟩,
    d_is_row := ⟨_, _, PySem.W.mg_of X G a_is_row, fun_mk (st := s_is_row) l_is_row d_is_row k_is_row⟩,
    d_is_pair := ⟨_, _, PySem.W.mg_of X G a_is_pair, fun_mk (st := s_is_pair) l_is_pair d_is_pair k_is_pair⟩,
    d_is_span := ⟨_, _, PySem.W.mg_of X G a_is_span, fun_mk (st := s_is_span) l_is_span d_is_span k_is_span⟩,
    d_is_box := ⟨_, _, PySem.W.mg_of X G a_is_box, fun_mk (st := s_is_box) l_is_box d_is_box k_is_box⟩,
    d_row_at := ⟨_, _, PySem.W.mg_of X G a_row_at, fun_mk (st := s_row_at) l_row_at d_row_at k_row_at⟩,
    d_require_region := ⟨_, _, PySem.W.mg_of X G a_require_region, fun_mk (st := s_require_region) l_require_region d_require_region k_require_region⟩,
    d_require_whole := ⟨_, _, PySem.W.mg_of X G a_require_whole, fun_mk (st := s_require_whole) l_require_whole d_require_whole k_require_whole⟩,
    d_slabs_of_boxes := ⟨_, _, PySem.W.mg_of X G a_slabs_of_boxes, fun_mk (st := s_slabs_of_boxes) l_slabs_of_boxes d_slabs_of_boxes k_slabs_of_boxes⟩,
    d_row_with := ⟨_, _, PySem.W.mg_of X G a_row_with, fun_mk (st := s_row_with) l_row_with d_row_with k_row_with⟩,
    d_slab_changes := ⟨_, _, PySem.W.mg_of X G a_slab_changes, fun_mk (st := s_slab_changes) l_slab_changes d_slab_changes k_slab_changes⟩,
    d_stretch_changes := ⟨_, _, PySem.W.mg_of X G a_stretch_changes, fun_mk (st := s_stretch_changes) l_stretch_changes d_stretch_changes k_stretch_changes⟩,
    d_side_by_side := ⟨_, _, PySem.W.mg_of X G a_side_by_side, fun_mk (st := s_side_by_side) l_side_by_side d_side_by_side k_side_by_side⟩,
    d__changes := ⟨_, _, PySem.W.mg_of X G a__changes, fun_mk (st := s__changes) l__changes d__changes k__changes⟩,
    d__joined_bands := ⟨_, _, PySem.W.mg_of X G a__joined_bands, fun_mk (st := s__joined_bands) l__joined_bands d__joined_bands k__joined_bands⟩,
    d__slabs_together := ⟨_, _, PySem.W.mg_of X G a__slabs_together, fun_mk (st := s__slabs_together) l__slabs_together d__slabs_together k__slabs_together⟩,
    d__row_together := ⟨_, _, PySem.W.mg_of X G a__row_together, fun_mk (st := s__row_together) l__row_together d__row_together k__row_together⟩,
    d__slabs_of_told := ⟨_, _, PySem.W.mg_of X G a__slabs_of_told, fun_mk (st := s__slabs_of_told) l__slabs_of_told d__slabs_of_told k__slabs_of_told⟩,
    d__law_pool := ⟨_, _, PySem.W.mg_of X G a__law_pool, fun_mk (st := s__law_pool) l__law_pool d__law_pool k__law_pool⟩,
    d__law_take := ⟨_, _, PySem.W.mg_of X G a__law_take, fun_mk (st := s__law_take) l__law_take d__law_take k__law_take⟩,
    d__law_one := ⟨_, _, PySem.W.mg_of X G a__law_one, fun_mk (st := s__law_one) l__law_one d__law_one k__law_one⟩,
    d__law_rounds := ⟨_, _, PySem.W.mg_of X G a__law_rounds, fun_mk (st := s__law_rounds) l__law_rounds d__law_rounds k__law_rounds⟩,
    d__law_side := ⟨_, _, PySem.W.mg_of X G a__law_side, fun_mk (st := s__law_side) l__law_side d__law_side k__law_side⟩,
    d__law_box := ⟨_, _, PySem.W.mg_of X G a__law_box, fun_mk (st := s__law_box) l__law_box d__law_box k__law_box⟩,
    d__law_ended := ⟨_, _, PySem.W.mg_of X G a__law_ended, fun_mk (st := s__law_ended) l__law_ended d__law_ended k__law_ended⟩,
    d__law_boxes := ⟨_, _, PySem.W.mg_of X G a__law_boxes, fun_mk (st := s__law_boxes) l__law_boxes d__law_boxes k__law_boxes⟩,
    d__law_lies := ⟨_, _, PySem.W.mg_of X G a__law_lies, fun_mk (st := s__law_lies) l__law_lies d__law_lies k__law_lies⟩,
    d__law_has := ⟨_, _, PySem.W.mg_of X G a__law_has, fun_mk (st := s__law_has) l__law_has d__law_has k__law_has⟩,
    d__law_square := ⟨_, _, PySem.W.mg_of X G a__law_square, fun_mk (st := s__law_square) l__law_square d__law_square k__law_square⟩,
    d__law_caught := ⟨_, _, PySem.W.mg_of X G a__law_caught, fun_mk (st := s__law_caught) l__law_caught d__law_caught k__law_caught⟩,
    d__law_cells_right := ⟨_, _, PySem.W.mg_of X G a__law_cells_right, fun_mk (st := s__law_cells_right) l__law_cells_right d__law_cells_right k__law_cells_right⟩,
    lam__law_refused := lamf_mk X G a__law_refused l__law_refused d__law_refused k__law_refused t__law_refused,
    d_law := ⟨_, _, PySem.W.mg_of X G a_law, fun_mk (st := s_law) l_law d_law k_law⟩,
    ci_MadeSlabs := by rw [ga_of xa_MadeSlabs]; exact ⟨⟨pg_MadeSlabs, hd_MadeSlabs, po_MadeSlabs, sa_MadeSlabs⟩, ya_MadeSlabs, yn, yt, ym_MadeSlabs⟩,
    c_MadeSlabs := by rw [ga_of xa_MadeSlabs]; exact ⟨pg_MadeSlabs, hd_MadeSlabs, po_MadeSlabs, sa_MadeSlabs⟩,
    g_MadeSlabs := by rw [ga_of xa_MadeSlabs]; exact PySem.W.mg_of X G xa_MadeSlabs,
    na_MadeSlabs_ready := by rw [ga_of xa_MadeSlabs]; exact na_MadeSlabs_ready,
    ci_Region := by rw [ga_of xa_Region]; exact ⟨⟨pg_Region, hd_Region, po_Region, sa_Region⟩, ya_Region, yn, yt, ym_Region⟩,
    c_Region := by rw [ga_of xa_Region]; exact ⟨pg_Region, hd_Region, po_Region, sa_Region⟩,
    g_Region := by rw [ga_of xa_Region]; exact PySem.W.mg_of X G xa_Region,
    na_Region__slabs := by rw [ga_of xa_Region]; exact na_Region__slabs,
    d_Region___init__ := by rw [ga_of xa_Region]; exact ⟨_, _, _, ⟨mm_Region, ma_Region___init__, mi_Region___init__, kc_Region⟩, ⟨⟨_, _, _, _, _, _, _, _, _, _, rfl, l_Region___init__, d_Region___init__, .inr ⟨by simp, _, _, _, _, rfl, t_Region___init__, rfl, .cons (rfl) (.nil)⟩, .inl rfl⟩, mk_Region___init__⟩, ⟨_, _, e0_Region___init__, rfl, rfl⟩⟩,
    d_Region___eq__ := by rw [ga_of xa_Region]; exact ⟨_, _, ⟨ma_Region___eq__, mi_Region___eq__, mk_Region___eq__⟩, ⟨⟨_, _, _, _, _, _, _, _, _, _, rfl, l_Region___eq__, d_Region___eq__, .inl ⟨rfl, rfl⟩, .inl rfl⟩, mk_Region___eq__⟩⟩,
    d_Region___contains__ := by rw [ga_of xa_Region]; exact ⟨_, _, ⟨ma_Region___contains__, mi_Region___contains__, mk_Region___contains__⟩, ⟨⟨_, _, _, _, _, _, _, _, _, _, rfl, l_Region___contains__, d_Region___contains__, .inl ⟨rfl, rfl⟩, .inl rfl⟩, mk_Region___contains__⟩⟩,
    d_Region_slabs := by rw [ga_of xa_Region]; exact ⟨_, _, ⟨ma_Region_slabs, mi_Region_slabs, mk_Region_slabs⟩, ⟨⟨_, _, _, _, _, _, _, _, _, _, rfl, l_Region_slabs, d_Region_slabs, .inl ⟨rfl, rfl⟩, .inl rfl⟩, mk_Region_slabs⟩⟩,
    x_BadPart := ext_mk (st := s_BadPart___init__) X G xa_BadPart xl_BadPart xr_BadPart xs_BadPart xe_BadPart xt_BadPart xk_BadPart xg_BadPart xG_BadPart xd_BadPart xn_BadPart xi_BadPart xf_BadPart xL_BadPart xc_BadPart xK_BadPart sc_BadPart___init__ rfl (fun _ _ _ _ _ _ us hl => match us, hl with | [_, _], _ => rfl),
    x_BadIndex := ext_mk (st := s_BadIndex___init__) X G xa_BadIndex xl_BadIndex xr_BadIndex xs_BadIndex xe_BadIndex xt_BadIndex xk_BadIndex xg_BadIndex xG_BadIndex xd_BadIndex xn_BadIndex xi_BadIndex xf_BadIndex xL_BadIndex xc_BadIndex xK_BadIndex sc_BadIndex___init__ rfl (fun _ _ _ _ _ _ us hl => match us, hl with | [_, _], _ => rfl),
    x_TooMany := exto_mk (st := s_TooMany___init__) X G xa_TooMany xl_TooMany xr_TooMany xs_TooMany xe_TooMany xt_TooMany xk_TooMany xg_TooMany xG_TooMany xd_TooMany xn_TooMany xi_TooMany xf_TooMany xL_TooMany xc_TooMany xK_TooMany sc_TooMany___init__ rfl (fun _ _ _ _ _ _ us hl => match us, hl with | [_, _], _ => rfl),
    mPP := by rw [ga_of xa_BadPart]; exact ePP,
    mIP := by rw [ga_of xa_BadIndex, ga_of xa_BadPart]; exact eIP,
    mII := by rw [ga_of xa_BadIndex]; exact eII,
    mMP := by rw [ga_of xa_TooMany, ga_of xa_BadPart]; exact eMP,
    mMI := by rw [ga_of xa_TooMany, ga_of xa_BadIndex]; exact eMI,
    mMN := by rw [ga_of xa_TooMany, ga_of xa_BadNumber]; exact eMN,
    mMS := by rw [ga_of xa_TooMany, ga_of xa_NotSo]; exact eMS,
    mMM := by rw [ga_of xa_TooMany]; exact eMM,
    gN := by rw [ga_of xa_BadNumber]; exact PySem.W.mg_of X G xa_BadNumber,
    gS := by rw [ga_of xa_NotSo]; exact PySem.W.mg_of X G xa_NotSo,
    nR_Region := by rw [ga_of xa_Region]; exact nR_Region,
    nR_list := by rw [ga_of xa_Region]; exact nR_list,
    nR_int := by rw [ga_of xa_Region]; exact nR_int,
    kR_list := by rw [ga_of xa_Region]; exact kR_list,
    kR_int := by rw [ga_of xa_Region]; exact kR_int,
    kM_NoneType := by rw [ga_of xa_MadeSlabs]; exact kM_NoneType,
    kM_int := by rw [ga_of xa_MadeSlabs]; exact kM_int,
    kM_str := by rw [ga_of xa_MadeSlabs]; exact kM_str,
    kM_dict := by rw [ga_of xa_MadeSlabs]; exact kM_dict,
    kM_list := by rw [ga_of xa_MadeSlabs]; exact kM_list,
    kM_tuple := by rw [ga_of xa_MadeSlabs]; exact kM_tuple,
    ne_Region := by rw [ga_of xa_Region]; exact ne_Region,
    g_EITHER := by rw [ga_of xt_EITHER]; exact PySem.W.mg_of X G xt_EITHER,
    gt_EITHER := fun H => by rw [ga_of xt_EITHER]; exact ⟨tt_EITHER_0, tt_EITHER_1, tt_EITHER_2, sqT_fr lt_EITHER (by rw [sizeLine_eq]; exact Nat.le_of_ble_eq_true rfl) (.cons rfl (.cons rfl (.cons rfl (.nil)))), sqT_fr lt_EITHER_0 (by rw [sizeLine_eq]; exact Nat.le_of_ble_eq_true rfl) (.cons rfl (.cons rfl (.nil))), sqT_fr lt_EITHER_1 (by rw [sizeLine_eq]; exact Nat.le_of_ble_eq_true rfl) (.cons rfl (.cons rfl (.nil))), sqT_fr lt_EITHER_2 (by rw [sizeLine_eq]; exact Nat.le_of_ble_eq_true rfl) (.cons rfl (.cons rfl (.nil)))⟩,
    k_MOST_BOXES := ⟨_, PySem.W.mg_of X G kk_MOST_BOXES⟩,
    m_isinstance := PySem.W.mg_none_of X G z_isinstance,
    m_int := PySem.W.mg_none_of X G z_int,
    m_bool := PySem.W.mg_none_of X G z_bool,
    m_tuple := PySem.W.mg_none_of X G z_tuple,
    m_len := PySem.W.mg_none_of X G z_len,
    m_list := PySem.W.mg_none_of X G z_list,
    m_range := PySem.W.mg_none_of X G z_range,
    m_min := PySem.W.mg_none_of X G z_min,
    m_max := PySem.W.mg_none_of X G z_max,
    m_sorted := PySem.W.mg_none_of X G z_sorted,
    m_zip := PySem.W.mg_none_of X G z_zip,
    m_enumerate := PySem.W.mg_none_of X G z_enumerate }
open LamX
theorem law_at {l : PySem.W.OpenLaw} {h : Heap} {fa c P0 : Addr} (X : K.In h) (hmg : mg "law" = some (.ref fa)) (T : Txt K mg) (ht : PySem.W.tabIn K "_law_refused" = some (c, P0)) (hc : PySem.W.codeHdIn K c P0 = true) (hP : h.get? P0 = some (PySem.W.tabObj #[])) (hn : K.lookup P0 = none) :
    LawAtS l w K (L2.CX l.prog w) 14 63 "_law_script" mg fa h := by
  obtain ⟨f, fd, g, F⟩ := T.d_law
  have e : f = fa := by
    have h1 : some (Value.ref f) = some (Value.ref fa) := g.symm.trans hmg
    injection h1 with h2
    injection h2
  subst e
  have e1 : cOf K "_law_refused" = c := by unfold cOf; rw [ht]; rfl
  have e2 : pOf K "_law_refused" = P0 := by unfold pOf; rw [ht]; rfl
  refine ⟨fd, [(c, P0)], spLaw K, ?_, ?_, ?_, ?_, ?_, ?_⟩
  · intro p hp; rw [List.mem_singleton.mp hp]; exact hP
  · intro p hp; rw [List.mem_singleton.mp hp]; exact hn
  · intro p hp; rw [List.mem_singleton.mp hp]; exact PySem.W.codeHd_of_K X hc
  · intro s u
    obtain ⟨oc, od, kV, doc, pm, an, cdv, ct, osl, rfl, _⟩ := F.ex
    exact .of_eq rfl
  · intro H a ns hl _ hT hS
    refine ⟨a, rfl, ns, hS, hl, ?_, fun _ => rfl⟩
    intro p hp
    rw [List.mem_singleton.mp hp, e2]
    exact TabS.nil (hT _ (List.mem_singleton.mpr rfl))
  · intro base kb nb hTB
    refine o_law T ?_ F
    rw [e1, e2]
    exact hTB _ (List.mem_singleton.mpr rfl)
end
end Iz
/-! k21_end -/
set_option Elab.async false
set_option linter.all false
open PySem PySem.W PyProof.Rows
set_option maxRecDepth 100000 in
set_option maxHeartbeats 0 in
theorem PySem.Challenge.cw_endlessplane_k21_regions_made_and_refuse_holds : PySem.Challenge.rw_endlessplane_k21_regions_made_and_refuse.Holds := by
  w_on; o_law; k_head; (case hw => w_witness2)
  k_fill
  refine LamX.walk_ofTs (l := PySem.Challenge.rw_endlessplane_k21_regions_made_and_refuse) (n := 63) (k := 14) (x := "_law_script") (CX := fun w => L2.CX PySem.Challenge.rw_endlessplane_k21_regions_made_and_refuse.prog w) rfl (by decide) rfl ⟨rfl, by decide, by decide⟩ (fun w h Y => PySem.W.km_in_of Y) ?F ?X
  case X =>
    intro w H s e s' hx
    obtain ⟨_, _, _, _, _, _, _, _, _, _, _, _, z⟩ := hx
    exact z.elim
  case F =>
    intro w mg fa h Y KX G hmg
    refine' Iz.law_at KX hmg (Iz.txt_mk KX G ?a_is_whole ?l_is_whole ?d_is_whole ?k_is_whole ?a_is_row ?l_is_row ?d_is_row ?k_is_row ?a_is_pair ?l_is_pair ?d_is_pair ?k_is_pair ?a_is_span ?l_is_span ?d_is_span ?k_is_span ?a_is_box ?l_is_box ?d_is_box ?k_is_box ?a_row_at ?l_row_at ?d_row_at ?k_row_at ?a_require_region ?l_require_region ?d_require_region ?k_require_region ?a_require_whole ?l_require_whole ?d_require_whole ?k_require_whole ?a_slabs_of_boxes ?l_slabs_of_boxes ?d_slabs_of_boxes ?k_slabs_of_boxes ?a_row_with ?l_row_with ?d_row_with ?k_row_with ?a_slab_changes ?l_slab_changes ?d_slab_changes ?k_slab_changes ?a_stretch_changes ?l_stretch_changes ?d_stretch_changes ?k_stretch_changes ?a_side_by_side ?l_side_by_side ?d_side_by_side ?k_side_by_side ?a__changes ?l__changes ?d__changes ?k__changes ?a__joined_bands ?l__joined_bands ?d__joined_bands ?k__joined_bands ?a__slabs_together ?l__slabs_together ?d__slabs_together ?k__slabs_together ?a__row_together ?l__row_together ?d__row_together ?k__row_together ?a__slabs_of_told ?l__slabs_of_told ?d__slabs_of_told ?k__slabs_of_told ?a__law_pool ?l__law_pool ?d__law_pool ?k__law_pool ?a__law_take ?l__law_take ?d__law_take ?k__law_take ?a__law_one ?l__law_one ?d__law_one ?k__law_one ?a__law_rounds ?l__law_rounds ?d__law_rounds ?k__law_rounds ?a__law_side ?l__law_side ?d__law_side ?k__law_side ?a__law_box ?l__law_box ?d__law_box ?k__law_box ?a__law_ended ?l__law_ended ?d__law_ended ?k__law_ended ?a__law_boxes ?l__law_boxes ?d__law_boxes ?k__law_boxes ?a__law_lies ?l__law_lies ?d__law_lies ?k__law_lies ?a__law_has ?l__law_has ?d__law_has ?k__law_has ?a__law_square ?l__law_square ?d__law_square ?k__law_square ?a__law_caught ?l__law_caught ?d__law_caught ?k__law_caught ?a__law_cells_right ?l__law_cells_right ?d__law_cells_right ?k__law_cells_right ?a__law_refused ?l__law_refused ?d__law_refused ?k__law_refused ?t__law_refused ?a_law ?l_law ?d_law ?k_law ?xa_MadeSlabs ?pg_MadeSlabs ?hd_MadeSlabs ?po_MadeSlabs ?sa_MadeSlabs ?mm_MadeSlabs ?kc_MadeSlabs ?ya_MadeSlabs ?ym_MadeSlabs ?na_MadeSlabs_ready ?xa_Region ?pg_Region ?hd_Region ?po_Region ?sa_Region ?mm_Region ?kc_Region ?ya_Region ?ym_Region ?na_Region__slabs ?ma_Region___init__ ?mi_Region___init__ ?mk_Region___init__ ?l_Region___init__ ?d_Region___init__ ?t_Region___init__ ?e0_Region___init__ ?ma_Region___eq__ ?mi_Region___eq__ ?mk_Region___eq__ ?l_Region___eq__ ?d_Region___eq__ ?ma_Region___contains__ ?mi_Region___contains__ ?mk_Region___contains__ ?l_Region___contains__ ?d_Region___contains__ ?ma_Region_slabs ?mi_Region_slabs ?mk_Region_slabs ?l_Region_slabs ?d_Region_slabs ?xa_BadPart ?xl_BadPart ?xr_BadPart ?xs_BadPart ?xe_BadPart ?xt_BadPart ?xk_BadPart ?xg_BadPart ?xG_BadPart ?xd_BadPart ?xn_BadPart ?xi_BadPart ?xf_BadPart ?xL_BadPart ?xc_BadPart ?xK_BadPart ?yc_BadPart ?ya_BadPart ?ym_BadPart ?xa_BadIndex ?xl_BadIndex ?xr_BadIndex ?xs_BadIndex ?xe_BadIndex ?xt_BadIndex ?xk_BadIndex ?xg_BadIndex ?xG_BadIndex ?xd_BadIndex ?xn_BadIndex ?xi_BadIndex ?xf_BadIndex ?xL_BadIndex ?xc_BadIndex ?xK_BadIndex ?yc_BadIndex ?ya_BadIndex ?ym_BadIndex ?xa_TooMany ?xl_TooMany ?xr_TooMany ?xs_TooMany ?xe_TooMany ?xt_TooMany ?xk_TooMany ?xg_TooMany ?xG_TooMany ?xd_TooMany ?xn_TooMany ?xi_TooMany ?xf_TooMany ?xL_TooMany ?xc_TooMany ?xK_TooMany ?yc_TooMany ?ya_TooMany ?ym_TooMany ?yn ?yt ?xa_BadNumber ?xa_NotSo ?ePP ?eIP ?eII ?eMP ?eMI ?eMN ?eMS ?eMM ?nR_Region ?nR_list ?nR_int ?kR_list ?kR_int ?kM_NoneType ?kM_int ?kM_str ?kM_dict ?kM_list ?kM_tuple ?ne_Region ?xt_EITHER ?lt_EITHER ?lt_EITHER_0 ?lt_EITHER_1 ?lt_EITHER_2 ?kk_MOST_BOXES ?z_isinstance ?z_int ?z_bool ?z_tuple ?z_len ?z_list ?z_range ?z_min ?z_max ?z_sorted ?z_zip ?z_enumerate) ?T1 ?T2 (PySem.W.km_tabs_of Y _ ?T3) ?T4
    (case a_is_whole => k_is)
    (case l_is_whole => k_is)
    (case d_is_whole => k_is)
    (case k_is_whole => k_is)
    (case a_is_row => k_is)
    (case l_is_row => k_is)
    (case d_is_row => k_is)
    (case k_is_row => k_is)
    (case a_is_pair => k_is)
    (case l_is_pair => k_is)
    (case d_is_pair => k_is)
    (case k_is_pair => k_is)
    (case a_is_span => k_is)
    (case l_is_span => k_is)
    (case d_is_span => k_is)
    (case k_is_span => k_is)
    (case a_is_box => k_is)
    (case l_is_box => k_is)
    (case d_is_box => k_is)
    (case k_is_box => k_is)
    (case a_row_at => k_is)
    (case l_row_at => k_is)
    (case d_row_at => k_is)
    (case k_row_at => k_is)
    (case a_require_region => k_is)
    (case l_require_region => k_is)
    (case d_require_region => k_is)
    (case k_require_region => k_is)
    (case a_require_whole => k_is)
    (case l_require_whole => k_is)
    (case d_require_whole => k_is)
    (case k_require_whole => k_is)
    (case a_slabs_of_boxes => k_is)
    (case l_slabs_of_boxes => k_is)
    (case d_slabs_of_boxes => k_is)
    (case k_slabs_of_boxes => k_is)
    (case a_row_with => k_is)
    (case l_row_with => k_is)
    (case d_row_with => k_is)
    (case k_row_with => k_is)
    (case a_slab_changes => k_is)
    (case l_slab_changes => k_is)
    (case d_slab_changes => k_is)
    (case k_slab_changes => k_is)
    (case a_stretch_changes => k_is)
    (case l_stretch_changes => k_is)
    (case d_stretch_changes => k_is)
    (case k_stretch_changes => k_is)
    (case a_side_by_side => k_is)
    (case l_side_by_side => k_is)
    (case d_side_by_side => k_is)
    (case k_side_by_side => k_is)
    (case a__changes => k_is)
    (case l__changes => k_is)
    (case d__changes => k_is)
    (case k__changes => k_is)
    (case a__joined_bands => k_is)
    (case l__joined_bands => k_is)
    (case d__joined_bands => k_is)
    (case k__joined_bands => k_is)
    (case a__slabs_together => k_is)
    (case l__slabs_together => k_is)
    (case d__slabs_together => k_is)
    (case k__slabs_together => k_is)
    (case a__row_together => k_is)
    (case l__row_together => k_is)
    (case d__row_together => k_is)
    (case k__row_together => k_is)
    (case a__slabs_of_told => k_is)
    (case l__slabs_of_told => k_is)
    (case d__slabs_of_told => k_is)
    (case k__slabs_of_told => k_is)
    (case a__law_pool => k_is)
    (case l__law_pool => k_is)
    (case d__law_pool => k_is)
    (case k__law_pool => k_is)
    (case a__law_take => k_is)
    (case l__law_take => k_is)
    (case d__law_take => k_is)
    (case k__law_take => k_is)
    (case a__law_one => k_is)
    (case l__law_one => k_is)
    (case d__law_one => k_is)
    (case k__law_one => k_is)
    (case a__law_rounds => k_is)
    (case l__law_rounds => k_is)
    (case d__law_rounds => k_is)
    (case k__law_rounds => k_is)
    (case a__law_side => k_is)
    (case l__law_side => k_is)
    (case d__law_side => k_is)
    (case k__law_side => k_is)
    (case a__law_box => k_is)
    (case l__law_box => k_is)
    (case d__law_box => k_is)
    (case k__law_box => k_is)
    (case a__law_ended => k_is)
    (case l__law_ended => k_is)
    (case d__law_ended => k_is)
    (case k__law_ended => k_is)
    (case a__law_boxes => k_is)
    (case l__law_boxes => k_is)
    (case d__law_boxes => k_is)
    (case k__law_boxes => k_is)
    (case a__law_lies => k_is)
    (case l__law_lies => k_is)
    (case d__law_lies => k_is)
    (case k__law_lies => k_is)
    (case a__law_has => k_is)
    (case l__law_has => k_is)
    (case d__law_has => k_is)
    (case k__law_has => k_is)
    (case a__law_square => k_is)
    (case l__law_square => k_is)
    (case d__law_square => k_is)
    (case k__law_square => k_is)
    (case a__law_caught => k_is)
    (case l__law_caught => k_is)
    (case d__law_caught => k_is)
    (case k__law_caught => k_is)
    (case a__law_cells_right => k_is)
    (case l__law_cells_right => k_is)
    (case d__law_cells_right => k_is)
    (case k__law_cells_right => k_is)
    (case a__law_refused => k_is)
    (case l__law_refused => k_is)
    (case d__law_refused => k_is)
    (case k__law_refused => k_is)
    (case t__law_refused => first | rfl | (with_unfolding_all rfl) | kernel_rfl | decide | k_is)
    (case a_law => k_is)
    (case l_law => k_is)
    (case d_law => k_is)
    (case k_law => k_is)
    (case xa_MadeSlabs => k_is)
    (case pg_MadeSlabs => k_is)
    (case hd_MadeSlabs => k_is)
    (case po_MadeSlabs => k_is)
    (case sa_MadeSlabs => k_is)
    (case mm_MadeSlabs => k_is)
    (case kc_MadeSlabs => k_is)
    (case ya_MadeSlabs => k_is)
    (case ym_MadeSlabs => k_is)
    (case na_MadeSlabs_ready => k_is)
    (case xa_Region => k_is)
    (case pg_Region => k_is)
    (case hd_Region => k_is)
    (case po_Region => k_is)
    (case sa_Region => k_is)
    (case mm_Region => k_is)
    (case kc_Region => k_is)
    (case ya_Region => k_is)
    (case ym_Region => k_is)
    (case na_Region__slabs => k_is)
    (case ma_Region___init__ => k_is)
    (case mi_Region___init__ => k_is)
    (case mk_Region___init__ => k_is)
    (case l_Region___init__ => k_is)
    (case d_Region___init__ => k_is)
    (case t_Region___init__ => k_is)
    (case e0_Region___init__ => k_is)
    (case ma_Region___eq__ => k_is)
    (case mi_Region___eq__ => k_is)
    (case mk_Region___eq__ => k_is)
    (case l_Region___eq__ => k_is)
    (case d_Region___eq__ => k_is)
    (case ma_Region___contains__ => k_is)
    (case mi_Region___contains__ => k_is)
    (case mk_Region___contains__ => k_is)
    (case l_Region___contains__ => k_is)
    (case d_Region___contains__ => k_is)
    (case ma_Region_slabs => k_is)
    (case mi_Region_slabs => k_is)
    (case mk_Region_slabs => k_is)
    (case l_Region_slabs => k_is)
    (case d_Region_slabs => k_is)
    (case xa_BadPart => k_is)
    (case xl_BadPart => k_is)
    (case xr_BadPart => first | rfl | (with_unfolding_all rfl) | kernel_rfl | decide | k_is)
    (case xs_BadPart => k_is)
    (case xe_BadPart => k_is)
    (case xt_BadPart => k_is)
    (case xk_BadPart => k_is)
    (case xg_BadPart => k_is)
    (case xG_BadPart => k_is)
    (case xd_BadPart => k_is)
    (case xn_BadPart => k_is)
    (case xi_BadPart => k_is)
    (case xf_BadPart => k_is)
    (case xL_BadPart => k_is)
    (case xc_BadPart => k_is)
    (case xK_BadPart => k_is)
    (case yc_BadPart => first | rfl | (with_unfolding_all rfl) | kernel_rfl | decide | k_is)
    (case ya_BadPart => k_is)
    (case ym_BadPart => k_is)
    (case xa_BadIndex => k_is)
    (case xl_BadIndex => k_is)
    (case xr_BadIndex => first | rfl | (with_unfolding_all rfl) | kernel_rfl | decide | k_is)
    (case xs_BadIndex => k_is)
    (case xe_BadIndex => k_is)
    (case xt_BadIndex => k_is)
    (case xk_BadIndex => k_is)
    (case xg_BadIndex => k_is)
    (case xG_BadIndex => k_is)
    (case xd_BadIndex => k_is)
    (case xn_BadIndex => k_is)
    (case xi_BadIndex => k_is)
    (case xf_BadIndex => k_is)
    (case xL_BadIndex => k_is)
    (case xc_BadIndex => k_is)
    (case xK_BadIndex => k_is)
    (case yc_BadIndex => first | rfl | (with_unfolding_all rfl) | kernel_rfl | decide | k_is)
    (case ya_BadIndex => k_is)
    (case ym_BadIndex => k_is)
    (case xa_TooMany => k_is)
    (case xl_TooMany => k_is)
    (case xr_TooMany => first | rfl | (with_unfolding_all rfl) | kernel_rfl | decide | k_is)
    (case xs_TooMany => k_is)
    (case xe_TooMany => k_is)
    (case xt_TooMany => k_is)
    (case xk_TooMany => k_is)
    (case xg_TooMany => k_is)
    (case xG_TooMany => k_is)
    (case xd_TooMany => k_is)
    (case xn_TooMany => k_is)
    (case xi_TooMany => k_is)
    (case xf_TooMany => k_is)
    (case xL_TooMany => k_is)
    (case xc_TooMany => k_is)
    (case xK_TooMany => k_is)
    (case yc_TooMany => first | rfl | (with_unfolding_all rfl) | kernel_rfl | decide | k_is)
    (case ya_TooMany => k_is)
    (case ym_TooMany => k_is)
    (case yn => k_is)
    (case yt => k_is)
    (case xa_BadNumber => k_is)
    (case xa_NotSo => k_is)
    (case ePP => first | rfl | (with_unfolding_all rfl) | kernel_rfl | decide | k_is)
    (case eIP => first | rfl | (with_unfolding_all rfl) | kernel_rfl | decide | k_is)
    (case eII => first | rfl | (with_unfolding_all rfl) | kernel_rfl | decide | k_is)
    (case eMP => first | rfl | (with_unfolding_all rfl) | kernel_rfl | decide | k_is)
    (case eMI => first | rfl | (with_unfolding_all rfl) | kernel_rfl | decide | k_is)
    (case eMN => first | rfl | (with_unfolding_all rfl) | kernel_rfl | decide | k_is)
    (case eMS => first | rfl | (with_unfolding_all rfl) | kernel_rfl | decide | k_is)
    (case eMM => first | rfl | (with_unfolding_all rfl) | kernel_rfl | decide | k_is)
    (case nR_Region => first | rfl | (with_unfolding_all rfl) | kernel_rfl | decide | k_is)
    (case nR_list => first | rfl | (with_unfolding_all rfl) | kernel_rfl | decide | k_is)
    (case nR_int => first | rfl | (with_unfolding_all rfl) | kernel_rfl | decide | k_is)
    (case kR_list => first | rfl | (with_unfolding_all rfl) | kernel_rfl | decide | k_is)
    (case kR_int => first | rfl | (with_unfolding_all rfl) | kernel_rfl | decide | k_is)
    (case kM_NoneType => first | rfl | (with_unfolding_all rfl) | kernel_rfl | decide | k_is)
    (case kM_int => first | rfl | (with_unfolding_all rfl) | kernel_rfl | decide | k_is)
    (case kM_str => first | rfl | (with_unfolding_all rfl) | kernel_rfl | decide | k_is)
    (case kM_dict => first | rfl | (with_unfolding_all rfl) | kernel_rfl | decide | k_is)
    (case kM_list => first | rfl | (with_unfolding_all rfl) | kernel_rfl | decide | k_is)
    (case kM_tuple => first | rfl | (with_unfolding_all rfl) | kernel_rfl | decide | k_is)
    (case ne_Region => first | rfl | (with_unfolding_all rfl) | kernel_rfl | decide | k_is)
    (case xt_EITHER => k_is)
    (case lt_EITHER => k_is)
    (case lt_EITHER_0 => k_is)
    (case lt_EITHER_1 => k_is)
    (case lt_EITHER_2 => k_is)
    (case kk_MOST_BOXES => k_is)
    (case z_isinstance => k_is)
    (case z_int => k_is)
    (case z_bool => k_is)
    (case z_tuple => k_is)
    (case z_len => k_is)
    (case z_list => k_is)
    (case z_range => k_is)
    (case z_min => k_is)
    (case z_max => k_is)
    (case z_sorted => k_is)
    (case z_zip => k_is)
    (case z_enumerate => k_is)
    (case T1 => first | rfl | with_unfolding_all rfl); (case T2 => first | rfl | with_unfolding_all rfl); (case T3 => decide); (case T4 => first | k_is | rfl | with_unfolding_all rfl)
