import PyProof.Rows.All
import Wide.All
import OpenK.AllK
import Wide.FinOn
import HandS.ForMost
import HandS.ForExc
import HandS.ExcInit
import HandS.ExcField
import HandS.ExcIs
import HandS.IsInst
import HandS.Lambda
import HandS.EndTab
import HandS.Wide
import HandS.Style
import HandS.RaiseMore
import HandS.Flow
import HandS.HeadHook1
import KE.KExcIs
import PyProof.CallFns
import HandS.Defaults
import PyProof.WalksMore
import PyProof.FactsAll.range
import HandS.TryMany
import HandS.NoneIn
import KE.KFmtOwn
import HandS.SortInts
import HandS.Walk
import PyProof.ReprHeadsTuple
import PyProof.ReprHeadsEmpty
import HandS.OwnEq
import KE.GoesEnum
import HandS.Zip
import HandS.TupAny
import HandS.CallSlots
import PyProof.ExcBaseAll.OverflowError
import HandS.Codes
import HandS.Deep
import HandS.Conv
import PySem.Challenge.RW_endlessplane_k85_whole_sieves
/-! Bs -/
set_option Elab.async false
set_option linter.all false
set_option maxRecDepth 100000
set_option maxHeartbeats 4000000
namespace Iz
open PySem PySem.Spec PyProof.Rows L2
theorem cx_K {CX : CXT} {P : Program} {w : World} {K : PySem.W.Frag} {mg : Str → Option Value} {base : Heap} {N : List Str} {q : Str} {sc : Scope} {f : Addr} {cd : Value} {A : Around} {outer : List Env} {s : Shared} {H : Hp} {E : XK} : (cxOf CX P w K mg base N q sc f cd A outer s H E).K = K := rfl
/-! ### defs by name, calls -/
/-- the global x is a def that keeps sp -/
structure OkF (P : Program) (w : World) (K : PySem.W.Frag) (mg : Str → Option Value) (base : Heap) (CX : CXT) (k : Nat) (x : Str) (ps : List Str) (sp : Sp) : Prop where
  ex : ∃ (f : Addr) (fd : FuncData), mg x = some (.ref f) ∧ PySem.W.keepIn K (.ref f) = true ∧ Binds K fd ps [] ∧ FnOk P w K mg base CX k f fd ps sp
theorem OkF.imp {P : Program} {w : World} {K : PySem.W.Frag} {mg : Str → Option Value} {base : Heap} {CX : CXT} {k : Nat} {x : Str} {ps : List Str} {sp sp' : Sp} (F : OkF P w K mg base CX k x ps sp) (h : ∀ vs H Q E, sp' vs H Q E → sp vs H Q E) : OkF P w K mg base CX k x ps sp' :=
  let ⟨f, fd, g, kp, b, G⟩ := F.ex
  ⟨f, fd, g, kp, b, G.imp h⟩
/-- inside a def that may raise: what is raised goes on out -/
theorem passE {P : Program} {w : World} {K : PySem.W.Frag} {mg : Str → Option Value} {base : Heap} {N : List Str} {q : Str} {sc : Scope} {f : Addr} {cd : Value} {A : Around} {outer : List Env} {s : Shared} {H : Hp} {E : XK} :
    Passes (L2.CX P w) (cxOf (L2.CX P w) P w K mg base N q sc f cd A outer s H E) E := passes_call (W := fun cls d _ H => E cls d H) (takes_of rfl rfl rfl rfl) fun _ _ _ _ h => h
theorem takesE {P : Program} {w : World} {K : PySem.W.Frag} {mg : Str → Option Value} {base : Heap} {N : List Str} {q : Str} {sc : Scope} {f : Addr} {cd : Value} {A : Around} {outer : List Env} {s : Shared} {H : Hp} {E : XK} :
    Takes (cxOf (L2.CX P w) P w K mg base N q sc f cd A outer s H E) (fun cls d _ H => E cls d H) := takes_of rfl rfl rfl rfl
section
variable {X : Cx} {k : Nat} {x : Str} {ps : List Str} {sp : Sp} {E : XK} {e : Expr} {es : List Expr} {t : TA} {p pos : Pos}
/-- f(e, ..) -/
theorem pcl {CX : CXT} (O : OkF X.prog X.w X.K X.mg X.base CX k x ps sp) (hr : Room k X.A) (hx : Passes CX X E) (ha : PA X (e :: es) t) (hg : Gl X x := by rfl) (hdb : (x == ("__debug__" : Str)) = false := by decide)
    (he : starEach (e :: es) X.env = (false, eval e X.env) :: starEach es X.env := by rfl) (hpl : (backTo pos (starEach es X.env)).any (·.1) = false := by rfl) : PE X (.Call (.Name x p) (e :: es) [] pos) (tCall sp [] E t) := by
  obtain ⟨f, fd, g, kp, b, G⟩ := O.ex
  exact pe_call G hr hg g kp b .nil hx ha hdb he hpl
end
theorem op_fdivF {X : Cx} : OpR X (binaryOp .FloorDiv) (rI (fun _ j => j ≠ 0 ∧ j.natAbs.log2 < 9000) fun i j => .int (i.fdiv j)) := opI fun i j _ _ _ _ _ hc q => floordiv_int hc.1 q (.inl (PyProof.noPylong_of_log2 hc.2))
theorem log_lt {x : Int} {n m : Nat} (h : x.natAbs < 2 ^ n) (hm : n ≤ m) (h0 : 0 < m) : x.natAbs.log2 < m := PySem.Flt.log2_lt_of h0 (Nat.lt_of_lt_of_le h (Nat.pow_le_pow_right (by decide) hm))
/-! ### readings in a form that simp reads: an object is named by what stands at it -/
section
variable {X : Cx} {e a b : Expr} {es : List Expr} {t t' ta tb : TE}
theorem PE.imp (h : PE X e t) (k : ∀ σ H Q, t' σ H Q → t σ H Q) : PE X e t' := ⟨fun pins s σ H Q I q => h.run pins s σ H Q I (k σ H Q q)⟩
theorem PS.imp {st : Stmt} {t t' : TS} (h : PS X st t) (k : ∀ D σ H, t' D σ H → t D σ H) : PS X st t' := ⟨fun pins s σ H D I q => h.run pins s σ H D I (k D σ H q)⟩
theorem PG.imp {tg : Expr} {t t' : TG} (h : PG X tg t) (k : ∀ v σ H Q, t' v σ H Q → t v σ H Q) : PG X tg t' := ⟨fun pins s σ H v u Q I r q => h.run pins s σ H v u Q I r (k v σ H Q q)⟩
theorem CallR.imp {f : Value} {r r' : List V → Hp → VK → Prop} (h : CallR X f r) (k : ∀ xs H Q, r' xs H Q → r xs H Q) : CallR X f r' := fun pins s σ H xs us Q I rv q => h pins s σ H xs us Q I rv (k xs H Q q)
theorem Same.upd {H : Hp} {p : Addr} {o : HO} (h : H p = none) : Same H (L2.upd H p o) := fun b u e => by rw [upd_ne (ne_of_none e h)]; exact e
/-- a new object: from then on some heap that has it and all else -/
def News (H : Hp) (o : HO) (Q : V → Hp → Prop) : Prop := ∀ p H2, H p = none → Same H H2 → H2 p = some o → Q (.ref p) H2
theorem News.all {H : Hp} {o : HO} {Q : V → Hp → Prop} (n : News H o Q) : ∀ p, H p = none → Q (.ref p) (upd H p o) := fun p hp => n p _ hp (Same.upd hp) upd_same
def tTupN (t : TA) : TE := fun σ H Q => t σ H fun xs H1 => xs.length ≤ sizeLine ∧ News H1 (.tup xs) Q
def tLstN (t : TA) : TE := fun σ H Q => t σ H fun xs H1 => xs.length ≤ sizeLine ∧ News H1 (.lst xs) Q
/-- what a reading gives, weakened -/
def mcl {α : Type} (t : L2.St → Hp → (α → Hp → Prop) → Prop) : L2.St → Hp → (α → Hp → Prop) → Prop := fun σ H Q => ∃ Q0, t σ H Q0 ∧ ∀ v H1, Q0 v H1 → Q v H1
theorem PA.mcl {t : TA} (h : PA X es t) : PA X es (mcl t) := ⟨fun pos pins s σ H Q I ⟨Q0, q, k⟩ => thn (h.run pos pins s σ H Q0 I q) fun us s1 ⟨vs, H1, I1, r, q1⟩ => ⟨vs, H1, I1, r, k vs H1 q1⟩⟩
theorem PE.mcl {t : TE} (h : PE X e t) : PE X e (mcl t) := ⟨fun pins s σ H Q I ⟨Q0, q, k⟩ => thn (h.run pins s σ H Q0 I q) fun u s1 ⟨v, H1, I1, r, q1⟩ => ⟨v, H1, I1, r, k v H1 q1⟩⟩
theorem pe_tupN {t : TA} {x1 : Nat} {pos : Pos} (h : PA X es t) : PE X (.Tuple es x1 pos) (tTupN t) := PE.imp (pe_tup (PA.mcl h)) fun σ H Q q => ⟨_, q, fun vs H1 ⟨z, n⟩ => ⟨z, n.all⟩⟩
theorem pe_lstN {t : TA} {pos : Pos} (h : PA X es t) : PE X (.List es pos) (tLstN t) := PE.imp (pe_lst (PA.mcl h)) fun σ H Q q => ⟨_, q, fun vs H1 ⟨z, n⟩ => ⟨z, n.all⟩⟩
def rIxTN : R2 := fun x y H Q => ∃ p xs i v, x = .ref p ∧ y = .int i ∧ H p = some (.tup xs) ∧ atI xs i = some v ∧ Q v H
theorem ix_tupN : IxR X rIxTN := fun v0 sl pins s σ H x y v u Q I rx ry q hs => ix_tup v0 sl pins s σ H x y v u Q I rx ry (let ⟨p, xs, i, z, a, b, c, d, q⟩ := q; ⟨p, xs, i, z, a, b, SqT.of c, d, q⟩) hs
def rIxLN : R2 := fun x y H Q => ∃ p xs i v, x = .ref p ∧ y = .int i ∧ H p = some (.lst xs) ∧ atI xs i = some v ∧ Q v H
theorem ix_listN : IxR X rIxLN := fun v0 sl pins s σ H x y v u Q I rx ry q hs => ix_list v0 sl pins s σ H x y v u Q I rx ry (let ⟨p, xs, i, z, a, b, c, d, q⟩ := q; ⟨p, xs, i, z, a, b, SqL.of c, d, q⟩) hs
def gTupN (n : Nat) (t : TGs) : TG := fun v σ H Q => ∃ a xs, v = .ref a ∧ H a = some (.tup xs) ∧ xs.length = n ∧ t xs σ H Q
theorem pg_tupN {k : Nat} {pos : Pos} {t : TGs} {n : Nat} (hc : X.calm = true) (h : PGs X es t) (hn : (assignEach es X.env).length = n := by rfl) (hst : (assignEach es X.env).findIdx? (·.1) = none := by rfl) : PG X (.Tuple es k pos) (gTupN n t) :=
  PG.imp (pg_tup hc h hn hst) fun v σ H Q ⟨p, xs, a, c, d, q⟩ => ⟨p, xs, a, SqT.of c, d, q⟩
def rLenL : List V → Hp → VK → Prop := fun xs H Q => ∃ p ys, xs = [.ref p] ∧ H p = some (.lst ys) ∧ Q (.int ys.length) H
theorem call_lenL : CallR X (.builtin "len") rLenL := CallR.imp call_len_seq fun xs H Q ⟨p, ys, a, b, q⟩ => ⟨p, ys, a, .inl (SqL.of b), q⟩
def rLenT : List V → Hp → VK → Prop := fun xs H Q => ∃ p ys, xs = [.ref p] ∧ H p = some (.tup ys) ∧ Q (.int ys.length) H
theorem call_lenT : CallR X (.builtin "len") rLenT := CallR.imp call_len_seq fun xs H Q ⟨p, ys, a, b, q⟩ => ⟨p, ys, a, .inr (SqT.of b), q⟩
def rIntI : List V → Hp → VK → Prop := fun xs H Q => ∃ i, xs = [.int i] ∧ Q (.int i) H
theorem call_intI : CallR X (.type "int") rIntI := CallR.imp call_int1 fun xs H Q q => .inl q
def rIntB : List V → Hp → VK → Prop := fun xs H Q => ∃ k, xs = [.bl k] ∧ Q (.int (if k then 1 else 0)) H
theorem call_intB : CallR X (.type "int") rIntB := CallR.imp call_int1 fun xs H Q q => .inr q
def rAbs : List V → Hp → VK → Prop := fun xs H Q => ∃ i, xs = [.int i] ∧ Q (.int (i.natAbs : Int)) H
theorem call_absN : CallR X (.builtin "abs") rAbs := CallR.imp call_abs fun xs H Q ⟨i, a, q⟩ => ⟨i, a, by rw [show (if i < 0 then -i else i) = (i.natAbs : Int) by split <;> omega]; exact q⟩
def rListS (K : PySem.W.Frag) : List V → Hp → VK → Prop := fun xs H Q => ∃ p ys, xs = [.ref p] ∧ SqL K H p ys ∧ News H (.lst ys) Q
theorem call_listS : CallR X (.type "list") (rListS X.K) := CallR.imp call_list_of fun xs H Q ⟨p, ys, a, b, n⟩ => ⟨p, ys, a, .inl b, n.all⟩
/-- a truth: what the test says -/
theorem atI0 {α : Type} {a : α} {l : List α} : atI (a :: l) 0 = some a := by simp [atI, ixN]
theorem ixN_ok {n : Nat} {i : Int} (h : 0 ≤ i) (h2 : i < n) : ixN n i = some i.toNat := by simp [ixN, h, h2]
theorem atI_ok {α : Type} {l : List α} {i : Int} {v : α} (h : 0 ≤ i) (h2 : l[i.toNat]? = some v) : atI l i = some v := by
  have h3 := (List.getElem?_eq_some_iff.mp h2).1
  unfold atI
  rw [ixN_ok h (by omega)]
  exact h2
theorem atI1 {α : Type} {a b : α} {l : List α} : atI (a :: b :: l) 1 = some b := atI_ok (by decide) rfl
theorem atI2 {α : Type} {a b c : α} {l : List α} : atI (a :: b :: c :: l) 2 = some c := atI_ok (by decide) rfl
theorem atI3 {α : Type} {a b c d : α} {l : List α} : atI (a :: b :: c :: d :: l) 3 = some d := atI_ok (by decide) rfl
theorem ite_iff {c A B : Prop} [Decidable c] : (if c then A else B) ↔ ((c → A) ∧ (¬ c → B)) := by
  by_cases h : c <;> simp [h]
/-- a while's test may be asked for less -/
theorem mono_eq {r : R2} {i : Nat} {v : V} (hr : ∀ x y H Q Q', (∀ z H1, Q z H1 → Q' z H1) → r x y H Q → r x y H Q') : ∀ (σ : L2.St) (H : Hp) (Q Q' : Bool → Hp → Prop), (∀ b H1, Q b H1 → Q' b H1) → tTest (tOp r (tVar i) (tC v)) σ H Q → tTest (tOp r (tVar i) (tC v)) σ H Q' :=
  fun _ _ _ _ k ⟨x, h, q⟩ => ⟨x, h, hr _ _ _ _ _ (fun _ _ ⟨b, e, q⟩ => ⟨b, e, k _ _ q⟩) q⟩
theorem mono_ne {i : Nat} {v : V} : ∀ (σ : L2.St) (H : Hp) (Q Q' : Bool → Hp → Prop), (∀ b H1, Q b H1 → Q' b H1) → tTest (tOp rNe (tVar i) (tC v)) σ H Q → tTest (tOp rNe (tVar i) (tC v)) σ H Q' := mono_eq fun _ _ _ _ _ k ⟨a, q⟩ => ⟨a, k _ _ q⟩
end
/-- H2 is H with o at p -/
def Put (H H2 : Hp) (p : Addr) (o : HO) : Prop := H2 p = some o ∧ ∀ b, b ≠ p → H2 b = H b
def rSetLN : V → V → V → Hp → (Hp → Prop) → Prop := fun o i v H Q => ∃ p xs k j, o = .ref p ∧ i = .int k ∧ H p = some (.lst xs) ∧ ixN xs.length k = some j ∧ ∀ H2, Put H H2 p (.lst (xs.set j v)) → Q H2
theorem set_listN {X : Cx} : PSet X rSetLN := fun pins s σ H o i v ov iv u Q I ro ri rv ⟨p, xs, k, j, a, b, c, d, q⟩ => set_list pins s σ H o i v ov iv u Q I ro ri rv ⟨p, xs, k, j, a, b, c, d, q _ ⟨upd_same, fun _ h => upd_ne h⟩⟩
theorem PT.imp {X : Cx} {e : Expr} {t t' : TT} (h : PT X e t) (k : ∀ σ H Q, t' σ H Q → t σ H Q) : PT X e t' := ⟨fun pins s σ H Q I q => h.run pins s σ H Q I (k σ H Q q)⟩
/-- a list's truth -/
def tTruL (te : TE) : TT := fun σ H Q => te σ H fun x H1 => ∃ p xs, x = .ref p ∧ H1 p = some (.lst xs) ∧ Q (!xs.isEmpty) H1
theorem pt_truL {X : Cx} {e : Expr} {te : TE} (h : PE X e te) (hw : ∀ t : Sem Value, isTrue e X.env t = (t >>= fun v => standAt e.pos >>= fun _ => holding [v] (truthy v)) := by intro _; rfl) : PT X e (tTruL te) :=
  PT.imp (pt_truth (PE.mcl h) hw) fun σ H Q q => ⟨_, q, fun v H1 ⟨p, xs, a, b, q⟩ => ⟨_, by subst a; exact .inl ⟨xs, SqL.of b, rfl⟩, q⟩⟩
theorem ixN0 {n : Nat} : ixN (n + 1) 0 = some 0 := ixN_ok (by decide) (by omega)
theorem ixN1 {n : Nat} : ixN (n + 1 + 1) 1 = some 1 := ixN_ok (by decide) (by omega)
theorem scal_ii {i j : Int} : scal (.int i) (.int j) = true := rfl
theorem scal_in {i : Int} : scal (.int i) .non = true := rfl
theorem scal_ni {i : Int} : scal .non (.int i) = true := rfl
theorem scal_nn : scal .non .non = true := rfl
theorem scal_bb {i j : Bool} : scal (.bl i) (.bl j) = true := rfl
theorem scal_ss {i j : Str} : scal (.str i) (.str j) = true := rfl
theorem scal_sn {i : Str} : scal (.str i) .non = true := rfl
theorem scal_ns {i : Str} : scal .non (.str i) = true := rfl
theorem scal_bn {i : Bool} : scal (.bl i) .non = true := rfl
theorem scal_nb {i : Bool} : scal .non (.bl i) = true := rfl
/-- xs.append(e) -/
def tApp (to : TE) (ta : TA) : TE := fun σ H Q => to σ H fun x H1 => ∃ l, x = .ref l ∧ (∃ xs, H1 l = some (.lst xs)) ∧ ta σ H1 fun vs H2 => ∃ y xs, vs = [y] ∧ H2 l = some (.lst xs) ∧ xs.length < sizeLine ∧ ∀ H3, Put H2 H3 l (.lst (xs ++ [y])) → Q .non H3
theorem pe_appN {X : Cx} {o e : Expr} {to : TE} {ta : TA} {apos cpos : Pos} (ho : PE X o to) (ha : PA X [e] ta)
    (hbase : attributeBase o "append" X.env (eval o X.env) = eval o X.env := by rfl)
    (hfew : ((backTo cpos (starEach [e] X.env)).all (fun x => !x.1) && (backToKw cpos (keywordEach [] X.env)).all (fun x => x.1.isSome) && decide ([e].length + ([] : List Keyword).length + (if ([] : List Keyword).isEmpty then 0 else 1) < 30)) = true := by rfl)
    (hline : (apos.endLine == cpos.line) = true := by rfl) (hs : starEach [e] X.env = (false, eval e X.env) :: starEach [] X.env := by rfl) (hplain : (backTo cpos (starEach [] X.env)).any (·.1) = false := by rfl) :
    PE X (.Call (.Attribute o "append" apos) [e] [] cpos) (tApp to ta) :=
  PE.imp (pe_bm PySem.F.plainAttrs_list PySem.F.slot_list_append PySem.F.type_list_append mt_append (PE.mcl ho) (PA.mcl ha) hbase hfew hline hs hplain) fun σ H Q q =>
    ⟨_, q, fun x H1 ⟨l, hx, ⟨xs, hl⟩, q⟩ => by subst hx; exact ⟨.inl ⟨rfl, xs, SqL.of hl⟩, _, q, fun vs H2 ⟨y, xs, a, b, c, q⟩ => ⟨l, xs, y, rfl, a, b, c, q _ ⟨upd_same, fun _ h => upd_ne h⟩⟩⟩⟩
/-- a statement whose ways join behind it: M holds there -/
def tCut (t : TS) : TS := fun D σ H => ∃ M : L2.St → Hp → Prop, t { D with nx := M } σ H ∧ ∀ σ' H', M σ' H' → D.nx σ' H'
theorem ps_cut {X : Cx} {st : Stmt} {t : TS} (h : PS X st t) : PS X st (tCut t) := ⟨fun pins s σ H D I ⟨M, q, k⟩ => thn (h.run pins s σ H { D with nx := M } I q) fun f s1 r => by
  cases f with
  | next => obtain ⟨σ', H', J, m⟩ := r; exact ⟨σ', H', J, k σ' H' m⟩
  | brk => exact r
  | cont => exact r
  | ret u => exact r⟩
/-! ### loops -/
section
variable {g : TG} {tb : TS} {D : Ends} {σ : L2.St} {H : Hp} {ta : TA} {tl : TE}
theorem st_forR1 (j : Int) (hj : -(2 ^ 62) ≤ j ∧ j < 2 ^ 62) (ha : ∀ Q : List V → Hp → Prop, Q [.int j] H → ta σ H Q) (Pv : Nat → L2.St → Hp → Prop) (h0 : Pv 0 σ H)
    (hs : ∀ i σ H, i < j.toNat → Pv i σ H → g (.int i) σ H fun σ2 H2 => tb { D with nx := Pv (i + 1), ct := Pv (i + 1), bk := D.nx } σ2 H2) (hd : ∀ σ H, Pv j.toNat σ H → D.nx σ H) : tFor (iRng1 ta) g tb D σ H :=
  ha _ ⟨j, rfl, hj.1, hj.2, for_range Pv h0 (fun i σ H hi p => by rw [Int.zero_add]; exact hs i σ H hi p) hd⟩
theorem st_forR2 (lo j : Int) (hl : -(2 ^ 62) ≤ lo ∧ lo < 2 ^ 62) (hj : -(2 ^ 62) ≤ j ∧ j < 2 ^ 62) (ha : ∀ Q : List V → Hp → Prop, Q [.int lo, .int j] H → ta σ H Q) (Pv : Nat → L2.St → Hp → Prop) (h0 : Pv 0 σ H)
    (hs : ∀ i σ H, i < (j - lo).toNat → Pv i σ H → g (.int (lo + i)) σ H fun σ2 H2 => tb { D with nx := Pv (i + 1), ct := Pv (i + 1), bk := D.nx } σ2 H2) (hd : ∀ σ H, Pv (j - lo).toNat σ H → D.nx σ H) : tFor (iRng2 ta) g tb D σ H :=
  ha _ ⟨lo, j, rfl, ⟨hl.1, hl.2, hj.1, hj.2⟩, for_range Pv h0 hs hd⟩
end
/-! ### values of any kind -/
/-- a plain int -/
def isI : V → Bool
  | .int _ => true
  | _ => false
theorem isI_int {x : V} (h : isI x = true) : ∃ i, x = .int i := by cases x <;> simp_all [isI]
/-- is_whole tells rightly of x -/
def Wh (K : PySem.W.Frag) (H : Hp) (x : V) : Prop := ∃ t b1 b2, TyX K H x t ∧ PySem.W.kitOne K t (.type "int") = some b1 ∧ PySem.W.kitOne K t (.type "bool") = some b2 ∧ (b1 && !b2) = isI x
section
variable {K : PySem.W.Frag} {H : Hp}
theorem wh_int {i : Int} : Wh K H (.int i) := ⟨_, true, false, .base (.int i), kit_ty (by decide +kernel), kit_ty (by decide +kernel), rfl⟩
theorem wh_bl {b : Bool} : Wh K H (.bl b) := ⟨_, true, true, .base (.bl b), kit_ty (by decide +kernel), kit_ty (by decide +kernel), rfl⟩
theorem wh_non : Wh K H .non := ⟨_, false, false, .base .non, kit_ty (by decide +kernel), kit_ty (by decide +kernel), rfl⟩
theorem wh_str {x : Str} : Wh K H (.str x) := ⟨_, false, false, .base (.str x), kit_ty (by decide +kernel), kit_ty (by decide +kernel), rfl⟩
theorem wh_tup {p : Addr} {xs : List V} (h : H p = some (.tup xs)) : Wh K H (.ref p) := ⟨_, false, false, .base (.tup h), kit_ty (by decide +kernel), kit_ty (by decide +kernel), rfl⟩
theorem wh_lst {p : Addr} {xs : List V} (h : H p = some (.lst xs)) : Wh K H (.ref p) := ⟨_, false, false, .base (.lst h), kit_ty (by decide +kernel), kit_ty (by decide +kernel), rfl⟩
end
/-- isinstance with a built-in class, with an own one -/
def rIsTy (K : PySem.W.Frag) : List V → Hp → VK → Prop := fun xs H Q => ∃ x n t b, xs = [x, .ty n] ∧ TyX K H x t ∧ PySem.W.kitOne K t (.type n) = some b ∧ Q (.bl b) H
theorem call_isTy {X : Cx} : CallR X (.builtin "isinstance") (rIsTy X.K) := CallR.imp call_isi fun xs H Q ⟨x, n, t, b, a, ty, k, q⟩ => ⟨x, .ty n, t, .type n, b, a, .ty n, ty, k, q⟩
/-! ### own errors with one field -/
open He (ga)
def spXI (K : PySem.W.Frag) (fld : Str) : Sp := fun vs H Q _ => ∃ (a C : Addr) (v : V), vs = [.ref a, v] ∧ OexC K C ∧ PySem.W.findIn K (.ref C) fld = some none ∧ H a = some (exo a C none) ∧
  ∀ dx, H dx = none → dx ≠ a → Q .non (upd (upd H dx (exd dx [(fld, v)])) a (exo a C (some dx)))
section
variable {P : Program} {w : World} {K : PySem.W.Frag} {mg : Str → Option Value} {base : Heap}
theorem vis_of {N ps : List Str} {sc : Scope} (S : FnScope N ps sc) {x : Str} (h : x ∈ ps) : Vis sc x := (S.par x h).elim .inl fun e => .inr (.inl e)
theorem ok_xi {qual fld : Str} {st : Stmt} {f : Addr} {fd : FuncData} {p1 p2 p3 p4 : Pos} (F : Fun K "__init__" qual st f fd) (S : FnScope ["self", fld] ["self", fld] (defScope st))
    (hb : defBody st = [.Assign [.Attribute (.Name "self" p1) fld p2] (.Name fld p3) p4]) (h1 : (fld == ("__debug__" : Str)) = false) (h2 : (fld == ("__classdict__" : Str)) = false) : FnOk P w K mg base CX0 1 f fd ["self", fld] (spXI K fld) := by
  refine F.ok S (fun vs H Q E h => ?_) (fun cdv A outer s H vs Q E hr h => ?_)
  · obtain ⟨a, C, v, rfl, _⟩ := h; rfl
  · obtain ⟨a, C, v, rfl, T, hn, ha, k⟩ := h
    rw [hb]
    refine ⟨_, pss_one (ps_ost (pe_var (i := 0) rfl (vis_of S (by simp))) (pe_var (i := 1) rfl (vis_of S (by simp)) h1 h2)), ?_⟩
    exact ⟨v, rfl, .ref a, rfl, a, C, rfl, T, hn, .inl ⟨ha, k⟩⟩
/-- what the top has made of the class x, whose __init__ keeps its one argument in fld -/
structure ExT (K : PySem.W.Frag) (mg : Str → Option Value) (x fld : Str) : Prop where
  g : mg x = some (.ref (ga K x))
  ox : OexC K (ga K x)
  xf : XfC K (ga K x)
  no : PySem.W.findIn K (.ref (ga K x)) fld = some none
  ini : ∃ (qual : Str) (st : Stmt) (f : Addr) (fd : FuncData) (p1 p2 p3 p4 : Pos), PySem.W.findIn K (.ref (ga K x)) "__init__" = some (some (.ref f)) ∧ PySem.W.typeIn K (.ref f) = some (.type "function") ∧ Fun K "__init__" qual st f fd ∧ FnScope ["self", fld] ["self", fld] (defScope st) ∧
    defBody st = [.Assign [.Attribute (.Name "self" p1) fld p2] (.Name fld p3) p4] ∧ Binds K fd ["self", fld] []
/-- an error of the class x with fld = v is let out -/
def Rse (K : PySem.W.Frag) (E : XK) (H : Hp) (x fld : Str) (v : V) : Prop := ∀ d H', H d = none → Same H H' → H' d = some (.xd [(fld, v)]) → E (.ref (ga K x)) (some d) H'
theorem Rse.mono {K : PySem.W.Frag} {E : XK} {H H2 : Hp} {x f : Str} {v : V} (r : Rse K E H x f v) (s : Same H H2) : Rse K E H2 x f v := fun d H' hd s2 h => r d H' (s.free hd) (s.trans s2) h
def tRaiseX (K : PySem.W.Frag) (x fld : Str) (W : WX) (te : TE) : TS := fun _ σ H => te σ H fun v H1 => Rse K (fun cls d H' => W cls d σ H') H1 x fld v
theorem ps_raiseX {X : Cx} {x fld : Str} {W : WX} {e : Expr} {te : TE} {p pos pos2 : Pos} (T : ExT X.K X.mg x fld) (hr : Room 2 X.A) (tk : Takes X W) (he : PE X e te) (hc : X.calm = true := by rfl) (hg : Gl X x := by rfl) (hdb : (x == ("__debug__" : Str)) = false := by decide)
    (hd1 : (fld == ("__debug__" : Str)) = false := by decide) (hd2 : (fld == ("__classdict__" : Str)) = false := by decide)
    (hs : starEach [e] X.env = (false, eval e X.env) :: starEach [] X.env := by rfl) (hpl : (backTo pos (starEach [] X.env)).any (·.1) = false := by rfl) : PS X (.Raise (some (.Call (.Name x p) [e] [] pos)) none pos2) (tRaiseX X.K x fld W te) := by
  obtain ⟨qual, st, f, fd, p1, p2, p3, p4, hi, ht, F, S, hb, B⟩ := T.ini
  have G : FnOk X.prog X.w X.K X.mg X.base CX0 1 f fd ["self", fld] (spXI X.K fld) := ok_xi F S hb hd1 hd2
  refine PS.imp (ps_raise hc tk (pmk_oex (k := 1) T.ox hi ht G hr B .nil (pass0) hg T.g (pa_cons (PE.mcl he) pa_nil hs) hdb hs hpl)) fun D σ H q => ?_
  refine ⟨_, q, fun v H1 k => ?_⟩
  refine ⟨by show 1 ≤ 1000; decide, fun a ha => ⟨a, _, v, rfl, T.ox, T.no, upd_same, fun dx hdx hne => ⟨rfl, dx, _, upd_same, by rw [upd_ne hne, upd_same], ?_, ?_⟩⟩⟩
  · rw [upd_ne hne] at hdx; exact hdx
  · have hdn : H1 dx = none := by rw [upd_ne hne] at hdx; exact hdx
    refine k dx _ hdn (fun b u e => ?_) upd_same
    have h1 := ne_of_none e hdn
    have h2 := ne_of_none e ha
    rw [upd_ne h1, del_ne h2, upd_ne h2, upd_ne h1, upd_ne h2]
    exact e
end
end Iz
/-! Bx -/
set_option Elab.async false
set_option linter.all false
set_option maxRecDepth 100000
set_option maxHeartbeats 4000000
namespace Iz
open PySem PySem.Spec PyProof.Rows L2 LamX
open He (ga)
/-! ### repr of plain values -/
def ReprV : V → Str → Prop
  | .non, s => s = "None"
  | .bl b, s => s = if b = true then Str.ofString "True" else Str.ofString "False"
  | .int i, s => i.natAbs.log2 < 1920 ∧ s = Str.ofString (toString i)
  | .str x, s => (reprText x).length ≤ sizeLine ∧ s = reprText x
  | _, _ => False
def rRepr : List V → Hp → VK → Prop := fun xs H Q => ∃ x s, xs = [x] ∧ ReprV x s ∧ Q (.str s) H
theorem call_reprN {X : Cx} : CallR X (.builtin "repr") rRepr := by
  intro pins s σ H xs us Q I r h
  obtain ⟨x, z, rfl, hz, q⟩ := h
  cases r with
  | cons rx rr =>
    cases rr
    cases x with
    | non => cases rx; cases hz; exact PySem.P.repr_of_none ⟨.str _, H, I.tok _, ⟨_, rfl⟩, q⟩
    | bl b => cases rx; cases hz; exact PySem.P.repr_of_bool ⟨.str _, H, I.tok _, ⟨_, rfl⟩, q⟩
    | int i => obtain ⟨t, rfl⟩ := rx; obtain ⟨hb, rfl⟩ := hz; exact PySem.P.repr_of_int hb ⟨.str _, H, I.tok _, ⟨_, rfl⟩, q⟩
    | str y => obtain ⟨t, rfl⟩ := rx; obtain ⟨hb, rfl⟩ := hz; exact PySem.P.repr_of_str ⟨.str _, H, I.tok _, ⟨_, rfl⟩, q⟩ hb
    | byt b => cases hz
    | flt b => cases hz
    | ref a => cases hz
    | ty n => cases hz
/-! ### isinstance of a caught error -/
structure ExI (K : PySem.W.Frag) (D : Addr) : Prop where
  hc : (PySem.W.clsIn K D).isSome = true
  ha : PySem.W.findIn K (.ref D) "__class__" = some (some (.builtin "object.__class__"))
  hn : PySem.W.specialIn K (.builtin "object.__class__") "__get__" = some (some (.builtin "getset_descriptor.__get__"))
  ht : PySem.W.takesIn K (.builtin "object.__class__") = some true
  hm : PySem.W.mroIn K D (.type "object") = some true
def rIsX (K : PySem.W.Frag) (a : Addr) (cls : Value) (d : Option Addr) : List V → Hp → VK → Prop := fun xs H Q => ∃ (c D dd : Addr) (fs : List (Str × V)) (b : Bool), xs = [.ref a, .ref c] ∧ cls = .ref D ∧ d = some dd ∧ H dd = some (.xd fs) ∧ XfC K D ∧ ExI K D ∧ PySem.W.kitOne K (.ref D) (.ref c) = some b ∧ Q (.bl b) H
theorem call_isX {X : Cx} {a : Addr} {oe : Obj} {cls : Value} {d : Option Addr} {pn : List (Addr × Obj)} (hz : Zc cls d oe) (hf : ∃ vs, oe.data = .fields vs) : CallR (X.suite a ((a, oe) :: pn)) (.builtin "isinstance") (rIsX X.K a cls d) := by
  intro pins s σ H xs us Q I r h
  obtain ⟨c, D, dd, fs, b, rfl, rfl, rfl, hd, T, U, hk, q⟩ := h
  cases r with
  | cons rx rr =>
    cases rr with
    | cons ry rr =>
      cases rr; cases rx; cases ry
      have hget := (I.pin (a, oe) (List.mem_append.mpr (.inl List.mem_cons_self))).1
      obtain ⟨vs, hv⟩ := hf
      have hx : ObjOk X.prog X.w H s.heap dd (.xd fs) := I.hok dd _ hd
      obtain ⟨mA, hns, _⟩ := hx
      obtain ⟨od, ho, _⟩ := lookIn_ns hns
      have J : PySem.W.InstAt s.heap a oe D (some od) := ⟨hget, hz.1, by unfold PySem.W.notCls; rw [hv], by rw [hz.2]; exact ho⟩
      refine PySem.W.kia_one (PySem.W.kitx_exc U.hc T.ga T.gg T.exC U.ha U.hn U.ht U.hm) I.kIn J hk (fun z => nomatch z) fun tk => ?_
      exact ⟨.bl b, H, I.kept (t' := tk) fun _ _ z => z, rfl, q⟩
/-! ### a suite knows how many slots there are -/
def tLen (n : Nat) (t : TS) : TS := fun D σ H => σ.length = n → t D σ H
theorem pss_len {X : Cx} {st : List Stmt} {t : TS} {n : Nat} (h : PSs X st t) (hn : X.N.length = n) : PSs X st (tLen n t) := ⟨fun pins s σ H D I q => h.run pins s σ H D I (q (I.len.trans hn))⟩
/-! ### defs that make lambdas: their code object is named -/
def cOf (K : PySem.W.Frag) (x : Str) : Addr := ((PySem.W.tabIn K x).getD (0, 0)).1
def pOf (K : PySem.W.Frag) (x : Str) : Addr := ((PySem.W.tabIn K x).getD (0, 0)).2
structure LamF (K : PySem.W.Frag) (mg : Str → Option Value) (x : Str) (st : Stmt) : Prop where
  ex : ∃ (f : Addr) (oc : Value) (od : Option Addr) (kV doc pm : Value) (an : Option Addr) (ct : Value) (osl : Array (Option Value)), mg x = some (.ref f) ∧ PySem.W.keepIn K (.ref f) = true ∧
    K.lookup f = some ⟨oc, od, .func (PySem.W.fnOf x x (defArgs st) (defBody st) (defScope st) .none kV doc pm an (.ref (cOf K x)) ct), osl⟩ ∧ PySem.W.codeIn K (.ref (cOf K x)) x = true
/-- as Fun.okX, the code object known -/
theorem LamF.okF {P : Program} {w : World} {K : PySem.W.Frag} {mg : Str → Option Value} {base : Heap} {x : Str} {st : Stmt} {N ps : List Str} {k : Nat} {sp : Sp} (F : LamF K mg x st) (S : FnScope N ps (defScope st))
    (hbind : ∀ (kV doc pm : Value) (an : Option Addr) (cdv ct : Value) (us : List Value), us.length = ps.length → bindArgs (PySem.W.fnOf x x (defArgs st) (defBody st) (defScope st) .none kV doc pm an cdv ct) ⟨us, []⟩ = pure (ps.zip us))
    (len : ∀ vs H Q E, sp vs H Q E → vs.length = ps.length)
    (hbody : ∀ (f : Addr) (A : Around) (outer : List Env) (s : Shared) (H : Hp) (vs : List V) (Q : VK) (E : XK), Room k (A.deeper (envOfC x (defScope st) s.heap.objs.size f (.ref (cOf K x)))) → sp vs H Q E →
      ∃ t, PSs (cxOf (L2.CX P w) P w K mg base N x (defScope st) f (.ref (cOf K x)) A outer s H E) (defBody st) t ∧ t { nx := fun _ H' => Q .non H', rt := Q } (L2.start N vs) H) : OkF P w K mg base (L2.CX P w) (k + 1) x ps sp := by
  obtain ⟨f, oc, od, kV, doc, pm, an, ct, osl, g, kp, lk, hcd⟩ := F.ex
  exact ⟨f, _, g, kp, .all (hbind kV doc pm an _ ct), fn_of lk hcd S len fun A outer s H vs Q E hr hsp => hbody f A outer s H vs Q E hr hsp⟩
theorem passLam {X : Cx} {A : Around} {outer : List Env} {s : Shared} {H : Hp} {E : XK} {scope : Scope} {f c : Addr} : Passes (L2.CX X.prog X.w) (lamCx X A outer s H E scope f c) E :=
  passes_call (W := fun cls d _ H => E cls d H) (takes_of rfl rfl rfl rfl) fun _ _ _ _ h => h
/-- told(lambda: body), told a def of the text -/
theorem plam {X : Cx} {x a : Str} {st : Stmt} {N : List Str} {TT : (XK → Hp → VK → Prop) → Hp → VK → Prop} {c P : Addr} {qn : Str} {k : Nat} {params : Arguments} {body : Expr} {scope : Scope} {t : XK → TE} {p lpos pos : Pos}
    (F : ∃ (f : Addr) (fd : FuncData), X.mg x = some (.ref f) ∧ Fun X.K x x st f fd) (S : FnScope N [a] (defScope st))
    (hb : ∀ (kV doc pm : Value) (an : Option Addr) (cdv ct : Value) (us : List Value), us.length = [a].length → bindArgs (PySem.W.fnOf x x (defArgs st) (defBody st) (defScope st) .none kV doc pm an cdv ct) ⟨us, []⟩ = pure ([a].zip us))
    (hG : ∀ (g : Addr) (cdg : Value), GivesTo X N x (defScope st) g cdg (defBody st) a qn TT)
    (TB : TabB X.base X.mg c P) (hcode : X.env.code = .ref c) (hq : X.env.qual ++ "<lambda>" = qn) (hr : Room (k + 2) X.A) (L : lamSB X.env.scope scope = true)
    (hbody : ∀ (A : Around) (outer : List Env) (s : Shared) (H : Hp) (E : XK) (f c' : Addr), Room k (A.deeper (lamEnv X scope s.heap.objs.size f c')) → PE (lamCx X A outer s H E scope f c') body (t E))
    (hdef : defaultsOf params X.env = ([], []) := by rfl) (hg : Gl X x := by rfl) (hv : Vis (defScope st) a := by first | exact Or.inl rfl | exact Or.inr (Or.inl rfl)) (hNa : N[0]? = some a := by rfl)
    (hbind : ∀ (q : Str) (cl : List (Str × Addr)) (pm cv ctv : Value), bindArgs (PySem.W.kla_fn "<lambda>" q params body scope cl pm cv ctv) ⟨[], []⟩ = pure [] := by intros; rfl)
    (hdb : (x == ("__debug__" : Str)) = false := by decide) (hd : (a == ("__debug__" : Str)) = false := by decide) (hcd : (a == ("__classdict__" : Str)) = false := by decide) :
    PE X (.Call (.Name x p) [.Lambda params body scope lpos] [] pos) (tLam [(P, qn)] TT t) := by
  subst hq
  obtain ⟨g, fd, hm, F⟩ := F
  obtain ⟨oc, od, kV, doc, pm, an, cdv, ct, osl, rfl, lk, hcg⟩ := F.ex
  exact pe_lamcall hg hm F.kp lk hcg (.all (hb kV doc pm an cdv ct)) S hNa hv (hG g cdv) TB hcode (List.mem_singleton.mpr rfl) (fun q hq _ => by rw [List.mem_singleton.mp hq]) hr (lamS_by L) hdef hbind hbody hdb hd hcd
theorem extL {H H' : Hp} {p : Addr} {xs : List V} (e : ExtN H H') (h : H p = some (.lst xs)) : H' p = some (.lst xs) := e p _ h fun ps z => by cases z
theorem extT {H H' : Hp} {p : Addr} {xs : List V} (e : ExtN H H') (h : H p = some (.tup xs)) : H' p = some (.tup xs) := e p _ h fun ps z => by cases z
theorem extS {H H' : Hp} (e : Same H H') : ExtN H H' := fun b o h _ => e b o h
/-! ### comprehensions -/
theorem st_lcL {K : PySem.W.Frag} {tl : TE} {g : TG} {tt : TT} {te : TE} {vs : List Nat} {σ : L2.St} {H : Hp} {Q : VK} {a : Addr} {xs : List V} (ha : ∀ R : V → Hp → Prop, R (.ref a) H → tl σ H R) (hx : H a = some (.lst xs)) (Pv : Addr → Nat → Hp → Prop)
    (h0 : ∀ D H1, H D = none → Same H H1 → H1 D = some (.lst []) → Pv D 0 H1) (hl : ∀ D i H, Pv D i H → H a = some (.lst xs))
    (hs : ∀ D i x H, xs[i]? = some x → Pv D i H → g x (wipe σ vs) H fun σ2 H2 => wipe σ2 vs = wipe σ vs ∧ tt σ2 H2 fun b H3 => if b = true then te σ2 H3 fun y H4 => ∃ acc, H4 D = some (.lst acc) ∧ acc.length < sizeLine ∧ Pv D (i + 1) (upd H4 D (.lst (acc ++ [y]))) else Pv D (i + 1) H3)
    (hd : ∀ D H, Pv D xs.length H → Q (.ref D) H) : tLc (iList K tl) g tt te vs σ H Q :=
  ha _ ⟨a, rfl, ⟨xs, SqL.of hx⟩, fun D hD => lc_list (Pv D) (h0 D _ hD (Same.upd hD) upd_same) (fun i H _ p => SqL.of (hl D i H p)) (hs D) (hd D)⟩
/-- deep == of what is alike -/
theorem dataEq {d : PyData} (h : SeqAt.shaped d = true) : PyData.eqv d d = true := SeqAt.eqv_refl d (SeqAt.canLay_of_shaped h)
theorem lk0 {f : Str} {v : V} : List.lookup f [(f, v)] = some v := by simp [List.lookup]
theorem ne_same {K : PySem.W.Frag} {x y : V} {H : Hp} {d : PyData} {R : VK} (hx : Dp K H x d) (hy : Dp K H y d) (h : SeqAt.shaped d = true) (r : R (.bl false) H) : rNeD K x y H R := ⟨d, d, hx, hy, h, h, by rw [dataEq h]; exact r⟩
theorem eq_same {K : PySem.W.Frag} {x y : V} {H : Hp} {d : PyData} {R : VK} (hx : Dp K H x d) (hy : Dp K H y d) (h : SeqAt.shaped d = true) (r : R (.bl true) H) : rEqD K x y H R := ⟨d, d, hx, hy, h, h, by rw [dataEq h]; exact r⟩
theorem dp_ss {K : PySem.W.Frag} {H : Hp} {p : Addr} {x y : Str} (h : H p = some (.tup [.str x, .str y])) : Dp K H (.ref p) (.tuple [.str x, .str y]) := .tup (SqT.of h) (.cons (.str x) (.cons (.str y) .nil))
theorem sh_ss {x y : Str} (hx : PyData.strOk x = true) (hy : PyData.strOk y = true) : SeqAt.shaped (.tuple [.str x, .str y]) = true := by simp [SeqAt.shaped, PyData.canLay0, PyData.canLayAll0, PyData.depth, PyData.depthAll, hx, hy]
theorem dp_nil {K : PySem.W.Frag} {H : Hp} {p : Addr} (h : H p = some (.lst [])) : Dp K H (.ref p) (.list []) := .lst (SqL.of h) .nil
/-- the rules that name the written part, within a comprehension -/
theorem op_neDk {X : Cx} {K : PySem.W.Frag} (e : X.K = K) (hu : X.A.units + 64 < cLine) : OpR X (compareOp .NotEq) (rNeD K) := e ▸ op_neD hu
theorem op_eqDk {X : Cx} {K : PySem.W.Frag} (e : X.K = K) (hu : X.A.units + 64 < cLine) : OpR X (compareOp .Eq) (rEqD K) := e ▸ op_eqD hu
/-! ### what the top has made, from facts -/
theorem ga_of {K : PySem.W.Frag} {x : Str} {a : Addr} (h : PySem.W.nsIn K mainGlobals x = some (some (.ref a))) : ga K x = a := by unfold ga; rw [h]
theorem ext_mk {K : PySem.W.Frag} {mg : Str → Option Value} {h : Heap} (X : K.In h) (G : h.Ns mainGlobals mg) {x fld qual nm q : Str} {st : Stmt} {C f N : Addr} {bs bm sub : List Value} {sn : List Str} {ab : Bool} {col : Option Bool} {dd od an : Option Addr} {m0 m1 m2 m3 m5 : Option Value} {oc kV dc pm cd ct : Value} {sl : Array (Option Value)} {p1 p2 p3 p4 : Pos}
    (aC : PySem.W.nsIn K mainGlobals x = some (some (.ref C))) (xL : K.lookup C = some (excClassObj nm q C N bs bm true sn sub ab col dd m0 m1 m2 m3 m5 "ValueError.__new__")) (hbm : PySem.HandSPX.refsVE bm = true)
    (sa : PySem.W.findIn K (.ref C) "__setattr__" = some (some (.builtin "object.__setattr__"))) (exC : PySem.W.subIn K (.ref C) (.type "BaseException") = some true) (tyC : PySem.W.typeIn K (.ref C) = some (.type "type")) (kC : PySem.W.keepIn K (.ref C) = true)
    (gA : PySem.W.findIn K (.ref C) "__getattribute__" = some (some (.builtin "BaseException.__getattribute__"))) (gG : PySem.W.findIn K (.ref C) "__getattr__" = some none) (hd : PySem.W.hasDictIn K C = true) (no : PySem.W.findIn K (.ref C) fld = some none)
    (iC : PySem.W.findIn K (.ref C) "__init__" = some (some (.ref f))) (tI : PySem.W.typeIn K (.ref f) = some (.type "function"))
    (lI : K.lookup f = some ⟨oc, od, .func (PySem.W.fnOf "__init__" qual (defArgs st) (defBody st) (defScope st) .none kV dc pm an cd ct), sl⟩) (cI : PySem.W.codeIn K cd qual = true) (kI : PySem.W.keepIn K (.ref f) = true)
    (S : FnScope ["self", fld] ["self", fld] (defScope st)) (hb : defBody st = [.Assign [.Attribute (.Name "self" p1) fld p2] (.Name fld p3) p4])
    (hB : ∀ (kV doc pm : Value) (an : Option Addr) (cdv ct : Value) (us : List Value), us.length = (["self", fld] : List Str).length → bindArgs (PySem.W.fnOf "__init__" qual (defArgs st) (defBody st) (defScope st) .none kV doc pm an cdv ct) ⟨us, []⟩ = pure ((["self", fld] : List Str).zip us)) : ExT K mg x fld := by
  have e := ga_of aC
  refine ⟨?_, ?_, ?_, ?_, ?_⟩
  · rw [e]; exact PySem.W.mg_of X G aC
  · rw [e]; exact ⟨⟨_, _, _, _, _, _, _, _, _, _, _, _, _, _, _, xL, hbm⟩, sa, exC, tyC, kC⟩
  · rw [e]; exact ⟨gA, gG, exC, hd⟩
  · rw [e]; exact no
  · rw [e]; exact ⟨qual, st, f, _, p1, p2, p3, p4, iC, tI, fun_mk lI cI kI, S, hb, (fun_mk (st := st) lI cI kI).binds hB⟩
theorem exi_mk {K : PySem.W.Frag} {x : Str} {C : Addr} (aC : PySem.W.nsIn K mainGlobals x = some (some (.ref C))) (hc : (PySem.W.clsIn K C).isSome = true) (ha : PySem.W.findIn K (.ref C) "__class__" = some (some (.builtin "object.__class__")))
    (hn : PySem.W.specialIn K (.builtin "object.__class__") "__get__" = some (some (.builtin "getset_descriptor.__get__"))) (ht : PySem.W.takesIn K (.builtin "object.__class__") = some true) (hm : PySem.W.mroIn K C (.type "object") = some true) : ExI K (ga K x) := by
  rw [ga_of aC]; exact ⟨hc, ha, hn, ht, hm⟩
theorem lamf_mk {K : PySem.W.Frag} {mg : Str → Option Value} {h : Heap} (X : K.In h) (G : h.Ns mainGlobals mg) {x : Str} {st : Stmt} {f c P : Addr} {od an : Option Addr} {oc kV dc pm ct : Value} {sl : Array (Option Value)}
    (a : PySem.W.nsIn K mainGlobals x = some (some (.ref f))) (l : K.lookup f = some ⟨oc, od, .func (PySem.W.fnOf x x (defArgs st) (defBody st) (defScope st) .none kV dc pm an (.ref c) ct), sl⟩) (cI : PySem.W.codeIn K (.ref c) x = true) (kI : PySem.W.keepIn K (.ref f) = true)
    (t : PySem.W.tabIn K x = some (c, P)) : LamF K mg x st := by
  have e : cOf K x = c := by unfold cOf; rw [t]; rfl
  refine ⟨f, oc, od, kV, dc, pm, an, ct, sl, PySem.W.mg_of X G a, kI, ?_, ?_⟩
  · rw [e]; exact l
  · rw [e]; exact cI
end Iz
/-! Bc -/
set_option Elab.async false
set_option linter.all false
set_option maxRecDepth 100000
set_option maxHeartbeats 4000000
namespace Iz
open PySem PySem.Spec PyProof.Rows L2
open He (ga)
/-! ### own classes: their instances stand still -/
/-- how the parameters bind, the last ones by their defaults -/
def BindD (K : PySem.W.Frag) (fd : FuncData) (ps : List Str) (dvs : List V) : Prop := ∀ j, j ≤ dvs.length → ∃ ds, Vals (dvs.drop j) ds ∧ Binds K fd ps ds
theorem BindD.none {K : PySem.W.Frag} {fd : FuncData} {ps : List Str} (b : Binds K fd ps []) : BindD K fd ps [] := fun _ _ => ⟨[], by rw [List.drop_nil]; exact .nil, b⟩
/-- the method m of the class x keeps sp -/
structure OkM (P : Program) (w : World) (K : PySem.W.Frag) (mg : Str → Option Value) (base : Heap) (CX : CXT) (k : Nat) (x m : Str) (ps : List Str) (dvs : List V) (sp : Sp) : Prop where
  ex : ∃ (f : Addr) (fd : FuncData), Meth K (ga K x) m f ∧ BindD K fd ps dvs ∧ FnOk P w K mg base CX k f fd ps sp
/-- a call of the class x keeps sp -/
structure OkK (P : Program) (w : World) (K : PySem.W.Frag) (mg : Str → Option Value) (base : Heap) (CX : CXT) (k : Nat) (x : Str) (ps : List Str) (dvs : List V) (sp : Sp) : Prop where
  ex : ∃ (f : Addr) (fd : FuncData) (si : Sp), Mk K (ga K x) f ∧ mg x = some (.ref (ga K x)) ∧ BindD K fd ("self" :: ps) dvs ∧ FnOk P w K mg base CX k f fd ("self" :: ps) si ∧
    ∀ vs H Q E, sp vs H Q E → ∀ p dx, H p = none → H dx = none → dx ≠ p → si (.ref p :: vs) (upd (upd H dx (.own p)) p (.ins (ga K x) dx [])) (fun v H2 => v = .non ∧ Q (.ref p) H2) E
/-- a new instance -/
def NewsI (H : Hp) (C : Addr) (fs : List (Str × V)) (Q : V → Hp → Prop) : Prop := ∀ p dx H2, H p = none → Same H H2 → H2 p = some (.ins C dx fs) → Q (.ref p) H2
def tMt (C : Addr) (m : Str) (sp : Sp) (dv : List V) (E : XK) (ta : TE) (t : TA) : TE := fun σ H Q => ta σ H fun x H1 => ∃ a dx fs, x = .ref a ∧ H1 a = some (.ins C dx fs) ∧ fs.lookup m = none ∧ t σ H1 fun vs H2 => sp (x :: (vs ++ dv)) H2 Q E
section
variable {X : Cx} {CX : CXT} {k j : Nat} {x m f : Str} {ps : List Str} {dvs : List V} {sp : Sp} {E : XK} {o e : Expr} {es : List Expr} {ta : TE} {t : TA} {p pos apos : Pos}
theorem pmt {pl : Sem Bool} (O : OkM X.prog X.w X.K X.mg X.base CX k x m ps dvs sp) (C : Cls X.K (ga X.K x)) (he : PE X o ta) (hj : j ≤ dvs.length) (hr : Room k X.A) (hx : Passes CX X E) (ha : PA X (e :: es) t)
    (hst : starEach (e :: es) X.env = (false, eval e X.env) :: starEach es X.env := by rfl) (hpl : (backTo pos (starEach es X.env)).any (·.1) = false := by rfl)
    (ht : eval (.Call (.Attribute o m apos) (e :: es) [] pos) X.env = (do
      let ov ← eval o X.env; standAt apos.atName
      let (f, first) ← holding [ov] (getMethod ov m pl)
      callWith pos f first (backTo pos (starEach (e :: es) X.env)) (backToKw pos (keywordEach [] X.env))) := by rfl) :
    PE X (.Call (.Attribute o m apos) (e :: es) [] pos) (tMt (ga X.K x) m sp (dvs.drop j) E ta t) := by
  obtain ⟨f, fd, M, b, G⟩ := O.ex
  obtain ⟨ds, hv, hb⟩ := b j hj
  exact pe_meth he C M G hr hb hv hx ha hst hpl ht
theorem pmt0 {pl : Sem Bool} (O : OkM X.prog X.w X.K X.mg X.base CX k x m ps dvs sp) (C : Cls X.K (ga X.K x)) (he : PE X o ta) (hj : j ≤ dvs.length) (hr : Room k X.A) (hx : Passes CX X E)
    (ht : eval (.Call (.Attribute o m apos) [] [] pos) X.env = (do
      let ov ← eval o X.env; standAt apos.atName
      let (f, first) ← holding [ov] (getMethod ov m pl)
      callWith pos f first (backTo pos (starEach [] X.env)) (backToKw pos (keywordEach [] X.env))) := by rfl) :
    PE X (.Call (.Attribute o m apos) [] [] pos) (tMt (ga X.K x) m sp (dvs.drop j) E ta tNil) := by
  obtain ⟨f, fd, M, b, G⟩ := O.ex
  obtain ⟨ds, hv, hb⟩ := b j hj
  exact pe_meth0 he C M G hr hb hv hx ht
theorem pmk (O : OkK X.prog X.w X.K X.mg X.base CX k x ps dvs sp) (hj : j ≤ dvs.length) (hr : Room (k + 1) X.A) (hx : Passes CX X E) (ha : PA X (e :: es) t) (hg : Gl X x := by rfl) (hdb : (x == ("__debug__" : Str)) = false := by decide)
    (he : starEach (e :: es) X.env = (false, eval e X.env) :: starEach es X.env := by rfl) (hpl : (backTo pos (starEach es X.env)).any (·.1) = false := by rfl) : PE X (.Call (.Name x p) (e :: es) [] pos) (tCall sp (dvs.drop j) E t) := by
  obtain ⟨f, fd, si, M, g, b, G, q⟩ := O.ex
  obtain ⟨ds, hv, hb⟩ := b j hj
  exact PE.imp (pe_make M G hr hg g hb hv hx (PA.mcl ha) hdb he hpl) fun σ H Q h => ⟨_, h, fun vs H1 h1 p dx h2 h3 h4 => q _ H1 Q _ h1 p dx h2 h3 h4⟩
theorem pmk0 (O : OkK X.prog X.w X.K X.mg X.base CX k x ps dvs sp) (hj : j ≤ dvs.length) (hr : Room (k + 1) X.A) (hx : Passes CX X E) (hg : Gl X x := by rfl) (hdb : (x == ("__debug__" : Str)) = false := by decide) : PE X (.Call (.Name x p) [] [] pos) (tCall sp (dvs.drop j) E tNil) := by
  obtain ⟨f, fd, si, M, g, b, G, q⟩ := O.ex
  obtain ⟨ds, hv, hb⟩ := b j hj
  exact PE.imp (pe_make0 M G hr hg g hb hv hx hdb) fun σ H Q h => fun p dx h2 h3 h4 => q _ H Q _ h p dx h2 h3 h4
def tFldN (C : Addr) (ta : TE) (f : Str) : TE := fun σ H Q => ta σ H fun x H1 => ∃ a dx fs v, x = .ref a ∧ H1 a = some (.ins C dx fs) ∧ fs.lookup f = some v ∧ Q v H1
theorem pe_fldN {C : Addr} (c : Cls X.K C) (n : NoAttr X.K C f) (h : PE X o ta) (hb : attributeBase o f X.env (eval o X.env) = eval o X.env := by rfl) : PE X (.Attribute o f apos) (tFldN C ta f) :=
  PE.imp (pe_fld (PE.mcl h) hb) fun σ H Q q => ⟨_, q, fun x H1 ⟨a, dx, fs, v, e1, e2, e3, q⟩ => ⟨a, C, dx, fs, v, e1, e2, c, n, e3, q⟩⟩
end
theorem lk1 {f g : Str} {v w : V} (h : (f == g) = false) : List.lookup f [(g, w), (f, v)] = some v := by simp [List.lookup, h]
theorem lkn2 {f g h : Str} {v w : V} (h1 : (f == g) = false) (h2 : (f == h) = false) : List.lookup f [(g, v), (h, w)] = none := by simp [List.lookup, h1, h2]
theorem lkh {f : Str} {v : V} {l : List (Str × V)} : List.lookup f ((f, v) :: l) = some v := by simp [List.lookup]
/-- None or an int -/
def ov : Option Int → V
  | none => .non
  | some i => .int i
theorem wh_ov {K : PySem.W.Frag} {H : Hp} {o : Option Int} : Wh K H (ov o) := by cases o; exact wh_non; exact wh_int
theorem putF_nil {f : Str} {v : V} : putF f v [] = [(f, v)] := rfl
theorem putF_cons {f g : Str} {v w : V} {l : List (Str × V)} (h : g ≠ f) : putF f v ((g, w) :: l) = (g, w) :: putF f v l := by
  show (if g = f then _ else _) = _
  rw [if_neg h]
/-- self.f = e, the object's class known -/
def tSto (C : Addr) (f : Str) (ta tv : TE) : TS := fun D σ H => tv σ H fun y H1 => ta σ H1 fun x H2 => ∃ a dx fs, x = .ref a ∧ H2 a = some (.ins C dx fs) ∧ fs.length < 1000 ∧ ∀ H3, Put H2 H3 a (.ins C dx (putF f y fs)) → D.nx σ H3
theorem ps_fldN {X : Cx} {C : Addr} {f : Str} {o e : Expr} {ta tv : TE} {apos pos : Pos} (c : Cls X.K C) (n : NoAttr X.K C f) (ho : PE X o ta) (he : PE X e tv) (hs : swapsWith e (some (.Attribute o f apos)) pos.line X.env = pure false := by rfl) : PS X (.Assign [.Attribute o f apos] e pos) (tSto C f ta tv) :=
  PS.imp (ps_fld (PE.mcl ho) (PE.mcl he) hs) fun D σ H q => ⟨_, q, fun y H1 q1 => ⟨_, q1, fun x H2 ⟨a, dx, fs, e1, e2, e3, k⟩ => ⟨a, C, dx, fs, e1, e2, c, n, e3, k _ ⟨upd_same, fun _ h => upd_ne h⟩⟩⟩⟩
theorem tyX_mono {K : PySem.W.Frag} {H H' : Hp} {x : V} {t : Value} (h : TyX K H x t) (s : Same H H') : TyX K H' x t := by
  cases h with
  | base b =>
    cases b with
    | non => exact .base .non
    | bl b => exact .base (.bl b)
    | int i => exact .base (.int i)
    | str y => exact .base (.str y)
    | flt y => exact .base (.flt y)
    | lst e => exact .base (.lst (s _ _ e))
    | frz e => exact .base (.frz (s _ _ e))
    | tup e => exact .base (.tup (s _ _ e))
    | dK e => exact .base (.dK (s _ _ e))
    | dT e => exact .base (.dT (s _ _ e))
    | ins e a b c d f => exact .base (.ins (s _ _ e) a b c d f)
  | byt b => exact .byt b
  | set e => exact .set (s _ _ e)
  | kList e c => exact .kList e c
  | kTuple e c => exact .kTuple e c
  | kDict e c => exact .kDict e c
  | fTuple e => exact .fTuple (s _ _ e)
  | fDict e => exact .fDict (s _ _ e)
theorem wh_mono {K : PySem.W.Frag} {H H' : Hp} {x : V} (h : Wh K H x) (s : Same H H') : Wh K H' x := let ⟨t, b, c, ty, r⟩ := h; ⟨t, b, c, tyX_mono ty s, r⟩
theorem same_made {H H' : Hp} {p dx : Addr} {o o' : HO} (hp : H p = none) (hd : H dx = none) (h : ∀ b, b ≠ p → H' b = upd (upd H dx o) p o' b) : Same H H' := fun b u e => by
  rw [h b (ne_of_none e hp), upd_ne (ne_of_none e hp), upd_ne (ne_of_none e hd)]; exact e
/-- isinstance with an own class -/
def rIsOw (K : PySem.W.Frag) : List V → Hp → VK → Prop := fun xs H Q => ∃ x c, xs = [x, .ref c] ∧ ∃ t b, TyX K H x t ∧ PySem.W.kitOne K t (.ref c) = some b ∧ Q (.bl b) H
theorem call_isOw {X : Cx} : CallR X (.builtin "isinstance") (rIsOw X.K) := CallR.imp call_isi fun xs H Q ⟨x, c, a, t, b, ty, k, q⟩ => ⟨x, .ref c, t, .ref c, b, a, .own c, ty, k, q⟩
/-- what isinstance asks of an own class -/
structure ClsI (K : PySem.W.Frag) (C : Addr) : Prop where
  c : Cls K C
  ha : PySem.W.findIn K (.ref C) "__class__" = some (some (.builtin "object.__class__"))
  hn : PySem.W.specialIn K (.builtin "object.__class__") "__get__" = some (some (.builtin "getset_descriptor.__get__"))
  ht : PySem.W.takesIn K (.builtin "object.__class__") = some true
  hm : PySem.W.mroIn K C (.type "object") = some true
theorem ClsI.ty {K : PySem.W.Frag} {C : Addr} {H : Hp} {a dx : Addr} {fs : List (Str × V)} (T : ClsI K C) (h : H a = some (.ins C dx fs)) : TyX K H (.ref a) (.ref C) := .base (.ins h T.c T.ha T.hn T.ht T.hm)
theorem kit_self {K : PySem.W.Frag} {t : Value} (h : (t == t) = true := by simp) : PySem.W.kitOne K t t = some true := by unfold PySem.W.kitOne; rw [if_pos h]
end Iz
/-! RlA -/
set_option Elab.async false
set_option linter.all false
set_option maxRecDepth 100000
set_option maxHeartbeats 4000000
namespace Iz
open PySem PySem.Spec PyProof.Rows L2
/-! ### ranges with great ends: another iterator goes through them -/
theorem slotL_next : Slot "longrange_iterator" "__next__" "longrange_iterator.__next__" :=
  .of (owner := "longrange_iterator") (n := "__next__") (by rw [typeLookup_type, builtinLookup_eq_fast]; kernel_rfl) (by decide +kernel) (by decide +kernel) (by decide +kernel)
    (by first | exact .inl (by decide +kernel) | exact .inr (by decide +kernel)) (by rw [isSubtype_type]; kernel_rfl)
theorem ownerL : Manifest.owners.lookup (String.ofList ['r', 'o', 't', 'a', 'r', 'e', 't', 'i', '_', 'e', 'g', 'n', 'a', 'r', 'g', 'n', 'o', 'l'].reverse) = some Manifest.sig_longrange_iterator := by kernel_rfl
theorem entryL_next : entryFor table "longrange_iterator.__next__" = some Builtin.«longrange_iterator.__next__» := entryFor_of_tree (by kernel_rfl)
theorem argsL_next (a : Value) : argsOk "longrange_iterator.__next__" ⟨[a], []⟩ := by
  unfold argsOk; rw [signature?_of (id := "longrange_iterator.__next__") (n := ['_', '_', 't', 'x', 'e', 'n', '_', '_']) (o := ['r', 'o', 't', 'a', 'r', 'e', 't', 'i', '_', 'e', 'g', 'n', 'a', 'r', 'g', 'n', 'o', 'l']) (by kernel_rfl) ownerL]; kernel_rfl
abbrev IsLR (h : Heap) (it : Addr) (x left step : Int) : Prop := h.get? it = some { cls := .type "longrange_iterator", dict := none, data := .fields #[rawInt x, rawInt left, rawInt step], slots := #[] }
theorem slotL_iter : Slot "longrange_iterator" "__iter__" "longrange_iterator.__iter__" :=
  .of (owner := "longrange_iterator") (n := "__iter__") (by rw [typeLookup_type, builtinLookup_eq_fast]; kernel_rfl) (by decide +kernel) (by decide +kernel) (by decide +kernel)
    (by first | exact .inl (by decide +kernel) | exact .inr (by decide +kernel)) (by rw [isSubtype_type]; kernel_rfl)
theorem argsL_iter (a : Value) : argsOk "longrange_iterator.__iter__" ⟨[a], []⟩ := by
  unfold argsOk; rw [signature?_of (id := "longrange_iterator.__iter__") (n := ['_', '_', 'r', 'e', 't', 'i', '_', '_']) (o := ['r', 'o', 't', 'a', 'r', 'e', 't', 'i', '_', 'e', 'g', 'n', 'a', 'r', 'g', 'n', 'o', 'l']) (by kernel_rfl) ownerL]; kernel_rfl
theorem entryL_iter : entryFor table "longrange_iterator.__iter__" = some Builtin.«dict_keyiterator.__iter__» :=
  entryFor_alias (id' := "dict_keyiterator.__iter__") (by kernel_rfl) (by first | rfl | decide +kernel | (unfold String.splitOn; simp +decide [String.splitOnAux])) (by decide +kernel) (by kernel_rfl)
end Iz
/-! Rl -/
set_option Elab.async false
set_option linter.all false
set_option maxRecDepth 100000
set_option maxHeartbeats 4000000
namespace Iz
open PySem PySem.Spec PyProof.Rows L2
theorem meetsL_next (it : Addr) (x left step : Int) (hc0 : ¬left ≤ 0) :
    Meets (Builtin.«longrange_iterator.__next__» ⟨[.ref it], []⟩) (fun _ R s => s.heap.get? it = some { cls := .type "longrange_iterator", dict := none, data := .fields #[rawInt x, rawInt left, rawInt step], slots := #[] } ∧ R (.ok (.ret (Value.int x s.toks))) { s with heap := (s.heap.update it (Obj.mapFields fun x_1 => x_1.setIfInBounds 0 (rawInt (x + step)))).update it (Obj.mapFields fun x => x.setIfInBounds 1 (rawInt (left - 1))), toks := s.toks + 1 }) :=
  .of_wp fun prog w A R s h => by obtain ⟨hp, g, d, tk, os⟩ := s; obtain ⟨hl, h⟩ := h; unfold Builtin.«longrange_iterator.__next__» Builtin.Iterators_pickling.intField; wp_walk; exact ⟨_, rfl, h⟩
section
variable {prog : Program} {w : World} {A : Around} {E : Value → Shared → Prop} {s : Shared}
theorem nextL_item {it : Addr} {x left step : Int} {Q : Option Value → Shared → Prop} (hit : IsLR s.heap it x left step) (hleft : 0 < left)
    (hQ : ∀ h', IsLR h' it (x + step) (left - 1) step → Heap.SameBut it s.heap h' → Q (some (.int x s.toks)) { s with heap := h', toks := s.toks + 1 }) :
    wpAny (model prog w) A (pyNext (.ref it)) Q E s := by
  have hT : s.TypeIs (.ref it) "longrange_iterator" := ⟨_, hit, rfl⟩
  unfold pyNext
  refine wpAny_bind (wpAny_attempt (wpAny_callSpecial?_slot (name := Str.ofString "__next__") hT slotL_next
    (call_meets slotL_next hT entryL_next (argsL_next _) (meetsL_next it x left step (by omega)) ⟨hit, ?_⟩)))
  exact wpAny_pure (hQ _ (Heap.get?_update_self _ (Heap.get?_update_self _ hit rfl) rfl) ((Heap.SameBut.update ..).trans (Heap.SameBut.update ..)))
theorem intF {id : String} {a : Addr} {o : Obj} {vs : Array Value} {i : Nat} {x : Int} {Q : Int → Shared → Prop} (ho : s.heap.get? a = some o) (hd : o.data = .fields vs) (hi : vs[i]? = some (rawInt x)) (h : Q x s) :
    wpAny (model prog w) A (Builtin.Iterators_pickling.intField id (.ref a) i) Q E s := by
  unfold Builtin.Iterators_pickling.intField
  exact wpAny_bind (wpAny_field ho hd hi (wpAny_pure h))
theorem nextL_end {it : Addr} {x left step : Int} {Q : Option Value → Shared → Prop} (hh : A.handled = none) (hit : IsLR s.heap it x left step) (hleft : left ≤ 0)
    (hQ : ∀ h', Heap.ExtBut it s.heap h' → Q none { s with heap := h' }) : wpAny (model prog w) A (pyNext (.ref it)) Q E s := by
  have hT : s.TypeIs (.ref it) "longrange_iterator" := ⟨_, hit, rfl⟩
  unfold pyNext
  refine wpAny_bind (wpAny_attempt (wpAny_callSpecial?_slot (name := Str.ofString "__next__") hT slotL_next
    (wpAny_call_entry slotL_next hT entryL_next ?_ (argsL_next _))))
  unfold Builtin.«longrange_iterator.__next__»
  refine wpAny_bind (wpAny_of_eq (a := #[some (Value.ref it)]) (by first | rfl | kernel_rfl) ?_)
  refine wpAny_bind (intF hit rfl (x := x) rfl ?_)
  refine wpAny_bind (intF hit rfl (x := left) rfl ?_)
  refine wpAny_bind (intF hit rfl (x := step) rfl ?_)
  simp only [if_pos hleft]
  refine wpAny_bind (wpAny_rule ?_)
  simp only [newExc, newTuple]
  refine wpAny_bind ?_
  refine wpAny_bind (wpAny_newObj_type ?_ (by size_fits))
  refine wpAny_bind (m := firstArgMember _ _) (wpAny_of_eq (a := Value.none) (by first | rfl | (simp only [firstArgMember]; rfl)) ?_)
  refine wpAny_newObj_type ?_ (by size_fits)
  simp only [raiseNew]
  refine wpAny_bind (wpAny_bind (wpAny_handled ?_))
  first | rw [show A.in1.handled = none from hh] | rw [hh]
  refine wpAny_throw ?_
  refine wpAny_bind (wpAny_isInstance (T := "StopIteration") (b := true) ⟨_, Heap.get?_push_size _ rfl, rfl⟩ isSubtype_stop ?_)
  exact wpAny_pure (hQ _ (((Heap.ExtBut.refl it s.heap).push _).push _))
theorem iterL_self {it : Addr} {x left step : Int} {Q : Value → Shared → Prop} (hit : IsLR s.heap it x left step) (h : Q (.ref it) s) : wpAny (model prog w) A (pyIter (.ref it)) Q E s := by
  have hT : s.TypeIs (.ref it) "longrange_iterator" := ⟨_, hit, rfl⟩
  refine wpAny_pyIter_slot hT slotL_iter (wpAny_call_entry slotL_iter hT entryL_iter ?_ (argsL_iter _))
  show wpAny _ _ (ret (.ref it)) _ _ s
  exact wpAny_pure ⟨_, rfl, "longrange_iterator", _, hT, slotL_next.lookup, h⟩
theorem iterL_range {r : Addr} {a b c : Int} {t u v : Tok} {Q : Value → Shared → Prop} (hr : IsRange s.heap r a b c t u v) (hsmall : ¬ Builtin.Range.small a b c = true)
    (hQ : Q (.ref s.heap.objs.size) { s with heap := s.heap.push { cls := .type "longrange_iterator", data := .fields #[rawInt a, rawInt (Builtin.Range.rangeSize a b c), rawInt c] } }) :
    wpAny (model prog w) A (pyIter (.ref r)) Q E s := by
  have hT : s.TypeIs (.ref r) "range" := ⟨_, hr, rfl⟩
  refine wpAny_pyIter_slot hT F.slot_range_iter (call_meets F.slot_range_iter hT F.entry_range_iter (F.args_range_iter_1 _)
    (AutoRange.range___iter___range_0 r a b c t u v (by have e := Bool.eq_false_iff.mpr hsmall; unfold Builtin.Range.small at e; rw [e]; rfl)) ⟨hr, ?_⟩)
  unfold Builtin.Range.small at hsmall
  rw [if_neg hsmall]
  exact ⟨"longrange_iterator", _, ⟨_, Heap.get?_push_size _ rfl, rfl⟩, slotL_next.lookup, hQ⟩
end
theorem turnL {P : Program} {w : World} {K : PySem.W.Frag} {tg : Expr} (it : Addr) (lo : Int) (n : Nat) : Turn P w K tg (Itr lo n) [it] it (fun i h => IsLR h it (lo + (i : Nat)) ((n : Int) - (i : Nat)) 1) where
  mem := by simp
  obj := fun i h st b hb => by
    have e : b = it := by simpa using hb
    subst e
    exact ⟨_, st, fun v z => by
      have z' : Data.fields _ = Data.cell v := z
      cases z'⟩
  keep := fun i h h' st k => k it (by simp) _ st
  item := by
    intro X hP hw hK hc i pins s σ H E I hf st hg
    subst hP hw hK
    obtain ⟨f0, f1, f2, f3, f4, f5⟩ := hf it (by simp)
    have hg' : i < n := hg
    refine nextL_item st (by omega) fun h' st' sb => ?_
    have I1 : Inv X pins σ H { s with heap := h', toks := s.toks + 1 } := I.turned (fun b o hb e => (sb.2 b hb).trans e) f0 f1 f3 f4 f5
    have e1 : lo + ((i + 1 : Nat) : Int) = lo + (i : Int) + 1 := by omega
    have e2 : (n : Int) - ((i + 1 : Nat) : Int) = (n : Int) - (i : Int) - 1 := by omega
    refine ⟨_, rfl, go_of (s := { s with heap := h', toks := s.toks + 1 }) (n := "longrange_iterator") st' rfl rfl (by decide) ⟨.int (lo + i), H, I1, ⟨_, rfl⟩, ⟨rfl, rfl⟩, ?_, fun b hb => (hf b hb).1⟩⟩
    show IsLR h' it (lo + ((i + 1 : Nat) : Int)) ((n : Int) - ((i + 1 : Nat) : Int)) 1
    rw [e1, e2]; exact st'
  done := by
    intro X hP hw hK hc i pins s σ H E I hf st hg
    subst hP hw hK
    obtain ⟨f0, f1, f2, f3, f4, f5⟩ := hf it (by simp)
    exact nextL_end (I.ok.hd hc) st (by have : n ≤ i := hg; omega) fun h' eb => ⟨rfl, I.turned (t' := s.toks) (fun b o hb e => eb b o hb e) f0 f1 f3 f4 f5⟩
  self := fun _ _ _ _ _ st h => iterL_self st h
section
variable {X : Cx} {tg : Expr}
theorem range_itL {pins : List (Addr × Obj)} {σ : L2.St} {H : Hp} {s : Shared} {R : It → Hp → Prop} {E : Value → Shared → Prop} {lo hi : Int} {t u v : Tok} {tk : Nat} (I : Inv X pins σ H s)
    (q : R (Itr lo (hi - lo).toNat) H) : wpAny (model X.prog X.w) X.A (pyIter (.ref s.heap.objs.size)) (PIE X pins σ tg R) E { s with heap := s.heap.push { cls := .type "range", data := .fields #[.int lo t, .int hi u, .int 1 v] }, toks := tk } := by
  have I1 : Inv X pins σ H { s with heap := s.heap.push { cls := .type "range", data := .fields #[.int lo t, .int hi u, .int 1 v] }, toks := tk } := I.kept fun b o e => Heap.get?_push_of_some _ e
  have e2 : (((hi - lo).toNat : Nat) : Int) - ((0 : Nat) : Int) = Builtin.Range.rangeSize lo hi 1 := by rw [rangeSize_one]; split <;> omega
  by_cases hs : Builtin.Range.small lo hi 1 = true
  · refine wpAny_pyIter_range (IsRange.new ..) hs ?_
    refine ⟨(s.heap.push { cls := .type "range", data := .fields #[.int lo t, .int hi u, .int 1 v] }).objs.size, [(s.heap.push { cls := .type "range", data := .fields #[.int lo t, .int hi u, .int 1 v] }).objs.size], _, _, H, rfl,
      I1.kept (t' := tk) fun b o e => Heap.get?_push_of_some _ e, turn_range _ lo (hi - lo).toNat, ?_, fun b hb => ?_, q⟩
    · have e1 : lo + ((0 : Nat) : Int) * 1 = lo := by simp
      show IsRangeIter _ _ (lo + ((0 : Nat) : Int) * 1) ((((hi - lo).toNat : Nat) : Int) - ((0 : Nat) : Int)) 1
      rw [e1, e2]
      exact Heap.get?_push_size _ rfl
    · have e : b = (s.heap.push { cls := .type "range", data := .fields #[.int lo t, .int hi u, .int 1 v] }).objs.size := by simpa using hb
      subst e
      exact I1.fpOk (Nat.le_refl _) (I1.hok.fresh (Nat.le_refl _))
  · refine iterL_range (IsRange.new ..) hs ?_
    refine ⟨(s.heap.push { cls := .type "range", data := .fields #[.int lo t, .int hi u, .int 1 v] }).objs.size, [(s.heap.push { cls := .type "range", data := .fields #[.int lo t, .int hi u, .int 1 v] }).objs.size], _, _, H, rfl,
      I1.kept (t' := tk) fun b o e => Heap.get?_push_of_some _ e, turnL _ lo (hi - lo).toNat, ?_, fun b hb => ?_, q⟩
    · have e1 : lo + ((0 : Nat) : Int) = lo := by simp
      show IsLR _ _ (lo + ((0 : Nat) : Int)) ((((hi - lo).toNat : Nat) : Int) - ((0 : Nat) : Int)) 1
      rw [e1, e2]
      exact Heap.get?_push_size _ rfl
    · have e : b = (s.heap.push { cls := .type "range", data := .fields #[.int lo t, .int hi u, .int 1 v] }).objs.size := by simpa using hb
      subst e
      exact I1.fpOk (Nat.le_refl _) (I1.hok.fresh (Nat.le_refl _))
/-- range(lo, hi), of any size -/
def iRngL (ta : TA) : TI := fun σ H R => ta σ H fun vs H1 => ∃ i j : Int, vs = [.int i, .int j] ∧ R (Itr i (j - i).toNat) H1
theorem pi_rangeL {a b : Expr} {ta : TA} {p pos : Pos} (hg : Gl X "range") (hm : X.mg "range" = none) (ha : PA X [a, b] ta) (hs : starEach [a, b] X.env = [(false, eval a X.env), (false, eval b X.env)] := by rfl) (hs2 : starEach [b] X.env = [(false, eval b X.env)] := by rfl) :
    PI X tg (.Call (.Name "range" p) [a, b] [] pos) (iRngL ta) := by
  refine ⟨fun pins s σ H R I h => ?_⟩
  refine Call_ (ld_blt I hg hm boot_range (PyProof.Rows.callWith_type1 (thn (ha.run pos pins s σ H _ I h) fun us s1 ⟨vs, H1, I1, r1, q1⟩ => ?_) (by rw [hs, hs2]) (by rw [hs2]; rfl)))
  obtain ⟨i, j, e, q⟩ := q1
  subst e
  cases r1 with
  | cons r rr =>
    cases rr with
    | cons r' rr =>
      cases rr
      obtain ⟨t, rfl⟩ := r
      obtain ⟨t', rfl⟩ := r'
      exact call_range_2 (range_itL I1 q)
end
end Iz
/-! Ls -/
set_option Elab.async false
set_option linter.all false
set_option maxRecDepth 100000
set_option maxHeartbeats 4000000
namespace Iz
open PySem PySem.Spec PyProof.Rows L2
/-! ### loops over lists, tuples and ranges, comprehensions of what is told by functions -/
section
variable {K : PySem.W.Frag} {g : TG} {tb : TS} {D : Ends} {σ : L2.St} {H : Hp} {ta : TA} {tl : TE} {tt : TT} {te : TE} {vs : List Nat} {Q : VK}
theorem st_forRL (lo j : Int) (ha : ∀ R : List V → Hp → Prop, R [.int lo, .int j] H → ta σ H R) (Pv : Nat → L2.St → Hp → Prop) (h0 : Pv 0 σ H)
    (hs : ∀ i σ H, i < (j - lo).toNat → Pv i σ H → g (.int (lo + i)) σ H fun σ2 H2 => tb { D with nx := Pv (i + 1), ct := Pv (i + 1), bk := D.nx } σ2 H2) (hd : ∀ σ H, Pv (j - lo).toNat σ H → D.nx σ H) : tFor (iRngL ta) g tb D σ H :=
  ha _ ⟨lo, j, rfl, for_range Pv h0 hs hd⟩
theorem st_forL {a : Addr} {xs : List V} (ha : ∀ R : V → Hp → Prop, R (.ref a) H → tl σ H R) (hx : H a = some (.lst xs)) (Pv : Nat → L2.St → Hp → Prop) (h0 : Pv 0 σ H) (hl : ∀ i σ H, Pv i σ H → H a = some (.lst xs))
    (hs : ∀ i x σ H, xs[i]? = some x → Pv i σ H → g x σ H fun σ2 H2 => tb { D with nx := Pv (i + 1), ct := Pv (i + 1), bk := D.nx } σ2 H2) (hd : ∀ σ H, Pv xs.length σ H → D.nx σ H) : tFor (iList K tl) g tb D σ H :=
  ha _ ⟨a, rfl, ⟨xs, SqL.of hx⟩, for_list Pv h0 (fun i σ H _ p => SqL.of (hl i σ H p)) hs hd⟩
theorem st_forT {a : Addr} {xs : List V} (ha : ∀ R : V → Hp → Prop, R (.ref a) H → tl σ H R) (hx : H a = some (.tup xs)) (Pv : Nat → L2.St → Hp → Prop) (h0 : Pv 0 σ H) (hl : ∀ i σ H, Pv i σ H → H a = some (.tup xs))
    (hs : ∀ i x σ H, xs[i]? = some x → Pv i σ H → g x σ H fun σ2 H2 => tb { D with nx := Pv (i + 1), ct := Pv (i + 1), bk := D.nx } σ2 H2) (hd : ∀ σ H, Pv xs.length σ H → D.nx σ H) : tFor (iTup K tl) g tb D σ H :=
  ha _ ⟨a, rfl, ⟨xs, SqT.of hx⟩, for_tup Pv h0 (fun i σ H _ p => SqT.of (hl i σ H p)) hs hd⟩
/-- lo, .., j - 1 -/
def intsB (lo j : Int) : List Int := (List.range (j - lo).toNat).map fun (k : Nat) => lo + (k : Int)
theorem mem_intsB {lo j i : Int} : i ∈ intsB lo j ↔ lo ≤ i ∧ i < j := by
  simp only [intsB, List.mem_map, List.mem_range]
  constructor
  · rintro ⟨k, hk, rfl⟩; omega
  · rintro ⟨h1, h2⟩; exact ⟨(i - lo).toNat, by omega, by omega⟩
theorem take_filter_succ {α : Type} {xs : List α} {i : Nat} {x : α} (h : xs[i]? = some x) (p : α → Bool) : (xs.take (i + 1)).filter p = (xs.take i).filter p ++ (if p x = true then [x] else []) := by
  rw [List.take_succ, h, List.filter_append]
  congr 1
  by_cases e : p x = true <;> simp [e]
/-- [f(x) for x in xs if p(x)] -/
theorem st_lcLF {a : Addr} {xs : List V} (ha : ∀ R : V → Hp → Prop, R (.ref a) H → tl σ H R) (hx : H a = some (.lst xs)) (hz : xs.length ≤ sizeLine) (p : V → Bool) (f : V → V)
    (hs : ∀ x H' (A : Hp → Prop) (B : VK), x ∈ xs → Same H H' → (p x = false → ∀ H3, Same H' H3 → A H3) → (p x = true → ∀ H4, Same H' H4 → B (f x) H4) →
      g x (wipe σ vs) H' fun σ2 H2 => wipe σ2 vs = wipe σ vs ∧ tt σ2 H2 fun b H3 => if b = true then te σ2 H3 B else A H3)
    (hd : ∀ D H', H D = none → Same H H' → H' D = some (.lst ((xs.filter p).map f)) → Q (.ref D) H') : tLc (iList K tl) g tt te vs σ H Q := by
  refine ha _ ⟨a, rfl, ⟨xs, SqL.of hx⟩, fun D hD => lc_list (fun i H' => Same H H' ∧ H' D = some (.lst (((xs.take i).filter p).map f))) ⟨Same.upd hD, upd_same⟩ (fun i H' _ q => SqL.of (q.1 _ _ hx)) (fun i x H' hi q => ?_) (fun H' q => hd D H' hD q.1 (by rw [q.2, List.take_length]))⟩
  refine hs x H' _ _ (List.mem_of_getElem? hi) q.1 (fun e H3 s3 => ⟨q.1.trans s3, ?_⟩) (fun e H4 s4 => ⟨_, s4 _ _ q.2, ?_, ?_, ?_⟩)
  · rw [s3 _ _ q.2, take_filter_succ hi, e]; simp
  · have hi' := (List.getElem?_eq_some_iff.mp hi).1
    have h1 : ((xs.take i).filter p).length ≤ (xs.take i).length := List.length_filter_le _ _
    have h2 : (xs.take i).length ≤ i := by rw [List.length_take]; exact Nat.min_le_left _ _
    rw [List.length_map]; omega
  · exact fun b u e2 => by
      have hb : b ≠ D := ne_of_none e2 hD
      rw [upd_ne hb]; exact s4 _ _ (q.1 _ _ e2)
  · rw [upd_same, take_filter_succ hi, e]; simp
/-- [f(x) for x in range(lo, j) if p(x)] -/
theorem st_lcRF (lo j : Int) (ha : ∀ R : List V → Hp → Prop, R [.int lo, .int j] H → ta σ H R) (hz : (j - lo).toNat ≤ sizeLine) (p : Int → Bool) (f : Int → V)
    (hs : ∀ x H' (A : Hp → Prop) (B : VK), lo ≤ x → x < j → Same H H' → (p x = false → ∀ H3, Same H' H3 → A H3) → (p x = true → ∀ H4, Same H' H4 → B (f x) H4) →
      g (.int x) (wipe σ vs) H' fun σ2 H2 => wipe σ2 vs = wipe σ vs ∧ tt σ2 H2 fun b H3 => if b = true then te σ2 H3 B else A H3)
    (hd : ∀ D H', H D = none → Same H H' → H' D = some (.lst (((intsB lo j).filter p).map f)) → Q (.ref D) H') : tLc (iRngL ta) g tt te vs σ H Q := by
  refine ha _ ⟨lo, j, rfl, fun D hD => lc_range (fun i H' => Same H H' ∧ H' D = some (.lst ((((intsB lo j).take i).filter p).map f))) ⟨Same.upd hD, upd_same⟩ (fun i H' hi q => ?_) (fun H' q => hd D H' hD q.1 (by rw [q.2, show (j - lo).toNat = (intsB lo j).length by simp [intsB], List.take_length]))⟩
  have hi' : (intsB lo j)[i]? = some (lo + (i : Int)) := by simp [intsB, hi]
  refine hs (lo + i) H' _ _ (by omega) (by omega) q.1 (fun e H3 s3 => ⟨q.1.trans s3, ?_⟩) (fun e H4 s4 => ⟨_, s4 _ _ q.2, ?_, ?_, ?_⟩)
  · rw [s3 _ _ q.2, take_filter_succ hi', e]; simp
  · have h1 : (((intsB lo j).take i).filter p).length ≤ ((intsB lo j).take i).length := List.length_filter_le _ _
    have h2 : ((intsB lo j).take i).length ≤ i := by rw [List.length_take]; exact Nat.min_le_left _ _
    rw [List.length_map]; omega
  · exact fun b u e2 => by
      have hb : b ≠ D := ne_of_none e2 hD
      rw [upd_ne hb]; exact s4 _ _ (q.1 _ _ e2)
  · rw [upd_same, take_filter_succ hi', e]; simp
end
end Iz
namespace Iz
open PySem PySem.Spec PyProof.Rows L2
/-! ### slices, + of lists, deep ==, in the form that simp reads -/
section
variable {X : Cx} {e : Expr} {te : TE}
def tRevLN (te : TE) : TE := fun σ H Q => te σ H fun x H1 => ∃ a xs, x = .ref a ∧ H1 a = some (.lst xs) ∧ News H1 (.lst xs.reverse) Q
theorem pe_revLN {k : Nat} {p1 p2 p3 pos : Pos} (he : PE X e te) : PE X (.Subscript e (.Slice none none (some (.UnaryOp .USub (.Constant (.int 1) k p1) p2)) p3) pos) (tRevLN te) :=
  PE.imp (pe_revL (PE.mcl he)) fun σ H Q q => ⟨_, q, fun v H1 ⟨a, xs, e1, e2, n⟩ => ⟨a, xs, e1, SqL.of e2, n.all⟩⟩
def rCatN : R2 := fun x y H Q => ∃ l b xs zs, x = .ref l ∧ y = .ref b ∧ H l = some (.lst xs) ∧ H b = some (.lst zs) ∧ xs.length + zs.length ≤ sizeLine ∧ News H (.lst (xs ++ zs)) Q
theorem op_catN : OpR X (binaryOp .Add) rCatN := fun pins s σ H x y v u Q I rx ry ⟨l, b, xs, zs, e1, e2, e3, e4, e5, n⟩ => op_cat pins s σ H x y v u Q I rx ry ⟨l, b, xs, zs, e1, e2, e3, e4, e5, n.all⟩
end
/-- x in xs, x not in xs: flat things -/
def rInTN (neg : Bool) : R2 := fun x y H Q => ∃ p xs, y = .ref p ∧ H p = some (.tup xs) ∧ flatV x = true ∧ xs.all flatV = true ∧ Q (.bl (if neg then !inV x xs else inV x xs)) H
def rInLN (neg : Bool) : R2 := fun x y H Q => ∃ p xs, y = .ref p ∧ H p = some (.lst xs) ∧ flatV x = true ∧ xs.all flatV = true ∧ Q (.bl (if neg then !inV x xs else inV x xs)) H
theorem op_inTN {X : Cx} : OpR X (compareOp .In) (rInTN false) := fun pins s σ H x y v u Q I rx ry ⟨p, xs, e1, e2, e3, e4, q⟩ => op_in_seq pins s σ H x y v u Q I rx ry ⟨p, xs, e1, .inr (SqT.of e2), e3, e4, q⟩
theorem op_notInTN {X : Cx} : OpR X (compareOp .NotIn) (rInTN true) := fun pins s σ H x y v u Q I rx ry ⟨p, xs, e1, e2, e3, e4, q⟩ => op_notIn_seq pins s σ H x y v u Q I rx ry ⟨p, xs, e1, .inr (SqT.of e2), e3, e4, q⟩
theorem op_inLN {X : Cx} : OpR X (compareOp .In) (rInLN false) := fun pins s σ H x y v u Q I rx ry ⟨p, xs, e1, e2, e3, e4, q⟩ => op_in_seq pins s σ H x y v u Q I rx ry ⟨p, xs, e1, .inl (SqL.of e2), e3, e4, q⟩
theorem op_notInLN {X : Cx} : OpR X (compareOp .NotIn) (rInLN true) := fun pins s σ H x y v u Q I rx ry ⟨p, xs, e1, e2, e3, e4, q⟩ => op_notIn_seq pins s σ H x y v u Q I rx ry ⟨p, xs, e1, .inl (SqL.of e2), e3, e4, q⟩
def ShN (n : Nat) (d : PyData) : Prop := d.canLay0 = true ∧ d.depth ≤ n
theorem ShN.up {n m : Nat} {d : PyData} (h : ShN n d) (k : n ≤ m) : ShN m d := ⟨h.1, Nat.le_trans h.2 k⟩
theorem ShN.non {n : Nat} : ShN n .none := ⟨by simp [PyData.canLay0], by simp [PyData.depth]⟩
theorem ShN.int {n : Nat} {i : Int} : ShN n (.int i) := ⟨by simp [PyData.canLay0], by simp [PyData.depth]⟩
theorem ShN.bool {n : Nat} {b : Bool} : ShN n (.bool b) := ⟨by simp [PyData.canLay0], by simp [PyData.depth]⟩
theorem shAll {n : Nat} {ds : List PyData} (h : ∀ d ∈ ds, ShN n d) : PyData.canLayAll0 ds = true ∧ PyData.depthAll ds ≤ n := by
  induction ds with
  | nil => exact ⟨by simp [PyData.canLayAll0], by simp [PyData.depthAll]⟩
  | cons d ds ih =>
    have h1 := h d (by simp)
    have h2 := ih fun x hx => h x (by simp [hx])
    exact ⟨by simp [PyData.canLayAll0, h1.1, h2.1], by simp only [PyData.depthAll]; exact Nat.max_le.mpr ⟨h1.2, h2.2⟩⟩
theorem ShN.list {n : Nat} {ds : List PyData} (h : ∀ d ∈ ds, ShN n d) : ShN (n + 1) (.list ds) := ⟨by simp only [PyData.canLay0]; exact (shAll h).1, by simp only [PyData.depth]; have := (shAll h).2; omega⟩
theorem ShN.tuple {n : Nat} {ds : List PyData} (h : ∀ d ∈ ds, ShN n d) : ShN (n + 1) (.tuple ds) := ⟨by simp only [PyData.canLay0]; exact (shAll h).1, by simp only [PyData.depth]; have := (shAll h).2; omega⟩
theorem ShN.ok {n : Nat} {d : PyData} (h : ShN n d) (k : n ≤ 64 := by decide) : SeqAt.shaped d = true := by
  unfold SeqAt.shaped
  rw [h.1]; simpa using Nat.le_trans h.2 k
/-- None or an int, as data -/
def dO : Option Int → PyData
  | none => .none
  | some i => .int i
theorem dp_ov {K : PySem.W.Frag} {H : Hp} {o : Option Int} : Dp K H (ov o) (dO o) := by cases o; exact .non; exact .int _
theorem sh_dO {n : Nat} {o : Option Int} : ShN n (dO o) := by cases o; exact .non; exact .int
/-- a list of pairs -/
inductive PAll (H : Hp) : List V → List (Option Int × Option Int) → Prop
  | nil : PAll H [] []
  | cons {a : Addr} {xs : List V} {q : Option Int × Option Int} {ps : List (Option Int × Option Int)} : H a = some (.tup [ov q.1, ov q.2]) → PAll H xs ps → PAll H (.ref a :: xs) (q :: ps)
def PairsAt (H : Hp) (a : Addr) (ps : List (Option Int × Option Int)) : Prop := ∃ xs, H a = some (.lst xs) ∧ PAll H xs ps
theorem PAll.length {H : Hp} {xs : List V} {ps : List (Option Int × Option Int)} (h : PAll H xs ps) : xs.length = ps.length := by induction h <;> simp_all
theorem PAll.mono {H H' : Hp} {xs : List V} {ps : List (Option Int × Option Int)} (h : PAll H xs ps) (s : Same H H') : PAll H' xs ps := by
  induction h with
  | nil => exact .nil
  | cons e _ ih => exact .cons (s _ _ e) ih
theorem PAll.monoT {H H' : Hp} {xs : List V} {ps : List (Option Int × Option Int)} (h : PAll H xs ps) (s : ∀ b us, H b = some (.tup us) → H' b = some (.tup us)) : PAll H' xs ps := by
  induction h with
  | nil => exact .nil
  | cons e _ ih => exact .cons (s _ _ e) ih
theorem PAll.snoc {H : Hp} {a : Addr} {q : Option Int × Option Int} {xs : List V} {ps : List (Option Int × Option Int)} (h : PAll H xs ps) (e : H a = some (.tup [ov q.1, ov q.2])) : PAll H (xs ++ [.ref a]) (ps ++ [q]) := by
  induction h with
  | nil => exact .cons e .nil
  | cons e2 _ ih => exact .cons e2 ih
theorem PAll.rev {H : Hp} {xs : List V} {ps : List (Option Int × Option Int)} (h : PAll H xs ps) : PAll H xs.reverse ps.reverse := by
  induction h with
  | nil => exact .nil
  | cons e _ ih => rw [List.reverse_cons, List.reverse_cons]; exact ih.snoc e
theorem PAll.get {H : Hp} {xs : List V} {ps : List (Option Int × Option Int)} (h : PAll H xs ps) {i : Nat} {x : V} (e : xs[i]? = some x) : ∃ a q, x = .ref a ∧ ps[i]? = some q ∧ H a = some (.tup [ov q.1, ov q.2]) := by
  induction h generalizing i with
  | nil => simp at e
  | cons e2 _ ih =>
    cases i with
    | zero => simp at e; subst e; exact ⟨_, _, rfl, rfl, e2⟩
    | succ i => exact ih (by simpa using e)
theorem PairsAt.mono {H H' : Hp} {a : Addr} {ps : List (Option Int × Option Int)} (h : PairsAt H a ps) (s : Same H H') : PairsAt H' a ps := let ⟨xs, e, p⟩ := h; ⟨xs, s _ _ e, p.mono s⟩
theorem drop_of {α : Type} {l : List α} {i : Nat} {x : α} (h : l[i]? = some x) : l.drop i = x :: l.drop (i + 1) := by
  have := (List.getElem?_eq_some_iff.mp h)
  obtain ⟨h1, h2⟩ := this
  rw [← h2]; exact List.drop_eq_getElem_cons h1
def dP (q : Option Int × Option Int) : PyData := .tuple [dO q.1, dO q.2]
theorem PAll.dp {K : PySem.W.Frag} {H : Hp} {xs : List V} {ps : List (Option Int × Option Int)} (h : PAll H xs ps) : DpAll K H xs (ps.map dP) := by
  induction h with
  | nil => exact .nil
  | cons e _ ih => exact .cons (.tup (SqT.of e) (.cons dp_ov (.cons dp_ov .nil))) ih
theorem sh_dP {q : Option Int × Option Int} : ShN 1 (dP q) := ShN.tuple fun d h => by
  simp only [List.mem_cons, List.not_mem_nil, or_false] at h
  rcases h with rfl | rfl <;> exact sh_dO
theorem PairsAt.dp {K : PySem.W.Frag} {H : Hp} {a : Addr} {ps : List (Option Int × Option Int)} (h : PairsAt H a ps) : Dp K H (.ref a) (.list (ps.map dP)) := let ⟨_, e, p⟩ := h; .lst (SqL.of e) p.dp
theorem sh_dPs {ps : List (Option Int × Option Int)} : ShN 2 (.list (ps.map dP)) := ShN.list fun d h => by
  obtain ⟨q, _, rfl⟩ := List.mem_map.mp h; exact sh_dP
/-- xs == [] -/
theorem eq_nil {K : PySem.W.Frag} {H : Hp} {a b : Addr} {ps : List (Option Int × Option Int)} {R : VK} (h : PairsAt H a ps) (h2 : H b = some (.lst [])) (r : R (.bl ps.isEmpty) H) : rEqD K (.ref a) (.ref b) H R :=
  ⟨_, _, h.dp, dp_nil h2, sh_dPs.ok, (ShN.list (n := 0) fun _ h => by simp at h).ok, by cases ps <;> simp_all [PyData.eqv, PyData.eqvAll]⟩
end Iz
namespace Iz
open PySem PySem.Spec PyProof.Rows L2
open He (ga)
/-! ### within a lambda: the rules that name the written part -/
section
variable {X : Cx} {CX : CXT} {k j : Nat} {x m f : Str} {ps : List Str} {dvs : List V} {sp : Sp} {E : XK} {o e : Expr} {es : List Expr} {ta : TE} {t : TA} {p pos apos : Pos} {K : PySem.W.Frag}
theorem pmtK {pl : Sem Bool} (hK : X.K = K) (O : OkM X.prog X.w X.K X.mg X.base CX k x m ps dvs sp) (C : Cls X.K (ga X.K x)) (he : PE X o ta) (hj : j ≤ dvs.length) (hr : Room k X.A) (hx : Passes CX X E) (ha : PA X (e :: es) t)
    (hst : starEach (e :: es) X.env = (false, eval e X.env) :: starEach es X.env := by rfl) (hpl : (backTo pos (starEach es X.env)).any (·.1) = false := by rfl)
    (ht : eval (.Call (.Attribute o m apos) (e :: es) [] pos) X.env = (do
      let ov ← eval o X.env; standAt apos.atName
      let (f, first) ← holding [ov] (getMethod ov m pl)
      callWith pos f first (backTo pos (starEach (e :: es) X.env)) (backToKw pos (keywordEach [] X.env))) := by rfl) :
    PE X (.Call (.Attribute o m apos) (e :: es) [] pos) (tMt (ga K x) m sp (dvs.drop j) E ta t) := by subst hK; exact pmt O C he hj hr hx ha hst hpl ht
theorem pmt0K {pl : Sem Bool} (hK : X.K = K) (O : OkM X.prog X.w X.K X.mg X.base CX k x m ps dvs sp) (C : Cls X.K (ga X.K x)) (he : PE X o ta) (hj : j ≤ dvs.length) (hr : Room k X.A) (hx : Passes CX X E)
    (ht : eval (.Call (.Attribute o m apos) [] [] pos) X.env = (do
      let ov ← eval o X.env; standAt apos.atName
      let (f, first) ← holding [ov] (getMethod ov m pl)
      callWith pos f first (backTo pos (starEach [] X.env)) (backToKw pos (keywordEach [] X.env))) := by rfl) :
    PE X (.Call (.Attribute o m apos) [] [] pos) (tMt (ga K x) m sp (dvs.drop j) E ta tNil) := by subst hK; exact pmt0 O C he hj hr hx ht
theorem pe_fldNK {C : Addr} (hK : X.K = K) (c : Cls K C) (n : NoAttr K C f) (h : PE X o ta) (hb : attributeBase o f X.env (eval o X.env) = eval o X.env := by rfl) : PE X (.Attribute o f apos) (tFldN C ta f) := by subst hK; exact pe_fldN c n h hb
end
end Iz
/-! Ow -/
set_option Elab.async false
set_option linter.all false
set_option maxRecDepth 100000
set_option maxHeartbeats 4000000
namespace Iz
open PySem PySem.Spec PyProof.Rows L2
open He (ga)
/-! ### operators by a class's own methods -/
section
variable {X : Cx} {pins : List (Addr × Obj)} {σ : L2.St} {H : Hp} {s : Shared}
/-- the type of a value is seen -/
theorem looksTy {x : V} {u t : Value} (I : Inv X pins σ H s) (rx : RelV x u) (ty : TyX X.K H x t) : PySem.W.Looks (model X.prog X.w) s.heap (typeOf u) t := by
  have R : ∀ {a : Addr} {o : Obj}, s.heap.get? a = some o → o.cls = t → PySem.W.Looks (model X.prog X.w) s.heap (typeOf (.ref a)) t := fun ho hc A Q E s2 k q => wpAny_typeOf_ref (k _ _ ho) (by rw [hc]; exact q)
  cases ty with
  | base b =>
    cases b with
    | non => cases (show u = Value.none from rx); exact .of_pure rfl
    | bl y => cases (show u = Value.bool y from rx); exact .of_pure rfl
    | int i => obtain ⟨t, q⟩ := (show ∃ t, u = Value.int i t from rx); cases q; exact .of_pure rfl
    | str y => obtain ⟨t, q⟩ := (show ∃ t, u = Value.str y t from rx); cases q; exact .of_pure rfl
    | flt y => obtain ⟨t, q⟩ := (show ∃ t, u = Value.float y t from rx); cases q; exact .of_pure rfl
    | @lst a xs ea =>
      cases rx
      obtain ⟨_, _, n, _, h1⟩ := (show ObjOk X.prog X.w H s.heap a (.lst xs) from I.hok a _ ea)
      exact R h1 rfl
    | @frz a ob xs ea =>
      cases rx
      obtain ⟨_, _, _, n, _, h1⟩ := (show ObjOk X.prog X.w H s.heap a (.frz ob (.lst xs)) from I.hok a _ ea)
      exact R h1 rfl
    | @tup a xs ea =>
      cases rx
      obtain ⟨_, _, _, o, h1, h2, _⟩ := (show ObjOk X.prog X.w H s.heap a (.tup xs) from I.hok a _ ea)
      exact R h1 h2
    | @dK a kvs ea =>
      cases rx
      obtain ⟨_, _, vs, _, o, es, ep, h1, h2, _⟩ := (show ObjOk X.prog X.w H s.heap a (.dK kvs) from I.hok a _ ea)
      exact R h1 h2.1
    | @dT a kvs ea =>
      cases rx
      obtain ⟨_, _, xs, _, o, es, ep, h1, h2, _⟩ := (show ObjOk X.prog X.w H s.heap a (.dT kvs) from I.hok a _ ea)
      exact R h1 h2.1
    | @ins a C dx fs ea cl ha hn htk hm =>
      cases rx
      obtain ⟨mA, O, _⟩ := ins_get I.hok ea
      obtain ⟨od, J, _⟩ := O.look
      exact J.type
  | byt y => obtain ⟨t, q⟩ := (show ∃ t, u = Value.bytes y t from rx); cases q; exact .of_pure rfl
  | @set a S n ea =>
    cases rx
    obtain ⟨o, _, _, _, e, ex, _⟩ := I.hok a _ ea
    exact R e ex.1
  | @kList a o e c => cases rx; exact R (I.kIn a o e) c
  | @kTuple a o e c => cases rx; exact R (I.kIn a o e) c
  | @kDict a o e c => cases rx; exact R (I.kIn a o e) c
  | @fTuple a ob xs ea =>
    cases rx
    obtain ⟨_, _, _, _, o, h1, h2, _⟩ := (show ObjOk X.prog X.w H s.heap a (.frz ob (.tup xs)) from I.hok a _ ea)
    exact R h1 h2
  | @fDict a ob kvs ea =>
    cases rx
    obtain ⟨_, _, _, vs, _, o, es, ep, h1, h2, _⟩ := (show ObjOk X.prog X.w H s.heap a (.frz ob (.dK kvs)) from I.hok a _ ea)
    exact R h1 h2.1
end
section
variable {X : Cx} {CX : CXT} {k : Nat} {x m : Str} {ps : List Str} {sp : Sp} {E : XK}
/-- a method called by its address, within an operator -/
theorem own_call {f a : Addr} {fd : FuncData} {y : V} {u : Value} {pins : List (Addr × Obj)} {σ : L2.St} {H : Hp} {s : Shared} {Q : VK} {R : Value → Shared → Prop} (I : Inv X pins σ H s) (F : FnOk X.prog X.w X.K X.mg X.base CX k f fd ps sp) (hb : Binds X.K fd ps []) (hr : Room k X.A) (hx : Passes CX X E)
    (ry : RelV y u) (hsp : sp [.ref a, y] H Q E) (hR : ∀ v w H' s', Inv X pins σ H' s' → RelV v w → Q v H' → R w s') : wpAny (model X.prog X.w) X.A (call (.ref f) [.ref a, u]) R X.xe s := by
  have hl := F.len _ _ _ _ hsp
  have bd := hb s [.ref a, u] I.kIn (by simpa using hl)
  refine wpAny_call (codeAny_mono (F.run X.A X.stack s H ⟨[.ref a, u], []⟩ [.ref a, u] [.ref a, y] _ E hr I.env0 (by simpa using bd) (.cons rfl (.cons ry .nil)) hsp) fun r s' z => ?_)
  cases r with
  | error e => exact hx _ _ _ _ _ _ I z
  | ok fl =>
    cases fl with
    | ret w => obtain ⟨v, H', I', rv, q⟩ := I.after z; exact hR v w H' s' I' rv q
    | next => exact False.elim z
    | brk => exact False.elim z
    | cont => exact False.elim z
/-- x op y, where x's class has the method: it hands back a truth -/
def rOwn (K : PySem.W.Frag) (C : Addr) (sp : Sp) (E : XK) : R2 := fun x y H Q => ∃ a dx fs, x = .ref a ∧ H a = some (.ins C dx fs) ∧ (∃ t, TyX K H y t ∧ PySem.W.notFirst K C t = true) ∧ sp [.ref a, y] H (fun v H' => ∃ b, v = .bl b ∧ Q (.bl b) H') E
theorem op_own {op : CmpOp} (hop : ∀ a b, compareOp op a b = richCompare op a b) (O : OkM X.prog X.w X.K X.mg X.base CX k x m ps [] sp) (hm : (cmpInfo op).2.1 = m) (hr : Room k X.A) (hx : Passes CX X E) : OpR X (compareOp op) (rOwn X.K (ga X.K x) sp E) := by
  intro pins s σ H v0 y v u Q I rx ry h
  obtain ⟨a, dx, fs, rfl, ha, ⟨t, ty, nf⟩, hsp⟩ := h
  cases rx
  obtain ⟨f, fd, M, b, F⟩ := O.ex
  obtain ⟨ds, hd, hb⟩ := b 0 (Nat.le_refl _)
  cases hd
  obtain ⟨mA, O', _⟩ := ins_get I.hok ha
  obtain ⟨od, J, _⟩ := O'.look
  obtain ⟨mm, hF⟩ := I.fr
  subst hm
  rw [hop]
  refine PySem.W.cmp_K hr.units0 hF I.ok.mod.kin J (looksTy I ry ty) nf M.at_ M.fn (own_call I F hb hr hx ry hsp fun v w H' s' I' rv q => ?_)
  obtain ⟨b, rfl, q⟩ := q
  cases rv
  exact ⟨.bl b, H', I', rfl, q⟩
/-- x in y, where y's class has __contains__ -/
def rOwnIn (C : Addr) (neg : Bool) (sp : Sp) (E : XK) : R2 := fun x y H Q => ∃ a dx fs, y = .ref a ∧ H a = some (.ins C dx fs) ∧ sp [.ref a, x] H (fun v H' => ∃ b, v = .bl b ∧ Q (.bl (if neg then !b else b)) H') E
theorem op_ownIn (O : OkM X.prog X.w X.K X.mg X.base CX k x "__contains__" ps [] sp) (hr : Room k X.A) (hx : Passes CX X E) : OpR X (compareOp .In) (rOwnIn (ga X.K x) false sp E) := by
  intro pins s σ H v0 y v u Q I rx ry h
  obtain ⟨a, dx, fs, rfl, ha, hsp⟩ := h
  cases ry
  obtain ⟨f, fd, M, b, F⟩ := O.ex
  obtain ⟨ds, hd, hb⟩ := b 0 (Nat.le_refl _)
  cases hd
  obtain ⟨mA, O', _⟩ := ins_get I.hok ha
  obtain ⟨od, J, _⟩ := O'.look
  obtain ⟨mm, hF⟩ := I.fr
  refine PySem.W.in_K hF I.ok.mod.kin J M.at_ M.fn (own_call I F hb hr hx rx hsp fun v w H' s' I' rv q => ?_)
  obtain ⟨b, rfl, q⟩ := q
  cases rv
  exact wpAny_truthy_bool ⟨.bl b, H', I', rfl, q⟩
theorem op_ownNotIn (O : OkM X.prog X.w X.K X.mg X.base CX k x "__contains__" ps [] sp) (hr : Room k X.A) (hx : Passes CX X E) : OpR X (compareOp .NotIn) (rOwnIn (ga X.K x) true sp E) := by
  intro pins s σ H v0 y v u Q I rx ry h
  obtain ⟨a, dx, fs, rfl, ha, hsp⟩ := h
  cases ry
  obtain ⟨f, fd, M, b, F⟩ := O.ex
  obtain ⟨ds, hd, hb⟩ := b 0 (Nat.le_refl _)
  cases hd
  obtain ⟨mA, O', _⟩ := ins_get I.hok ha
  obtain ⟨od, J, _⟩ := O'.look
  obtain ⟨mm, hF⟩ := I.fr
  refine PySem.W.notIn_K hF I.ok.mod.kin J M.at_ M.fn (own_call I F hb hr hx rx hsp fun v w H' s' I' rv q => ?_)
  obtain ⟨b, rfl, q⟩ := q
  cases rv
  exact wpAny_truthy_bool ⟨.bl (!b), H', I', rfl, q⟩
end
end Iz
/-! Tn -/
set_option Elab.async false
set_option linter.all false
set_option maxRecDepth 100000
set_option maxHeartbeats 4000000
namespace Iz
open PySem PySem.Spec PyProof.Rows L2
/-! ### try: .. with several clauses «except x as n», one of which catches -/
abbrev Clause := Value × Nat × (Addr → Value → Option Addr → TS)
def unset (D : Ends) (i : Nat) : Ends := { nx := fun σ H => D.nx (σ.set i none) H, rt := D.rt, bk := fun σ H => D.bk (σ.set i none) H, ct := fun σ H => D.ct (σ.set i none) H }
/-- the first clause that catches; one of them does -/
def wNamed (K : PySem.W.Frag) (D : Ends) : List Clause → WX
  | [] => fun _ _ _ _ => False
  | q :: r => fun cls d σ H => ∃ b, PySem.W.exmOne K cls q.1 = some b ∧ (b = true → ∀ a, H a = none → q.2.2 a cls d (unset D q.2.1) (σ.set q.2.1 (some (.ref a))) H) ∧ (b = false → wNamed K D r cls d σ H)
structure ClauseOk (X : Cx) (x n : Str) (q : Clause) (st : Stmt) (ss : List Stmt) : Prop where
  at_ : X.N[q.2.1]? = some n
  loc : X.env.kindOf n = some .local
  cls : Names X x q.1
  run : ∀ a oe cls d pn, Zc cls d oe → (∃ vs, oe.data = .fields vs) → PSs (X.suite a ((a, oe) :: pn)) (st :: ss) (q.2.2 a cls d)
inductive Clauses (X : Cx) : List ExceptHandler → List Clause → Prop
  | nil : Clauses X [] []
  | cons {x n : Str} {q : Clause} {st : Stmt} {ss : List Stmt} {p p' : Pos} {hds : List ExceptHandler} {l : List Clause} : ClauseOk X x n q st ss → Clauses X hds l → Clauses X (.ExceptHandler (some (.Name x p)) (some n) (st :: ss) p' :: hds) (q :: l)
section
variable {X : Cx} {body : List Stmt} {h₀ : ExceptHandler} {hds : List ExceptHandler} {l : List Clause} {pos : Pos} {tb : WX → TS}
theorem ps_try_named (hN : X.N.Nodup)
    (hb : ∀ W pn xe, Takes (X.tr pn xe) W → PassesOwn (model X.prog X.w) X.A X.env xe → PSs (X.tr pn xe) body (tb W)) (hh : Clauses X (h₀ :: hds) l) (hs : X.stack = X.env :: X.outer := by rfl) (hf : X.env.frame = some X.env.locals := by rfl) :
    PS X (.Try body (h₀ :: hds) [] [] pos) (fun D σ H => tb (wNamed X.K D l) D σ H) := by
  constructor
  intro pins s σ H D I h
  have ok := I.ok
  have fr1 : X.A.frames = some (X.env :: X.outer) := hs ▸ ok.frames
  let catcher : Value → Shared → Prop := fun e z1 => wpAny (model X.prog X.w) X.A (noteFrame e X.env) (fun _ z2 => wpAny (model X.prog X.w) X.A (setFlight e none) (fun _ z3 => wpAny (model X.prog X.w) X.A (handleBy e X.env (h₀ :: hds)) (SP X pins D) X.xe z3) X.xe z2) X.xe z1
  have tk : Takes (X.tr (X.pn ++ pins) catcher) (wNamed X.K D l) := by
    intro u z xx
    obtain ⟨a, B, sI, pins', σ1, H1, cls, d, rfl, J0, nb, up, sky, na, os, ag, wish⟩ := xx
    have J : Inv X pins σ1 H1 sI := J0.ofTry ok
    refine Sky.land Zc.steady fr1 hf (show Sky B (X.env :: X.outer) a (Zc cls d) X.env.locals z.heap from hs ▸ sky) fun g fl upg => ?_
    have J1 : Inv X pins σ1 H1 { z with heap := g } := J.landed nb fl.1 (up.trans upg) os ag
    obtain ⟨o1, vs1, at1, z1, dt1⟩ := fl.there
    have out : a ∉ frs (X.env :: X.outer) := fun hm => by
      obtain ⟨_, o', at', no⟩ := fl.2.2.1.mem hm
      rw [at1] at at'
      cases at'
      exact no _ dt1
    have neL : a ≠ X.env.locals := fun e => out (by rw [e]; exact List.mem_filterMap.mpr ⟨X.env, List.mem_cons_self, hf⟩)
    have neF : a ∉ X.fs := fun hm => by
      obtain ⟨e, he, q⟩ := List.mem_filterMap.mp hm
      exact out (List.mem_filterMap.mpr ⟨e, .tail _ he, q⟩)
    have S1 := J1.suite at1 dt1 na neL neF
    have all : ∀ {hs' : List ExceptHandler} {l' : List Clause}, Clauses X hs' l' → wNamed X.K D l' cls d σ1 H1 → wpAny (model X.prog X.w) X.A (handleBy (.ref a) X.env hs') (SP X pins D) X.xe { z with heap := g } := by
      intro hs' l' hc
      induction hc with
      | nil => exact fun w => w.elim
      | @cons x n q st ss p p' hds l C r ih =>
        rintro ⟨b, hb1, yes, no⟩
        obtain ⟨c, i, ts⟩ := q
        refine wpAny_handleBy_cons (codeAny_handlers_test ?_) (by intro q; cases q)
        have LM := PySem.W.exm_one (M := model X.prog X.w) J1.kIn (fun A Q E z' k q => wpAny_typeOf_ref (k _ _ at1) (by rw [z1.1]; exact q)) hb1
        have seen : ∀ {Q E : Value → Shared → Prop}, Q c { z with heap := g } → wpAny (model X.prog X.w) (X.A.mark (some (.ref a))) (eval (.Name x p) X.env) Q E { z with heap := g } := fun {Q E} q => by
          obtain ⟨hg, hdb, own | ⟨n0, bv, nn⟩⟩ := C.cls
          · exact ld_glob (X := X.suite a ((a, o1) :: (X.pn ++ pins))) S1 hg own q hdb
          · exact ld_blt (X := X.suite a ((a, o1) :: (X.pn ++ pins))) S1 hg n0 bv q nn hdb
        refine seen (LM.here ?_)
        cases b with
        | false => exact ih (no rfl)
        | true =>
          refine codeAny_handlers_suite_as (HandSPX.lands_againZ fl fun g2 fl2 up2 => ?_)
          have J2 : Inv X pins σ1 H1 { z with heap := g2 } := J.landed nb fl2.1 ((up.trans upg).trans up2) os ag
          obtain ⟨o2, vs2, at2, z2, dt2⟩ := fl2.there
          refine store_ok (X := X.suite a ((a, o2) :: (X.pn ++ pins))) (v := .ref a) (J2.suite at2 dt2 na neL neF) hN C.at_ (.inl C.loc) rfl (fun s5 S5 => ?_) (.inr C.loc)
          have bye : ∀ {σ6 : L2.St} {H6 : Hp} {s6 : Shared} {Q : Shared → Prop}, Inv (X.suite a ((a, o2) :: (X.pn ++ pins))) [] σ6 H6 s6 → (∀ s7, Inv X pins (σ6.set i none) H6 s7 → Q s7) →
              wpAny (model X.prog X.w) X.A (do bindName X.env n .none; unbindBehindTheSuite X.env n p') (fun _ s7 => Q s7) X.xe s6 := fun S6 hq => gone_ok (S6.unsuite ok) hN C.at_ C.loc hq
          refine wpAny_mono ((C.run a o2 cls d (X.pn ++ pins) z2 ⟨_, dt2⟩).run [] s5 _ H1 _ S5 (yes rfl a na)) (fun f s6 done => ?_) fun _ _ z => z.elim
          cases f with
          | ret u => obtain ⟨v, σ6, H6, S6, rv, q⟩ := done; exact bye S6 fun s7 J7 => ⟨v, _, _, J7, rv, q⟩
          | next => obtain ⟨σ6, H6, S6, q⟩ := done; exact bye S6 fun s7 J7 => ⟨_, _, J7, q⟩
          | brk => obtain ⟨σ6, H6, S6, q⟩ := done; exact bye S6 fun s7 J7 => ⟨_, _, J7, q⟩
          | cont => obtain ⟨σ6, H6, S6, q⟩ := done; exact bye S6 fun s7 J7 => ⟨_, _, J7, q⟩
    exact all hh wish
  refine wpAny_Try_except (wpAny_mono ((hb _ (X.pn ++ pins) catcher tk PassesOwn.looking).run [] s σ H D (I.toTry _) h) (fun f s1 done => ?_) fun e s1 he => he)
  cases f with
  | ret u => obtain ⟨v, σ1, H1, J, r, q⟩ := done; exact ⟨v, σ1, H1, J.ofTry ok, r, q⟩
  | next => obtain ⟨σ1, H1, J, q⟩ := done; exact wpAny_execs_nil ⟨σ1, H1, J.ofTry ok, q⟩
  | brk => obtain ⟨σ1, H1, J, q⟩ := done; exact ⟨σ1, H1, J.ofTry ok, q⟩
  | cont => obtain ⟨σ1, H1, J, q⟩ := done; exact ⟨σ1, H1, J.ofTry ok, q⟩
end
end Iz
/-! Nx -/
set_option Elab.async false
set_option linter.all false
set_option maxRecDepth 100000
set_option maxHeartbeats 4000000
namespace Iz
open PySem PySem.Spec PyProof.Rows L2
open He (ga)
/-! ### slices, max, min, unpacking, in the form that simp reads -/
def rSlLN (K : PySem.W.Frag) : V → Option Int → Option Int → Hp → VK → Prop := fun x lo hi H Q => ∃ a xs, x = .ref a ∧ SqL K H a xs ∧ News H (.lst (cutV xs lo hi)) Q
theorem sl_listN {X : Cx} : SlR X (rSlLN X.K) := fun pins s σ H x v vl vu lo hi sl Q I rx hs pl pu ⟨a, xs, e, h, n⟩ => sl_list pins s σ H x v vl vu lo hi sl Q I rx hs pl pu ⟨a, xs, e, h, n.all⟩
def rMax2 : List V → Hp → VK → Prop := fun xs H Q => ∃ i j, xs = [.int i, .int j] ∧ Q (.int (max i j)) H
theorem call_max2N {X : Cx} (hc : X.calm = true) : CallR X (.builtin "max") rMax2 := CallR.imp (call_max2 hc) fun xs H Q ⟨i, j, a, q⟩ => ⟨i, j, a, by rw [show (if j > i then j else i) = max i j by rw [Int.max_def]; split <;> split <;> omega]; exact q⟩
def rMin2 : List V → Hp → VK → Prop := fun xs H Q => ∃ i j, xs = [.int i, .int j] ∧ Q (.int (min i j)) H
theorem call_min2N {X : Cx} (hc : X.calm = true) : CallR X (.builtin "min") rMin2 := CallR.imp (call_min2 hc) fun xs H Q ⟨i, j, a, q⟩ => ⟨i, j, a, by rw [show (if j < i then j else i) = min i j by rw [Int.min_def]; split <;> split <;> omega]; exact q⟩
def gUnlN (n : Nat) (t : TGs) : TG := fun v σ H Q => ∃ a xs, v = .ref a ∧ H a = some (.lst xs) ∧ xs.length = n ∧ t xs σ H Q
theorem pg_unlN {X : Cx} {es : List Expr} {k : Nat} {pos : Pos} {t : TGs} {n : Nat} (hc : X.calm = true) (h : PGs X es t) (hn : (assignEach es X.env).length = n := by rfl) (hst : (assignEach es X.env).findIdx? (·.1) = none := by rfl) : PG X (.Tuple es k pos) (gUnlN n t) :=
  PG.imp (pg_unl hc h hn hst) fun v σ H Q ⟨p, xs, a, c, d, q⟩ => ⟨p, xs, a, SqL.of c, d, q⟩
/-! ### for x in what an expression gives -/
theorem for_inT {K : PySem.W.Frag} {tl : TE} {g : TG} {tb : TS} {D : Ends} {σ : L2.St} {H : Hp} (h : tl σ H fun x H1 => tFor (iTup K fun _ H R => R x H) g tb D σ H1) : tFor (iTup K tl) g tb D σ H := h
theorem for_inL {K : PySem.W.Frag} {tl : TE} {g : TG} {tb : TS} {D : Ends} {σ : L2.St} {H : Hp} (h : tl σ H fun x H1 => tFor (iList K fun _ H R => R x H) g tb D σ H1) : tFor (iList K tl) g tb D σ H := h
/-! ### two clauses in one comprehension, both over ranges from 0 -/
theorem st_lc2R {ta ta1 : TA} {g g1 : TG} {te : TE} {vs vs1 : List Nat} {σ : L2.St} {H : Hp} {Q : VK} (n : Int) (hn : -(2 ^ 62) ≤ n ∧ n < 2 ^ 62) (ha : ∀ R : List V → Hp → Prop, R [.int n] H → ta σ H R)
    (Pv : Addr → Nat → Hp → Prop) (Pw : Addr → Nat → Nat → Hp → Prop) (h0 : ∀ D H1, H D = none → Same H H1 → H1 D = some (.lst []) → Pv D 0 H1)
    (hs : ∀ D i H, i < n.toNat → Pv D i H → g (.int i) (wipe σ vs) H fun σ2 H2 => wipe σ2 vs = wipe σ vs ∧ ∃ m : Int, (-(2 ^ 62) ≤ m ∧ m < 2 ^ 62) ∧ (∀ R : List V → Hp → Prop, R [.int m] H2 → ta1 σ2 H2 R) ∧ Pw D i 0 H2 ∧ (∀ H, Pw D i m.toNat H → Pv D (i + 1) H) ∧
      ∀ j H, j < m.toNat → Pw D i j H → g1 (.int j) (wipe σ2 vs1) H fun σ3 H5 => wipe σ3 vs1 = wipe σ2 vs1 ∧ te σ3 H5 fun y H7 => ∃ acc, H7 D = some (.lst acc) ∧ acc.length < sizeLine ∧ Pw D i (j + 1) (upd H7 D (.lst (acc ++ [y]))))
    (hg : ∀ v σ H (Q Q' : L2.St → Hp → Prop), (∀ σ H, Q σ H → Q' σ H) → g v σ H Q → g v σ H Q') (hg1 : ∀ v σ H (Q Q' : L2.St → Hp → Prop), (∀ σ H, Q σ H → Q' σ H) → g1 v σ H Q → g1 v σ H Q')
    (hd : ∀ D H, Pv D n.toNat H → Q (.ref D) H) : tLc2 (iRng1 ta) g tYes (iRng1 ta1) g1 tYes te vs vs1 σ H Q := by
  refine ha _ ⟨n, rfl, hn.1, hn.2, fun D hD => ?_⟩
  refine ⟨fun i m H => m = n.toNat - i ∧ i ≤ n.toNat ∧ Pv D i H, ⟨_, rfl, Nat.zero_le _, h0 D _ hD (Same.upd hD) upd_same⟩, ?_⟩
  rintro i m H1 ⟨rfl, hi, p⟩
  by_cases hlt : i < n.toNat
  · refine .inr ⟨hlt, Pv D (i + 1), fun H' p' => ⟨n.toNat - (i + 1), by omega, rfl, hlt, p'⟩, ?_⟩
    rintro x _ ⟨rfl, rfl⟩
    rw [Int.zero_add]
    refine hg _ _ _ _ _ (fun σ2 H2 q => ?_) (hs D i _ hlt p)
    obtain ⟨e, m, hm, hr, w0, wd, ws⟩ := q
    refine ⟨e, ?_⟩
    simp only [tYes, if_true]
    refine hr _ ⟨m, rfl, hm.1, hm.2, ?_⟩
    refine ⟨fun j k H => k = m.toNat - j ∧ j ≤ m.toNat ∧ Pw D i j H, ⟨_, rfl, Nat.zero_le _, w0⟩, ?_⟩
    rintro j k H3 ⟨rfl, hj, pw⟩
    by_cases hjt : j < m.toNat
    · refine .inr ⟨hjt, Pw D i (j + 1), fun H' p' => ⟨m.toNat - (j + 1), by omega, rfl, hjt, p'⟩, ?_⟩
      rintro x _ ⟨rfl, rfl⟩
      rw [Int.zero_add]
      refine hg1 _ _ _ _ _ (fun σ3 H5 q => ⟨q.1, ?_⟩) (ws j _ hjt pw)
      exact q.2
    · have ej : j = m.toNat := by omega
      subst ej
      exact .inl ⟨Nat.le_refl _, wd _ pw⟩
  · have ei : i = n.toNat := by omega
    subst ei
    exact .inl ⟨Nat.le_refl _, hd D _ p⟩
theorem gName_mono {i : Nat} : ∀ v σ H (Q Q' : L2.St → Hp → Prop), (∀ σ H, Q σ H → Q' σ H) → gName i v σ H Q → gName i v σ H Q' := fun _ _ _ _ _ k q => k _ _ q
/-! ### == and != of what is read as data -/
section
variable {K : PySem.W.Frag} {H : Hp} {R : VK}
/-- a pair of ints, at a -/
abbrev P2 (H : Hp) (a : Addr) (x y : Int) : Prop := H a = some (.tup [.int x, .int y])
theorem P2.dp {a : Addr} {x y : Int} (h : P2 H a x y) : Dp K H (.ref a) (.tuple [.int x, .int y]) := .tup (SqT.of h) (.cons (.int x) (.cons (.int y) .nil))
theorem sh_P2 {n : Nat} {x y : Int} : ShN (n + 1) (.tuple [.int x, .int y]) := (ShN.tuple (n := 0) fun d h => by
  simp only [List.mem_cons, List.not_mem_nil, or_false] at h
  rcases h with rfl | rfl <;> exact .int).up (by omega)
theorem eqv_P2 {x y u v : Int} : PyData.eqv (.tuple [.int x, .int y]) (.tuple [.int u, .int v]) = decide (x = u ∧ y = v) := by
  simp [PyData.eqv, PyData.eqvAll]
  by_cases h1 : x = u <;> by_cases h2 : y = v <;> simp [h1, h2]
theorem eq_P2 {a b : Addr} {x y u v : Int} (ha : P2 H a x y) (hb : P2 H b u v) (r : R (.bl (decide (x = u ∧ y = v))) H) : rEqD K (.ref a) (.ref b) H R := ⟨_, _, ha.dp, hb.dp, (sh_P2 (n := 0)).ok, (sh_P2 (n := 0)).ok, by rw [eqv_P2]; exact r⟩
theorem ne_P2 {a b : Addr} {x y u v : Int} (ha : P2 H a x y) (hb : P2 H b u v) (r : R (.bl (!decide (x = u ∧ y = v))) H) : rNeD K (.ref a) (.ref b) H R := ⟨_, _, ha.dp, hb.dp, (sh_P2 (n := 0)).ok, (sh_P2 (n := 0)).ok, by rw [eqv_P2]; exact r⟩
/-- a list of ints, at a -/
theorem dp_ints {a : Addr} {ns : List Int} (h : H a = some (.lst (ns.map V.int))) : Dp K H (.ref a) (.list (ns.map PyData.int)) := by
  refine .lst (SqL.of h) ?_
  clear h
  induction ns with
  | nil => exact .nil
  | cons z zs ih => exact .cons (.int z) ih
theorem sh_ints {n : Nat} {ns : List Int} : ShN (n + 1) (.list (ns.map PyData.int)) := (ShN.list (n := 0) fun d hd => by
  obtain ⟨z, hz, rfl⟩ := List.mem_map.mp hd; exact .int).up (by omega)
theorem eqv_ints {ns ms : List Int} : PyData.eqv (.list (ns.map PyData.int)) (.list (ms.map PyData.int)) = decide (ns = ms) := by
  simp only [PyData.eqv]
  induction ns generalizing ms with
  | nil => cases ms <;> simp [PyData.eqvAll]
  | cons n ns ih => cases ms with
    | nil => simp [PyData.eqvAll]
    | cons m ms =>
      simp only [List.map_cons, PyData.eqvAll, ih, PyData.eqv]
      by_cases h1 : n = m <;> by_cases h2 : ns = ms <;> simp [h1, h2]
theorem eq_ints {a b : Addr} {ns ms : List Int} (ha : H a = some (.lst (ns.map V.int))) (hb : H b = some (.lst (ms.map V.int))) (r : R (.bl (decide (ns = ms))) H) : rEqD K (.ref a) (.ref b) H R := ⟨_, _, dp_ints ha, dp_ints hb, (sh_ints (n := 0)).ok, (sh_ints (n := 0)).ok, by rw [eqv_ints]; exact r⟩
theorem ne_ints {a b : Addr} {ns ms : List Int} (ha : H a = some (.lst (ns.map V.int))) (hb : H b = some (.lst (ms.map V.int))) (r : R (.bl (!decide (ns = ms))) H) : rNeD K (.ref a) (.ref b) H R := ⟨_, _, dp_ints ha, dp_ints hb, (sh_ints (n := 0)).ok, (sh_ints (n := 0)).ok, by rw [eqv_ints]; exact r⟩
/-- a list of two texts, at a -/
theorem dp_l2 {a : Addr} {x y : Str} (h : H a = some (.lst [.str x, .str y])) : Dp K H (.ref a) (.list [.str x, .str y]) := .lst (SqL.of h) (.cons (.str x) (.cons (.str y) .nil))
theorem sh_l2 {n : Nat} {x y : Str} (hx : PyData.strOk x = true) (hy : PyData.strOk y = true) : ShN (n + 1) (.list [.str x, .str y]) := (ShN.list (n := 0) fun d h => by
  simp only [List.mem_cons, List.not_mem_nil, or_false] at h
  have st : ∀ {z : Str}, PyData.strOk z = true → ShN 0 (.str z) := fun h => ⟨by simp [PyData.canLay0, h], by simp [PyData.depth]⟩
  rcases h with rfl | rfl
  · exact st hx
  · exact st hy).up (by omega)
theorem ne_sameN {x y : V} {d : PyData} {n : Nat} (hx : Dp K H x d) (hy : Dp K H y d) (h : ShN n d) (r : R (.bl false) H) (k : n ≤ 64 := by decide) : rNeD K x y H R := ne_same hx hy (h.ok k) r
theorem eq_sameN {x y : V} {d : PyData} {n : Nat} (hx : Dp K H x d) (hy : Dp K H y d) (h : ShN n d) (r : R (.bl true) H) (k : n ≤ 64 := by decide) : rEqD K x y H R := eq_same hx hy (h.ok k) r
end
/-! ### a value that may be a pair of ints -/
/-- the pair that stands there -/
def pairL : List V → Option (Int × Int)
  | [.int x, .int y] => some (x, y)
  | _ => none
def pairV (H : Hp) : V → Option (Int × Int)
  | .ref p => match H p with
    | some (.tup xs) => pairL xs
    | _ => none
  | _ => none
theorem pairL_some {xs : List V} {q : Int × Int} (h : pairL xs = some q) : xs = [.int q.1, .int q.2] := by
  unfold pairL at h
  split at h
  · cases h; rfl
  · cases h
theorem pairL_none {xs : List V} (h : ¬ (xs.length : Int) = 2) : pairL xs = none := by
  unfold pairL
  split
  · simp at h
  · rfl
theorem pairV_of {H : Hp} {p : Addr} {x y : Int} (h : P2 H p x y) : pairV H (.ref p) = some (x, y) := by simp only [pairV, h, pairL]
theorem pairV_some {H : Hp} {v : V} {q : Int × Int} (h : pairV H v = some q) : ∃ p, v = .ref p ∧ P2 H p q.1 q.2 := by
  unfold pairV at h
  split at h
  · rename_i p
    split at h
    · rename_i xs e; exact ⟨p, rfl, by rw [P2, e, pairL_some h]⟩
    · cases h
  · cases h
/-- what is asked of a value that is_pair looks at -/
inductive PairK (K : PySem.W.Frag) (H : Hp) : V → Prop
  | non : PairK K H .non
  | bl (b : Bool) : PairK K H (.bl b)
  | int (i : Int) : PairK K H (.int i)
  | str (s : Str) : PairK K H (.str s)
  | lst {p : Addr} {xs : List V} : H p = some (.lst xs) → PairK K H (.ref p)
  | tup {p : Addr} {xs : List V} : H p = some (.tup xs) → (∀ z ∈ xs, Wh K H z) → PairK K H (.ref p)
  | ins {p C dx : Addr} {fs : List (Str × V)} : H p = some (.ins C dx fs) → ClsI K C → PySem.W.kitOne K (.ref C) (.type "tuple") = some false → PairK K H (.ref p)
theorem PairK.ty {K : PySem.W.Frag} {H : Hp} {v : V} (h : PairK K H v) : (∃ p xs, v = .ref p ∧ H p = some (.tup xs) ∧ ∀ z ∈ xs, Wh K H z) ∨ ∃ t, TyX K H v t ∧ PySem.W.kitOne K t (.type "tuple") = some false ∧ pairV H v = none := by
  cases h with
  | non => exact .inr ⟨_, .base .non, kit_ty (by decide +kernel), rfl⟩
  | bl b => exact .inr ⟨_, .base (.bl b), kit_ty (by decide +kernel), rfl⟩
  | int i => exact .inr ⟨_, .base (.int i), kit_ty (by decide +kernel), rfl⟩
  | str s => exact .inr ⟨_, .base (.str s), kit_ty (by decide +kernel), rfl⟩
  | lst h => exact .inr ⟨_, .base (.lst h), kit_ty (by decide +kernel), by simp only [pairV, h]⟩
  | tup h w => exact .inl ⟨_, _, rfl, h, w⟩
  | ins h T k => exact .inr ⟨_, T.ty h, k, by simp only [pairV, h]⟩
theorem P2.k {K : PySem.W.Frag} {H : Hp} {p : Addr} {x y : Int} (h : P2 H p x y) : PairK K H (.ref p) := .tup h fun z hz => by
  simp only [List.mem_cons, List.not_mem_nil, or_false] at hz
  rcases hz with rfl | rfl <;> exact wh_int
theorem PairK.mono {K : PySem.W.Frag} {H H' : Hp} {v : V} (h : PairK K H v) (s : Same H H') : PairK K H' v := by
  cases h with
  | non => exact .non
  | bl b => exact .bl b
  | int i => exact .int i
  | str s => exact .str s
  | lst h => exact .lst (s _ _ h)
  | tup h w => exact .tup (s _ _ h) fun z hz => wh_mono (w z hz) s
  | ins h T k => exact .ins (s _ _ h) T k
theorem pairV_mono {H H' : Hp} {p : Addr} {o : HO} (h : H p = some o) (s : Same H H') : pairV H' (.ref p) = pairV H (.ref p) := by simp only [pairV, h, s _ _ h]
theorem PairK.same {K : PySem.W.Frag} {H H' : Hp} {v : V} (h : PairK K H v) (s : Same H H') : pairV H' v = pairV H v := by
  cases h with
  | non => rfl
  | bl b => rfl
  | int i => rfl
  | str s => rfl
  | lst h => exact pairV_mono h s
  | tup h w => exact pairV_mono h s
  | ins h T k => exact pairV_mono h s
/-! ### a list of pairs grows -/
theorem PairsAt.push {H : Hp} {D t : Addr} {ps : List (Option Int × Option Int)} {q : Option Int × Option Int} (h : PairsAt H D ps) (e : H t = some (.tup [ov q.1, ov q.2])) (hl : ps.length < 100000) :
    ∃ acc, H D = some (.lst acc) ∧ acc.length < sizeLine ∧ PairsAt (L2.upd H D (.lst (acc ++ [.ref t]))) D (ps ++ [q]) := by
  obtain ⟨xs, hD, hp⟩ := h
  refine ⟨xs, hD, by rw [hp.length, sizeLine_eq]; omega, _, upd_same, PAll.snoc (hp.monoT fun b us hb => ?_) ?_⟩
  · rw [upd_ne (ne_of hb hD (by intro z; cases z))]; exact hb
  · rw [upd_ne (ne_of e hD (by intro z; cases z))]; exact e
/-! ### the operators of own classes, asked -/
theorem own_in {C a dx : Addr} {fs : List (Str × V)} {sp : Sp} {E : XK} {x : V} {H : Hp} {Q : VK} {neg : Bool} (h : H a = some (.ins C dx fs)) (q : sp [.ref a, x] H (fun v H' => ∃ b, v = .bl b ∧ Q (.bl (if neg = true then !b else b)) H') E) : rOwnIn C neg sp E x (.ref a) H Q := ⟨a, dx, fs, rfl, h, q⟩
theorem own_op {K : PySem.W.Frag} {C a dx : Addr} {fs : List (Str × V)} {sp : Sp} {E : XK} {y : V} {H : Hp} {Q : VK} (h : H a = some (.ins C dx fs)) {t : Value} (ty : TyX K H y t) (n : PySem.W.notFirst K C t = true) (q : sp [.ref a, y] H (fun v H' => ∃ b, v = .bl b ∧ Q (.bl b) H') E) : rOwn K C sp E (.ref a) y H Q := ⟨a, dx, fs, rfl, h, ⟨t, ty, n⟩, q⟩
theorem notFirst_self {K : PySem.W.Frag} {C : Addr} : PySem.W.notFirst K C (.ref C) = true := by simp [PySem.W.notFirst]
/-! ### a comprehension over a range from 0 -/
theorem st_lcR1 {ta : TA} {g : TG} {tt : TT} {te : TE} {vs : List Nat} {σ : L2.St} {H : Hp} {Q : VK} (n : Int) (hn : -(2 ^ 62) ≤ n ∧ n < 2 ^ 62) (ha : ∀ R : List V → Hp → Prop, R [.int n] H → ta σ H R)
    (Pv : Addr → Nat → Hp → Prop) (h0 : ∀ D H1, H D = none → Same H H1 → H1 D = some (.lst []) → Pv D 0 H1)
    (hs : ∀ D i H, i < n.toNat → Pv D i H → g (.int i) (wipe σ vs) H fun σ2 H2 => wipe σ2 vs = wipe σ vs ∧ tt σ2 H2 fun b H3 => if b = true then te σ2 H3 fun y H4 => ∃ acc, H4 D = some (.lst acc) ∧ acc.length < sizeLine ∧ Pv D (i + 1) (upd H4 D (.lst (acc ++ [y]))) else Pv D (i + 1) H3)
    (hd : ∀ D H, Pv D n.toNat H → Q (.ref D) H) : tLc (iRng1 ta) g tt te vs σ H Q :=
  ha _ ⟨n, rfl, hn.1, hn.2, fun D hD => lc_range (Pv D) (h0 D _ hD (Same.upd hD) upd_same) (fun i H hi p => by rw [Int.zero_add]; exact hs D i H hi p) (hd D)⟩
theorem PAll.app {H : Hp} {xs ys : List V} {ps qs : List (Option Int × Option Int)} (h : PAll H xs ps) (k : PAll H ys qs) : PAll H (xs ++ ys) (ps ++ qs) := by
  induction h with
  | nil => exact k
  | cons e _ ih => exact .cons e ih
/-! ### kept where tables of code may grow -/
section
open LamX
theorem tyX_ext {K : PySem.W.Frag} {H H' : Hp} {x : V} {t : Value} (h : TyX K H x t) (s : ExtN H H') : TyX K H' x t := by
  cases h with
  | base b =>
    cases b with
    | non => exact .base .non
    | bl b => exact .base (.bl b)
    | int i => exact .base (.int i)
    | str y => exact .base (.str y)
    | flt y => exact .base (.flt y)
    | lst e => exact .base (.lst (s _ _ e fun _ z => by cases z))
    | frz e => exact .base (.frz (s _ _ e fun _ z => by cases z))
    | tup e => exact .base (.tup (s _ _ e fun _ z => by cases z))
    | dK e => exact .base (.dK (s _ _ e fun _ z => by cases z))
    | dT e => exact .base (.dT (s _ _ e fun _ z => by cases z))
    | ins e a b c d f => exact .base (.ins (s _ _ e fun _ z => by cases z) a b c d f)
  | byt b => exact .byt b
  | set e => exact .set (s _ _ e fun _ z => by cases z)
  | kList e c => exact .kList e c
  | kTuple e c => exact .kTuple e c
  | kDict e c => exact .kDict e c
  | fTuple e => exact .fTuple (s _ _ e fun _ z => by cases z)
  | fDict e => exact .fDict (s _ _ e fun _ z => by cases z)
theorem wh_ext {K : PySem.W.Frag} {H H' : Hp} {x : V} (h : Wh K H x) (s : ExtN H H') : Wh K H' x := let ⟨t, b, c, ty, r⟩ := h; ⟨t, b, c, tyX_ext ty s, r⟩
theorem PairK.ext {K : PySem.W.Frag} {H H' : Hp} {v : V} (h : PairK K H v) (s : ExtN H H') : PairK K H' v := by
  cases h with
  | non => exact .non
  | bl b => exact .bl b
  | int i => exact .int i
  | str s => exact .str s
  | lst h => exact .lst (s _ _ h fun _ z => by cases z)
  | tup h w => exact .tup (s _ _ h fun _ z => by cases z) fun z hz => wh_ext (w z hz) s
  | ins h T k => exact .ins (s _ _ h fun _ z => by cases z) T k
theorem PairK.sameX {K : PySem.W.Frag} {H H' : Hp} {v : V} (h : PairK K H v) (s : ExtN H H') : pairV H' v = pairV H v := by
  cases h with
  | non => rfl
  | bl b => rfl
  | int i => rfl
  | str s => rfl
  | lst h => simp only [pairV, h, s _ _ h fun _ z => by cases z]
  | tup h w => simp only [pairV, h, s _ _ h fun _ z => by cases z]
  | ins h T k => simp only [pairV, h, s _ _ h fun _ z => by cases z]
theorem extI {H H' : Hp} {p C dx : Addr} {fs : List (Str × V)} (e : ExtN H H') (h : H p = some (.ins C dx fs)) : H' p = some (.ins C dx fs) := e p _ h fun ps z => by cases z
/-- a list that grows by an item: the tables stay -/
theorem Tabs.put {T : List (Addr × Str)} {H H' : Hp} {L : Addr} {xs ys : List V} (hT : Tabs T H) (hL : H L = some (.lst xs)) (p : Put H H' L (.lst ys)) : Tabs T H' := by
  have key : ∀ b o, H b = some o → (∀ xs, o ≠ .lst xs) → H' b = some o := fun b o h hn => by
    rw [p.2 b (fun z => by subst z; rw [hL] at h; exact hn _ (Option.some.inj h).symm)]; exact h
  intro x hx
  obtain ⟨ps, h1, h2, h3⟩ := hT x hx
  refine ⟨ps, key _ _ h1 (fun xs z => by cases z), h2, fun pos cv hcv => ?_⟩
  obtain ⟨c0, e1, e2⟩ := h3 pos cv hcv
  exact ⟨c0, e1, key _ _ e2 (fun xs z => by unfold CodeO at z; cases z)⟩
theorem Put.other {H H' : Hp} {L b : Addr} {o u : HO} (p : Put H H' L o) (h : H b = some u) (n : b ≠ L) : H' b = some u := by rw [p.2 b n]; exact h
end
/-! ### texts as data -/
theorem ShN.str {n : Nat} {z : Str} (h : PyData.strOk z = true) : ShN n (.str z) := ⟨by simp [PyData.canLay0, h], by simp [PyData.depth]⟩
theorem dp_strs {K : PySem.W.Frag} {H : Hp} {p : Addr} {zs : List Str} (h : H p = some (.lst (zs.map V.str))) : Dp K H (.ref p) (.list (zs.map PyData.str)) := by
  refine .lst (SqL.of h) ?_
  clear h
  induction zs with
  | nil => exact .nil
  | cons z zs ih => exact .cons (.str z) ih
theorem sh_strs {n : Nat} {zs : List Str} (h : ∀ z ∈ zs, PyData.strOk z = true) : ShN (n + 1) (.list (zs.map PyData.str)) := (ShN.list (n := 0) fun d hd => by
  obtain ⟨z, hz, rfl⟩ := List.mem_map.mp hd; exact ShN.str (h z hz)).up (by omega)
theorem sh_ll {n : Nat} {x y u v : Str} (hx : PyData.strOk x = true) (hy : PyData.strOk y = true) (hu : PyData.strOk u = true) (hv : PyData.strOk v = true) : ShN (n + 2) (.list [.list [.str x, .str y], .list [.str u, .str v]]) := (ShN.list (n := 1) fun d h => by
  simp only [List.mem_cons, List.not_mem_nil, or_false] at h
  rcases h with rfl | rfl
  · exact sh_l2 (n := 0) hx hy
  · exact sh_l2 (n := 0) hu hv).up (by omega)
/-! ### the script -/
def rLenS (K : PySem.W.Frag) : List V → Hp → VK → Prop := fun xs H Q => ∃ p ys, xs = [.ref p] ∧ SqL K H p ys ∧ Q (.int ys.length) H
theorem call_lenS {X : Cx} : CallR X (.builtin "len") (rLenS X.K) := CallR.imp call_len_seq fun xs H Q ⟨p, ys, a, b, q⟩ => ⟨p, ys, a, .inl b, q⟩
theorem sqL_ext {K : PySem.W.Frag} {H H' : Hp} {a : Addr} {xs : List V} (h : SqL K H a xs) (e : LamX.ExtN H H') : SqL K H' a xs :=
  h.elim (fun h => .inl (h.elim (fun h => .inl (e _ _ h fun _ z => by cases z)) fun ⟨o, h⟩ => .inr ⟨o, e _ _ h fun _ z => by cases z⟩)) fun h => .inr h
section
open LamX
/-- as plam, with the tables of several defs -/
theorem plamT {X : Cx} {TS : List (Addr × Str)} {x a : Str} {st : Stmt} {N : List Str} {TT : (XK → Hp → VK → Prop) → Hp → VK → Prop} {c P : Addr} {qn : Str} {k : Nat} {params : Arguments} {body : Expr} {scope : Scope} {t : XK → TE} {p lpos pos : Pos}
    (F : ∃ (f : Addr) (fd : FuncData), X.mg x = some (.ref f) ∧ Fun X.K x x st f fd) (S : FnScope N [a] (defScope st))
    (hb : ∀ (kV doc pm : Value) (an : Option Addr) (cdv ct : Value) (us : List Value), us.length = [a].length → bindArgs (PySem.W.fnOf x x (defArgs st) (defBody st) (defScope st) .none kV doc pm an cdv ct) ⟨us, []⟩ = pure ([a].zip us))
    (hG : ∀ (g : Addr) (cdg : Value), GivesTo X N x (defScope st) g cdg (defBody st) a qn TT)
    (hm : (P, qn) ∈ TS) (hu : ∀ q ∈ TS, q.1 = P → q.2 = qn) (TB : TabB X.base X.mg c P) (hcode : X.env.code = .ref c) (hq : X.env.qual ++ "<lambda>" = qn) (hr : Room (k + 2) X.A) (L : lamSB X.env.scope scope = true)
    (hbody : ∀ (A : Around) (outer : List Env) (s : Shared) (H : Hp) (E : XK) (f c' : Addr), Room k (A.deeper (lamEnv X scope s.heap.objs.size f c')) → PE (lamCx X A outer s H E scope f c') body (t E))
    (hdef : defaultsOf params X.env = ([], []) := by rfl) (hg : Gl X x := by rfl) (hv : Vis (defScope st) a := by first | exact Or.inl rfl | exact Or.inr (Or.inl rfl)) (hNa : N[0]? = some a := by rfl)
    (hbind : ∀ (q : Str) (cl : List (Str × Addr)) (pm cv ctv : Value), bindArgs (PySem.W.kla_fn "<lambda>" q params body scope cl pm cv ctv) ⟨[], []⟩ = pure [] := by intros; rfl)
    (hdb : (x == ("__debug__" : Str)) = false := by decide) (hd : (a == ("__debug__" : Str)) = false := by decide) (hcd : (a == ("__classdict__" : Str)) = false := by decide) :
    PE X (.Call (.Name x p) [.Lambda params body scope lpos] [] pos) (tLam TS TT t) := by
  subst hq
  obtain ⟨g, fd, hmg, F⟩ := F
  obtain ⟨oc, od, kV, doc, pm, an, cdv, ct, osl, rfl, lk, hcg⟩ := F.ex
  exact pe_lamcall hg hmg F.kp lk hcg (.all (hb kV doc pm an cdv ct)) S hNa hv (hG g cdv) TB hcode hm hu hr (lamS_by L) hdef hbind hbody hdb hd hcd
end
end Iz
/-! One -/
set_option Elab.async false
set_option linter.all false
set_option maxRecDepth 100000
set_option maxHeartbeats 4000000
namespace Iz
open PySem PySem.Spec PyProof.Rows L2
open He (ga)
/-! ### x != y of a class that has __eq__ alone: object's own __ne__ turns it round -/
section
variable {prog : Program} {w : World} {A : Around} {E : Value → Shared → Prop} {s : Shared} {K : PySem.W.Frag} {x C L f : Addr} {h₀ : Heap} {m : Str → Option Value} {ox : Obj} {od : Option Obj} {b tb : Value}
theorem ne_bind (self : Value) : bindSpecial (.builtin "object.__ne__") self = pure (.builtin "object.__ne__", [self]) := PySem.F.cmp_object.ne.bind self
theorem ne_obj {Q : Value → Shared → Prop} (hu : A.in1.units < cLine) (X : K.In s.heap) (I : PySem.W.InstAt s.heap x ox C od) (hm : PySem.W.mroIn K C (.type "object") = some true) (he : PySem.W.findIn K (.ref C) "__eq__" = some (some (.ref f))) (hf : PySem.W.isFn K (.ref f) = true)
    (h : wpAny (model prog w) A.in1 (call (.ref f) [.ref x, b]) (fun v s' => ∃ r, v = .bool r ∧ Q (.bool (!r)) s') E s) : wpAny (model prog w) A (call (.builtin "object.__ne__") [.ref x, b]) Q E s := by
  refine wpAny_call (codeAny_call_builtin PySem.F.cmp_object.ne.plain PySem.F.cmpEntry_ne (PySem.W.check_slot (i := "object.__ne__") (owner := "object") (n := "__ne__") PySem.F.cmpKind_ne PySem.F.cmpSplit_ne (I.type.andThen (PySem.W.looks_mroIn X hm)) (PySem.F.cmpArgs_ne _ _) ?_))
  unfold Builtin.«object.__ne__»
  refine wpAny_bind (m := slotArgs "__ne__" 1 _) (wpAny_pure ?_)
  dsimp only
  refine wpAny_bind (m := cRoomFor _ _) (wpAny_cRoomFor hu ?_)
  refine wpAny_bind (m := callSpecialIfBound? (.ref x) (Str.ofString "__eq__") _) (PySem.W.ifBound_K X I he hf (wpAny_mono h (fun v s' z => ?_) fun _ _ y => y))
  obtain ⟨r, rfl, q⟩ := z
  dsimp only
  exact wpAny_bind (m := truthy (.bool r)) (wpAny_truthy_bool (wpAny_pure q))
theorem ne_rich {Q : Value → Shared → Prop} (hu : A.in1.units < cLine) (hu0 : A.units < cLine) (F : Fr h₀ L s.heap m) (X₀ : K.In h₀) (I : PySem.W.InstAt s.heap x ox C od) (hb : PySem.W.Looks (model prog w) s.heap (typeOf b) tb) (hn : PySem.W.notFirst K C tb = true) (hm : PySem.W.mroIn K C (.type "object") = some true)
    (hs : PySem.W.findIn K (.ref C) "__ne__" = some (some (.builtin "object.__ne__"))) (he : PySem.W.findIn K (.ref C) "__eq__" = some (some (.ref f))) (hf : PySem.W.isFn K (.ref f) = true)
    (h : wpAny (model prog w) A.in1 (call (.ref f) [.ref x, b]) (fun v s' => ∃ r, v = .bool r ∧ Q (.bool (!r)) s') E s) : wpAny (model prog w) A (richCompare .NotEq (.ref x) b) Q E s := by
  have X := X₀.keeps F.keep
  have asked : wpAny (model prog w) A (tryCompare (.ref x) (cmpInfo .NotEq).2.1 b) (fun r s' => ∃ v, r = some v ∧ Q v s') E s := by
    unfold tryCompare
    refine wpAny_bind (m := callSpecialIfBound? _ _ _) ?_
    simp only [callSpecialIfBound?, bindSpecialIfBound?]
    refine wpAny_holding (wpAny_bind (wpAny_bind (wpAny_bind (I.type.here ((PySem.W.looks_findIn X hs).here ?_)))))
    have fin : wpAny (model prog w) A (call (.builtin "object.__ne__") ([.ref x] ++ [b]) >>= fun v => pure (some v)) (fun r s' => wpAny (model prog w) A (match r with | some .notImplemented | none => pure none | some v => pure (some v)) (fun r s' => ∃ v, r = some v ∧ Q v s') E s') E s :=
      wpAny_bind (ne_obj hu X I hm he hf (wpAny_mono h (fun v s' z => by
        obtain ⟨r, rfl, q⟩ := z
        exact ⟨r, rfl, wpAny_pure (wpAny_pure ⟨_, rfl, q⟩)⟩) fun _ _ y => y))
    refine wpAny_bind (wpAny_askSetting (wpAny_ite ?_))
    split
    · exact wpAny_bind ((PySem.W.Looks.of_pure (ne_bind _)).here (wpAny_pure fin))
    · exact wpAny_tryCatch (wpAny_bind ((PySem.W.Looks.of_pure (ne_bind _)).here (wpAny_pure fin)))
  unfold richCompare
  simp only [oneThing_ref]
  refine wpAny_holding (wpAny_bind (wpAny_cRoomFor hu0 ?_))
  refine wpAny_bind (I.type.here (wpAny_bind (hb.here ?_)))
  split
  · rename_i q
    have e : PySem.W.subIn K tb (.ref C) = some false := by
      rcases Bool.or_eq_true_iff.mp hn with e | e
      · rw [beq_iff_eq.mp e] at q; simp at q
      · exact beq_iff_eq.mp e
    refine wpAny_bind ((PySem.W.looks_subIn X e).here ?_)
    simp only [Bool.false_eq_true, if_false]
    refine wpAny_bind (wpAny_mono asked (fun r s' z => ?_) fun _ _ y => y)
    obtain ⟨v, rfl, q⟩ := z
    exact wpAny_pure q
  · refine wpAny_bind (wpAny_pure ?_)
    simp only [Bool.false_eq_true, if_false]
    refine wpAny_bind (wpAny_mono asked (fun r s' z => ?_) fun _ _ y => y)
    obtain ⟨v, rfl, q⟩ := z
    exact wpAny_pure q
end
section
variable {X : Cx} {CX : CXT} {k : Nat} {x : Str} {ps : List Str} {sp : Sp} {E : XK}
theorem own_callA {A : Around} {f a : Addr} {fd : FuncData} {y : V} {u : Value} {pins : List (Addr × Obj)} {σ : L2.St} {H : Hp} {s : Shared} {Q : VK} {R : Value → Shared → Prop} (I : Inv X pins σ H s) (F : FnOk X.prog X.w X.K X.mg X.base CX k f fd ps sp) (hb : Binds X.K fd ps []) (hr : Room k A) (hA : A.frames = X.A.frames) (hx : Passes CX X E)
    (ry : RelV y u) (hsp : sp [.ref a, y] H Q E) (hR : ∀ v w H' s', Inv X pins σ H' s' → RelV v w → Q v H' → R w s') : wpAny (model X.prog X.w) A (call (.ref f) [.ref a, u]) R X.xe s := by
  have hl := F.len _ _ _ _ hsp
  have bd := hb s [.ref a, u] I.kIn (by simpa using hl)
  have e := I.env0
  have e0 : Env0 X.prog X.w X.K X.mg X.base A X.stack s H := ⟨hA ▸ e.frames, e.mod, e.bs, e.bsz, e.funs, e.frf, e.hok, e.bare⟩
  refine wpAny_call (codeAny_mono (F.run A X.stack s H ⟨[.ref a, u], []⟩ [.ref a, u] [.ref a, y] _ E hr e0 (by simpa using bd) (.cons rfl (.cons ry .nil)) hsp) fun r s' z => ?_)
  cases r with
  | error e => exact hx _ _ _ _ _ _ I z
  | ok fl =>
    cases fl with
    | ret w => obtain ⟨v, H', I', rv, q⟩ := I.after z; exact hR v w H' s' I' rv q
    | next => exact False.elim z
    | brk => exact False.elim z
    | cont => exact False.elim z
def rOwnNe (K : PySem.W.Frag) (C : Addr) (sp : Sp) (E : XK) : R2 := fun x y H Q => ∃ a dx fs, x = .ref a ∧ H a = some (.ins C dx fs) ∧ (∃ t, TyX K H y t ∧ PySem.W.notFirst K C t = true) ∧ sp [.ref a, y] H (fun v H' => ∃ b, v = .bl b ∧ Q (.bl (!b)) H') E
theorem op_ownNe (O : OkM X.prog X.w X.K X.mg X.base CX k x "__eq__" ps [] sp) (hm : PySem.W.mroIn X.K (ga X.K x) (.type "object") = some true) (hs : PySem.W.findIn X.K (.ref (ga X.K x)) "__ne__" = some (some (.builtin "object.__ne__"))) (hr : Room (k + 1) X.A) (hx : Passes CX X E) : OpR X (compareOp .NotEq) (rOwnNe X.K (ga X.K x) sp E) := by
  intro pins s σ H v0 y v u Q I rx ry h
  obtain ⟨a, dx, fs, rfl, ha, ⟨t, ty, nf⟩, hsp⟩ := h
  cases rx
  obtain ⟨f, fd, M, b, F⟩ := O.ex
  obtain ⟨ds, hd, hb⟩ := b 0 (Nat.le_refl _)
  cases hd
  obtain ⟨mA, O', _⟩ := ins_get I.hok ha
  obtain ⟨od, J, _⟩ := O'.look
  obtain ⟨mm, hF⟩ := I.fr
  refine ne_rich hr.in1.units0 hr.units0 hF I.ok.mod.kin J (looksTy I ry ty) nf hm hs M.at_ M.fn (own_callA I F hb hr.in1 rfl hx ry hsp fun v w H' s' I' rv q => ?_)
  obtain ⟨b, rfl, q⟩ := q
  cases rv
  exact ⟨b, rfl, .bl (!b), H', I', rfl, q⟩
theorem own_ne {K : PySem.W.Frag} {C a dx : Addr} {fs : List (Str × V)} {y : V} {H : Hp} {Q : VK} (h : H a = some (.ins C dx fs)) {t : Value} (ty : TyX K H y t) (n : PySem.W.notFirst K C t = true) (q : sp [.ref a, y] H (fun v H' => ∃ b, v = .bl b ∧ Q (.bl (!b)) H') E) : rOwnNe K C sp E (.ref a) y H Q := ⟨a, dx, fs, rfl, h, ⟨t, ty, n⟩, q⟩
end
/-! ### two truths in a list -/
theorem dp_bb {K : PySem.W.Frag} {H : Hp} {a : Addr} {x y : Bool} (h : H a = some (.lst [.bl x, .bl y])) : Dp K H (.ref a) (.list [.bool x, .bool y]) := .lst (SqL.of h) (.cons (.bl x) (.cons (.bl y) .nil))
theorem sh_bb {n : Nat} {x y : Bool} : ShN (n + 1) (.list [.bool x, .bool y]) := (ShN.list (n := 0) fun d h => by
  simp only [List.mem_cons, List.not_mem_nil, or_false] at h
  rcases h with rfl | rfl <;> exact .bool).up (by omega)
theorem eqv_bb {x y : Bool} : PyData.eqv (.list [.bool x, .bool y]) (.list [.bool true, .bool true]) = (x && y) := by
  cases x <;> cases y <;> simp [PyData.eqv, PyData.eqvAll]
/-! ### a list repeated -/
def rRepN : R2 := fun x y H Q => ∃ l k xs, x = .ref l ∧ y = .int k ∧ H l = some (.lst xs) ∧ -(2 ^ 63) ≤ k ∧ k < 2 ^ 63 ∧ xs.length * k.toNat ≤ sizeLine ∧ News H (.lst (List.replicate k.toNat xs).flatten) Q
theorem op_repN {X : Cx} : OpR X (binaryOp .Mult) rRepN := fun pins s σ H x y v u Q I rx ry ⟨l, k, xs, e1, e2, e3, e4, e5, e6, n⟩ => op_rep pins s σ H x y v u Q I rx ry ⟨l, k, xs, e1, e2, e3, e4, e5, e6, n.all⟩
end Iz
/-! Dn -/
set_option Elab.async false
set_option linter.all false
set_option maxRecDepth 100000
set_option maxHeartbeats 4000000
namespace Iz
open PySem PySem.Spec PyProof.Rows L2
/-! ### dicts whose keys are None or ints -/
def kN : Option Int → V
  | none => .non
  | some i => .int i
theorem kN_ov {o : Option Int} : kN o = ov o := by cases o <;> rfl
def kk (o : Option Int) : Option Key := o.map Sum.inl
theorem kk_inj {a b : Option Int} (h : kk a = kk b) : a = b := by cases a <;> cases b <;> simp_all [kk]
theorem kN_is {P : Program} {w : World} {k : Option Int} {u : Value} (r : RelV (ov k) u) : (noneKind P w).is (kk k) u = true := by
  cases k with
  | none => obtain rfl : u = Value.none := r; rfl
  | some i => exact kV_is (P := P) (w := w) (k := .inl i) r
theorem relV_keyN {k : Option Int} {u : Value} (h : nkIs (kk k) u = true) : RelV (ov k) u := by
  cases k with
  | none => exact nk_none h
  | some i => exact relV_key (k := .inl i) h
/-- the pairs as the library's -/
def kvK (kvs : List (Option Int × V)) : List (Option Key × V) := kvs.map fun p => (kk p.1, p.2)
theorem valV_kvK (kvs : List (Option Int × V)) (k : Option Int) : valV (kvK kvs) (kk k) = valV kvs k := by
  induction kvs with
  | nil => rfl
  | cons p r ih =>
    by_cases e : p.1 = k
    · rw [show kvK (p :: r) = (kk p.1, p.2) :: kvK r from rfl, valV_pos (p := (kk p.1, p.2)) (by rw [e]), valV_pos e]
    · rw [show kvK (p :: r) = (kk p.1, p.2) :: kvK r from rfl, valV_neg (p := (kk p.1, p.2)) (fun z => e (kk_inj z)), valV_neg e, ih]
theorem any_kvK (kvs : List (Option Int × V)) (k : Option Int) : ((kvK kvs).any fun kv => decide (kv.1 = kk k)) = kvs.any fun kv => decide (kv.1 = k) := by
  rw [valV_any, valV_any, valV_kvK]
theorem putK_kvK (kvs : List (Option Int × V)) (k : Option Int) (v : V) : putK (kvK kvs) (kk k) v = kvK (putK kvs k v) := by
  unfold putK
  rw [any_kvK]
  split
  · simp only [kvK, List.map_map]
    refine List.map_congr_left fun p _ => ?_
    by_cases e : p.1 = k
    · simp [e]
    · have : ¬ kk p.1 = kk k := fun z => e (kk_inj z)
      simp [e, this]
  · simp [kvK]
/-- the dict at a, its count of changes ep -/
def DN (P : Program) (w : World) (a : Addr) (kvs : List (Option Int × V)) (ep : Nat) : HO := .ext fun h => kvs.length ≤ sizeLine ∧ (a == sysModules) = false ∧ ∃ vs, KV (kvK kvs) vs ∧ h.DictAt (noneKind P w) a vs ep
section
variable {X : Cx} {pins : List (Addr × Obj)} {σ : L2.St} {H : Hp} {s : Shared}
theorem dn_new {P : Program} {w : World} {H : Hp} {h : Heap} {a : Addr} {kvs : List (Option Int × V)} {ep : Nat} {vs : List (Option Key × Value)} (z : kvs.length ≤ sizeLine) (hd : (a == sysModules) = false) (rel : KV (kvK kvs) vs) (dd : h.DictAt (noneKind P w) a vs ep) : ObjOk P w H h a (DN P w a kvs ep) := by
  have ⟨o, es, ho, _⟩ := dd
  refine ⟨⟨z, hd, vs, rel, dd⟩, ⟨o, ho⟩, fun h1 h2 p k => ?_⟩
  obtain ⟨z, hd, vs, rel, o, es, ho, r⟩ := p
  exact ⟨z, hd, vs, rel, o, es, k o ho, r⟩
theorem dn_get {a : Addr} {kvs : List (Option Int × V)} {ep : Nat} (I : Inv X pins σ H s) (ha : H a = some (DN X.prog X.w a kvs ep)) : kvs.length ≤ sizeLine ∧ (a == sysModules) = false ∧ ∃ vs, KV (kvK kvs) vs ∧ s.heap.DictAt (noneKind X.prog X.w) a vs ep := (I.hok a _ ha).1
/-- {} -/
def tDNew (P : Program) (w : World) : TE := fun _ H Q => ∀ p H', H p = none → Same H H' → H' p = some (DN P w p [] 0) → Q (.ref p) H'
theorem pe_dnN {pos : Pos} : PE X (.Dict [] [] pos) (tDNew X.prog X.w) := ⟨fun pins s σ H Q I h =>
  wpAny_Dict_empty ⟨.ref s.heap.objs.size, _, I.laid (a := s.heap.objs.size) (o := DN X.prog X.w s.heap.objs.size [] 0) (t' := s.toks) (fun _ _ q => Heap.get?_push_of_some _ q) (Nat.le_refl _)
    (dn_new (Nat.zero_le _) (beq_eq_false_iff_ne.mpr (Ne.symm (Nat.ne_of_lt I.big))) .nil ⟨_, #[], Heap.get?_push_size _ rfl, ⟨rfl, rfl, rfl⟩, rfl, fun _ he => by simp at he, Pairs.nil, List.nodup_nil⟩), rfl,
    h _ _ (I.hok.fresh (Nat.le_refl _)) (Same.upd (I.hok.fresh (Nat.le_refl _))) upd_same⟩⟩
/-- k in d -/
def rInDN (P : Program) (w : World) : R2 := fun x y H Q => ∃ k a kvs ep, x = ov k ∧ y = .ref a ∧ H a = some (DN P w a kvs ep) ∧ Q (.bl (valV kvs k).isSome) H
theorem op_inDN : OpR X (compareOp .In) (rInDN X.prog X.w) := by
  intro pins s σ H x y v u Q I rx ry h
  obtain ⟨k, a, kvs, ep, rfl, rfl, ha, q⟩ := h
  cases ry
  obtain ⟨z, hd, vs, rel, dd⟩ := dn_get I ha
  refine wpAny_in_of (kN_is rx) hd dd.dictOf.mapOf ?_
  rw [← (rel.val (kk k)).isSome_eq, valV_kvK]
  exact ⟨.bl _, H, I.tok _, rfl, q⟩
/-- d[k] -/
def rIxDN (P : Program) (w : World) : R2 := fun x y H Q => ∃ k a kvs ep v, x = .ref a ∧ y = ov k ∧ H a = some (DN P w a kvs ep) ∧ valV kvs k = some v ∧ Q v H
theorem ix_DN : IxR X (rIxDN X.prog X.w) := by
  intro value slice pins s σ H x y v u Q I rx ry h hs
  obtain ⟨k, a, kvs, ep, z0, rfl, rfl, ha, hv, q⟩ := h
  cases rx
  obtain ⟨z, hd, vs, rel, dd⟩ := dn_get I ha
  obtain ⟨w', hw, rw'⟩ := RelO.some_of (v := z0) (o := valueAt vs (kk k)) (by rw [← hv, ← valV_kvK]; exact rel.val (kk k))
  exact tail_any dd.dictOf.typeIs slot_dict_getitem.lookup (wpAny_getItem_of (kN_is ry) dd.dictOf.mapOf hw ⟨z0, H, I.tok _, rw', q⟩) hs
/-- d[k] = v -/
def rSetDN (P : Program) (w : World) : TSet := fun o i v H Q => ∃ a k kvs ep, o = .ref a ∧ i = ov k ∧ H a = some (DN P w a kvs ep) ∧ kvs.length < sizeLine ∧ ∀ ep' H', Put H H' a (DN P w a (putK kvs k v) ep') → Q H'
theorem set_DN : PSet X (rSetDN X.prog X.w) := by
  intro pins s σ H o i v ov' iv u Q I ro ri rv h
  obtain ⟨a, k, kvs, ep, rfl, rfl, ha, hl, q⟩ := h
  cases ro
  obtain ⟨z, hd, vs, rel, dd⟩ := dn_get I ha
  have hz : vs.length ≤ sizeLine := by rw [← rel.length]; simpa [kvK] using z
  have hl2 : (putK kvs k v).length ≤ sizeLine := by have := length_putK kvs k v; omega
  refine wpAny_setItem_pairs (hsz := hz) (kN_is ri) dd.dictOf fun h' dd' hs => ?_
  obtain ⟨ep', dd2⟩ := dd'.dictAt
  have he : ∃ q, h'.get? a = some q := let ⟨q, _, _, hq, _⟩ := dd'; ⟨q, hq⟩
  refine ⟨upd H a (DN X.prog X.w a (putK kvs k v) ep'), d_write I (by rw [ha]; exact True.intro) hs he (dn_new hl2 hd (vs := stored vs (kk k) u) (by rw [← putK_kvK]; exact rel.put (kk k) rv) dd2), q ep' _ ⟨upd_same, fun b hb => upd_ne hb⟩⟩
end
/-! ### for k in d, in a comprehension -/
def ItN (P : Program) (w : World) (d : Addr) (kvs : List (Option Int × V)) (ep : Nat) : It :=
  ⟨fun i H => H d = some (DN P w d kvs ep) ∧ i < kvs.length, fun i H x H' => H' = H ∧ ∃ k v, kvs[i]? = some (k, v) ∧ x = ov k, fun i H => H d = some (DN P w d kvs ep) ∧ kvs.length ≤ i⟩
theorem turn_DN {P : Program} {w : World} {K : PySem.W.Frag} {tg : Expr} {d : Addr} {ep : Nat} {kvs : List (Option Int × V)} (it : Addr) : Turn P w K tg (ItN P w d kvs ep) [it] it (fun i h => h.IsKeyIter it d i kvs.length ep) where
  mem := by simp
  obj := fun i h st b hb => by
    have e : b = it := by simpa using hb
    subst e
    obtain ⟨oi, e, c, dd⟩ := st
    exact ⟨oi, e, fun v z => by rw [dd] at z; cases z⟩
  keep := fun i h h' st k => st.at fun oi e => k it (by simp) oi e
  item := by
    intro X hP hw hK hc i pins s σ H E I hf st hg
    subst hP hw hK
    obtain ⟨hd, hi⟩ := hg
    obtain ⟨f0, f1, f2, f3, f4, f5⟩ := hf it (by simp)
    obtain ⟨z, hs, vs, kv, hm⟩ := dn_get I hd
    obtain ⟨⟨k, v⟩, hkv⟩ : ∃ p, kvs[i]? = some p := ⟨kvs[i], List.getElem?_eq_getElem hi⟩
    have hkv2 : (kvK kvs)[i]? = some (kk k, v) := by simp [kvK, hkv]
    obtain ⟨u, hu, ru⟩ := kv_get kv hkv2
    have hl : kvs.length = vs.length := by rw [← kv.length]; simp [kvK]
    rw [hl] at st
    refine wpAny_pyNext_dict_item st hm hu fun key h' hkey st' sb => ?_
    have I1 : Inv X pins σ H { s with heap := h' } := I.turned (t' := s.toks) (fun b ob hb e => (sb.2 b hb).trans e) f0 f1 f3 f4 f5
    obtain ⟨oi, e, c, dd⟩ := id st'
    refine ⟨key, rfl, go_of (s := { s with heap := h' }) e c dd (by decide) ⟨ov k, H, I1, relV_keyN (show nkIs (kk k) key = true from hkey), ⟨rfl, k, v, hkv, rfl⟩, ?_, fun b hb => (hf b hb).1⟩⟩
    show h'.IsKeyIter it d (i + 1) kvs.length _
    rw [hl]
    exact st'
  done := by
    intro X hP hw hK hc i pins s σ H E I hf st hg
    subst hP hw hK
    obtain ⟨hd, hi⟩ := hg
    obtain ⟨f0, f1, f2, f3, f4, f5⟩ := hf it (by simp)
    obtain ⟨z, hs, vs, kv, hm⟩ := dn_get I hd
    have hl : kvs.length = vs.length := by rw [← kv.length]; simp [kvK]
    obtain ⟨o, es, ho, hx, hdt, hk, hp, hn⟩ := hm
    have hsz : es.size = kvs.length := by have := hp.length; rw [Array.length_toList] at this; omega
    exact next_key_end (I.ok.hd hc) st ho hdt hsz hi fun h' eb => ⟨rfl, I.turned (t' := s.toks) (fun b ob hb e => eb b ob hb e) f0 f1 f3 f4 f5⟩
  self := fun A i s Q E st h => wpAny_pyIter_keyiter st h
def iDN (P : Program) (w : World) (td : TE) : TI := fun σ H R => td σ H fun x H1 => ∃ d kvs ep, x = .ref d ∧ H1 d = some (DN P w d kvs ep) ∧ R (ItN P w d kvs ep) H1
theorem pi_DN {X : Cx} {tg e : Expr} {td : TE} (he : PE X e td) : PI X tg e (iDN X.prog X.w td) := by
  refine ⟨fun pins s σ H R I h => ?_⟩
  refine thn (he.run pins s σ H _ I h) fun u s1 ⟨x, H1, I1, rx, d, kvs, ep, ex, hd, q⟩ => ?_
  subst ex
  obtain rfl : u = Value.ref d := rx
  obtain ⟨z, hs, vs, kv, hm⟩ := dn_get I1 hd
  have hl : kvs.length = vs.length := by rw [← kv.length]; simp [kvK]
  obtain ⟨o, es, ho, hx, hdt, hk, hp, hn⟩ := hm
  have hsz : es.size = kvs.length := by have := hp.length; rw [Array.length_toList] at this; omega
  refine iter_keys hs ho hx hdt (pi_one (tk := s1.toks) I1 _ (turn_DN (ep := ep) _) ⟨_, Heap.get?_push_size _ rfl, rfl, ?_⟩ q)
  rw [hsz] <;> rfl
theorem walk_DN {P : Program} {w : World} {d : Addr} {ep : Nat} {kvs : List (Option Int × V)} : Walk (ItN P w d kvs ep) kvs.length (fun H => H d = some (DN P w d kvs ep)) (fun i H x H' => H' = H ∧ ∃ k v, kvs[i]? = some (k, v) ∧ x = ov k) :=
  ⟨fun _ _ hi q => ⟨q, hi⟩, fun _ q => ⟨q, Nat.le_refl _⟩, fun _ _ _ _ _ _ y => y⟩
/-- [f(k) for k in d if p(k)] -/
theorem st_lcDN {P : Program} {w : World} {g : TG} {tl : TE} {tt : TT} {te : TE} {vs : List Nat} {σ : L2.St} {H : Hp} {Q : VK} {a : Addr} {kvs : List (Option Int × V)} {ep : Nat} (ha : ∀ R : V → Hp → Prop, R (.ref a) H → tl σ H R) (hx : H a = some (DN P w a kvs ep)) (hz : kvs.length ≤ sizeLine) (p : Option Int → Bool) (f : Option Int → V)
    (hs : ∀ x H' (A : Hp → Prop) (B : VK), x ∈ kvs.map (·.1) → Same H H' → (p x = false → ∀ H3, Same H' H3 → A H3) → (p x = true → ∀ H4, Same H' H4 → B (f x) H4) →
      g (ov x) (wipe σ vs) H' fun σ2 H2 => wipe σ2 vs = wipe σ vs ∧ tt σ2 H2 fun b H3 => if b = true then te σ2 H3 B else A H3)
    (hd : ∀ D H', H D = none → Same H H' → H' D = some (.lst (((kvs.map (·.1)).filter p).map f)) → Q (.ref D) H') : tLc (iDN P w tl) g tt te vs σ H Q := by
  refine ha _ ⟨a, kvs, ep, rfl, hx, fun D hD => lc_it walk_DN (fun i H' => Same H H' ∧ H' D = some (.lst ((((kvs.map (·.1)).take i).filter p).map f))) ⟨Same.upd hD, upd_same⟩ (fun i H' _ q => q.1 _ _ hx) (fun i x H' H'' hi q y => ?_) (fun H' q => hd D H' hD q.1 (by rw [q.2, show kvs.length = (kvs.map (·.1)).length by simp, List.take_length]))⟩
  obtain ⟨rfl, k, v, hk, rfl⟩ := y
  have hi2 : (kvs.map (·.1))[i]? = some k := by simp [hk]
  refine hs k H'' _ _ (List.mem_of_getElem? hi2) q.1 (fun e H3 s3 => ⟨q.1.trans s3, ?_⟩) (fun e H4 s4 => ⟨_, s4 _ _ q.2, ?_, ?_, ?_⟩)
  · rw [s3 _ _ q.2, take_filter_succ hi2, e]; simp
  · have h1 : (((kvs.map (·.1)).take i).filter p).length ≤ ((kvs.map (·.1)).take i).length := List.length_filter_le _ _
    have h2 : ((kvs.map (·.1)).take i).length ≤ i := by rw [List.length_take]; exact Nat.min_le_left _ _
    rw [List.length_map]; omega
  · exact fun b u e2 => by
      have hb : b ≠ D := ne_of_none e2 hD
      rw [upd_ne hb]; exact s4 _ _ (q.1 _ _ e2)
  · rw [upd_same, take_filter_succ hi2, e]; simp
end Iz
/-! Tr -/
set_option Elab.async false
set_option linter.all false
set_option maxRecDepth 100000
set_option maxHeartbeats 4000000
namespace Iz
open PySem PySem.Spec PyProof.Rows L2
/-! ### told rows: the mathematics -/
abbrev PP := Option Int × Option Int
def inB (lo hi : Option Int) (i : Int) : Bool := (match lo with | none => true | some l => decide (l ≤ i)) && (match hi with | none => true | some h => decide (i < h))
def has (ps : List PP) (i : Int) : Bool := ps.any fun q => inB q.1 q.2 i
theorem has_iff {ps : List PP} {i : Int} : has ps i = true ↔ ∃ q ∈ ps, inB q.1 q.2 i = true := by simp only [has, List.any_eq_true]
theorem has_nil {i : Int} : has [] i = false := rfl
theorem has_app {ps qs : List PP} {i : Int} : has (ps ++ qs) i = (has ps i || has qs i) := by simp [has]
theorem has_one {q : PP} {i : Int} : has [q] i = inB q.1 q.2 i := by simp [has]
theorem has_take {ps : List PP} {i : Nat} {q : PP} (h : ps[i]? = some q) {j : Int} : has (ps.take (i + 1)) j = (has (ps.take i) j || inB q.1 q.2 j) := by rw [List.take_succ, h, has_app]; simp [has_one]
def okB : PP → Prop
  | (some a, some b) => a < b
  | _ => True
def ghigh : Option Int → Option Int → Option Int
  | none, _ => none
  | _, none => none
  | some a, some b => some (if a > b then a else b)
theorem in_ghigh {l h h' : Option Int} {i : Int} : inB l (ghigh h h') i = (inB l h i || inB l h' i) := by
  cases h with
  | none => cases l <;> cases h' <;> simp [inB, ghigh] <;> (intros; assumption)
  | some a => cases h' with
    | none => cases l <;> simp [inB, ghigh] <;> (intros; assumption)
    | some b =>
      have : decide (i < if a > b then a else b) = (decide (i < a) || decide (i < b)) := by
        by_cases h1 : i < a <;> by_cases h2 : i < b <;> simp [h1, h2] <;> split <;> omega
      cases l <;> simp only [inB, ghigh, this, Bool.true_and, Bool.and_or_distrib_left]
theorem okB_ghigh {l h h' : Option Int} (k : okB (l, h)) : okB (l, ghigh h h') := by
  cases l <;> cases h <;> cases h' <;> simp_all [okB, ghigh]
  split <;> omega
def keyO (ts : List PP) (k : Option Int) : Option (Option Int) := (ts.find? fun p => decide (p.1 = k)).map (·.2)
def putO (ts : List PP) (k v : Option Int) : List PP := if (ts.any fun p => decide (p.1 = k)) = true then ts.map (fun p => if p.1 = k then (p.1, v) else p) else ts ++ [(k, v)]
def toV (ts : List PP) : List (Option Int × V) := ts.map fun p => (p.1, ov p.2)
theorem valV_toV (ts : List PP) (k : Option Int) : valV (toV ts) k = (keyO ts k).map ov := by
  induction ts with
  | nil => rfl
  | cons p r ih =>
    by_cases e : p.1 = k
    · rw [show toV (p :: r) = (p.1, ov p.2) :: toV r from rfl, valV_pos (p := (p.1, ov p.2)) e]; simp [keyO, e]
    · rw [show toV (p :: r) = (p.1, ov p.2) :: toV r from rfl, valV_neg (p := (p.1, ov p.2)) e, ih]; simp [keyO, e]
theorem any_toV (ts : List PP) (k : Option Int) : ((toV ts).any fun kv => decide (kv.1 = k)) = ts.any fun p => decide (p.1 = k) := by simp [toV, List.any_map, Function.comp_def]
theorem putK_toV (ts : List PP) (k v : Option Int) : putK (toV ts) k (ov v) = toV (putO ts k v) := by
  unfold putK putO
  rw [any_toV]
  split
  · simp only [toV, List.map_map]
    refine List.map_congr_left fun p _ => ?_
    by_cases e : p.1 = k <;> simp [e]
  · simp [toV]
abbrev NdK (ts : List PP) : Prop := (ts.map (·.1)).Nodup
theorem keyO_mem {ts : List PP} {k h : Option Int} (e : keyO ts k = some h) : (k, h) ∈ ts := by
  unfold keyO at e
  obtain ⟨p, hp, rfl⟩ := Option.map_eq_some_iff.mp e
  have h1 := List.mem_of_find?_eq_some hp
  have h2 := List.find?_some hp
  simp only [decide_eq_true_eq] at h2
  subst h2
  exact h1
theorem mem_keyO {ts : List PP} (n : NdK ts) {q : PP} (h : q ∈ ts) : keyO ts q.1 = some q.2 := by
  induction ts with
  | nil => simp at h
  | cons p r ih =>
    simp only [NdK, List.map_cons, List.nodup_cons] at n
    rcases List.mem_cons.mp h with rfl | h
    · simp [keyO]
    · have ne : ¬ p.1 = q.1 := fun z => n.1 (by rw [z]; exact List.mem_map.mpr ⟨q, h, rfl⟩)
      have := ih n.2 h
      simp only [keyO, List.find?_cons, decide_eq_false ne] at this ⊢
      exact this
theorem any_keyO {ts : List PP} {k : Option Int} : (ts.any fun p => decide (p.1 = k)) = (keyO ts k).isSome := by
  unfold keyO
  rw [Option.isSome_map]
  induction ts with
  | nil => rfl
  | cons p r ih => by_cases e : p.1 = k <;> simp [e, ih]
theorem has_putO_some {ts : List PP} (n : NdK ts) {k h h' : Option Int} (e : keyO ts k = some h) {i : Int} : has (putO ts k (ghigh h h')) i = (has ts i || inB k h' i) := by
  rw [Bool.eq_iff_iff, Bool.or_eq_true, has_iff, has_iff]
  unfold putO
  rw [if_pos (by rw [any_keyO, e]; rfl)]
  constructor
  · rintro ⟨q, hq, hi⟩
    obtain ⟨p, hp, rfl⟩ := List.mem_map.mp hq
    by_cases c : p.1 = k
    · have e2 := mem_keyO n hp
      rw [c, e] at e2
      rw [if_pos c] at hi
      simp only [in_ghigh, Bool.or_eq_true] at hi
      rcases hi with hi | hi
      · exact .inl ⟨p, hp, by rw [← Option.some.inj e2]; exact hi⟩
      · exact .inr (by rw [← c]; exact hi)
    · rw [if_neg c] at hi; exact .inl ⟨p, hp, hi⟩
  · rintro (⟨p, hp, hi⟩ | hi)
    · refine ⟨_, List.mem_map.mpr ⟨p, hp, rfl⟩, ?_⟩
      by_cases c : p.1 = k
      · have e2 := mem_keyO n hp
        rw [c, e] at e2
        rw [if_pos c]
        simp only [in_ghigh, Option.some.inj e2, hi, Bool.true_or]
      · rw [if_neg c]; exact hi
    · refine ⟨_, List.mem_map.mpr ⟨(k, h), keyO_mem e, rfl⟩, ?_⟩
      rw [if_pos rfl]
      simp only [in_ghigh, hi, Bool.or_true]
theorem has_putO_none {ts : List PP} {k h' : Option Int} (e : keyO ts k = none) {i : Int} : has (putO ts k h') i = (has ts i || inB k h' i) := by
  unfold putO
  rw [if_neg (by rw [any_keyO, e]; decide), has_app, has_one]
theorem putO_nd {ts : List PP} (n : NdK ts) {k v : Option Int} : NdK (putO ts k v) := by
  unfold putO
  split
  · have : (ts.map fun p => if p.1 = k then (p.1, v) else p).map (·.1) = ts.map (·.1) := by
      rw [List.map_map]
      refine List.map_congr_left fun p _ => ?_
      by_cases e : p.1 = k <;> simp [e]
    unfold NdK; rw [this]; exact n
  · rename_i h
    rw [List.any_eq_true] at h
    simp only [NdK, List.map_append, List.map_cons, List.map_nil]
    refine List.nodup_append.mpr ⟨n, by simp, fun a ha b hb => ?_⟩
    simp only [List.mem_singleton] at hb
    subst hb
    rintro rfl
    obtain ⟨p, hp, rfl⟩ := List.mem_map.mp ha
    exact h ⟨p, hp, by simp⟩
theorem putO_ok {ts : List PP} (o : ∀ q ∈ ts, okB q) {k v : Option Int} (hk : okB (k, v)) : ∀ q ∈ putO ts k v, okB q := by
  unfold putO
  split
  · intro q hq
    obtain ⟨p, hp, rfl⟩ := List.mem_map.mp hq
    by_cases e : p.1 = k
    · rw [if_pos e, e]; exact hk
    · rw [if_neg e]; exact o p hp
  · intro q hq
    rcases List.mem_append.mp hq with h | h
    · exact o q h
    · rw [List.mem_singleton.mp h]; exact hk
theorem putO_len {ts : List PP} {k v : Option Int} : (putO ts k v).length ≤ ts.length + 1 := by unfold putO; split <;> simp
/-- none is least -/
def ltL : Option Int → Option Int → Prop
  | none, some _ => True
  | some a, some b => a < b
  | _, none => False
def leL : Option Int → Option Int → Prop
  | none, _ => True
  | some a, some b => a ≤ b
  | some _, none => False
abbrev Asc (qs : List PP) : Prop := qs.Pairwise fun p q => ltL p.1 q.1
def lowsO (ts : List PP) : List Int := ts.filterMap (·.1)
def valO (ts : List PP) (k : Option Int) : Option Int := (keyO ts k).getD none
def ascO (ts : List PP) (ys : List Int) : List PP := (if (keyO ts none).isSome = true then [(none, valO ts none)] else []) ++ ys.map fun l => (some l, valO ts (some l))
theorem mem_lowsO {ts : List PP} {l : Int} : l ∈ lowsO ts ↔ ∃ h, (some l, h) ∈ ts := by
  simp only [lowsO, List.mem_filterMap]
  constructor
  · rintro ⟨p, hp, e⟩; exact ⟨p.2, by rw [← e]; exact hp⟩
  · rintro ⟨h, hp⟩; exact ⟨_, hp, rfl⟩
theorem mem_ascO {ts : List PP} (n : NdK ts) {ys : List Int} (hy : ys.Perm (lowsO ts)) {q : PP} : q ∈ ascO ts ys ↔ q ∈ ts := by
  have val : ∀ {k h}, (k, h) ∈ ts → valO ts k = h := fun {k h} m => by unfold valO; rw [mem_keyO n m]; rfl
  simp only [ascO, List.mem_append, List.mem_map, hy.mem_iff, mem_lowsO]
  obtain ⟨k, h⟩ := q
  constructor
  · rintro (c | ⟨l, ⟨h2, m⟩, e⟩)
    · split at c
      · rename_i hs
        obtain ⟨h2, e2⟩ := Option.isSome_iff_exists.mp hs
        have m := keyO_mem e2
        rw [val m, List.mem_singleton] at c
        rw [c]; exact m
      · simp at c
    · rw [val m] at e; rw [← e]; exact m
  · intro m
    cases k with
    | none => exact .inl (by rw [if_pos (by rw [mem_keyO n m]; rfl), val m]; simp)
    | some l => exact .inr ⟨l, ⟨h, m⟩, by rw [val m]⟩
theorem has_ascO {ts : List PP} (n : NdK ts) {ys : List Int} (hy : ys.Perm (lowsO ts)) {i : Int} : has (ascO ts ys) i = has ts i := by
  rw [Bool.eq_iff_iff, has_iff, has_iff]
  simp only [mem_ascO n hy]
theorem lowsO_nd {ts : List PP} (n : NdK ts) : (lowsO ts).Nodup := by
  have : lowsO ts = (ts.map (·.1)).filterMap id := by simp [lowsO, List.filterMap_map, Function.comp_def]
  rw [this]
  refine List.Pairwise.filterMap id (R := (· ≠ ·)) (S := (· ≠ ·)) (fun a b h c hc d hd e => h ?_) n
  simp only [id] at hc hd
  rw [hc, hd, e]
theorem ascO_asc {ts : List PP} (n : NdK ts) {ys : List Int} (hy : ys.Perm (lowsO ts)) (hs : ys.Pairwise (· ≤ ·)) : Asc (ascO ts ys) := by
  have nd : ys.Nodup := hy.nodup_iff.mpr (lowsO_nd n)
  have lt : ys.Pairwise (· < ·) := (hs.and nd).imp fun h => by have h1 := h.1; have h2 := h.2; omega
  refine List.pairwise_append.mpr ⟨by split <;> simp, List.pairwise_map.mpr (lt.imp fun h => h), fun p hp q hq => ?_⟩
  split at hp
  · rw [List.mem_singleton.mp hp]
    obtain ⟨l, _, rfl⟩ := List.mem_map.mp hq
    trivial
  · simp at hp
theorem lows_map (ts : List PP) : (((toV ts).map (·.1)).filter Option.isSome).map (fun o => V.int (o.getD 0)) = (lowsO ts).map V.int := by
  induction ts with
  | nil => rfl
  | cons p r ih =>
    have e : toV (p :: r) = (p.1, ov p.2) :: toV r := rfl
    rw [e]
    obtain ⟨l, h⟩ := p
    cases l with
    | none => simpa [lowsO, List.filter_cons] using ih
    | some a => simpa [lowsO, List.filter_cons] using ih
theorem ascO_len {ts : List PP} {ys : List Int} (hy : ys.Perm (lowsO ts)) : (ascO ts ys).length ≤ ts.length := by
  have key : (lowsO ts).length + (if (ts.any fun p => decide (p.1 = none)) = true then 1 else 0) ≤ ts.length := by
    clear hy
    induction ts with
    | nil => simp [lowsO]
    | cons p r ih =>
      obtain ⟨l, h⟩ := p
      have e : lowsO ((l, h) :: r) = (match l with | none => lowsO r | some a => a :: lowsO r) := by cases l <;> rfl
      rw [e]
      cases l with
      | none => simp only [List.any_cons, decide_true, Bool.true_or, if_true, List.length_cons]; split at ih <;> omega
      | some a => simp only [List.any_cons, List.length_cons, show decide (some a = (none : Option Int)) = false from rfl, Bool.false_or]; split at ih <;> rename_i c <;> simp only [c, if_true, if_false, Bool.false_eq_true] <;> omega
  rw [any_keyO] at key
  unfold ascO
  rw [List.length_append, List.length_map, hy.length_eq]
  split at key <;> rename_i c <;> simp only [c, if_true, if_false, Bool.false_eq_true, List.length_cons, List.length_nil] <;> omega
/-! the row -/
def gapP (p q : PP) : Prop := ∃ h l, p.2 = some h ∧ q.1 = some l ∧ h < l
structure Norm (rs : List PP) : Prop where
  ok : ∀ p ∈ rs, okB p
  gap : rs.Pairwise gapP
theorem Norm.nil : Norm [] := ⟨by simp, .nil⟩
theorem Norm.app {rs : List PP} (N : Norm rs) {q : PP} (hq : okB q) (hl : ∀ p, rs.getLast? = some p → gapP p q) : Norm (rs ++ [q]) := by
  refine ⟨fun p hp => (List.mem_append.mp hp).elim (N.ok p) fun h => by rw [List.mem_singleton.mp h]; exact hq, List.pairwise_append.mpr ⟨N.gap, by simp, fun p hp x hx => ?_⟩⟩
  rw [List.mem_singleton.mp hx]
  clear hx x
  rcases List.eq_nil_or_concat rs with rfl | ⟨r0, z, rfl⟩
  · simp at hp
  · have hz := hl z (by simp)
    rw [List.concat_eq_append] at hp N
    rcases List.mem_append.mp hp with h | h
    · have g := (List.pairwise_append.mp N.gap).2.2 p h z (by simp)
      have okz := N.ok z (by simp)
      obtain ⟨h1, l1, e1, e2, lt1⟩ := g
      obtain ⟨h2, l2, e3, e4, lt2⟩ := hz
      obtain ⟨zl, zh⟩ := z
      simp only at e2 e3
      subst e2 e3
      have okz : l1 < h2 := okz
      exact ⟨h1, l2, e1, e4, by omega⟩
    · rw [List.mem_singleton.mp h]; exact hz
theorem Norm.merge {r0 : List PP} {b e h : Option Int} (N : Norm (r0 ++ [(b, e)])) : Norm (r0 ++ [(b, ghigh e h)]) := by
  obtain ⟨g1, _, g3⟩ := List.pairwise_append.mp N.gap
  refine ⟨fun p hp => ?_, List.pairwise_append.mpr ⟨g1, by simp, fun p hp x hx => ?_⟩⟩
  · rcases List.mem_append.mp hp with h | h
    · exact N.ok p (List.mem_append.mpr (.inl h))
    · rw [List.mem_singleton.mp h]; exact okB_ghigh (N.ok (b, e) (by simp))
  · rw [List.mem_singleton.mp hx]
    exact g3 p hp (b, e) (by simp)
theorem has_merge {r0 : List PP} {b e l h : Option Int} {i : Int} (hb : leL b l) (hl : e = none ∨ ∃ x y, l = some x ∧ e = some y ∧ x ≤ y) : has (r0 ++ [(b, ghigh e h)]) i = (has (r0 ++ [(b, e)]) i || inB l h i) := by
  simp only [has_app, has_one, in_ghigh, Bool.or_assoc]
  congr 1
  rcases hl with rfl | ⟨x, y, rfl, rfl, hxy⟩
  · cases b with
    | none => simp [inB]
    | some b0 => cases l with
      | none => exact hb.elim
      | some l0 =>
        have hb : b0 ≤ l0 := hb
        cases h with
        | none => by_cases c : b0 ≤ i <;> by_cases c2 : l0 ≤ i <;> simp [inB, c, c2]; omega
        | some h0 => by_cases c : b0 ≤ i <;> by_cases c2 : l0 ≤ i <;> by_cases c3 : i < h0 <;> simp [inB, c, c2, c3]; omega
  · cases b with
    | none =>
      cases h with
      | none => by_cases c : i < y <;> by_cases c2 : x ≤ i <;> simp [inB, c, c2]; omega
      | some h0 => by_cases c : i < y <;> by_cases c2 : x ≤ i <;> by_cases c3 : i < h0 <;> simp [inB, c, c2, c3]; omega
    | some b0 =>
      have hb : b0 ≤ x := hb
      cases h with
      | none => by_cases c0 : b0 ≤ i <;> by_cases c : i < y <;> by_cases c2 : x ≤ i <;> simp [inB, c, c2, c0] <;> omega
      | some h0 => by_cases c0 : b0 ≤ i <;> by_cases c : i < y <;> by_cases c2 : x ≤ i <;> by_cases c3 : i < h0 <;> simp [inB, c, c2, c3, c0] <;> omega
end Iz
/-! Sp -/
set_option Elab.async false
set_option linter.all false
set_option maxRecDepth 100000
set_option maxHeartbeats 4000000
namespace Iz
open PySem PySem.Spec PyProof.Rows L2
/-! ### xs.pop(), tuple(xs), enumerate, isinstance of several classes -/
def tPop (to : TE) : TE := fun σ H Q => to σ H fun x H1 => ∃ l xs y, x = .ref l ∧ H1 l = some (.lst (xs ++ [y])) ∧ ∀ H3, Put H1 H3 l (.lst xs) → Q y H3
theorem pe_popN {X : Cx} {o : Expr} {to : TE} {apos cpos : Pos} (ho : PE X o to)
    (hbase : attributeBase o "pop" X.env (eval o X.env) = eval o X.env := by rfl) (hline : (apos.endLine == cpos.line) = true := by rfl) : PE X (.Call (.Attribute o "pop" apos) [] [] cpos) (tPop to) :=
  PE.imp (pe_bm0 PySem.F.plainAttrs_list PySem.F.slot_list_pop PySem.F.type_list_pop mt_pop (PE.mcl ho) hbase hline) fun σ H Q q =>
    ⟨_, q, fun x H1 ⟨l, xs, y, hx, hl, q⟩ => by subst hx; exact ⟨.inl ⟨rfl, _, SqL.of hl⟩, l, _, y, rfl, rfl, hl, by simp, q _ ⟨by rw [upd_same, List.dropLast_concat], fun _ h => upd_ne h⟩⟩⟩
def rTupN : List V → Hp → VK → Prop := fun xs H Q => ∃ p ys, xs = [.ref p] ∧ H p = some (.lst ys) ∧ News H (.tup ys) Q
theorem call_tupN {X : Cx} : CallR X (.type "tuple") rTupN := fun pins s σ H xs us Q I r ⟨p, ys, e, hp, n⟩ => call_tuple_of pins s σ H xs us Q I r ⟨p, ys, e, .inl ⟨SqL.of hp, n.all⟩⟩
theorem st_forE {K : PySem.W.Frag} {g : TG} {tb : TS} {D : Ends} {σ : L2.St} {H : Hp} {ta : TA} {a : Addr} {xs : List V} (ha : ∀ R : List V → Hp → Prop, R [.ref a] H → ta σ H R) (hx : H a = some (.lst xs)) (Pv : Nat → L2.St → Hp → Prop) (h0 : Pv 0 σ H) (hl : ∀ i σ H, Pv i σ H → H a = some (.lst xs))
    (hs : ∀ i x T σ H H', xs[i]? = some x → Pv i σ H → Same H H' → H' T = some (.tup [.int (i : Nat), x]) → g (.ref T) σ H' fun σ2 H2 => tb { D with nx := Pv (i + 1), ct := Pv (i + 1), bk := D.nx } σ2 H2) (hd : ∀ σ H, Pv xs.length σ H → D.nx σ H) : tFor (iEnum K ta) g tb D σ H :=
  ha _ ⟨a, xs, rfl, SqL.of hx, for_it walk_enum Pv h0 (fun i σ H _ p => SqL.of (hl i σ H p)) (fun i v σ H H' hi p y => by
    obtain ⟨T, x, z, rfl, hT, rfl, e1, e2⟩ := y
    cases e1
    exact hs i z T σ H _ e2 p (Same.upd hT) upd_same) hd⟩
/-- a comprehension over the pairs of a list -/
theorem ix_DNk {X : Cx} {P : Program} {w : World} (e : X.prog = P) (e2 : X.w = w) : IxR X (rIxDN P w) := e ▸ e2 ▸ ix_DN
theorem op_inDNk {X : Cx} {P : Program} {w : World} (e : X.prog = P) (e2 : X.w = w) : OpR X (compareOp .In) (rInDN P w) := e ▸ e2 ▸ op_inDN
theorem set_DNk {X : Cx} {P : Program} {w : World} (e : X.prog = P) (e2 : X.w = w) : PSet X (rSetDN P w) := e ▸ e2 ▸ set_DN
theorem pi_DNk {X : Cx} {P : Program} {w : World} (e : X.prog = P) (e2 : X.w = w) {tg x : Expr} {td : TE} (he : PE X x td) : PI X tg x (iDN P w td) := by subst e e2; exact pi_DN he
theorem pe_dnNk {X : Cx} {P : Program} {w : World} (e : X.prog = P) (e2 : X.w = w) {pos : Pos} : PE X (.Dict [] [] pos) (tDNew P w) := by subst e e2; exact pe_dnN
/-! ### what may raise, asked where it does not -/
def calmS (sp : Sp) : Sp := fun vs H Q _ => sp vs H Q (fun _ _ _ => False)
section
variable {P : Program} {w : World} {K : PySem.W.Frag} {mg : Str → Option Value} {base : Heap} {k : Nat} {x m : Str} {ps : List Str} {dvs : List V} {sp : Sp}
theorem fn_calm {f : Addr} {fd : FuncData} (F : FnOk P w K mg base (L2.CX P w) k f fd ps sp) : FnOk P w K mg base CX0 k f fd ps (calmS sp) :=
  ⟨fun vs H Q E q => F.len vs H Q _ q, fun A outer s H args us vs Q E hr he hb hv hs => codeAny_mono (F.run A outer s H args us vs Q _ hr he hb hv hs) fun r s' q => by
    cases r with
    | error e => obtain ⟨_, _, _, _, _, _, _, _, _, _, _, _, z⟩ := q; exact z.elim
    | ok fl => cases fl <;> exact q⟩
theorem OkF.calm (F : OkF P w K mg base (L2.CX P w) k x ps sp) : OkF P w K mg base CX0 k x ps (calmS sp) :=
  let ⟨f, fd, g, kp, b, G⟩ := F.ex
  ⟨f, fd, g, kp, b, fn_calm G⟩
theorem OkM.calm (F : OkM P w K mg base (L2.CX P w) k x m ps dvs sp) : OkM P w K mg base CX0 k x m ps dvs (calmS sp) :=
  let ⟨f, fd, M, b, G⟩ := F.ex
  ⟨f, fd, M, b, fn_calm G⟩
theorem OkK.calm (F : OkK P w K mg base (L2.CX P w) k x ps dvs sp) : OkK P w K mg base CX0 k x ps dvs (calmS sp) :=
  let ⟨f, fd, si, M, g, b, G, q⟩ := F.ex
  ⟨f, fd, calmS si, M, g, b, fn_calm G, fun vs H Q E h p dx h1 h2 h3 => q vs H Q _ h p dx h1 h2 h3⟩
end
theorem BindD.cut {K : PySem.W.Frag} {fd : FuncData} {ps : List Str} {d : V} (b : BindD K fd ps [d]) : BindD K fd ps [] := fun j hj => by
  obtain ⟨ds, h1, h2⟩ := b 1 (Nat.le_refl _)
  exact ⟨ds, by rw [List.drop_nil]; exact h1, h2⟩
theorem lc_inT {K : PySem.W.Frag} {tl : TE} {g : TG} {tt : TT} {te : TE} {vs : List Nat} {σ : L2.St} {H : Hp} {Q : VK} (h : tl σ H fun x H1 => tLc (iTup K fun _ H R => R x H) g tt te vs σ H1 Q) : tLc (iTup K tl) g tt te vs σ H Q := h
theorem lc_inL {K : PySem.W.Frag} {tl : TE} {g : TG} {tt : TT} {te : TE} {vs : List Nat} {σ : L2.St} {H : Hp} {Q : VK} (h : tl σ H fun x H1 => tLc (iList K fun _ H R => R x H) g tt te vs σ H1 Q) : tLc (iList K tl) g tt te vs σ H Q := h
/-- ints picked out of the items of a tuple -/
theorem st_lcO {K : PySem.W.Frag} {tl : TE} {g : TG} {tt : TT} {te : TE} {vs : List Nat} {σ : L2.St} {H : Hp} {Q : VK} {a : Addr} {xs : List V} {os : List (Option Int)} (ha : ∀ R : V → Hp → Prop, R (.ref a) H → tl σ H R) (hx : H a = some (.tup xs)) (hl : xs.length = os.length) (hz : os.length ≤ 1000)
    (hs : ∀ (i : Nat) (x : V) (o : Option Int) (H' : Hp) (A : Hp → Prop) (B : VK), xs[i]? = some x → os[i]? = some o → Same H H' → (o = none → A H') → (∀ z, o = some z → B (.int z) H') →
      g x (wipe σ vs) H' fun σ2 H2 => wipe σ2 vs = wipe σ vs ∧ tt σ2 H2 fun b H3 => if b = true then te σ2 H3 B else A H3)
    (hd : ∀ D H', H D = none → Same H H' → H' D = some (.lst ((os.filterMap id).map V.int)) → Q (.ref D) H') : tLc (iTup K tl) g tt te vs σ H Q := by
  refine ha _ ⟨a, rfl, ⟨xs, SqT.of hx⟩, fun D hD => lc_tup (fun i H' => Same H H' ∧ H' D = some (.lst (((os.take i).filterMap id).map V.int))) ⟨Same.upd hD, upd_same⟩ (fun i H' _ q => SqT.of (q.1 _ _ hx)) (fun i x H' hi q => ?_) (fun H' q => hd D H' hD q.1 (by rw [q.2, hl, List.take_length]))⟩
  have hi2 := (List.getElem?_eq_some_iff.mp hi).1
  obtain ⟨o, ho⟩ : ∃ o, os[i]? = some o := ⟨os[i]'(by omega), List.getElem?_eq_getElem (by omega)⟩
  refine hs i x o H' _ _ hi ho q.1 (fun e => ⟨q.1, ?_⟩) (fun z e => ⟨_, q.2, ?_, ?_, ?_⟩)
  · rw [q.2, List.take_succ, ho, e]; simp
  · have h1 : ((os.take i).filterMap id).length ≤ (os.take i).length := List.length_filterMap_le _ _
    have h2 : (os.take i).length ≤ i := by rw [List.length_take]; exact Nat.min_le_left _ _
    rw [List.length_map, sizeLine_eq]; omega
  · exact fun b u e2 => by rw [upd_ne (ne_of_none e2 hD)]; exact q.1 _ _ e2
  · rw [upd_same, List.take_succ, ho, e]; simp
/-- [f(n) for n in ns], each as it is -/
theorem st_lcCp {K : PySem.W.Frag} {tl : TE} {g : TG} {tt : TT} {te : TE} {vs : List Nat} {σ : L2.St} {H : Hp} {Q : VK} {a : Addr} {ns : List Int} (ha : ∀ R : V → Hp → Prop, R (.ref a) H → tl σ H R) (hx : H a = some (.lst (ns.map V.int))) (hz : ns.length ≤ 1000)
    (hs : ∀ (n : Int) (H' : Hp) (A : Hp → Prop) (B : VK), B (.int n) H' → g (.int n) (wipe σ vs) H' fun σ2 H2 => wipe σ2 vs = wipe σ vs ∧ tt σ2 H2 fun b H3 => if b = true then te σ2 H3 B else A H3)
    (hd : ∀ D H', H D = none → Same H H' → H' D = some (.lst (ns.map V.int)) → Q (.ref D) H') : tLc (iList K tl) g tt te vs σ H Q := by
  refine st_lcLF ha hx (by rw [List.length_map, sizeLine_eq]; omega) (fun _ => true) (fun v => v) (fun x H' A B hx s hA hB => ?_) (fun D H' nD s h' => hd D H' nD s (by rw [h']; simp))
  obtain ⟨n, _, rfl⟩ := List.mem_map.mp hx
  exact hs n H' A B (hB rfl H' (fun _ _ h => h))
theorem none_of {H H' : Hp} {r : Addr} (s : Same H H') (n : H' r = none) : H r = none := by
  cases e : H r with
  | none => rfl
  | some o => rw [s _ _ e] at n; cases n
theorem PAll.last {H : Hp} {z0 : List V} {y : V} {rs : List PP} (h : PAll H (z0 ++ [y]) rs) : ∃ t r0 p, y = .ref t ∧ rs = r0 ++ [p] ∧ PAll H z0 r0 ∧ H t = some (.tup [ov p.1, ov p.2]) := by
  induction z0 generalizing rs with
  | nil => cases h with | cons e t => cases t; exact ⟨_, [], _, rfl, rfl, .nil, e⟩
  | cons z z0 ih => cases h with | cons e t => obtain ⟨t', r0, p, e1, e2, e3, e4⟩ := ih t; subst e2; exact ⟨t', _ :: r0, p, e1, rfl, .cons e e3, e4⟩
theorem ixN_end {n : Nat} (h : 0 < n) : ixN n (-1) = some (n - 1) := by
  unfold ixN
  rw [if_neg (by decide), if_pos (by omega)]
  congr 1; omega
theorem atI_end {α : Type} {xs : List α} {x : α} : atI (xs ++ [x]) (-1) = some x := by
  unfold atI
  rw [ixN_end (by simp)]
  simp
theorem drop_at {α : Type} {xs : List α} {i : Nat} {x : α} (h : xs[i]? = some x) : xs.drop i = x :: xs.drop (i + 1) := by
  obtain ⟨h1, rfl⟩ := List.getElem?_eq_some_iff.mp h
  exact List.drop_eq_getElem_cons h1
theorem ltL.le {a b : Option Int} (h : ltL a b) : leL a b := by cases a <;> cases b <;> simp_all [ltL, leL]; omega
theorem scalO {a b : Option Int} : scal (ov a) (ov b) = true := by cases a <;> cases b <;> rfl
theorem ov_inj {a b : Option Int} (h : ov a = ov b) : a = b := by cases a <;> cases b <;> simp_all [ov]
theorem kitAny_ll {K : PySem.W.Frag} : PySem.W.kitAny K (.type "list") [.type "list", .type "tuple"] = some true := kitAny_cons (b := true) (kit_ty (by decide +kernel)) (fun h => by cases h) (fun _ => rfl)
theorem kitAny_tl {K : PySem.W.Frag} : PySem.W.kitAny K (.type "tuple") [.type "list", .type "tuple"] = some true := kitAny_cons (b := false) (kit_ty (by decide +kernel)) (fun _ => kitAny_cons (b := true) (kit_ty (by decide +kernel)) (fun h => by cases h) (fun _ => rfl)) (fun h => by cases h)
end Iz
/-! Rp -/
set_option Elab.async false
set_option linter.all false
set_option maxRecDepth 100000
set_option maxHeartbeats 4000000
namespace Iz
open PySem PySem.Spec PyProof.Rows L2
/-! ### repr of a tuple of ints and of an empty list, where it is not known what else is being told -/
theorem codeAny_guards {M : Model} {A : Around} {c : Code} {R : Result → Shared → Prop} {s : Shared} (h : ∀ g, codeAny M { A with guards := some g } c R s) : codeAny M A c R s :=
  fun Γ p hc hB => h (guardsOf Γ.below) Γ p hc ⟨hB.1, hB.2.1, hB.2.2.1, fun g hg => by cases hg; rfl, hB.2.2.2.2⟩
/-- the text of a tuple, if it isn't being told just now -/
def tupZ (g : List Code) (a : Addr) (ts : List Str) : Str := if (g.any fun c => tupGuardF (.ref a) (c, default)) = true then "(...)" else tupleText ts
section
variable {prog : Program} {w : World} {A : Around} {E : Value → Shared → Prop} {s : Shared} {a : Addr} {o : Obj} {items : Array Value} {n : Nat} {ts : List Str} {g : List Code}
theorem own_tupZ {Q : Fin → Shared → Prop} {c : Code} (hg : A.guards = some g)
    (ha : s.heap.get? a = some o) (hd : o.data = .seq items n) (hT : ReprAll prog w items.toList ts)
    (h : ∀ u tk, Q (.done (.ret (.str (tupZ g a ts) u))) { s with toks := tk }) (hsz : (tupleText ts).length ≤ sizeLine) :
    wpOwn (model prog w) A c (Builtin.tupleReprAt 0 ⟨[.ref a], []⟩) Q E s := by
  rw [tuple_repr_tree, tupleReprUnderWay_eq]
  refine wpOwn_bind (wpOwn_stackTailAny hg (tupGuardF_off _) (tupGuardF_pos _) ?_)
  unfold tupZ at h
  cases e : g.any fun c => tupGuardF (.ref a) (c, default) with
  | true =>
    rw [e] at h
    refine wpOwn_of_wpAny ?_
    simp only [if_true]
    refine wpAny_bind (wpAny_rule ?_)
    exact wpAny_bind (wpAny_mkStr (wpAny_pure (h _ _)) (by decide))
  | false =>
    rw [e] at h
    exact wpOwn_of_wpAny (wpAny_tupleReprRest ha hd hT h (by omega))
theorem call_tupZ {Q : Value → Shared → Prop} (hTy : s.TypeIs (.ref a) "tuple") (hg : A.guards = some g)
    (ha : s.heap.get? a = some o) (hd : o.data = .seq items n) (hT : ReprAll prog w items.toList ts)
    (hQ : ∀ u tk, Q (.str (tupZ g a ts) u) { s with toks := tk }) (hsz : (tupleText ts).length ≤ sizeLine) :
    wpAny (model prog w) A (call (.builtin "tuple.__repr__") [.ref a]) Q E s :=
  wpAny_call (codeAny_call_builtin_own (Code.quiet_builtin _ (by decide +kernel)) F.entry_tuple_repr (F.slot_tuple_repr.check _ _ _ _ _ _ _ _ hTy (F.args_tuple_repr_1 _) (own_tupZ hg ha hd hT hQ hsz)))
theorem repr_tupZ {Q : Value → Shared → Prop} (hu : A.units + 1 < cLine) (hTy : s.TypeIs (.ref a) "tuple") (hg : A.guards = some g)
    (ha : s.heap.get? a = some o) (hd : o.data = .seq items n) (hT : ReprAll prog w items.toList ts)
    (hQ : ∀ u tk, Q (.str (tupZ g a ts) u) { s with toks := tk }) (hsz : (tupleText ts).length ≤ sizeLine) :
    wpAny (model prog w) A (call (.builtin "repr") [.ref a]) Q E s := by
  refine Calls.call_function_entry F.kind_repr F.plain_repr F.entry_repr (F.args_repr1 _) ?_
  unfold Builtin.«repr»
  refine wpAny_bind (m := oneArg "repr" _) (wpAny_pure ?_)
  refine wpAny_bind (wpAny_cRoomFor (by exact hu) ?_)
  refine wpAny_bind (wpAny_specialOf (name := Str.ofString "__repr__") hTy F.slot_tuple_repr.lookup ?_)
  refine wpAny_bind (m := callSpecialIfBound? (.ref a) (Str.ofString "__repr__")) (wpAny_callSpecialIfBound?_slotG (name := Str.ofString "__repr__") hTy F.slot_tuple_repr (call_tupZ hTy (by exact hg) ha hd hT (fun u tk => ?_) hsz))
  refine wpAny_bind (wpAny_isInstance (T := "str") (b := true) rfl isSubtype_str_str ?_)
  exact wpAny_pure ⟨_, rfl, hQ u tk⟩
theorem repr_nil {Q : Value → Shared → Prop} (hu : A.units + 1 < cLine) (hTy : s.TypeIs (.ref a) "list")
    (ha : s.heap.get? a = some o) (hd : o.data = .seq #[] n) (hQ : ∀ u tk, Q (.str "[]" u) { s with toks := tk }) :
    wpAny (model prog w) A (call (.builtin "repr") [.ref a]) Q E s := by
  refine Calls.call_function_entry F.kind_repr F.plain_repr F.entry_repr (F.args_repr1 _) ?_
  unfold Builtin.«repr»
  refine wpAny_bind (m := oneArg "repr" _) (wpAny_pure ?_)
  refine wpAny_bind (wpAny_cRoomFor (by exact hu) ?_)
  refine wpAny_bind (wpAny_specialOf (name := Str.ofString "__repr__") hTy F.slot_list_repr.lookup ?_)
  refine wpAny_bind (m := callSpecialIfBound? (.ref a) (Str.ofString "__repr__")) (wpAny_callSpecialIfBound?_slot (name := Str.ofString "__repr__") hTy F.slot_list_repr (call_list_repr_empty hTy ha hd ?_))
  refine wpAny_bind (wpAny_isInstance (T := "str") (b := true) rfl isSubtype_str_str ?_)
  exact wpAny_pure ⟨_, rfl, hQ _ _⟩
end
/-- repr(x): x plain, or a tuple of one int, or an empty list -/
def ReprG (K : PySem.W.Frag) (g : List Code) (H : Hp) (v : V) (z : Str) : Prop := ReprV v z ∨ (∃ a i, v = .ref a ∧ H a = some (.tup [.int i]) ∧ i.natAbs.log2 < 1920 ∧ (tupleText [Str.ofString (toString i)]).length ≤ sizeLine ∧ z = tupZ g a [Str.ofString (toString i)]) ∨ ∃ a, v = .ref a ∧ H a = some (.lst []) ∧ z = "[]"
theorem ReprG.mono {K : PySem.W.Frag} {g : List Code} {H H' : Hp} {v : V} {z : Str} (h : ReprG K g H v z) (s : Same H H') : ReprG K g H' v z := by
  rcases h with h | ⟨a, i, e1, e2, e3⟩ | ⟨a, e1, e2, e3⟩
  · exact .inl h
  · exact .inr (.inl ⟨a, i, e1, s _ _ e2, e3⟩)
  · exact .inr (.inr ⟨a, e1, s _ _ e2, e3⟩)
def rReprG (K : PySem.W.Frag) (g : List Code) : List V → Hp → VK → Prop := fun xs H Q => ∃ x s, xs = [x] ∧ ReprG K g H x s ∧ Q (.str s) H
theorem call_reprG {X : Cx} {g : List Code} {K : PySem.W.Frag} (eK : X.K = K) (hu : X.A.units + 1 < cLine) (hg : X.A.guards = some g) : CallR X (.builtin "repr") (rReprG K g) := by
  intro pins s σ H xs us Q I r h
  obtain ⟨x, z, rfl, hz, q⟩ := h
  rcases hz with hz | ⟨a, i, rfl, ha, hi, hl, rfl⟩ | ⟨a, rfl, ha, rfl⟩
  · exact call_reprN pins s σ H [x] us Q I r ⟨x, z, rfl, hz, q⟩
  · cases r with
    | cons rx rr =>
      cases rr
      cases rx
      obtain ⟨its, rv, pl, hz⟩ := I.tuple (SqT.of (K := X.K) ha)
      obtain ⟨o, ho, hc, n, hd⟩ := pl
      cases rv with
      | cons r1 r2 =>
        cases r2
        obtain ⟨t, rfl⟩ := r1
        refine repr_tupZ hu ⟨o, ho, hc⟩ hg ho hd (.cons (ReprIs.int t hi) .nil) (fun u tk => ?_) hl
        exact ⟨.str _, H, I.kept (t' := tk) fun _ _ z => z, ⟨_, rfl⟩, q⟩
  · cases r with
    | cons rx rr =>
      cases rr
      cases rx
      obtain ⟨its, rv, pl, hz⟩ := I.list (SqL.of (K := X.K) ha)
      obtain ⟨o, n, ho, hc, hdd, hd⟩ := pl
      cases rv
      refine repr_nil hu ⟨o, ho, hc⟩ ho (by simpa using hd) (fun u tk => ?_)
      exact ⟨.str _, H, I.kept (t' := tk) fun _ _ z => z, ⟨_, rfl⟩, q⟩
theorem tyX_at {K : PySem.W.Frag} {H H' : Hp} {x : V} {t : Value} (h : TyX K H x t) (s : ∀ b o, x = .ref b → H b = some o → H' b = some o) : TyX K H' x t := by
  cases h with
  | base b =>
    cases b with
    | non => exact .base .non
    | bl b => exact .base (.bl b)
    | int i => exact .base (.int i)
    | str y => exact .base (.str y)
    | flt y => exact .base (.flt y)
    | lst e => exact .base (.lst (s _ _ rfl e))
    | frz e => exact .base (.frz (s _ _ rfl e))
    | tup e => exact .base (.tup (s _ _ rfl e))
    | dK e => exact .base (.dK (s _ _ rfl e))
    | dT e => exact .base (.dT (s _ _ rfl e))
    | ins e a b c d f => exact .base (.ins (s _ _ rfl e) a b c d f)
  | byt b => exact .byt b
  | set e => exact .set (s _ _ rfl e)
  | kList e c => exact .kList e c
  | kTuple e c => exact .kTuple e c
  | kDict e c => exact .kDict e c
  | fTuple e => exact .fTuple (s _ _ rfl e)
  | fDict e => exact .fDict (s _ _ rfl e)
theorem wh_at {K : PySem.W.Frag} {H H' : Hp} {x : V} (h : Wh K H x) (s : ∀ b o, x = .ref b → H b = some o → H' b = some o) : Wh K H' x := let ⟨t, b, c, ty, r⟩ := h; ⟨t, b, c, tyX_at ty s, r⟩
/-- a pair of ends, or None -/
def PV (H : Hp) (v : V) : Option PP → Prop
  | none => v = .non
  | some (x, y) => ∃ a, v = .ref a ∧ H a = some (.tup [ov x, ov y])
def dPO : Option PP → PyData
  | none => .none
  | some (x, y) => .tuple [dO x, dO y]
theorem PV.mono {H H' : Hp} {v : V} {o : Option PP} (h : PV H v o) (s : Same H H') : PV H' v o := by
  cases o with
  | none => exact h
  | some p => obtain ⟨a, e, q⟩ := h; exact ⟨a, e, s _ _ q⟩
theorem PV.dp {K : PySem.W.Frag} {H : Hp} {v : V} {o : Option PP} (h : PV H v o) : Dp K H v (dPO o) := by
  cases o with
  | none => cases h; exact .non
  | some p => obtain ⟨a, rfl, q⟩ := h; exact .tup (SqT.of q) (.cons dp_ov (.cons dp_ov .nil))
theorem sh_dPO {n : Nat} {o : Option PP} : ShN (n + 1) (dPO o) := by
  cases o with
  | none => exact .non
  | some p => exact (ShN.tuple (n := 0) fun d hd => by
      simp only [List.mem_cons, List.not_mem_nil, or_false] at hd
      rcases hd with rfl | rfl <;> exact sh_dO).up (by omega)
theorem eqv_dO {a b : Option Int} : PyData.eqv (dO a) (dO b) = decide (a = b) := by
  cases a <;> cases b <;> simp [dO, PyData.eqv]
  rename_i x y
  by_cases h : x = y <;> simp [h]
theorem eqv_dPO {a b : Option PP} : PyData.eqv (dPO a) (dPO b) = decide (a = b) := by
  cases a with
  | none => cases b <;> simp [dPO, PyData.eqv]
  | some p => cases b with
    | none => simp [dPO, PyData.eqv]
    | some q =>
      obtain ⟨x, y⟩ := p
      obtain ⟨u, v⟩ := q
      simp only [dPO, PyData.eqv, PyData.eqvAll, eqv_dO, Bool.and_true]
      by_cases h1 : x = u <;> by_cases h2 : y = v <;> simp [h1, h2]
theorem eqP {K : PySem.W.Frag} {H : Hp} {R : VK} {v v' : V} {o o' : Option PP} (h : PV H v o) (h' : PV H v' o') (r : R (.bl (decide (o = o'))) H) : rEqD K v v' H R := ⟨_, _, h.dp, h'.dp, (sh_dPO (n := 0)).ok, (sh_dPO (n := 0)).ok, by rw [eqv_dPO]; exact r⟩
theorem neP {K : PySem.W.Frag} {H : Hp} {R : VK} {v v' : V} {o o' : Option PP} (h : PV H v o) (h' : PV H v' o') (r : R (.bl (!decide (o = o'))) H) : rNeD K v v' H R := ⟨_, _, h.dp, h'.dp, (sh_dPO (n := 0)).ok, (sh_dPO (n := 0)).ok, by rw [eqv_dPO]; exact r⟩
/-- as LamF.okF; the body knows which calls that tell are under way -/
theorem LamF.okFg {P : Program} {w : World} {K : PySem.W.Frag} {mg : Str → Option Value} {base : Heap} {x : Str} {st : Stmt} {N ps : List Str} {k : Nat} {sp : Sp} (F : LamF K mg x st) (S : FnScope N ps (defScope st))
    (hbind : ∀ (kV doc pm : Value) (an : Option Addr) (cdv ct : Value) (us : List Value), us.length = ps.length → bindArgs (PySem.W.fnOf x x (defArgs st) (defBody st) (defScope st) .none kV doc pm an cdv ct) ⟨us, []⟩ = pure (ps.zip us))
    (len : ∀ vs H Q E, sp vs H Q E → vs.length = ps.length)
    (hbody : ∀ (f : Addr) (A : Around) (outer : List Env) (s : Shared) (H : Hp) (vs : List V) (Q : VK) (E : XK) (g : List Code), A.guards = some g → Room k (A.deeper (envOfC x (defScope st) s.heap.objs.size f (.ref (cOf K x)))) → sp vs H Q E →
      ∃ t, PSs (cxOf (L2.CX P w) P w K mg base N x (defScope st) f (.ref (cOf K x)) A outer s H E) (defBody st) t ∧ t { nx := fun _ H' => Q .non H', rt := Q } (L2.start N vs) H) : OkF P w K mg base (L2.CX P w) (k + 1) x ps sp := by
  obtain ⟨f, oc, od, kV, doc, pm, an, ct, osl, g, kp, lk, hcd⟩ := F.ex
  refine ⟨f, _, g, kp,   .all (hbind kV doc pm an (.ref (cOf K x)) ct), len, fun A outer s H args us vs Q E hr e0 hb r hsp => codeAny_guards fun g => ?_⟩
  refine LamX.run_ofS (N := N) (vs := vs) lk hcd S (A := { A with guards := some g }) ⟨hr.hd, hr.dp, hr.un⟩ ⟨e0.frames, e0.mod, e0.bs, e0.bsz, e0.funs, e0.frf, e0.hok, e0.bare⟩ hb r (len _ _ _ _ hsp) fun hr2 => ?_
  exact hbody f { A with guards := some g } outer s H vs Q E g rfl hr2 hsp
end Iz
/-! La -/
set_option Elab.async false
set_option linter.all false
set_option maxRecDepth 100000
set_option maxHeartbeats 4000000
namespace LamX
open PySem PySem.Spec PyProof.Rows L2
/-! ### a lambda of one parameter, handed to a def that calls it -/
/-- one parameter, no other name of its own: captured ones and globals -/
structure LamP (sc scope : Scope) (p : Str) : Prop where
  kind : scope.kind = .function
  co : scope.isCoroutine = false
  gen : scope.isGenerator = false
  par : scope.names.lookup p = some .local
  own : ∀ y ∈ scope.names, (y.2 = .local → y.1 = p) ∧ y.2 ≠ .cell
  free : ∀ y ∈ scope.names, y.2 = .free → sc.names.lookup y.1 = some .cell ∨ sc.names.lookup y.1 = some .free
def lamPB (sc scope : Scope) (p : Str) : Bool :=
  decide (scope.kind = .function) && !scope.isCoroutine && !scope.isGenerator && decide (scope.names.lookup p = some .local) && scope.names.all fun y => (!decide (y.2 = .local) || decide (y.1 = p)) && !decide (y.2 = .cell) && (!decide (y.2 = .free) || decide (sc.names.lookup y.1 = some .cell) || decide (sc.names.lookup y.1 = some .free))
theorem lamP_by {sc scope : Scope} {p : Str} (h : lamPB sc scope p = true) : LamP sc scope p := by
  unfold lamPB at h
  simp only [Bool.and_eq_true, Bool.or_eq_true, Bool.not_eq_true', decide_eq_true_eq, decide_eq_false_iff_not, List.all_eq_true] at h
  obtain ⟨⟨⟨⟨h1, h2⟩, h3⟩, h5⟩, h4⟩ := h
  refine ⟨h1, h2, h3, h5, fun y hy => ⟨fun e => ?_, (h4 y hy).1.2⟩, fun y hy e => ?_⟩
  · rcases (h4 y hy).1.1 with z | z
    · exact absurd e z
    · exact z
  · rcases (h4 y hy).2 with (z | z) | z
    · exact absurd e z
    · exact .inl z
    · exact .inr z
theorem LamP.has {X : Cx} {scope : Scope} {p : Str} (L : LamP X.env.scope scope p) (ok : X.Ok) : ∀ y ∈ scope.names, y.2 = .free → ∃ c, X.env.cells.lookup y.1 = some c := fun y hy e => by
  rcases L.free y hy e with k | k
  · exact ok.has _ (.inl k)
  · exact ok.has _ (.inr k)
/-- the context of the lambda's body: the maker's slots, behind them the parameter's -/
def lamCxP (X : Cx) (A : Around) (outer : List Env) (s : Shared) (H : Hp) (E : XK) (scope : Scope) (f c' : Addr) (p : Str) : Cx where
  prog := X.prog
  w := X.w
  K := X.K
  mg := X.mg
  base := X.base
  A := A.deeper (lamEnv X scope s.heap.objs.size f c')
  N := X.N ++ [p]
  s_0 := s
  H_0 := H
  env := lamEnv X scope s.heap.objs.size f c'
  outer := outer
  stack := lamEnv X scope s.heap.objs.size f c' :: outer
  ex := []
  fn := fun _ => false
  calm := true
  pn := []
  xe := fun e s' => wpAny (model X.prog X.w) (A.deeper (lamEnv X scope s.heap.objs.size f c')) (leaving (lamEnv X scope s.heap.objs.size f c') e) (fun _ s'' => L2.CX X.prog X.w outer H s E e s'') (fun e' s'' => L2.CX X.prog X.w outer H s E e' s'') s'
section
variable {X : Cx} {pins : List (Addr × Obj)} {σ : L2.St} {H HZ : Hp} {s s1 : Shared}
theorem lam_startP {A : Around} {outer : List Env} {E : XK} {scope : Scope} {f c' : Addr} {h₁ : Heap} {tk : Nat} {p : Str} {u : Value} {v : V} (I : Inv X pins σ H s) (L : LamP X.env.scope scope p) (hp : p ∉ X.N) (e0 : Env0 X.prog X.w X.K X.mg X.base A outer s1 HZ) (hd : A.handled = none)
    (un : Un (frs X.stack) [] H HZ s.heap s1.heap) (hns : h₁.Ns s1.heap.objs.size fun y => ([(p, u)] : List (Str × Value)).reverse.lookup y) (rv : RelV v u) (kp : ∀ b o, s1.heap.get? b = some o → h₁.get? b = some o) :
    Inv (lamCxP X A outer s1 HZ E scope f c' p) [] (σ ++ [some v]) HZ { s1 with heap := h₁, toks := tk } := by
  have hfree := L.has I.ok
  have cm : ∀ {y c}, (cloFrom X.env.cells scope.names []).lookup y = some c → X.env.cells.lookup y = some c := fun {y c} e => by
    rcases cloFrom_mem (PySem.mem_of_lookup e) with hm | ⟨h1, h2⟩
    · cases hm
    · obtain ⟨c1, hc⟩ := hfree _ h1 rfl
      have hc : X.env.cells.lookup y = some c1 := hc
      have e2 : c = c1 := by
        rw [h2, hc] <;> rfl
      rw [e2]
      exact hc
  have look : ∀ {y}, scope.names.lookup y = some .free → ∃ c, (cloFrom X.env.cells scope.names []).lookup y = some c := fun {y} hl => by
    have hy : (y, NameKind.free) ∈ scope.names := PySem.mem_of_lookup hl
    exact mem_lookup (cloFrom_has (cells := X.env.cells) (acc := []) hy)
  have cellK : ∀ {c : Addr} {v : Option Value}, H c = none → s.heap.IsCell c v → h₁.IsCell c v := fun {c v} n ⟨o, ho, hd⟩ => by
    obtain ⟨sl, q⟩ := un.any ho n (by simp)
    exact ⟨_, kp _ _ q, hd⟩
  have noA : ∀ b : Addr, b ∉ (lamCxP X A outer s1 HZ E scope f c' p).ex := fun b z => absurd (show b ∈ ([] : List Addr) from z) (by simp)
  refine ⟨⟨e0.mod, L.kind, rfl, rfl, Nat.le_refl _, fun y z c e1 e2 => I.ok.inj y z c (cm e1) (cm e2), fun y hy => ?_, fun y c z _ => ?_, fun _ => hd, Around.frames_deeper e0.frames, .inr ⟨rfl, rfl⟩, fun b z => absurd z (noA b), e0.bs, e0.bsz, fun b _ _ => noA b,
      fun b z => absurd z (noA b), e0.funs, e0.frf⟩,
    rfl, e0.bare, Un.kept kp, ⟨_, hns, fun i y v' e1 e2 e3 => ?_⟩, fun y c e => ?_, e0.hok.fresh (Nat.le_refl _), fun y c e => ?_, fun q hq => absurd (show q ∈ ([] : List (Addr × Obj)) ++ [] from hq) (by simp), e0.hok.kept kp, ?_⟩
  · have hy : scope.names.lookup y = some .cell ∨ scope.names.lookup y = some .free := hy
    rcases hy with hy | hy
    · exact absurd rfl (L.own _ (PySem.mem_of_lookup hy)).2
    · exact look hy
  · have z : false = true := z
    cases z
  · have e3 : Vis scope y := e3
    have e1 : (X.N ++ [p])[i]? = some y := e1
    have hl := I.len
    by_cases hi : i < X.N.length
    · rw [List.getElem?_append_left hi] at e1
      rw [List.getElem?_append_left (by omega)] at e2
      rcases e3 with k | k | k
      · have := (L.own _ (PySem.mem_of_lookup k)).1 rfl
        exact absurd (List.mem_of_getElem? e1) (by rw [show y = p from this]; exact hp)
      · exact absurd rfl (L.own _ (PySem.mem_of_lookup k)).2
      · obtain ⟨m, hn, hl⟩ := I.loc
        have hvis : Vis X.env.scope y := (L.free _ (PySem.mem_of_lookup k) rfl).elim (fun k => .inr (.inl k)) (fun k => .inr (.inr k))
        obtain ⟨w', r, q⟩ := hl i y v' e1 e2 hvis
        obtain ⟨c2, h2⟩ := look k
        refine ⟨w', r, .inr ⟨.inr k, c2, h2, ?_⟩⟩
        have c1 := cm h2
        rcases q with ⟨k', _⟩ | ⟨_, c3, e', z⟩
        · have k' : X.env.scope.names.lookup y = some .local := k'
          rcases L.free _ (PySem.mem_of_lookup k) rfl with k2 | k2 <;> rw [show X.env.scope.names.lookup y = _ from k2] at k' <;> cases k'
        · rw [c1] at e'
          cases e'
          exact cellK (I.freeC y _ c1) z
    · rw [List.getElem?_append_right (by omega)] at e1 e2
      have h0 : i - X.N.length = 0 := by
        have := (List.getElem?_eq_some_iff.mp e1).1
        simp at this
        omega
      rw [h0] at e1
      rw [show i - σ.length = 0 by omega] at e2
      simp at e1 e2
      subst e1 e2
      exact ⟨u, rv, .inl ⟨L.par, by simp⟩⟩
  · obtain ⟨w', z⟩ := I.cell y c (cm e)
    exact ⟨w', cellK (I.freeC y c (cm e)) z⟩
  · obtain ⟨v, o, ho, hd⟩ := I.cell y c (cm e)
    exact un.free c o ho (I.freeC y c (cm e)) (by simp)
  · show (σ ++ [some v]).length = (X.N ++ [p]).length
    rw [List.length_append, List.length_append, I.len]
    rfl
/-- a(e), in the def that got the lambda -/
theorem pe_actP {CXg : CXT} {Eg : XK} {Ng : List Str} {qg : Str} {sg : Scope} {g f c' : Addr} {cdg pm ctv : Value} {params : Arguments} {body : Expr} {scope : Scope} {k i : Nat} {a p : Str} {tb : TE} {p1 p2 : Pos} {e : Expr} {ta : TA}
    (I : Inv X pins σ H s) (L : LamP X.env.scope scope p) (hp : p ∉ X.N) (hf : s.heap.get? f = some (PySem.W.kla_obj "<lambda>" (X.env.qual ++ "<lambda>") params body scope (cloFrom X.env.cells scope.names []) pm c' ctv)) (hfn : H f = none) (hfr : f ∉ frs X.stack)
    (hbind : ∀ u : Value, bindArgs (PySem.W.kla_fn "<lambda>" (X.env.qual ++ "<lambda>") params body scope (cloFrom X.env.cells scope.names []) pm (.ref c') ctv) ⟨[u], []⟩ = pure [(p, u)])
    (hr : Room (k + 1) (X.A.deeper (envOfC qg sg s.heap.objs.size g cdg)))
    (hbody : ∀ (A : Around) (outer : List Env) (s : Shared) (H : Hp), Room k (A.deeper (lamEnv X scope s.heap.objs.size f c')) → PE (lamCxP X A outer s H (fun _ _ _ => False) scope f c' p) body tb)
    (hN : Ng[i]? = some a) (hv : Vis sg a) (hd : (a == ("__debug__" : Str)) = false) (hcd : (a == ("__classdict__" : Str)) = false)
    (ha : PA (cxOf CXg X.prog X.w X.K X.mg X.base Ng qg sg g cdg X.A X.stack s H Eg).nox [e] ta)
    (he : starEach [e] (envOfC qg sg s.heap.objs.size g cdg) = (false, eval e (envOfC qg sg s.heap.objs.size g cdg)) :: starEach [] (envOfC qg sg s.heap.objs.size g cdg)) :
    PE (cxOf CXg X.prog X.w X.K X.mg X.base Ng qg sg g cdg X.A X.stack s H Eg).nox (.Call (.Name a p1) [e] [] p2)
      (fun σZ HZ Q => σZ[i]? = some (some (.ref f)) ∧ ta σZ HZ fun vs H1 => ∃ v, vs = [v] ∧ H1 c' = some (CodeO c' (X.env.qual ++ "<lambda>")) ∧ tb (σ ++ [some v]) H1 Q) := by
  refine ⟨fun pinsZ sZ σZ HZ Q IZ h => ?_⟩
  obtain ⟨hs, ht⟩ := h
  refine wpAny_Call_Name_kw (thn ((pe_var (X := (cxOf CXg X.prog X.w X.K X.mg X.base Ng qg sg g cdg X.A X.stack s H Eg).nox) (pos := p1) (i := i) hN hv hd hcd).run pinsZ sZ σZ HZ (fun v H1 => v = .ref f ∧ H1 = HZ) IZ ⟨.ref f, hs, rfl, rfl⟩) fun u s1 ⟨v, H1, I1, r1, q1⟩ => ?_)
  obtain ⟨ev, eH⟩ := q1
  subst ev
  rw [eH] at I1
  obtain rfl : u = Value.ref f := r1
  have of1 : s1.heap.get? f = some (PySem.W.kla_obj "<lambda>" (X.env.qual ++ "<lambda>") params body scope (cloFrom X.env.cells scope.names []) pm c' ctv) := I1.base.keep f _ hf hfn hfr (fun z => nomatch (show f ∈ ([] : List Addr) from z))
  refine PySem.W.callWith_F (first := []) ⟨_, _, _, _, of1⟩ (thn (ha.run p2 pinsZ s1 σZ HZ _ I1 ht) fun us s2 ⟨vs, H2, I2, r2, v, ev, hc, ht2⟩ => ?_) he rfl
  subst ev
  have of2 : s2.heap.get? f = some (PySem.W.kla_obj "<lambda>" (X.env.qual ++ "<lambda>") params body scope (cloFrom X.env.cells scope.names []) pm c' ctv) := I2.base.keep f _ hf hfn hfr (fun z => nomatch (show f ∈ ([] : List Addr) from z))
  refine ⟨⟨_, _, _, _, of2⟩, ?_⟩
  obtain ⟨u, rfl, rv⟩ := vals1 r2
  show wpAny _ _ (call (.ref f) [u]) _ _ _
  have un : Un (frs X.stack) [] H H2 s.heap s2.heap := I2.base
  obtain ⟨⟨oc, vs, t, hoc, hdc, hvc⟩, _, _⟩ := I2.hok c' _ hc
  have rc : codeAny (model X.prog X.w) (X.A.deeper (envOfC qg sg s.heap.objs.size g cdg)) (.call (.ref f) ⟨[u], []⟩) (CR (L2.CX X.prog X.w) (envOfC qg sg s.heap.objs.size g cdg :: X.stack) X.prog X.w H2 s2 Q (fun _ _ _ => False)) s2 := by
    refine PySem.W.kla_callFunE hr.depth of2 rfl L.co L.gen rfl ⟨c', oc, vs, t, rfl, hoc, hdc, hvc⟩ ?_
    rw [hbind]
    refine wpAny_pure (wpAny_newFunctionEnv (fun y hy => (L.own y hy).2) (fun y hy => by rw [List.mem_singleton.mp hy]; exact L.par) (fun h₁ hns hsb => ⟨I2.nolimit.fresh _ hsb, ?_⟩) L.kind)
    show codeAny _ _ (.expr body (lamEnv X scope s2.heap.objs.size f c')) _ _
    have kp : ∀ b o, s2.heap.get? b = some o → h₁.get? b = some o := fun b o e => hsb.extBut b o (Nat.ne_of_lt (Heap.lt_size e)) (Heap.get?_push_of_some _ e)
    have J : Inv (lamCxP X (X.A.deeper (envOfC qg sg s.heap.objs.size g cdg)) (envOfC qg sg s.heap.objs.size g cdg :: X.stack) s2 H2 (fun _ _ _ => False) scope f c' p) [] (σ ++ [some v]) H2 { s2 with heap := h₁, toks := s2.toks + ([(p, u)] : List (Str × Value)).length } :=
      lam_startP I L hp I2.env0 hr.hd un hns rv kp
    refine PySem.W.kla_codeExpr (wpAny_mono ((hbody _ _ s2 H2 (hr.deeper _)).run [] _ _ H2 Q J ht2) (fun v s' hq => ?_) fun e s' hq => hq)
    obtain ⟨w', H', J', rv, q⟩ := hq
    exact ⟨w', H', J'.os, J'.bare, J'.base, J'.hok, rv, q⟩
  refine wpAny_call (codeAny_mono rc fun r s' hq => ?_)
  cases r with
  | error e => obtain ⟨_, _, _, _, _, _, _, _, _, _, _, _, z⟩ := hq; exact z.elim
  | ok fl =>
    cases fl with
    | ret u => exact I2.after hq
    | next => exact False.elim hq
    | brk => exact False.elim hq
    | cont => exact False.elim hq
end
/-- the def that calls what it got at its i-th place (of three): TT: what it makes of the lambda's reading -/
def GivesP (X : Cx) (Ng : List Str) (x : Str) (sg : Scope) (g : Addr) (cdg : Value) (bg : List Stmt) (a : Str) (q : Str) (TT : (V → Hp → VK → Prop) → V → V → Hp → VK → Prop) : Prop :=
  ∀ (f c' : Addr) (s : Shared) (H : Hp) (v1 v3 : V) (Q : VK) (tl : V → Hp → VK → Prop),
    (∀ (e : Expr) (ta : TA) (p1 p2 : Pos), PA (cxOf C8.CX0 X.prog X.w X.K X.mg X.base Ng x sg g cdg X.A X.stack s H C8.E0).nox [e] ta →
      starEach [e] (envOfC x sg s.heap.objs.size g cdg) = (false, eval e (envOfC x sg s.heap.objs.size g cdg)) :: starEach [] (envOfC x sg s.heap.objs.size g cdg) →
      PE (cxOf C8.CX0 X.prog X.w X.K X.mg X.base Ng x sg g cdg X.A X.stack s H C8.E0).nox (.Call (.Name a p1) [e] [] p2) (fun σZ HZ Q => σZ[1]? = some (some (.ref f)) ∧ ta σZ HZ fun vs H1 => ∃ v, vs = [v] ∧ H1 c' = some (CodeO c' q) ∧ tl v H1 Q)) →
    H c' = some (CodeO c' q) → Room 8 (X.A.deeper (envOfC x sg s.heap.objs.size g cdg)) → TT tl v1 v3 H Q →
    ∃ t, PSs (cxOf C8.CX0 X.prog X.w X.K X.mg X.base Ng x sg g cdg X.A X.stack s H C8.E0).nox bg t ∧ t { nx := fun _ H' => Q .non H', rt := Q } (L2.start Ng [v1, .ref f, v3]) H
def tLam3 (T : List (Addr × Str)) (q : Str) (TT : (V → Hp → VK → Prop) → V → V → Hp → VK → Prop) (t1 t3 t : TE) : TE := fun σ H Q => t1 σ H fun v1 H1 => Tabs T H1 ∧ ∀ H2 c', ExtN H1 H2 → Tabs T H2 → H2 c' = some (CodeO c' q) →
  t3 σ H2 fun v3 H3 => H3 c' = some (CodeO c' q) ∧ TT (fun v H' Q' => t (σ ++ [some v]) H' Q') v1 v3 H3 Q
section
variable {X : Cx}
/-- x(e1, lambda p: body, e3) -/
theorem pe_lamcall3 {T : List (Addr × Str)} {TT : (V → Hp → VK → Prop) → V → V → Hp → VK → Prop} {x a p0 : Str} {g c P : Addr} {pg : Arguments} {bg : List Stmt} {sg : Scope} {dV kV doc pm cdv ct oc : Value} {an od : Option Addr} {osl : Array (Option Value)} {Ng ps : List Str}
    {params : Arguments} {body e1 e3 : Expr} {scope : Scope} {t1 t3 t : TE} {p lpos pos : Pos} (hg : Gl X x) (hm : X.mg x = some (.ref g)) (hk : PySem.W.keepIn X.K (.ref g) = true)
    (lk : X.K.lookup g = some ⟨oc, od, .func (PySem.W.fnOf x x pg bg sg dV kV doc pm an cdv ct), osl⟩) (hcg : PySem.W.codeIn X.K cdv x = true) (hb : L2.Binds X.K (PySem.W.fnOf x x pg bg sg dV kV doc pm an cdv ct) ps []) (Sg : FnScope Ng ps sg) (hps : ps.length = 3) (hNg : Ng[1]? = some a) (hva : Vis sg a)
    (hG : GivesP X Ng x sg g cdv bg a (X.env.qual ++ "<lambda>") TT)
    (TB : TabB X.base X.mg c P) (hcode : X.env.code = .ref c) (hmT : (P, X.env.qual ++ "<lambda>") ∈ T) (hu : ∀ p ∈ T, p.1 = P → p.2 = X.env.qual ++ "<lambda>") (hr : Room 9 X.A) (L : LamP X.env.scope scope p0) (hp0 : p0 ∉ X.N) (hdef : defaultsOf params X.env = ([], []))
    (hbind : ∀ (q : Str) (cl : List (Str × Addr)) (pm cv ctv u : Value), bindArgs (PySem.W.kla_fn "<lambda>" q params body scope cl pm cv ctv) ⟨[u], []⟩ = pure [(p0, u)])
    (h1 : PE X e1 t1) (h3 : PE X e3 t3)
    (hbody : ∀ (A : Around) (outer : List Env) (s : Shared) (H : Hp) (f c' : Addr), Room 7 (A.deeper (lamEnv X scope s.heap.objs.size f c')) → PE (lamCxP X A outer s H (fun _ _ _ => False) scope f c' p0) body t)
    (he1 : starEach [e1, .Lambda params body scope lpos, e3] X.env = (false, eval e1 X.env) :: starEach [.Lambda params body scope lpos, e3] X.env := by rfl) (he2 : starEach [.Lambda params body scope lpos, e3] X.env = (false, eval (.Lambda params body scope lpos) X.env) :: starEach [e3] X.env := by rfl)
    (he3 : starEach [e3] X.env = (false, eval e3 X.env) :: starEach [] X.env := by rfl) (hpl : (backTo pos (starEach [.Lambda params body scope lpos, e3] X.env)).any (·.1) = false := by rfl)
    (hdb : (x == ("__debug__" : Str)) = false := by decide) (hd : (a == ("__debug__" : Str)) = false := by decide) (hcd : (a == ("__classdict__" : Str)) = false := by decide) :
    PE X (.Call (.Name x p) [e1, .Lambda params body scope lpos, e3] [] pos) (tLam3 T (X.env.qual ++ "<lambda>") TT t1 t3 t) := by
  refine ⟨fun pins s σ H Q I h => ?_⟩
  refine wpAny_Call_Name_kw (ld_glob I hg hm ?_ hdb)
  refine PySem.W.callWith_K (h₀ := X.base) I.ok.mod.kin hk ?_ he1 hpl
  rw [he1]
  show wpAny _ _ (spliced ((false, eval e1 X.env) :: backTo pos (starEach [.Lambda params body scope lpos, e3] X.env))) _ _ s
  rw [he2]
  show wpAny _ _ (spliced ((false, eval e1 X.env) :: (false, eval (.Lambda params body scope lpos) X.env) :: backTo pos (starEach [e3] X.env))) _ _ s
  rw [he3]
  show wpAny _ _ (spliced ((false, eval e1 X.env) :: (false, eval (.Lambda params body scope lpos) X.env) :: (false, eval e3 X.env) :: backTo pos (starEach [] X.env))) _ _ s
  refine Calls.spliced_cons (thn (h1.run pins s σ H _ I h) fun u1 s1 ⟨v1, H1, I1, r1, hT, h⟩ => ?_)
  refine Calls.spliced_cons (lam_make2 I1 TB hcode hmT hu hT hdef (L.has I1.ok) fun f c' pm' ctv H2 s2 I2 eN T2 hf hfn hfr hco => ?_)
  have nl : f ≠ X.env.locals := by
    rintro rfl
    obtain ⟨m, hn, _⟩ := I2.loc
    obtain ⟨o, es, ep, ho, hc, hd, _⟩ := hn
    rw [hf] at ho
    cases ho
    cases hc
  have nfs : f ∉ X.fs := by
    rcases I2.ok.stk with e | ⟨e, _⟩
    · rw [e] at hfr; exact hfr
    · rw [e] at hfr; exact fun z => hfr (List.mem_filterMap.mpr (let ⟨e, he, q⟩ := List.mem_filterMap.mp z; ⟨e, .tail _ he, q⟩))
  generalize ho : PySem.W.kla_obj "<lambda>" (X.env.qual ++ "<lambda>") params body scope (cloFrom X.env.cells scope.names []) pm' c' ctv = ob at hf
  have nd : ∀ v, ob.data ≠ .cell v := fun v z => by rw [← ho] at z; cases z
  have pin2 : ∀ q ∈ X.pn ++ (f, ob) :: pins, s2.heap.get? q.1 = some q.2 ∧ H2 q.1 = none ∧ q.1 ≠ X.env.locals ∧ q.1 ∉ X.fs ∧ ∀ v, q.2.data ≠ .cell v := fun q hq => by
    rcases List.mem_append.mp hq with h | h
    · exact I2.pin q (List.mem_append.mpr (.inl h))
    · rcases List.mem_cons.mp h with rfl | h
      · exact ⟨hf, hfn, nl, nfs, nd⟩
      · exact I2.pin q (List.mem_append.mpr (.inr h))
  have I2p : Inv X ((f, ob) :: pins) σ H2 s2 := { I2 with pin := pin2 }
  refine Calls.spliced_cons (thn (h3.run ((f, ob) :: pins) s2 σ H2 _ I2p (h H2 c' eN T2 hco)) fun u3 s3 ⟨v3, H3, I3p, r3, hco3, h⟩ => ?_)
  have pin3 : ∀ q ∈ X.pn ++ pins, s3.heap.get? q.1 = some q.2 ∧ H3 q.1 = none ∧ q.1 ≠ X.env.locals ∧ q.1 ∉ X.fs ∧ ∀ v, q.2.data ≠ .cell v := fun q hq => by
    rcases List.mem_append.mp hq with h | h
    · exact I3p.pin q (List.mem_append.mpr (.inl h))
    · exact I3p.pin q (List.mem_append.mpr (.inr (.tail _ h)))
  have I3 : Inv X pins σ H3 s3 := { I3p with pin := pin3 }
  obtain ⟨hf3, hfn3, _⟩ := I3p.pin (f, ob) (List.mem_append.mpr (.inr (.head _)))
  subst ho
  refine Calls.spliced_nil ⟨I3.kIn, ?_⟩
  have rc : codeAny (model X.prog X.w) X.A (.call (.ref g) ⟨[u1, .ref f, u3], []⟩) (CR C8.CX0 X.stack X.prog X.w H3 s3 Q C8.E0) s3 := by
    refine run_ofS (N := Ng) (ps := ps) (us := [u1, .ref f, u3]) (vs := [v1, .ref f, v3]) lk hcg Sg hr I3.env0 (hb s3 [u1, .ref f, u3] I3.kIn (by simp [hps])) (.cons r1 (.cons rfl (.cons r3 .nil))) (by simp [hps]) fun hr' => ?_
    obtain ⟨t', ht', hq'⟩ := hG f c' s3 H3 v1 v3 Q (fun v H' Q' => t (σ ++ [some v]) H' Q') (fun e ta p1 p2 ha he => pe_actP I3 L hp0 hf3 hfn3 hfr (fun u => hbind _ _ _ _ _ u) hr' (fun A outer s H hr2 => hbody A outer s H f c' hr2) hNg hva hd hcd ha he) hco3 hr' h
    exact ⟨t', ht'.nox, hq'⟩
  refine wpAny_call (codeAny_mono rc fun r s4 hq => ?_)
  cases r with
  | error e => exact (show False from hq).elim
  | ok fl =>
    cases fl with
    | ret u => exact I3.after hq
    | next => exact False.elim hq
    | brk => exact False.elim hq
    | cont => exact False.elim hq
end
end LamX
namespace Iz
open PySem PySem.Spec PyProof.Rows L2 LamX
/-- told(e1, lambda p: body, e3), told a def of the text -/
theorem plam3 {X : Cx} {TS : List (Addr × Str)} {x a p0 : Str} {st : Stmt} {N ps : List Str} {TT : (V → Hp → VK → Prop) → V → V → Hp → VK → Prop} {c P : Addr} {qn : Str} {params : Arguments} {body e1 e3 : Expr} {scope : Scope} {t1 t3 t : TE} {p lpos pos : Pos}
    (F : ∃ (f : Addr) (fd : FuncData), X.mg x = some (.ref f) ∧ Fun X.K x x st f fd) (S : FnScope N ps (defScope st))
    (hb : ∀ (kV doc pm : Value) (an : Option Addr) (cdv ct : Value) (us : List Value), us.length = ps.length → bindArgs (PySem.W.fnOf x x (defArgs st) (defBody st) (defScope st) .none kV doc pm an cdv ct) ⟨us, []⟩ = pure (ps.zip us))
    (hG : ∀ (g : Addr) (cdg : Value), GivesP X N x (defScope st) g cdg (defBody st) a qn TT)
    (hm : (P, qn) ∈ TS) (hu : ∀ q ∈ TS, q.1 = P → q.2 = qn) (TB : TabB X.base X.mg c P) (hcode : X.env.code = .ref c) (hq : X.env.qual ++ "<lambda>" = qn) (hr : Room 9 X.A) (L : lamPB X.env.scope scope p0 = true) (hp0 : p0 ∉ X.N)
    (h1 : PE X e1 t1) (h3 : PE X e3 t3)
    (hbody : ∀ (A : Around) (outer : List Env) (s : Shared) (H : Hp) (f c' : Addr), Room 7 (A.deeper (lamEnv X scope s.heap.objs.size f c')) → PE (lamCxP X A outer s H (fun _ _ _ => False) scope f c' p0) body t)
    (hps : ps.length = 3 := by rfl) (hdef : defaultsOf params X.env = ([], []) := by rfl) (hg : Gl X x := by rfl) (hv : Vis (defScope st) a := by first | exact Or.inl rfl | exact Or.inr (Or.inl rfl)) (hNa : N[1]? = some a := by rfl)
    (hbind : ∀ (q : Str) (cl : List (Str × Addr)) (pm cv ctv u : Value), bindArgs (PySem.W.kla_fn "<lambda>" q params body scope cl pm cv ctv) ⟨[u], []⟩ = pure [(p0, u)] := by intros; rfl)
    (he1 : starEach [e1, .Lambda params body scope lpos, e3] X.env = (false, eval e1 X.env) :: starEach [.Lambda params body scope lpos, e3] X.env := by rfl) (he2 : starEach [.Lambda params body scope lpos, e3] X.env = (false, eval (.Lambda params body scope lpos) X.env) :: starEach [e3] X.env := by rfl)
    (he3 : starEach [e3] X.env = (false, eval e3 X.env) :: starEach [] X.env := by rfl) (hpl : (backTo pos (starEach [.Lambda params body scope lpos, e3] X.env)).any (·.1) = false := by rfl)
    (hdb : (x == ("__debug__" : Str)) = false := by decide) (hd : (a == ("__debug__" : Str)) = false := by decide) (hcd : (a == ("__classdict__" : Str)) = false := by decide) :
    PE X (.Call (.Name x p) [e1, .Lambda params body scope lpos, e3] [] pos) (tLam3 TS qn TT t1 t3 t) := by
  subst hq
  obtain ⟨g, fd, hmg, F⟩ := F
  obtain ⟨oc, od, kV, doc, pm, an, cdv, ct, osl, rfl, lk, hcg⟩ := F.ex
  exact pe_lamcall3 hg hmg F.kp lk hcg (.all (hb kV doc pm an cdv ct)) S hps hNa hv (hG g cdv) TB hcode hm hu hr (lamP_by L) hp0 hdef hbind h1 h3 hbody he1 he2 he3 hpl hdb hd hcd
def rSlTN : V → Option Int → Option Int → Hp → VK → Prop := fun x lo hi H Q => ∃ a xs, x = .ref a ∧ H a = some (.tup xs) ∧ ¬ (HT.sIx xs.length 0 lo = 0 ∧ HT.sIx xs.length xs.length hi = xs.length) ∧ News H (.tup (cutV xs lo hi)) Q
theorem sl_tupN {X : Cx} : SlR X rSlTN := fun pins s σ H x v vl vu lo hi sl Q I rx hs pl pu ⟨a, xs, e, h, w, n⟩ => sl_tup pins s σ H x v vl vu lo hi sl Q I rx hs pl pu ⟨a, xs, e, SqT.of h, w, n.all⟩
def rCatTN : R2 := fun x y H Q => ∃ a b xs ys, x = .ref a ∧ y = .ref b ∧ H a = some (.tup xs) ∧ H b = some (.tup ys) ∧ xs ≠ [] ∧ ys ≠ [] ∧ xs.length + ys.length ≤ sizeLine ∧ News H (.tup (xs ++ ys)) Q
theorem op_catTN {X : Cx} : OpR X (binaryOp .Add) rCatTN := fun pins s σ H x y v u Q I rx ry ⟨a, b, xs, ys, e1, e2, ha, hb, hx, hy, hz, n⟩ => op_catT pins s σ H x y v u Q I rx ry ⟨a, b, xs, ys, e1, e2, SqT.of ha, SqT.of hb, hx, hz, fun e => absurd e hy, fun _ => n.all⟩
theorem st_lcT {K : PySem.W.Frag} {tl : TE} {g : TG} {tt : TT} {te : TE} {vs : List Nat} {σ : L2.St} {H : Hp} {Q : VK} {a : Addr} {xs : List V} (ha : ∀ R : V → Hp → Prop, R (.ref a) H → tl σ H R) (hx : H a = some (.tup xs)) (Pv : Addr → Nat → Hp → Prop)
    (h0 : ∀ D H1, H D = none → Same H H1 → H1 D = some (.lst []) → Pv D 0 H1) (hl : ∀ D i H, Pv D i H → H a = some (.tup xs))
    (hs : ∀ D i x H, xs[i]? = some x → Pv D i H → g x (wipe σ vs) H fun σ2 H2 => wipe σ2 vs = wipe σ vs ∧ tt σ2 H2 fun b H3 => if b = true then te σ2 H3 fun y H4 => ∃ acc, H4 D = some (.lst acc) ∧ acc.length < sizeLine ∧ Pv D (i + 1) (upd H4 D (.lst (acc ++ [y]))) else Pv D (i + 1) H3)
    (hd : ∀ D H, Pv D xs.length H → Q (.ref D) H) : tLc (iTup K tl) g tt te vs σ H Q :=
  ha _ ⟨a, rfl, ⟨xs, SqT.of hx⟩, fun D hD => lc_tup (Pv D) (h0 D _ hD (Same.upd hD) upd_same) (fun i H _ p => SqT.of (hl D i H p)) (hs D) (hd D)⟩
theorem passLamP {X : Cx} {A : Around} {outer : List Env} {s : Shared} {H : Hp} {scope : Scope} {f c : Addr} {p : Str} : Passes CX0 (lamCxP X A outer s H (fun _ _ _ => False) scope f c p) E0 := pass0
end Iz
/-! Te -/
set_option Elab.async false
set_option linter.all false
set_option maxRecDepth 100000
set_option maxHeartbeats 4000000
namespace Iz
open PySem PySem.Spec PyProof.Rows L2 LamX
open He (ga)
/-! ### tuples whose items have an own ==, alike or not -/
theorem tuple_eqB {prog : Program} {w : World} {A : Around} {R : Result → Shared → Prop} (l b : Addr) (items items2 : Array Value) (n n2 : Nat) (dd dd2 : Option Addr) (sl sl2 : Array (Option Value)) (I : Nat → Shared → Prop)
    (turn : ∀ (i : Nat) (h1 : i < items.size) (h2 : i < items2.size) (s : Shared), I i s → wpAny (model prog w) A.in1 (eqBool items[i] items2[i]) (fun r s' => (r = true ∧ I (i + 1) s') ∨ (r = false ∧ R (.ok (.ret (.bool false))) s')) (fun e s' => R (.error e) s') s)
    (fin : ∀ s, I (min items.size items2.size) s → R (.ok (.ret (.bool (items.size == items2.size)))) s) {s : Shared}
    (hl1 : s.heap.get? l = some { cls := .type "tuple", dict := dd, data := .seq items n, slots := sl }) (hb1 : s.heap.get? b = some { cls := .type "tuple", dict := dd2, data := .seq items2 n2, slots := sl2 }) (h : I 0 s) :
    wpAny (model prog w) A.in1 (Builtin.«tuple.__eq__» ⟨[.ref l, .ref b], []⟩) (GQ.FinOf prog w A R) (fun e s' => R (.error e) s') s := by
  have f2 := AutoSeq1.sub_tuple_tuple
  have hZ : (items.toList.zip items2.toList).length = min items.size items2.size := by simp
  cases s with
  | mk hp g d tk os =>
  refine wpAny_bind ?_
  refine wpAny_of_eq (show slotArgs "__eq__" 1 ⟨[.ref l, .ref b], []⟩ = pure (.ref l, [.ref b]) from rfl) ?_
  refine wpAny_bind ?_
  change wpAny _ _ (_ >>= _) _ _ _
  refine wpAny_bind ?_
  change wpAny _ _ (_ >>= _) _ _ _
  refine wpAny_bind ?_
  refine wpAny_loadPart' hb1 ?_
  refine wpAny_pure ?_
  refine wpAny_of_eq f2 ?_
  refine wpAny_ite_false (by rfl) ?_
  refine wpAny_bind ?_
  change wpAny _ _ (_ >>= _) _ _ _
  refine wpAny_bind ?_
  change wpAny _ _ (_ >>= _) _ _ _
  refine wpAny_bind ?_
  refine wpAny_load' hl1 ?_
  refine wpAny_pure (wpAny_pure ?_)
  refine wpAny_bind ?_
  change wpAny _ _ (_ >>= _) _ _ _
  refine wpAny_bind ?_
  change wpAny _ _ (_ >>= _) _ _ _
  refine wpAny_bind ?_
  refine wpAny_load' hb1 ?_
  refine wpAny_pure (wpAny_pure ?_)
  refine wpAny_bind ?_
  clear hl1 hb1
  refine wpAny_forIn_list _ (fun rest b s' => b.1 = none ∧ ∃ i, rest = (items.toList.zip items2.toList).drop i ∧ i ≤ min items.size items2.size ∧ I i s') _ ?_ ?_ _ _ ⟨rfl, 0, rfl, Nat.zero_le _, h⟩
  · rintro ⟨x, y⟩ rest ⟨b1, b2⟩ s ⟨rfl, i, e, hi, hI⟩
    have hlt : i < (items.toList.zip items2.toList).length := by
      by_cases c : i < (items.toList.zip items2.toList).length
      · exact c
      · rw [List.drop_of_length_le (by omega)] at e; cases e
    rw [List.drop_eq_getElem_cons hlt] at e
    injection e with e1 e2
    rw [List.getElem_zip] at e1
    injection e1 with ex ey
    have hm : i < items.size ∧ i < items2.size := by rw [hZ] at hlt; omega
    have t := turn i hm.1 hm.2 s hI
    have gx : x = items[i] := by rw [ex]; simp
    have gy : y = items2[i] := by rw [ey]; simp
    rw [← gx, ← gy] at t
    change wpAny _ _ (_ >>= _) _ _ _
    refine wpAny_bind (wpAny_mono t (fun r s' q => ?_) fun _ _ z => z)
    rcases q with ⟨rfl, q⟩ | ⟨rfl, q⟩
    · change wpAny _ _ (if (!true) = true then _ else _) _ _ _
      refine wpAny_ite_false (by rfl) (wpAny_pure ?_)
      exact ⟨rfl, i + 1, e2, by omega, q⟩
    · change wpAny _ _ (if (!false) = true then _ else _) _ _ _
      refine wpAny_ite_true (by rfl) ?_
      change wpAny _ _ (_ >>= _) _ _ _
      refine wpAny_bind (wpAny_pure (wpAny_pure (wpAny_pure ?_)))
      exact q
  · rintro ⟨b1, b2⟩ s ⟨rfl, i, e, hi, hI⟩
    have : i = min items.size items2.size := by
      have := congrArg List.length e
      rw [List.length_drop, hZ] at this
      simp at this
      omega
    subst this
    exact wpAny_pure (fin s hI)
theorem rc_tupB {prog : Program} {w : World} {A : Around} {E : Value → Shared → Prop} {s : Shared} {l b : Addr} {items items2 : Array Value} {Q : Value → Shared → Prop} (hu : A.units < cLine) (I : Nat → Shared → Prop) (hl : s.heap.IsTuple l items) (hb : s.heap.IsTuple b items2)
    (turn : ∀ (i : Nat) (h1 : i < items.size) (h2 : i < items2.size) (s : Shared), I i s → wpAny (model prog w) A.in1 (eqBool items[i] items2[i]) (fun r s' => (r = true ∧ I (i + 1) s') ∨ (r = false ∧ Q (.bool false) s')) E s)
    (fin : ∀ s, I (min items.size items2.size) s → Q (.bool (items.size == items2.size)) s) (h : I 0 s) : wpAny (model prog w) A (richCompare .Eq (.ref l) (.ref b)) Q E s := by
  obtain ⟨⟨cls, dd, data, sl⟩, ho, hc, n, hd⟩ := hl
  obtain ⟨⟨cls2, dd2, data2, sl2⟩, ho2, hc2, n2, hd2⟩ := hb
  dsimp only at hc hd hc2 hd2
  subst hc hd hc2 hd2
  refine wpAny_richCompare_same_room ⟨_, ho, rfl⟩ ⟨_, ho2, rfl⟩ F.slot_tuple_eq (GQ.call_here F.slot_tuple_eq ⟨_, ho, rfl⟩ F.entry_tuple_eq (F.args_tuple_eq_2 _ _) (tuple_eqB (R := wants (fun v s' => v ≠ Value.notImplemented ∧ Q v s') E) l b items items2 n n2 dd dd2 sl sl2 I (fun i h1 h2 s' q => wpAny_mono (turn i h1 h2 s' q) (fun r s2 z => ?_) fun _ _ z => z) (fun s' q => show Value.bool _ ≠ Value.notImplemented ∧ Q _ s' from ⟨(by intro x; cases x), fin s' q⟩) ho ho2 h)) hu
  rcases z with z | ⟨z1, z2⟩
  · exact .inl z
  · exact .inr ⟨z1, show Value.bool _ ≠ Value.notImplemented ∧ Q _ s2 from ⟨(by intro x; cases x), z2⟩⟩
/-- how two rows of things compare, thing by thing -/
def allEq (r : V → V → Bool) (xs ys : List V) : Bool := ((xs.zip ys).all fun p => r p.1 p.2) && (xs.length == ys.length)
def rEqTo (K : PySem.W.Frag) (C : Addr) (sp : Sp) (E : XK) : R2 := fun x y H Q => ∃ a b xs ys, x = .ref a ∧ y = .ref b ∧ H a = some (.tup xs) ∧ H b = some (.tup ys) ∧ ∃ r : V → V → Bool,
  (∀ u ∈ xs, ∀ v ∈ ys, (u = v → r u v = true) ∧ (∃ p q, u = .ref p ∧ v = .ref q) ∧ rOwn K C sp E u v H fun w H' => w = .bl (r u v) ∧ H' = H) ∧ Q (.bl (allEq r xs ys)) H
section
variable {X : Cx} {CX : CXT} {k : Nat} {x : Str} {ps : List Str} {sp : Sp} {E : XK}
theorem op_eqTo (O : OkM X.prog X.w X.K X.mg X.base CX k x "__eq__" ps [] sp) (hr : Room (k + 1) X.A) (hx : Passes CX X E) : OpR X (compareOp .Eq) (rEqTo X.K (ga X.K x) sp E) := by
  intro pins s σ H v0 y v u Q I rx ry h
  obtain ⟨a, b, xs, ys, rfl, rfl, ha, hb, r, hp, q⟩ := h
  cases rx
  cases ry
  obtain ⟨its, r1, e1, z1⟩ := I.tuple (SqT.of ha)
  obtain ⟨its2, r2, e2, z2⟩ := I.tuple (SqT.of hb)
  obtain ⟨f, fd, M, b0, F⟩ := O.ex
  obtain ⟨ds, hd, hbi⟩ := b0 0 (Nat.le_refl _)
  cases hd
  show wpAny _ _ (richCompare .Eq (.ref a) (.ref b)) _ _ _
  refine rc_tupB hr.units0 (fun i s' => Inv X pins σ H s' ∧ (((xs.zip ys).take i).all fun p => r p.1 p.2) = true) e1 e2 ?_ ?_ ⟨I, rfl⟩
  · rintro i h1 h2 s' ⟨I', hall⟩
    have k1 : i < xs.length := by have := r1.length; simp at h1; omega
    have k2 : i < ys.length := by have := r2.length; simp at h2; omega
    obtain ⟨u, hu, ru⟩ := r1.get (List.getElem?_eq_getElem k1)
    obtain ⟨v, hv, rv⟩ := r2.get (List.getElem?_eq_getElem k2)
    have g1 : its.toArray[i] = u := by simp only [List.getElem_toArray]; exact (List.getElem?_eq_some_iff.mp hu).2
    have g2 : its2.toArray[i] = v := by simp only [List.getElem_toArray]; exact (List.getElem?_eq_some_iff.mp hv).2
    rw [g1, g2]
    obtain ⟨hs, ⟨p, q', ep, eq'⟩, ho⟩ := hp xs[i] (List.getElem_mem k1) ys[i] (List.getElem_mem k2)
    have et : ((xs.zip ys).take (i + 1)).all (fun p => r p.1 p.2) = (((xs.zip ys).take i).all (fun p => r p.1 p.2) && r xs[i] ys[i]) := by
      rw [List.take_succ, List.getElem?_eq_getElem (by simp; omega), List.all_append, List.getElem_zip]
      simp
    have nay : ∀ s2, Inv X pins σ H s2 → r xs[i] ys[i] = false → EP X pins σ Q (Value.bool false) s2 := fun s2 I2 e => by
      have : allEq r xs ys = false := by
        unfold allEq
        rw [Bool.and_eq_false_iff]
        left
        rw [List.all_eq_false]
        exact ⟨(xs[i], ys[i]), List.mem_iff_getElem.mpr ⟨i, by simp; omega, by simp⟩, by simp [e]⟩
      rw [this] at q
      exact ⟨.bl false, H, I2, rfl, q⟩
    rw [et, hall, Bool.true_and]
    rw [ep] at ru ho hs nay
    rw [eq'] at rv ho hs nay
    rw [ep, eq']
    cases ru
    cases rv
    by_cases c : p = q'
    · subst c
      exact SeqAt.EqAt.same (.ref p) X.prog X.w X.xe _ (.inl ⟨rfl, I', hs rfl⟩)
    · refine GQ.eqBool_refG c ?_
      obtain ⟨a', dx, fs, ea, ha', ⟨t, ty, nf⟩, hsp⟩ := ho
      cases ea
      obtain ⟨mA, O', _⟩ := ins_get I'.hok ha'
      obtain ⟨od, J, _⟩ := O'.look
      obtain ⟨mm, hF⟩ := I'.fr
      refine PySem.W.cmp_K hr.in1.units0 hF I'.ok.mod.kin J (looksTy I' (show RelV (.ref q') (.ref q') from rfl) ty) nf M.at_ M.fn (own_callA I' F hbi hr.in1 rfl hx (show RelV (.ref q') (.ref q') from rfl) hsp fun v w H' s2 I2 rv q2 => ?_)
      obtain ⟨b2, rfl, hw, rfl⟩ := q2
      cases rv
      cases hw
      cases e : r (.ref p) (.ref q') with
      | true => exact ⟨true, rfl, .inl ⟨rfl, I2, rfl⟩⟩
      | false => exact ⟨false, rfl, .inr ⟨rfl, nay _ I2 e⟩⟩
  · rintro s' ⟨I', hall⟩
    have e : allEq r xs ys = (its.toArray.size == its2.toArray.size) := by
      unfold allEq
      have h1 := r1.length
      have h2 := r2.length
      rw [List.take_of_length_le (by simp; omega)] at hall
      rw [hall, Bool.true_and]
      simp only [List.size_toArray]
      rw [show xs.length = its.length by omega, show ys.length = its2.length by omega]
    rw [e] at q
    exact ⟨.bl _, H, I', rfl, q⟩
end
end Iz
/-! En -/
set_option Elab.async false
set_option linter.all false
set_option maxRecDepth 100000
set_option maxHeartbeats 4000000
namespace Iz
open PySem PySem.Spec PyProof.Rows L2 LamX
open He (ga)
/-! ### enumerate over a tuple -/
theorem meets_enumT (v : Value) (o : Obj) (HP : Heap → Prop) (B : Begins v o HP) : Meets (Builtin.«enumerate.__new__» ⟨[.type "enumerate", v], []⟩) fun _ R s => HP s.heap ∧
    R (.ok (.ret (.ref (s.heap.push o).objs.size))) { heap := (s.heap.push o).push { cls := .type "enumerate", data := .fields #[.none, .bool false, .ref s.heap.objs.size, rawInt 0, .none, .none] }, gens := s.gens, drawn := s.drawn, toks := s.toks, os := s.os } := by
  refine Meets.of_wp fun prog w A R s h => ?_
  obtain ⟨hl, h⟩ := h
  have hsub := sub_enumerate
  cases s with
  | mk hp g d tk os =>
  refine wpAny_bind ?_
  refine wpAny_bind ?_
  refine wpAny_pure ?_
  refine wpAny_ite_false (by rfl) ?_
  refine wpAny_bind (wpAny_of_eq hsub ?_)
  refine wpAny_ite_false (by rfl) ?_
  refine wpAny_pure ?_
  refine wpAny_ite_true (by rfl) ?_
  refine wpAny_bind ?_
  refine wpAny_bind (wpAny_stack_any fun st => ?_)
  refine wpAny_pure ?_
  have key : ∀ short : Bool, wpAny (model prog w) A.in1 (do
      let it ← pyIter v
      let r ← Builtin.SmallTypes.newRecord (Value.type "enumerate") (Builtin.SmallTypes.ownedTupleFields ++ [it, rawInt 0, Value.none, Value.none])
      PySem.ret r) (fun fin s' => ∃ v, fin = Fin.done (Flow.ret v) ∧ R (Except.ok (Flow.ret v)) s') (fun e s' => R (Except.error e) s') { heap := hp, gens := g, drawn := d, toks := tk, os := os } := fun _ => by
    refine wpAny_bind (B.iter _ _ _ _ _ _ hl ?_)
    refine wpAny_bind ?_
    refine wpAny_bind (wpAny_alloc ?_)
    exact wpAny_pure (wpAny_pure ⟨_, rfl, h⟩)
  split
  · rename_i c _ _ _ _ _
    cases c == Value.type "enumerate" with
    | false =>
      refine wpAny_ite_false (by rfl) ?_
      refine wpAny_bind ?_
      refine wpAny_of_eq (a := (v, none)) rfl ?_
      exact key false
    | true =>
      refine wpAny_ite_true (by rfl) ?_
      refine wpAny_bind ?_
      refine wpAny_of_eq (a := (v, none)) rfl ?_
      exact key true
  · refine wpAny_ite_false (by rfl) ?_
    refine wpAny_bind ?_
    refine wpAny_of_eq (a := (v, none)) rfl ?_
    exact key false
theorem call_enumT {prog : Program} {w : World} {A : Around} {E : Value → Shared → Prop} {s : Shared} {v : Value} {o : Obj} {HP : Heap → Prop} {Q : Value → Shared → Prop} (B : Begins v o HP) (hl : HP s.heap)
    (h : ∀ h' : Heap, IsEnum h' (s.heap.objs.size + 1) s.heap.objs.size 0 .none → h'.get? s.heap.objs.size = some o → h'.objs.size = s.heap.objs.size + 2 → (∀ b o, s.heap.get? b = some o → h'.get? b = some o) → Q (.ref (s.heap.objs.size + 1)) { heap := h', gens := s.gens, drawn := s.drawn, toks := s.toks, os := s.os }) :
    wpAny (model prog w) A (call (.type "enumerate") [v]) Q E s := by
  have hz := Heap.size_push s.heap o
  have he := Heap.get?_push_size (s.heap.push o) (o := { cls := .type "enumerate", data := .fields #[.none, .bool false, .ref s.heap.objs.size, rawInt 0, .none, .none] }) rfl
  rw [hz] at he
  refine callType_new F.called_enumerate (by decide) (F.typeCall_enumerate_1 v) (F.newCall_enumerate_1 v) (fun obj => F.args_object_init_2 obj v) F.entry_enumerate_new (meets_enumT v o HP B) ⟨hl, ?_⟩
  rw [hz]
  refine ⟨⟨_, he, rfl⟩, h _ he (Heap.get?_push_of_some _ (Heap.get?_push_size s.heap B.free)) ?_ fun b o x => Heap.get?_push_of_some _ (Heap.get?_push_of_some _ x)⟩
  rw [Heap.size_push, hz]
theorem inv_turned {X : Cx} {pins : List (Addr × Obj)} {σ : L2.St} {H : Hp} {s : Shared} {h' : Heap} {t' : Nat} {ch : List Addr} (I : Inv X pins σ H s) (k : ∀ b o, b ∉ ch → s.heap.get? b = some o → h'.get? b = some o) (hf : ∀ b ∈ ch, FpOk X pins H b) :
    Inv X pins σ H { heap := h', gens := s.gens, drawn := s.drawn, toks := t', os := s.os } := by
  have nit : ∀ b u, H b = some u → b ∉ ch := fun b u e z => by rw [(hf b z).1] at e; cases e
  refine Inv.step (ch := ch) I (fun b hb => ?_) (fun b o _ _ hc e _ => k b o hc e) (fun b o _ _ hc e _ => ⟨o.slots, k b o hc e⟩) (fun _ _ _ _ n => n) (fun b o hc e => ⟨o, k b o hc e⟩) (fun _ _ e => e) (fun _ _ _ e => e) (fun b ps e => ⟨#[], by rw [e]; simp⟩) (fun m hm => ?_)
    (fun b u e => ObjOk.stay (I.hok b u e) (fun c v hc q => k c v (hc.elim (fun z => by rw [z]; exact nit b u e) fun z => nit c (.own b) z) q) (fun x q => q) fun x _ q => q) I.bare
  · obtain ⟨f1, f2, f3, f4, f5, f6⟩ := hf b hb
    exact ⟨f4, f2, f5, f6⟩
  · obtain ⟨o, es, ep, ho, r⟩ := hm
    exact ⟨o, es, ep, k _ o (fun z => (hf _ z).2.1 rfl) ho, r⟩
/-- what enumerate hands out of a tuple: served is its end -/
def Iet (K : PySem.W.Frag) (a : Addr) : It := { go := fun _ _ => False, yld := fun _ _ _ _ => False, stop := fun i H => ∃ xs, SqT K H a xs ∧ xs.length = i }
theorem turn_enumT {P : Program} {w : World} {K : PySem.W.Frag} {elts : List Expr} {kk : Nat} {tpos : Pos} (a e it : Addr) :
    Turn P w K (.Tuple elts kk tpos) (Iet K a) [e, it] e fun i h => (∃ old, IsEnum h e it (i : Int) old) ∧ h.IsTupleIter it a i ∧ e ≠ it := by
  refine ⟨.head _, ?_, ?_, ?_, ?_, ?_⟩
  · rintro i h ⟨⟨old, he⟩, ⟨o, ho, hc, hd⟩, ne⟩ b hb
    simp only [List.mem_cons, List.not_mem_nil, or_false] at hb
    rcases hb with rfl | rfl
    · exact ⟨_, he, fun v z => by cases z⟩
    · exact ⟨_, ho, fun v z => by rw [hd] at z; cases z⟩
  · rintro i h h' ⟨⟨old, he⟩, ⟨o, ho, hc, hd⟩, ne⟩ k
    exact ⟨⟨old, k e (.head _) _ he⟩, ⟨o, k it (.tail _ (.head _)) _ ho, hc, hd⟩, ne⟩
  · intro X _ _ _ _ i pins s σ H E I hf tn g
    exact g.elim
  · rintro X rfl rfl rfl hc i pins s σ H E I hf ⟨⟨old, he⟩, hit, ne⟩ ⟨xs, hq, hl⟩
    obtain ⟨its, rv, htup, z⟩ := I.tuple hq
    have hn : its.toArray.size = i := by rw [List.size_toArray, ← hl]; exact rv.length.symm
    have htup2 := htup
    obtain ⟨o, ho, hcl, n, hd⟩ := htup
    have ea : e ≠ a := fun z => by subst z; rw [he] at ho; cases ho; simp at hcl
    have ia : it ≠ a := fun z => by subst z; obtain ⟨o2, ho2, hc2, _⟩ := hit; rw [ho] at ho2; cases ho2; rw [hcl] at hc2; simp at hc2
    have hnd : X.A.in1.handled = none := I.ok.hd hc
    refine (Goes.enumFrom (x1 := kk) (pos := tpos) (elts := elts) 0 (Draws.tuple (prog := X.prog) (w := X.w) hnd it a ia.symm its.toArray) e ne (by simp [ne, ea]) (by simp)).stops s (fun s1 => Inv X pins σ H s1) E ?_ (fun h' tk k _ => inv_turned I k hf)
    rw [hn]
    exact ⟨⟨old, by rw [Int.zero_add]; exact he⟩, hit, htup2⟩
  · rintro A i s Q E ⟨⟨old, he⟩, _, _⟩ q
    exact wpAny_pyIter_enum he q
def iEnumT (K : PySem.W.Frag) (ta : TA) : TI := fun σ H R => ta σ H fun vs H1 => ∃ a xs, vs = [.ref a] ∧ SqT K H1 a xs ∧ R (Iet K a) H1
theorem pi_enumT {X : Cx} {e : Expr} {ta : TA} {p pos tpos : Pos} {elts : List Expr} {kk : Nat} (hg : Gl X "enumerate") (hm : X.mg "enumerate" = none) (ha : PA X [e] ta) (hs : starEach [e] X.env = [(false, eval e X.env)] := by rfl) :
    PI X (.Tuple elts kk tpos) (.Call (.Name "enumerate" p) [e] [] pos) (iEnumT X.K ta) := by
  refine ⟨fun pins s σ H R I h => ?_⟩
  refine PyProof.Rows.Call_ (L2.ld_blt I hg hm PyProof.Rows.boot_enumerate (PyProof.Rows.callWith_type1 (thn (ha.run pos pins s σ H _ I h) fun us s1 ⟨vs, H1, I1, r1, q1⟩ => ?_) hs rfl) (by decide) (by decide)) rfl
  obtain ⟨a, xs, rfl, hq, q⟩ := q1
  obtain ⟨u, rfl, rv⟩ := vals1 r1
  cases rv
  obtain ⟨its, rv, htup, z⟩ := I1.tuple hq
  refine call_enumT (begins_tuple a its.toArray) htup fun h' he hit hsz hk => ?_
  have I2 := Inv.kept (t' := s1.toks) I1 hk
  refine wpAny_pyIter_enum he ?_
  refine ⟨s1.heap.objs.size + 1, [s1.heap.objs.size + 1, s1.heap.objs.size], _, Iet X.K a, H1, rfl, I2, turn_enumT a (s1.heap.objs.size + 1) s1.heap.objs.size, ⟨⟨_, he⟩, ⟨_, hit, rfl, rfl⟩, Nat.succ_ne_self _⟩, fun b hb => ?_, q⟩
  have hle : s1.heap.objs.size ≤ b := by
    simp only [List.mem_cons, List.not_mem_nil, or_false] at hb
    rcases hb with rfl | rfl
    · exact Nat.le_succ _
    · exact Nat.le_refl _
  exact I1.fpOk hle (I1.hok.fresh hle)
/-- the empty tuple that stands for an argument that is not given -/
def EmpT (K : PySem.W.Frag) (t : Addr) : Prop := ∃ o n, K.lookup t = some o ∧ o.cls = .type "tuple" ∧ o.data = .seq #[] n
theorem EmpT.sq {K : PySem.W.Frag} {t : Addr} {H : Hp} (h : EmpT K t) : SqT K H t [] := let ⟨o, n, h1, h2, h3⟩ := h; .inr ⟨o, #[], n, h1, h2, h3, Nat.zero_le _, .nil⟩
theorem SqT.same {K : PySem.W.Frag} {t : Addr} {H H' : Hp} {xs : List V} (h : SqT K H t xs) (s : Same H H') : SqT K H' t xs := by
  rcases h with (h | ⟨o, h⟩) | h
  · exact .inl (.inl (s _ _ h))
  · exact .inl (.inr ⟨o, s _ _ h⟩)
  · exact .inr h
/-- a list, or an empty tuple -/
def LT (K : PySem.W.Frag) (H : Hp) (a : Addr) (xs : List V) : Prop := H a = some (.lst xs) ∨ (xs = [] ∧ SqT K H a [])
theorem LT.same {K : PySem.W.Frag} {a : Addr} {H H' : Hp} {xs : List V} (h : LT K H a xs) (s : Same H H') : LT K H' a xs := h.elim (fun h => .inl (s _ _ h)) fun h => .inr ⟨h.1, SqT.same h.2 s⟩
theorem LT.lst {K : PySem.W.Frag} {a : Addr} {H : Hp} {xs : List V} (h : LT K H a xs) (n : xs ≠ []) : H a = some (.lst xs) := h.elim id fun h => absurd h.1 n
theorem LT.ty {K : PySem.W.Frag} {a : Addr} {H : Hp} {xs : List V} (h : LT K H a xs) : ∃ t, TyX K H (.ref a) t ∧ PySem.W.kitAny K t [.type "list", .type "tuple"] = some true := by
  rcases h with h | ⟨_, (h | ⟨o, h⟩) | ⟨o, its, n, h1, h2, _⟩⟩
  · exact ⟨_, .base (.lst h), kitAny_ll⟩
  · exact ⟨_, .base (.tup h), kitAny_tl⟩
  · exact ⟨_, .fTuple h, kitAny_tl⟩
  · exact ⟨_, .kTuple h1 h2, kitAny_tl⟩
/-- either walk -/
theorem pi_or {X : Cx} {tg it : Expr} {w1 w2 : TI} (h1 : PI X tg it w1) (h2 : PI X tg it w2) : PI X tg it fun σ H R => w1 σ H R ∨ w2 σ H R :=
  ⟨fun pins s σ H R I h => h.elim (h1.run pins s σ H R I) (h2.run pins s σ H R I)⟩
theorem st_forLT {K : PySem.W.Frag} {g : TG} {tb : TS} {D : Ends} {σ : L2.St} {H : Hp} {tl : TE} {a : Addr} {xs : List V} (ha : ∀ R : V → Hp → Prop, R (.ref a) H → tl σ H R) (hx : LT K H a xs) (Pv : Nat → L2.St → Hp → Prop) (h0 : Pv 0 σ H) (hl : xs ≠ [] → ∀ i σ H', Pv i σ H' → H' a = some (.lst xs))
    (hs : ∀ i x σ H, xs[i]? = some x → Pv i σ H → g x σ H fun σ2 H2 => tb { nx := Pv (i + 1), rt := D.rt, bk := D.nx, ct := Pv (i + 1) } σ2 H2) (hd : ∀ σ H, Pv xs.length σ H → D.nx σ H) : tFor (fun σ H R => iList K tl σ H R ∨ iTup K tl σ H R) g tb D σ H := by
  rcases hx with hx | ⟨rfl, hx⟩
  · by_cases n : xs = []
    · subst n
      exact .inl (st_forL ha hx (fun i σ' H' => i = 0 ∧ σ' = σ ∧ H' = H) ⟨rfl, rfl, rfl⟩ (fun i σ' H' ⟨_, _, e⟩ => by rw [e]; exact hx) (fun i x σ' H' h => by simp at h) (fun σ' H' ⟨_, e1, e2⟩ => by subst e1 e2; exact hd _ _ h0))
    · exact .inl (st_forL ha hx Pv h0 (hl n) hs hd)
  · exact .inr (ha _ ⟨a, rfl, ⟨_, hx⟩, for_tup (xs := []) (fun i σ' H' => i = 0 ∧ σ' = σ ∧ H' = H) ⟨rfl, rfl, rfl⟩ (fun i σ' H' _ ⟨_, _, e⟩ => e ▸ hx) (fun i x σ' H' h => by simp at h) (fun σ' H' ⟨_, e1, e2⟩ => by subst e1 e2; exact hd _ _ h0)⟩)
theorem st_forET {K : PySem.W.Frag} {g : TG} {tb : TS} {D : Ends} {σ : L2.St} {H : Hp} {ta : TA} {a : Addr} {xs : List V} (ha : ∀ R : List V → Hp → Prop, R [.ref a] H → ta σ H R) (hx : LT K H a xs) (Pv : Nat → L2.St → Hp → Prop) (h0 : Pv 0 σ H) (hl : xs ≠ [] → ∀ i σ H', Pv i σ H' → H' a = some (.lst xs))
    (hs : ∀ i x T σ H H', xs[i]? = some x → Pv i σ H → Same H H' → H' T = some (.tup [.int (i : Nat), x]) → g (.ref T) σ H' fun σ2 H2 => tb { D with nx := Pv (i + 1), ct := Pv (i + 1), bk := D.nx } σ2 H2) (hd : ∀ σ H, Pv xs.length σ H → D.nx σ H) : tFor (fun σ H R => iEnum K ta σ H R ∨ iEnumT K ta σ H R) g tb D σ H := by
  rcases hx with hx | ⟨rfl, hx⟩
  · by_cases n : xs = []
    · subst n
      exact .inl (st_forE ha hx (fun i σ' H' => i = 0 ∧ σ' = σ ∧ H' = H) ⟨rfl, rfl, rfl⟩ (fun i σ' H' ⟨_, _, e⟩ => by rw [e]; exact hx) (fun i x T σ' H1 H2 h => by simp at h) (fun σ' H' ⟨_, e1, e2⟩ => by subst e1 e2; exact hd _ _ h0))
    · exact .inl (st_forE ha hx Pv h0 (hl n) hs hd)
  · exact .inr (ha _ ⟨a, [], rfl, hx, fun i _ σ' H' => i = 0 ∧ σ' = σ ∧ H' = H, ⟨0, rfl, rfl, rfl⟩, fun i m σ' H' ⟨e, e1, e2⟩ => by subst e e1 e2; exact .inl ⟨⟨[], hx, rfl⟩, hd _ _ h0⟩⟩)
def rListT : List V → Hp → VK → Prop := fun xs H Q => ∃ p ys, xs = [.ref p] ∧ H p = some (.tup ys) ∧ News H (.lst ys) Q
theorem call_listT {X : Cx} : CallR X (.type "list") rListT := CallR.imp call_list_of fun xs H Q ⟨p, ys, a, b, n⟩ => ⟨p, ys, a, .inr (SqT.of b), n.all⟩
theorem atI_lastG {xs : List V} {x : V} (h : xs[xs.length - 1]? = some x) : atI xs (-1) = some x := by
  have h0 : 0 < xs.length := by have := (List.getElem?_eq_some_iff.mp h).1; omega
  unfold atI ixN
  rw [if_neg (by decide), if_pos (by omega), show ((-1 : Int) + xs.length).toNat = xs.length - 1 by omega]
  simpa using h
theorem pe_never {X : Cx} {e : Expr} : PE X e (fun _ _ _ => False) := ⟨fun _ _ _ _ _ _ h => h.elim⟩
/-- {} -/
def tDictE : TE := fun _ H Q => News H (.dK []) Q
theorem pe_dictN {X : Cx} {pos : Pos} : PE X (.Dict [] [] pos) tDictE := PE.imp pe_dnewK fun σ H Q n p hp => n p _ hp (Same.upd hp) upd_same
theorem kitAny_no {K : PySem.W.Frag} {n : String} (h1 : PySem.W.kitOne K (.type n) (.type "list") = some false) (h2 : PySem.W.kitOne K (.type n) (.type "tuple") = some false) : PySem.W.kitAny K (.type n) [.type "list", .type "tuple"] = some false :=
  kitAny_cons (b := false) h1 (fun _ => kitAny_cons (b := false) h2 (fun _ => rfl) (fun h => by cases h)) (fun h => by cases h)
/-- a raising call within a try -/
theorem passTr {X : Cx} {W : WX} {E : XK} (tk : Takes X W) (hE : ∀ cls d σ' H', E cls d H' → W cls d σ' H') : Passes (L2.CX X.prog X.w) X E := by
  intro pins σ H s e s' I h
  exact (passAt tk σ) pins H s e s' I (by
    obtain ⟨a, B, H', cls, d, h1, h2, h3, h4, h5, h6, h7, h8⟩ := h
    exact ⟨a, B, H', cls, d, h1, h2, h3, h4, h5, h6, h7, hE _ _ _ _ h8⟩)
end Iz
/-! Ob -/
set_option Elab.async false
set_option linter.all false
set_option maxRecDepth 100000
set_option maxHeartbeats 4000000
namespace Iz
open PySem PySem.Spec PyProof.Rows L2 LamX
open He (ga)
/-! ### own classes' + - | & between two of one class -/
theorem back_of {v : V} {w : Value} {s : Shared} {R : Value → Shared → Prop} (rv : RelV v w) (q : R w s) : PySem.W.CmpBack R w s := by
  unfold PySem.W.CmpBack
  split
  · cases v <;> first
      | (exfalso; exact nomatch rv)
      | (exfalso; obtain ⟨_, z⟩ := rv; cases z)
      | (exfalso; cases rv)
  · exact q
def rOwnB (C : Addr) (sp : Sp) (E : XK) : R2 := fun x y H Q => ∃ a b dx fs dy gs, x = .ref a ∧ y = .ref b ∧ H a = some (.ins C dx fs) ∧ H b = some (.ins C dy gs) ∧ sp [.ref a, .ref b] H Q E
theorem op_ownB {X : Cx} {CX : CXT} {k : Nat} {x m : Str} {ps : List Str} {sp : Sp} {E : XK} {op : Operator} (O : OkM X.prog X.w X.K X.mg X.base CX k x m ps [] sp) (hm : PySem.dunder op.info.2 = m) (sf : PySem.W.selfFirst X.K (ga X.K x) = true) (hr : Room k X.A) (hx : Passes CX X E) : OpR X (binaryOp op) (rOwnB (ga X.K x) sp E) := by
  intro pins s σ H v0 y v u Q I rx ry h
  obtain ⟨a, b, dx, fs, dy, gs, rfl, rfl, ha, hb, hsp⟩ := h
  cases rx
  obtain ⟨f, fd, M, bd, F⟩ := O.ex
  obtain ⟨ds, hd, hbi⟩ := bd 0 (Nat.le_refl _)
  cases hd
  obtain ⟨mA, O', _⟩ := ins_get I.hok ha
  obtain ⟨od, J, _⟩ := O'.look
  obtain ⟨mB, OB, _⟩ := ins_get I.hok hb
  obtain ⟨odB, JB, _⟩ := OB.look
  obtain ⟨mm, hF⟩ := I.fr
  subst hm
  cases ry
  exact PySem.W.binop_K hF I.ok.mod.kin J JB.type sf M.at_ M.fn (own_call I F hbi hr hx (show RelV (.ref b) (.ref b) from rfl) hsp fun v w H' s' I' rv q => back_of rv ⟨v, H', I', rv, q⟩)
/-! ### tuples cut, put together -/
def rSlG (K : PySem.W.Frag) : V → Option Int → Option Int → Hp → VK → Prop := fun x lo hi H Q => ∃ a xs ys, x = .ref a ∧ SqT K H a xs ∧ cutV xs lo hi = ys ∧ (HT.sIx xs.length 0 lo = 0 ∧ HT.sIx xs.length xs.length hi = xs.length → xs = ys) ∧ ∀ p H', Same H H' → SqT K H' p ys → Q (.ref p) H'
theorem sl_tupG {X : Cx} : SlR X (rSlG X.K) := fun pins s σ H x v vl vu lo hi sl Q I rx hs pl pu ⟨a, xs, ys, e, h, ec, ew, k⟩ => sl_tupA pins s σ H x v vl vu lo hi sl Q I rx hs pl pu
  ⟨a, xs, e, h, fun w => k a H (fun _ _ h => h) (ew w ▸ h), fun _ p hp => k p _ (Same.upd hp) (SqT.of (by rw [upd_same, ec]))⟩
def rCatG (K : PySem.W.Frag) : R2 := fun x y H Q => ∃ a b xs ys, x = .ref a ∧ y = .ref b ∧ SqT K H a xs ∧ SqT K H b ys ∧ xs.length + ys.length ≤ sizeLine ∧ ∀ p H', Same H H' → SqT K H' p (xs ++ ys) → Q (.ref p) H'
theorem op_catG {X : Cx} : OpR X (binaryOp .Add) (rCatG X.K) := fun pins s σ H x y v u Q I rx ry ⟨a, b, xs, ys, e1, e2, ha, hb, hz, k⟩ => op_catA pins s σ H x y v u Q I rx ry
  ⟨a, b, xs, ys, e1, e2, ha, hb, hz, fun e => k b H (fun _ _ h => h) (by rw [e]; exact hb), fun _ e => k a H (fun _ _ h => h) (by rw [e, List.append_nil]; exact ha), fun _ _ p hp => k p _ (Same.upd hp) (SqT.of upd_same)⟩
/-! ### a comprehension over zip of two tuples -/
theorem walk_zipT {K : PySem.W.Frag} {a b : Addr} {xs ys : List V} {n : Nat} (hn : n = min xs.length ys.length) : Walk (RZ.ItzT K a b) n (fun H => SqT K H a xs ∧ SqT K H b ys) (YPair (fun i => xs[i]?) (fun i => ys[i]?)) := by
  subst hn
  refine ⟨fun i _ hi q => ?_, fun _ q => ⟨xs, ys, q.1, q.2, by omega⟩, fun i H v H' _ q y => ?_⟩
  · have h1 : i < xs.length := by omega
    have h2 : i < ys.length := by omega
    exact ⟨xs, ys, xs[i], ys[i], q.1, q.2, by simp [h1], by simp [h2]⟩
  · obtain ⟨T, x, z, h1, h2, h3, h4, h5⟩ := y
    exact ⟨T, x, z, h1, h2, h3, h4 xs q.1, h5 ys q.2⟩
theorem lc_zip {K : PySem.W.Frag} {ta : TA} {g : TG} {tt : TT} {te : TE} {vs : List Nat} {σ : L2.St} {H : Hp} {Q : VK} (h : ta σ H fun us H1 => ∃ a b xs ys, us = [.ref a, .ref b] ∧
    ((SqL K H1 a xs ∧ SqL K H1 b ys ∧ tLc (fun _ H R => R (L2.Itz K a b) H) g tt te vs σ H1 Q) ∨ (SqT K H1 a xs ∧ SqT K H1 b ys ∧ tLc (fun _ H R => R (RZ.ItzT K a b) H) g tt te vs σ H1 Q))) : tLc (RZ.iZipA K ta) g tt te vs σ H Q := h
theorem st_zipT {K : PySem.W.Frag} {g : TG} {tt : TT} {te : TE} {vs : List Nat} {σ : L2.St} {H : Hp} {Q : VK} {a b : Addr} {xs ys : List V} {n : Nat} (hn : n = min xs.length ys.length) (Pv : Addr → Nat → Hp → Prop)
    (h0 : ∀ D H1, H D = none → Same H H1 → H1 D = some (.lst []) → Pv D 0 H1) (hl : ∀ D i H, Pv D i H → SqT K H a xs ∧ SqT K H b ys)
    (hs : ∀ D i x y T H H', xs[i]? = some x → ys[i]? = some y → Pv D i H → Same H H' → H' T = some (.tup [x, y]) → g (.ref T) (wipe σ vs) H' fun σ2 H2 => wipe σ2 vs = wipe σ vs ∧ tt σ2 H2 fun b H3 => if b = true then te σ2 H3 fun y H4 => ∃ acc, H4 D = some (.lst acc) ∧ acc.length < sizeLine ∧ Pv D (i + 1) (upd H4 D (.lst (acc ++ [y]))) else Pv D (i + 1) H3)
    (hd : ∀ D H, Pv D n H → Q (.ref D) H) : tLc (fun _ H R => R (RZ.ItzT K a b) H) g tt te vs σ H Q := fun D hD =>
  lc_it (walk_zipT hn) (Pv D) (h0 D _ hD (Same.upd hD) upd_same) (fun i H _ p => hl D i H p) (fun i x H1 H2 hi p y => by
    obtain ⟨T, u, z, rfl, hT, rfl, e1, e2⟩ := y
    exact hs D i u z T H1 _ e1 e2 p (Same.upd hT) upd_same) (hd D)
/-! ### enumerate over a tuple, items handed out -/
def IteT (K : PySem.W.Frag) (a : Addr) : It :=
  ⟨fun i H => ∃ (xs : List V) (x : V), SqT K H a xs ∧ xs[i]? = some x, fun i H v H' => ∃ T x, v = .ref T ∧ H T = none ∧ H' = upd H T (.tup [.int (i : Nat), x]) ∧ ∀ xs, SqT K H a xs → xs[i]? = some x, fun i H => ∃ xs : List V, SqT K H a xs ∧ xs.length = i⟩
theorem turn_enumG {P : Program} {w : World} {K : PySem.W.Frag} {elts : List Expr} {kk : Nat} {tpos : Pos} (a e it : Addr) :
    Turn P w K (.Tuple elts kk tpos) (IteT K a) [e, it] e fun i h => (∃ old, IsEnum h e it ((i : Nat) : Int) old) ∧ h.IsTupleIter it a i ∧ e ≠ it := by
  refine ⟨.head _, ?_, ?_, ?_, ?_, ?_⟩
  · rintro i h ⟨⟨old, he⟩, ⟨o, ho, hc, hd⟩, ne⟩ b hb
    simp only [List.mem_cons, List.not_mem_nil, or_false] at hb
    rcases hb with rfl | rfl
    · exact ⟨_, he, fun v z => by cases z⟩
    · exact ⟨_, ho, fun v z => by rw [hd] at z; cases z⟩
  · rintro i h h' ⟨⟨old, he⟩, ⟨o, ho, hc, hd⟩, ne⟩ k
    exact ⟨⟨old, k e (.head _) _ he⟩, ⟨o, k it (.tail _ (.head _)) _ ho, hc, hd⟩, ne⟩
  · rintro X rfl rfl rfl hc i pins s σ H E I hf ⟨⟨old, he⟩, hit, ne⟩ ⟨xs, x, hq, hx⟩
    obtain ⟨its, rv, htup, hz⟩ := I.tuple hq
    obtain ⟨u, hu, ru⟩ := rv.get hx
    have htup2 := htup
    obtain ⟨o, ho, hcl, n, hd⟩ := htup
    have ia : it ≠ a := fun z => by subst z; obtain ⟨o2, ho2, hc2, _⟩ := hit; rw [ho] at ho2; cases ho2; rw [hcl] at hc2; simp at hc2
    have ea : e ≠ a := fun z => by subst z; rw [he] at ho; cases ho; simp at hcl
    have hnd : X.A.in1.handled = none := I.ok.hd hc
    have hel : e < s.heap.objs.size := Heap.lt_size he
    have hil : it < s.heap.objs.size := by obtain ⟨_, q, _⟩ := hit; exact Heap.lt_size q
    have hlt : i < its.toArray.size := by rw [List.size_toArray]; exact (List.getElem?_eq_some_iff.mp hu).1
    refine wpAny_pyNext_enum_itemC (Draws.tuple (prog := X.prog) (w := X.w) hnd it a ia.symm its.toArray) he ⟨hit, htup2⟩ hlt ne (by simp [ne, ea]) fun z h' tk hP ho' hs' hT hsz hk => ?_
    have ez : z = u := by
      have h1 : its.toArray[i]? = some z := hP
      rw [List.getElem?_toArray, hu] at h1
      exact (Option.some.inj h1).symm
    subst ez
    refine ⟨_, rfl, wpAny_letOwnedTupleGo_enum (s := { s with heap := h', toks := tk + 1 }) ho' fun h'' he' sb => ?_⟩
    have hT2 : h''.get? s.heap.objs.size = some { cls := .type "tuple", data := .seq #[.int i tk, z] } := (sb.2 _ (Nat.ne_of_gt hel)).trans hT
    have new : ObjOk X.prog X.w (upd H s.heap.objs.size (.tup [.int (i : Nat), x])) h'' s.heap.objs.size (.tup [.int (i : Nat), x]) :=
      ⟨by show 2 ≤ sizeLine; decide, [.int i tk, z], .cons ⟨_, rfl⟩ (.cons ru .nil), ⟨_, hT2, rfl, _, rfl⟩⟩
    have I1 : Inv X pins σ (upd H s.heap.objs.size (.tup [.int (i : Nat), x])) { s with heap := h'', toks := tk + 1 } :=
      I.turnedNew (ch := [e, it]) (fun b ob hb q => (sb.2 b (fun z => hb (by simp [z]))).trans (hk b ob (fun z => hb (by simp [z])) (fun z => hb (by simp [z])) q)) hf (Nat.le_refl _) new
    refine ⟨.ref s.heap.objs.size, _, I1, rfl, ⟨_, x, rfl, I.hok.fresh (Nat.le_refl _), rfl, fun ys hy => by rw [I.tuple_inj hy hq]; exact hx⟩, ⟨⟨z, ?_⟩, hs'.1.at fun o q => (sb.2 it (Ne.symm ne)).trans q, ne⟩, fun b hb => ?_⟩
    · have e1 : ((i + 1 : Nat) : Int) = (i : Int) + 1 := by omega
      rw [e1]; exact he'
    · have hb' : b < s.heap.objs.size := by
        have e' : b = e ∨ b = it := by simpa using hb
        rcases e' with z | z
        · rw [z]; exact hel
        · rw [z]; exact hil
      rw [upd_ne (Nat.ne_of_lt hb')]
      exact (hf b hb).1
  · rintro X rfl rfl rfl hc i pins s σ H E I hf ⟨⟨old, he⟩, hit, ne⟩ ⟨xs, hq, hl⟩
    exact (turn_enumT (elts := elts) (kk := kk) (tpos := tpos) a e it).done X rfl rfl rfl hc i pins s σ H E I hf ⟨⟨old, he⟩, hit, ne⟩ ⟨xs, hq, hl⟩
  · rintro A i s Q E ⟨⟨old, he⟩, _, _⟩ q
    exact wpAny_pyIter_enum he q
def iEnumG (K : PySem.W.Frag) (ta : TA) : TI := fun σ H R => ta σ H fun vs H1 => ∃ a xs, vs = [.ref a] ∧ SqT K H1 a xs ∧ R (IteT K a) H1
theorem pi_enumG {X : Cx} {e : Expr} {ta : TA} {p pos tpos : Pos} {elts : List Expr} {kk : Nat} (hg : Gl X "enumerate") (hm : X.mg "enumerate" = none) (ha : PA X [e] ta) (hs : starEach [e] X.env = [(false, eval e X.env)] := by rfl) :
    PI X (.Tuple elts kk tpos) (.Call (.Name "enumerate" p) [e] [] pos) (iEnumG X.K ta) := by
  refine ⟨fun pins s σ H R I h => ?_⟩
  refine PyProof.Rows.Call_ (L2.ld_blt I hg hm PyProof.Rows.boot_enumerate (PyProof.Rows.callWith_type1 (thn (ha.run pos pins s σ H _ I h) fun us s1 ⟨vs, H1, I1, r1, q1⟩ => ?_) hs rfl) (by decide) (by decide)) rfl
  obtain ⟨a, xs, rfl, hq, q⟩ := q1
  obtain ⟨u, rfl, rv⟩ := vals1 r1
  cases rv
  obtain ⟨its, rv, htup, z⟩ := I1.tuple hq
  refine call_enumT (begins_tuple a its.toArray) htup fun h' he hit hsz hk => ?_
  have I2 := Inv.kept (t' := s1.toks) I1 hk
  refine wpAny_pyIter_enum he ?_
  refine ⟨s1.heap.objs.size + 1, [s1.heap.objs.size + 1, s1.heap.objs.size], _, IteT X.K a, H1, rfl, I2, turn_enumG a (s1.heap.objs.size + 1) s1.heap.objs.size, ⟨⟨_, he⟩, ⟨_, hit, rfl, rfl⟩, Nat.succ_ne_self _⟩, fun b hb => ?_, q⟩
  have hle : s1.heap.objs.size ≤ b := by
    simp only [List.mem_cons, List.not_mem_nil, or_false] at hb
    rcases hb with rfl | rfl
    · exact Nat.le_succ _
    · exact Nat.le_refl _
  exact I1.fpOk hle (I1.hok.fresh hle)
theorem walk_enumG {K : PySem.W.Frag} {a : Addr} {xs : List V} : Walk (IteT K a) xs.length (fun H => SqT K H a xs) (YPair (fun i => some (.int (i : Nat))) (fun i => xs[i]?)) := by
  refine ⟨fun i _ hi q => ⟨xs, xs[i], q, by simp [hi]⟩, fun _ q => ⟨xs, q, rfl⟩, fun i H v H' _ q y => ?_⟩
  obtain ⟨T, x, h1, h2, h3, h4⟩ := y
  exact ⟨T, _, x, h1, h2, h3, rfl, h4 xs q⟩
/-! ### a list or a tuple -/
def LG (K : PySem.W.Frag) (H : Hp) (a : Addr) (xs : List V) : Prop := H a = some (.lst xs) ∨ SqT K H a xs
section
variable {K : PySem.W.Frag} {a : Addr} {H H' : Hp} {xs : List V}
theorem LG.same (h : LG K H a xs) (s : Same H H') : LG K H' a xs := h.elim (fun h => .inl (s _ _ h)) fun h => .inr (SqT.same h s)
theorem LG.ty (h : LG K H a xs) : ∃ t, TyX K H (.ref a) t ∧ PySem.W.kitAny K t [.type "list", .type "tuple"] = some true := by
  rcases h with h | (h | ⟨o, h⟩) | ⟨o, its, n, h1, h2, _⟩
  · exact ⟨_, .base (.lst h), kitAny_ll⟩
  · exact ⟨_, .base (.tup h), kitAny_tl⟩
  · exact ⟨_, .fTuple h, kitAny_tl⟩
  · exact ⟨_, .kTuple h1 h2, kitAny_tl⟩
theorem st_forLG {g : TG} {tb : TS} {D : Ends} {σ : L2.St} {tl : TE} {H0 : Hp} (ha : ∀ R : V → Hp → Prop, R (.ref a) H → tl σ H R) (hx : LG K H0 a xs) (s0 : Same H0 H) (Pv : Nat → L2.St → Hp → Prop) (h0 : Pv 0 σ H) (hl : ∀ i σ H', Pv i σ H' → Same H0 H')
    (hs : ∀ i x σ H, xs[i]? = some x → Pv i σ H → g x σ H fun σ2 H2 => tb { nx := Pv (i + 1), rt := D.rt, bk := D.nx, ct := Pv (i + 1) } σ2 H2) (hd : ∀ σ H, Pv xs.length σ H → D.nx σ H) : tFor (fun σ H R => iList K tl σ H R ∨ iTup K tl σ H R) g tb D σ H := by
  rcases hx with hx | hx
  · exact .inl (st_forL ha (s0 _ _ hx) Pv h0 (fun i σ' H' p => hl i σ' H' p _ _ hx) hs hd)
  · exact .inr (ha _ ⟨a, rfl, ⟨_, SqT.same hx s0⟩, for_tup Pv h0 (fun i σ' H' _ p => SqT.same hx (hl i σ' H' p)) hs hd⟩)
theorem st_forEG {g : TG} {tb : TS} {D : Ends} {σ : L2.St} {ta : TA} {H0 : Hp} (ha : ∀ R : List V → Hp → Prop, R [.ref a] H → ta σ H R) (hx : LG K H0 a xs) (s0 : Same H0 H) (Pv : Nat → L2.St → Hp → Prop) (h0 : Pv 0 σ H) (hl : ∀ i σ H', Pv i σ H' → Same H0 H')
    (hs : ∀ i x T σ H H', xs[i]? = some x → Pv i σ H → Same H H' → H' T = some (.tup [.int (i : Nat), x]) → g (.ref T) σ H' fun σ2 H2 => tb { D with nx := Pv (i + 1), ct := Pv (i + 1), bk := D.nx } σ2 H2) (hd : ∀ σ H, Pv xs.length σ H → D.nx σ H) : tFor (fun σ H R => iEnum K ta σ H R ∨ iEnumG K ta σ H R) g tb D σ H := by
  rcases hx with hx | hx
  · exact .inl (st_forE ha (s0 _ _ hx) Pv h0 (fun i σ' H' p => hl i σ' H' p _ _ hx) hs hd)
  · exact .inr (ha _ ⟨a, xs, rfl, SqT.same hx s0, for_it walk_enumG Pv h0 (fun i σ H' _ p => SqT.same hx (hl i σ H' p)) (fun i v σ H1 H2 hi p y => by
      obtain ⟨T, x, z, rfl, hT, rfl, e1, e2⟩ := y
      cases e1
      exact hs i z T σ H1 _ e2 p (Same.upd hT) upd_same) hd⟩)
end
end Iz
/-! Lb -/
set_option Elab.async false
set_option linter.all false
set_option maxRecDepth 100000
set_option maxHeartbeats 4000000
namespace LamX
open PySem PySem.Spec PyProof.Rows L2
/-- a name's slot is empty -/
def slotFree (N : List Str) (p : Str) (σ : L2.St) : Bool := (N.zip σ).all fun q => !(q.1 == p) || q.2.isNone
theorem slotFree_at {N : List Str} {p : Str} {σ : L2.St} (h : slotFree N p σ = true) : ∀ (i : Nat) (v : V), N[i]? = some p → σ[i]? ≠ some (some v) := by
  intro i v h1 h2
  have hm : (p, some v) ∈ N.zip σ := by
    refine List.mem_of_getElem? (i := i) ?_
    rw [List.getElem?_zip_eq_some]
    exact ⟨h1, h2⟩
  have := List.all_eq_true.mp h _ hm
  simp at this
section
variable {X : Cx} {pins : List (Addr × Obj)} {σ : L2.St} {H HZ : Hp} {s s1 : Shared}
theorem lam_startS {A : Around} {outer : List Env} {E : XK} {scope : Scope} {f c' : Addr} {h₁ : Heap} {tk : Nat} {p : Str} {u : Value} {v : V} (I : Inv X pins σ H s) (L : LamP X.env.scope scope p) (hp : ∀ (i : Nat) (v : V), X.N[i]? = some p → σ[i]? ≠ some (some v)) (e0 : Env0 X.prog X.w X.K X.mg X.base A outer s1 HZ) (hd : A.handled = none)
    (un : Un (frs X.stack) [] H HZ s.heap s1.heap) (hns : h₁.Ns s1.heap.objs.size fun y => ([(p, u)] : List (Str × Value)).reverse.lookup y) (rv : RelV v u) (kp : ∀ b o, s1.heap.get? b = some o → h₁.get? b = some o) :
    Inv (lamCxP X A outer s1 HZ E scope f c' p) [] (σ ++ [some v]) HZ { s1 with heap := h₁, toks := tk } := by
  have hfree := L.has I.ok
  have cm : ∀ {y c}, (cloFrom X.env.cells scope.names []).lookup y = some c → X.env.cells.lookup y = some c := fun {y c} e => by
    rcases cloFrom_mem (PySem.mem_of_lookup e) with hm | ⟨h1, h2⟩
    · cases hm
    · obtain ⟨c1, hc⟩ := hfree _ h1 rfl
      have hc : X.env.cells.lookup y = some c1 := hc
      have e2 : c = c1 := by
        rw [h2, hc] <;> rfl
      rw [e2]
      exact hc
  have look : ∀ {y}, scope.names.lookup y = some .free → ∃ c, (cloFrom X.env.cells scope.names []).lookup y = some c := fun {y} hl => by
    have hy : (y, NameKind.free) ∈ scope.names := PySem.mem_of_lookup hl
    exact mem_lookup (cloFrom_has (cells := X.env.cells) (acc := []) hy)
  have cellK : ∀ {c : Addr} {v : Option Value}, H c = none → s.heap.IsCell c v → h₁.IsCell c v := fun {c v} n ⟨o, ho, hd⟩ => by
    obtain ⟨sl, q⟩ := un.any ho n (by simp)
    exact ⟨_, kp _ _ q, hd⟩
  have noA : ∀ b : Addr, b ∉ (lamCxP X A outer s1 HZ E scope f c' p).ex := fun b z => absurd (show b ∈ ([] : List Addr) from z) (by simp)
  refine ⟨⟨e0.mod, L.kind, rfl, rfl, Nat.le_refl _, fun y z c e1 e2 => I.ok.inj y z c (cm e1) (cm e2), fun y hy => ?_, fun y c z _ => ?_, fun _ => hd, Around.frames_deeper e0.frames, .inr ⟨rfl, rfl⟩, fun b z => absurd z (noA b), e0.bs, e0.bsz, fun b _ _ => noA b,
      fun b z => absurd z (noA b), e0.funs, e0.frf⟩,
    rfl, e0.bare, Un.kept kp, ⟨_, hns, fun i y v' e1 e2 e3 => ?_⟩, fun y c e => ?_, e0.hok.fresh (Nat.le_refl _), fun y c e => ?_, fun q hq => absurd (show q ∈ ([] : List (Addr × Obj)) ++ [] from hq) (by simp), e0.hok.kept kp, ?_⟩
  · have hy : scope.names.lookup y = some .cell ∨ scope.names.lookup y = some .free := hy
    rcases hy with hy | hy
    · exact absurd rfl (L.own _ (PySem.mem_of_lookup hy)).2
    · exact look hy
  · have z : false = true := z
    cases z
  · have e3 : Vis scope y := e3
    have e1 : (X.N ++ [p])[i]? = some y := e1
    have hl := I.len
    by_cases hi : i < X.N.length
    · rw [List.getElem?_append_left hi] at e1
      rw [List.getElem?_append_left (by omega)] at e2
      rcases e3 with k | k | k
      · have := (L.own _ (PySem.mem_of_lookup k)).1 rfl
        exact absurd e2 (hp i v' (by rw [← (show y = p from this)]; exact e1))
      · exact absurd rfl (L.own _ (PySem.mem_of_lookup k)).2
      · obtain ⟨m, hn, hl⟩ := I.loc
        have hvis : Vis X.env.scope y := (L.free _ (PySem.mem_of_lookup k) rfl).elim (fun k => .inr (.inl k)) (fun k => .inr (.inr k))
        obtain ⟨w', r, q⟩ := hl i y v' e1 e2 hvis
        obtain ⟨c2, h2⟩ := look k
        refine ⟨w', r, .inr ⟨.inr k, c2, h2, ?_⟩⟩
        have c1 := cm h2
        rcases q with ⟨k', _⟩ | ⟨_, c3, e', z⟩
        · have k' : X.env.scope.names.lookup y = some .local := k'
          rcases L.free _ (PySem.mem_of_lookup k) rfl with k2 | k2 <;> rw [show X.env.scope.names.lookup y = _ from k2] at k' <;> cases k'
        · rw [c1] at e'
          cases e'
          exact cellK (I.freeC y _ c1) z
    · rw [List.getElem?_append_right (by omega)] at e1 e2
      have h0 : i - X.N.length = 0 := by
        have := (List.getElem?_eq_some_iff.mp e1).1
        simp at this
        omega
      rw [h0] at e1
      rw [show i - σ.length = 0 by omega] at e2
      simp at e1 e2
      subst e1 e2
      exact ⟨u, rv, .inl ⟨L.par, by simp⟩⟩
  · obtain ⟨w', z⟩ := I.cell y c (cm e)
    exact ⟨w', cellK (I.freeC y c (cm e)) z⟩
  · obtain ⟨v, o, ho, hd⟩ := I.cell y c (cm e)
    exact un.free c o ho (I.freeC y c (cm e)) (by simp)
  · show (σ ++ [some v]).length = (X.N ++ [p]).length
    rw [List.length_append, List.length_append, I.len]
    rfl
/-- a(e), in the def that got the lambda -/
theorem pe_actS {CXg : CXT} {Eg : XK} {Ng : List Str} {qg : Str} {sg : Scope} {g f c' : Addr} {cdg pm ctv : Value} {params : Arguments} {body : Expr} {scope : Scope} {k i : Nat} {a p : Str} {tb : TE} {p1 p2 : Pos} {e : Expr} {ta : TA}
    (I : Inv X pins σ H s) (L : LamP X.env.scope scope p) (hp : ∀ (i : Nat) (v : V), X.N[i]? = some p → σ[i]? ≠ some (some v)) (hf : s.heap.get? f = some (PySem.W.kla_obj "<lambda>" (X.env.qual ++ "<lambda>") params body scope (cloFrom X.env.cells scope.names []) pm c' ctv)) (hfn : H f = none) (hfr : f ∉ frs X.stack)
    (hbind : ∀ u : Value, bindArgs (PySem.W.kla_fn "<lambda>" (X.env.qual ++ "<lambda>") params body scope (cloFrom X.env.cells scope.names []) pm (.ref c') ctv) ⟨[u], []⟩ = pure [(p, u)])
    (hr : Room (k + 1) (X.A.deeper (envOfC qg sg s.heap.objs.size g cdg)))
    (hbody : ∀ (A : Around) (outer : List Env) (s : Shared) (H : Hp), Room k (A.deeper (lamEnv X scope s.heap.objs.size f c')) → PE (lamCxP X A outer s H (fun _ _ _ => False) scope f c' p) body tb)
    (hN : Ng[i]? = some a) (hv : Vis sg a) (hd : (a == ("__debug__" : Str)) = false) (hcd : (a == ("__classdict__" : Str)) = false)
    (ha : PA (cxOf CXg X.prog X.w X.K X.mg X.base Ng qg sg g cdg X.A X.stack s H Eg).nox [e] ta)
    (he : starEach [e] (envOfC qg sg s.heap.objs.size g cdg) = (false, eval e (envOfC qg sg s.heap.objs.size g cdg)) :: starEach [] (envOfC qg sg s.heap.objs.size g cdg)) :
    PE (cxOf CXg X.prog X.w X.K X.mg X.base Ng qg sg g cdg X.A X.stack s H Eg).nox (.Call (.Name a p1) [e] [] p2)
      (fun σZ HZ Q => σZ[i]? = some (some (.ref f)) ∧ ta σZ HZ fun vs H1 => ∃ v, vs = [v] ∧ H1 c' = some (CodeO c' (X.env.qual ++ "<lambda>")) ∧ tb (σ ++ [some v]) H1 Q) := by
  refine ⟨fun pinsZ sZ σZ HZ Q IZ h => ?_⟩
  obtain ⟨hs, ht⟩ := h
  refine wpAny_Call_Name_kw (thn ((pe_var (X := (cxOf CXg X.prog X.w X.K X.mg X.base Ng qg sg g cdg X.A X.stack s H Eg).nox) (pos := p1) (i := i) hN hv hd hcd).run pinsZ sZ σZ HZ (fun v H1 => v = .ref f ∧ H1 = HZ) IZ ⟨.ref f, hs, rfl, rfl⟩) fun u s1 ⟨v, H1, I1, r1, q1⟩ => ?_)
  obtain ⟨ev, eH⟩ := q1
  subst ev
  rw [eH] at I1
  obtain rfl : u = Value.ref f := r1
  have of1 : s1.heap.get? f = some (PySem.W.kla_obj "<lambda>" (X.env.qual ++ "<lambda>") params body scope (cloFrom X.env.cells scope.names []) pm c' ctv) := I1.base.keep f _ hf hfn hfr (fun z => nomatch (show f ∈ ([] : List Addr) from z))
  refine PySem.W.callWith_F (first := []) ⟨_, _, _, _, of1⟩ (thn (ha.run p2 pinsZ s1 σZ HZ _ I1 ht) fun us s2 ⟨vs, H2, I2, r2, v, ev, hc, ht2⟩ => ?_) he rfl
  subst ev
  have of2 : s2.heap.get? f = some (PySem.W.kla_obj "<lambda>" (X.env.qual ++ "<lambda>") params body scope (cloFrom X.env.cells scope.names []) pm c' ctv) := I2.base.keep f _ hf hfn hfr (fun z => nomatch (show f ∈ ([] : List Addr) from z))
  refine ⟨⟨_, _, _, _, of2⟩, ?_⟩
  obtain ⟨u, rfl, rv⟩ := vals1 r2
  show wpAny _ _ (call (.ref f) [u]) _ _ _
  have un : Un (frs X.stack) [] H H2 s.heap s2.heap := I2.base
  obtain ⟨⟨oc, vs, t, hoc, hdc, hvc⟩, _, _⟩ := I2.hok c' _ hc
  have rc : codeAny (model X.prog X.w) (X.A.deeper (envOfC qg sg s.heap.objs.size g cdg)) (.call (.ref f) ⟨[u], []⟩) (CR (L2.CX X.prog X.w) (envOfC qg sg s.heap.objs.size g cdg :: X.stack) X.prog X.w H2 s2 Q (fun _ _ _ => False)) s2 := by
    refine PySem.W.kla_callFunE hr.depth of2 rfl L.co L.gen rfl ⟨c', oc, vs, t, rfl, hoc, hdc, hvc⟩ ?_
    rw [hbind]
    refine wpAny_pure (wpAny_newFunctionEnv (fun y hy => (L.own y hy).2) (fun y hy => by rw [List.mem_singleton.mp hy]; exact L.par) (fun h₁ hns hsb => ⟨I2.nolimit.fresh _ hsb, ?_⟩) L.kind)
    show codeAny _ _ (.expr body (lamEnv X scope s2.heap.objs.size f c')) _ _
    have kp : ∀ b o, s2.heap.get? b = some o → h₁.get? b = some o := fun b o e => hsb.extBut b o (Nat.ne_of_lt (Heap.lt_size e)) (Heap.get?_push_of_some _ e)
    have J : Inv (lamCxP X (X.A.deeper (envOfC qg sg s.heap.objs.size g cdg)) (envOfC qg sg s.heap.objs.size g cdg :: X.stack) s2 H2 (fun _ _ _ => False) scope f c' p) [] (σ ++ [some v]) H2 { s2 with heap := h₁, toks := s2.toks + ([(p, u)] : List (Str × Value)).length } :=
      lam_startS I L hp I2.env0 hr.hd un hns rv kp
    refine PySem.W.kla_codeExpr (wpAny_mono ((hbody _ _ s2 H2 (hr.deeper _)).run [] _ _ H2 Q J ht2) (fun v s' hq => ?_) fun e s' hq => hq)
    obtain ⟨w', H', J', rv, q⟩ := hq
    exact ⟨w', H', J'.os, J'.bare, J'.base, J'.hok, rv, q⟩
  refine wpAny_call (codeAny_mono rc fun r s' hq => ?_)
  cases r with
  | error e => obtain ⟨_, _, _, _, _, _, _, _, _, _, _, _, z⟩ := hq; exact z.elim
  | ok fl =>
    cases fl with
    | ret u => exact I2.after hq
    | next => exact False.elim hq
    | brk => exact False.elim hq
    | cont => exact False.elim hq
end
/-! ### a lambda of one parameter, handed as the third of three -/
def GivesP2 (X : Cx) (Ng : List Str) (x : Str) (sg : Scope) (g : Addr) (cdg : Value) (bg : List Stmt) (a : Str) (q : Str) (TT : (V → Hp → VK → Prop) → V → V → Hp → VK → Prop) : Prop :=
  ∀ (f c' : Addr) (s : Shared) (H : Hp) (v1 v2 : V) (Q : VK) (tl : V → Hp → VK → Prop),
    (∀ (e : Expr) (ta : TA) (p1 p2 : Pos), PA (cxOf C8.CX0 X.prog X.w X.K X.mg X.base Ng x sg g cdg X.A X.stack s H C8.E0).nox [e] ta →
      starEach [e] (envOfC x sg s.heap.objs.size g cdg) = (false, eval e (envOfC x sg s.heap.objs.size g cdg)) :: starEach [] (envOfC x sg s.heap.objs.size g cdg) →
      PE (cxOf C8.CX0 X.prog X.w X.K X.mg X.base Ng x sg g cdg X.A X.stack s H C8.E0).nox (.Call (.Name a p1) [e] [] p2) (fun σZ HZ Q => σZ[2]? = some (some (.ref f)) ∧ ta σZ HZ fun vs H1 => ∃ v, vs = [v] ∧ H1 c' = some (CodeO c' q) ∧ tl v H1 Q)) →
    H c' = some (CodeO c' q) → Room 8 (X.A.deeper (envOfC x sg s.heap.objs.size g cdg)) → TT tl v1 v2 H Q →
    ∃ t, PSs (cxOf C8.CX0 X.prog X.w X.K X.mg X.base Ng x sg g cdg X.A X.stack s H C8.E0).nox bg t ∧ t { nx := fun _ H' => Q .non H', rt := Q } (L2.start Ng [v1, v2, .ref f]) H
def tLam3b (N : List Str) (p : Str) (T : List (Addr × Str)) (q : Str) (TT : (V → Hp → VK → Prop) → V → V → Hp → VK → Prop) (t1 t2 t : TE) : TE := fun σ H Q => slotFree N p σ = true ∧ t1 σ H fun v1 H1 => t2 σ H1 fun v2 H2 => Tabs T H2 ∧ ∀ H3 c', ExtN H2 H3 → Tabs T H3 → H3 c' = some (CodeO c' q) →
  TT (fun v H' Q' => t (σ ++ [some v]) H' Q') v1 v2 H3 Q
section
variable {X : Cx}
/-- x(e1, e2, lambda p: body) -/
theorem pe_lamcall3b {T : List (Addr × Str)} {TT : (V → Hp → VK → Prop) → V → V → Hp → VK → Prop} {x a p0 : Str} {g c P : Addr} {pg : Arguments} {bg : List Stmt} {sg : Scope} {dV kV doc pm cdv ct oc : Value} {an od : Option Addr} {osl : Array (Option Value)} {Ng ps : List Str}
    {params : Arguments} {body e1 e2 : Expr} {scope : Scope} {t1 t2 t : TE} {p lpos pos : Pos} (hg : Gl X x) (hm : X.mg x = some (.ref g)) (hk : PySem.W.keepIn X.K (.ref g) = true)
    (lk : X.K.lookup g = some ⟨oc, od, .func (PySem.W.fnOf x x pg bg sg dV kV doc pm an cdv ct), osl⟩) (hcg : PySem.W.codeIn X.K cdv x = true) (hb : L2.Binds X.K (PySem.W.fnOf x x pg bg sg dV kV doc pm an cdv ct) ps []) (Sg : FnScope Ng ps sg) (hps : ps.length = 3) (hNg : Ng[2]? = some a) (hva : Vis sg a)
    (hG : GivesP2 X Ng x sg g cdv bg a (X.env.qual ++ "<lambda>") TT)
    (TB : TabB X.base X.mg c P) (hcode : X.env.code = .ref c) (hmT : (P, X.env.qual ++ "<lambda>") ∈ T) (hu : ∀ p ∈ T, p.1 = P → p.2 = X.env.qual ++ "<lambda>") (hr : Room 9 X.A) (L : LamP X.env.scope scope p0) (hdef : defaultsOf params X.env = ([], []))
    (hbind : ∀ (q : Str) (cl : List (Str × Addr)) (pm cv ctv u : Value), bindArgs (PySem.W.kla_fn "<lambda>" q params body scope cl pm cv ctv) ⟨[u], []⟩ = pure [(p0, u)])
    (h1 : PE X e1 t1) (h2 : PE X e2 t2)
    (hbody : ∀ (A : Around) (outer : List Env) (s : Shared) (H : Hp) (f c' : Addr), Room 7 (A.deeper (lamEnv X scope s.heap.objs.size f c')) → PE (lamCxP X A outer s H (fun _ _ _ => False) scope f c' p0) body t)
    (he1 : starEach [e1, e2, .Lambda params body scope lpos] X.env = (false, eval e1 X.env) :: starEach [e2, .Lambda params body scope lpos] X.env := by rfl) (he2 : starEach [e2, .Lambda params body scope lpos] X.env = (false, eval e2 X.env) :: starEach [.Lambda params body scope lpos] X.env := by rfl)
    (he3 : starEach [.Lambda params body scope lpos] X.env = (false, eval (.Lambda params body scope lpos) X.env) :: starEach [] X.env := by rfl) (hpl : (backTo pos (starEach [e2, .Lambda params body scope lpos] X.env)).any (·.1) = false := by rfl)
    (hdb : (x == ("__debug__" : Str)) = false := by decide) (hd : (a == ("__debug__" : Str)) = false := by decide) (hcd : (a == ("__classdict__" : Str)) = false := by decide) :
    PE X (.Call (.Name x p) [e1, e2, .Lambda params body scope lpos] [] pos) (tLam3b X.N p0 T (X.env.qual ++ "<lambda>") TT t1 t2 t) := by
  refine ⟨fun pins s σ H Q I ⟨hfree, h⟩ => ?_⟩
  have hp0 := slotFree_at hfree
  refine wpAny_Call_Name_kw (ld_glob I hg hm ?_ hdb)
  refine PySem.W.callWith_K (h₀ := X.base) I.ok.mod.kin hk ?_ he1 hpl
  rw [he1]
  show wpAny _ _ (spliced ((false, eval e1 X.env) :: backTo pos (starEach [e2, .Lambda params body scope lpos] X.env))) _ _ s
  rw [he2]
  show wpAny _ _ (spliced ((false, eval e1 X.env) :: (false, eval e2 X.env) :: backTo pos (starEach [.Lambda params body scope lpos] X.env))) _ _ s
  rw [he3]
  show wpAny _ _ (spliced ((false, eval e1 X.env) :: (false, eval e2 X.env) :: (false, eval (.Lambda params body scope lpos) X.env) :: backTo pos (starEach [] X.env))) _ _ s
  refine Calls.spliced_cons (thn (h1.run pins s σ H _ I h) fun u1 s1 ⟨v1, H1, I1, r1, h⟩ => ?_)
  refine Calls.spliced_cons (thn (h2.run pins s1 σ H1 _ I1 h) fun u2 s2 ⟨v2, H2, I2, r2, hT, h⟩ => ?_)
  refine Calls.spliced_cons (lam_make2 I2 TB hcode hmT hu hT hdef (L.has I2.ok) fun f c' pm' ctv H3 s3 I3 eN T3 hf hfn hfr hco => ?_)
  have h := h H3 c' eN T3 hco
  refine Calls.spliced_nil ⟨I3.kIn, ?_⟩
  have rc : codeAny (model X.prog X.w) X.A (.call (.ref g) ⟨[u1, u2, .ref f], []⟩) (CR C8.CX0 X.stack X.prog X.w H3 s3 Q C8.E0) s3 := by
    refine run_ofS (N := Ng) (ps := ps) (us := [u1, u2, .ref f]) (vs := [v1, v2, .ref f]) lk hcg Sg hr I3.env0 (hb s3 [u1, u2, .ref f] I3.kIn (by simp [hps])) (.cons r1 (.cons r2 (.cons rfl .nil))) (by simp [hps]) fun hr' => ?_
    obtain ⟨t', ht', hq'⟩ := hG f c' s3 H3 v1 v2 Q (fun v H' Q' => t (σ ++ [some v]) H' Q') (fun e ta p1 p2 ha he => pe_actS I3 L hp0 hf hfn hfr (fun u => hbind _ _ _ _ _ u) hr' (fun A outer s H hr2 => hbody A outer s H f c' hr2) hNg hva hd hcd ha he) hco hr' h
    exact ⟨t', ht'.nox, hq'⟩
  refine wpAny_call (codeAny_mono rc fun r s4 hq => ?_)
  cases r with
  | error e => exact (show False from hq).elim
  | ok fl =>
    cases fl with
    | ret u => exact I3.after hq
    | next => exact False.elim hq
    | brk => exact False.elim hq
    | cont => exact False.elim hq
end
end LamX
namespace Iz
open PySem PySem.Spec PyProof.Rows L2 LamX
theorem plam3b {X : Cx} {TS : List (Addr × Str)} {x a p0 : Str} {st : Stmt} {N ps : List Str} {TT : (V → Hp → VK → Prop) → V → V → Hp → VK → Prop} {c P : Addr} {qn : Str} {params : Arguments} {body e1 e2 : Expr} {scope : Scope} {t1 t2 t : TE} {p lpos pos : Pos}
    (F : ∃ (f : Addr) (fd : FuncData), X.mg x = some (.ref f) ∧ Fun X.K x x st f fd) (S : FnScope N ps (defScope st))
    (hb : ∀ (kV doc pm : Value) (an : Option Addr) (cdv ct : Value) (us : List Value), us.length = ps.length → bindArgs (PySem.W.fnOf x x (defArgs st) (defBody st) (defScope st) .none kV doc pm an cdv ct) ⟨us, []⟩ = pure (ps.zip us))
    (hG : ∀ (g : Addr) (cdg : Value), GivesP2 X N x (defScope st) g cdg (defBody st) a qn TT)
    (hm : (P, qn) ∈ TS) (hu : ∀ q ∈ TS, q.1 = P → q.2 = qn) (TB : TabB X.base X.mg c P) (hcode : X.env.code = .ref c) (hq : X.env.qual ++ "<lambda>" = qn) (hr : Room 9 X.A) (L : lamPB X.env.scope scope p0 = true)
    (h1 : PE X e1 t1) (h2 : PE X e2 t2)
    (hbody : ∀ (A : Around) (outer : List Env) (s : Shared) (H : Hp) (f c' : Addr), Room 7 (A.deeper (lamEnv X scope s.heap.objs.size f c')) → PE (lamCxP X A outer s H (fun _ _ _ => False) scope f c' p0) body t)
    (hps : ps.length = 3 := by rfl) (hdef : defaultsOf params X.env = ([], []) := by rfl) (hg : Gl X x := by rfl) (hv : Vis (defScope st) a := by first | exact Or.inl rfl | exact Or.inr (Or.inl rfl)) (hNa : N[2]? = some a := by rfl)
    (hbind : ∀ (q : Str) (cl : List (Str × Addr)) (pm cv ctv u : Value), bindArgs (PySem.W.kla_fn "<lambda>" q params body scope cl pm cv ctv) ⟨[u], []⟩ = pure [(p0, u)] := by intros; rfl)
    (he1 : starEach [e1, e2, .Lambda params body scope lpos] X.env = (false, eval e1 X.env) :: starEach [e2, .Lambda params body scope lpos] X.env := by rfl) (he2 : starEach [e2, .Lambda params body scope lpos] X.env = (false, eval e2 X.env) :: starEach [.Lambda params body scope lpos] X.env := by rfl)
    (he3 : starEach [.Lambda params body scope lpos] X.env = (false, eval (.Lambda params body scope lpos) X.env) :: starEach [] X.env := by rfl) (hpl : (backTo pos (starEach [e2, .Lambda params body scope lpos] X.env)).any (·.1) = false := by rfl)
    (hdb : (x == ("__debug__" : Str)) = false := by decide) (hd : (a == ("__debug__" : Str)) = false := by decide) (hcd : (a == ("__classdict__" : Str)) = false := by decide) :
    PE X (.Call (.Name x p) [e1, e2, .Lambda params body scope lpos] [] pos) (tLam3b X.N p0 TS qn TT t1 t2 t) := by
  subst hq
  obtain ⟨g, fd, hmg, F⟩ := F
  obtain ⟨oc, od, kV, doc, pm, an, cdv, ct, osl, rfl, lk, hcg⟩ := F.ex
  exact pe_lamcall3b hg hmg F.kp lk hcg (.all (hb kV doc pm an cdv ct)) S hps hNa hv (hG g cdv) TB hcode hm hu hr (lamP_by L) hdef hbind h1 h2 hbody he1 he2 he3 hpl hdb hd hcd
/-! ### a method called within a try, the slots known -/
def tMtS (C : Addr) (m : Str) (sp : Sp) (dv : List V) (E : L2.St → XK) (ta : TE) (t : TA) : TE := fun σ H Q => ta σ H fun x H1 => ∃ a dx fs, x = .ref a ∧ H1 a = some (.ins C dx fs) ∧ fs.lookup m = none ∧ t σ H1 fun vs H2 => sp (x :: (vs ++ dv)) H2 Q (E σ)
theorem pmtS {X : Cx} {CX : CXT} {k j : Nat} {x m : Str} {ps : List Str} {dvs : List V} {sp : Sp} {E : L2.St → XK} {o e : Expr} {es : List Expr} {ta : TE} {t : TA} {pos apos : Pos} {pl : Sem Bool} (O : OkM X.prog X.w X.K X.mg X.base CX k x m ps dvs sp) (C : Cls X.K (He.ga X.K x)) (he : PE X o ta) (hj : j ≤ dvs.length) (hr : Room k X.A) (hx : ∀ σ, PassesAt CX X σ (E σ)) (ha : PA X (e :: es) t)
    (hst : starEach (e :: es) X.env = (false, eval e X.env) :: starEach es X.env := by rfl) (hpl : (backTo pos (starEach es X.env)).any (·.1) = false := by rfl)
    (ht : eval (.Call (.Attribute o m apos) (e :: es) [] pos) X.env = (do
      let ov ← eval o X.env; standAt apos.atName
      let (f, first) ← holding [ov] (getMethod ov m pl)
      callWith pos f first (backTo pos (starEach (e :: es) X.env)) (backToKw pos (keywordEach [] X.env))) := by rfl) :
    PE X (.Call (.Attribute o m apos) (e :: es) [] pos) (tMtS (He.ga X.K x) m sp (dvs.drop j) E ta t) := by
  obtain ⟨f, fd, M, b, F⟩ := O.ex
  obtain ⟨ds, hd, hb⟩ := b j hj
  refine ⟨fun pins s σ H Q I h => ?_⟩
  refine PySem.W.methodCall_KW (pl := pl) (thn (he.run pins s σ H _ I h) fun u s1 ⟨x, H1, I1, rx, a, dx, fs, ex, ea, l, q⟩ => ?_) ht
  subst ex
  obtain rfl : u = Value.ref a := rx
  refine getmeth_ok I1 ea C M l ?_
  refine PySem.W.callWith_K (first := [.ref a]) (h₀ := X.base) I.ok.mod.kin M.kp (thn (ha.run pos pins s1 σ H1 _ I1 q) fun us s2 ⟨vs, H2, I2, r, q2⟩ => ⟨I2.kIn, ?_⟩) hst hpl
  exact run_fnSD (us := .ref a :: us) (vs := .ref a :: vs) F hr hb hd (hx σ) I2 (.cons rfl r) q2
end Iz
/-! Oe -/
set_option Elab.async false
set_option linter.all false
set_option maxRecDepth 100000
set_option maxHeartbeats 4000000
namespace Iz
open PySem PySem.Spec PyProof.Rows L2
open He (ga)
/-! ### own errors over OverflowError, with one field -/
/-- what stands behind the class itself -/
def oeT : List Value := [.type "OverflowError", .type "ArithmeticError", .type "Exception", .type "BaseException", .type "object"]
theorem oeT_pass (v : Value) : refuseLoop v "__setattr__" oeT = pure () := by unfold oeT; kernel_rfl
section
open Builtin Builtin.ObjectAttr PySem.HandSPX
variable {prog : Program} {w : World} {A : Around} {E : Value → Shared → Prop} {R : Result → Shared → Prop} {hp : Heap} {g : Array GenState} {dr : Drawn} {n : Nat} {os : OsState}
/-- the first field of such an error -/
theorem first_field {K : PySem.W.Frag} {f : Str} {tk : Tok} {v : Value} {x C : Addr} {fv : Array Value} {cd : ClassData} (kin : K.In hp) (at_ : hp.get? x = some { cls := .ref C, data := .fields fv }) (cl : PySem.W.clsIn K C = some cd) (mr : cd.mro = .ref C :: oeT) (di : cd.hasDict = true) (no : PySem.W.findIn K (.ref C) f = some none)
    (go : ∀ h' tk' dx, (∀ b o, b ≠ x → hp.get? b = some o → h'.get? b = some o) → hp.objs.size ≤ dx → dx ≠ x → h'.get? x = some { cls := .ref C, dict := some dx, data := .fields fv } → h'.Ns1 dx (fun y => if y = f then some v else none) → R (.ok (.ret .none)) ⟨h', g, dr, tk', os⟩) :
    codeAny (model prog w) A (.call (.builtin "object.__setattr__") ⟨[.ref x, .str f tk, v], []⟩) R ⟨hp, g, dr, n, os⟩ := by
  have inst : PySem.W.InstAt hp x { cls := .ref C, data := .fields fv } C none := ⟨at_, rfl, rfl, trivial⟩
  have hasO : (Value.ref C :: oeT).contains (.type "object") = true := by rw [List.contains_cons, show oeT.contains (.type "object") = true from by decide +kernel, Bool.or_true]
  have xs : x ≠ hp.objs.size := Nat.ne_of_lt (Heap.lt_size at_)
  have isO : PySem.W.Looks (model prog w) hp (isInstance (.ref x) (.type "object")) true := inst.type.andThen (PySem.W.looks_mroIn kin (by unfold PySem.W.mroIn; rw [cl, Option.bind_some, mr, if_neg (show ¬ (Value.ref C :: oeT).isEmpty = true from by simp), hasO]))
  have look : PySem.W.Looks (model prog w) hp (classData C) cd := PySem.W.looks_clsIn kin cl
  have order : PySem.W.Looks (model prog w) hp (mroOf (.ref C)) cd.mro := look.andThen .now
  have taker : PySem.W.Looks (model prog w) hp (storeTaker? none) none := .now
  refine codeAny_call_builtin F.store_object.slot.plain F.store_object.entry (@PySem.W.check_slot (model prog w) _ _ ⟨hp, g, dr, n, os⟩ "object.__setattr__" "object" "__setattr__" (.ref x) [.str f tk, v] [] _ F.store_object.kind F.store_object.split isO (F.store_object.args (.ref x) (.str f tk) v) ?_)
  rw [PySem.W.osa_eq, refuse_eq]
  refine wpAny_bind (wpAny_bind (inst.type.at (wpAny_bind (order.at (by
    rw [mr, refuseLoop_ref, oeT_pass]
    refine wpAny_pure (wpAny_bind (inst.type.at (wpAny_bind ((PySem.W.looks_findIn kin no).at (wpAny_bind (taker.at ?_))))))
    show wpAny _ _ (storeInOwnDict (.ref x) (.ref C) (.str f tk) f v false) _ _ _
    obtain ⟨c1, c2, c3, c4, c5, c6, c7, c8, c9, c10, c11⟩ := cd
    have di' : c6 = true := di
    subst di'
    unfold storeInOwnDict ownDictForStores
    repeat (first | with_reducible refine store_in_new ?_ ?_ | with_reducible refine wpAny_loadPart_at at_ ?_ | with_reducible refine look.at ?_ | wp_step)
    · exact ⟨_, #[], _, (Heap.get?_update_ne _ _ _ _ xs.symm).trans (Heap.get?_push_at rfl rfl), rfl, fun e he => absurd he (by simp), fun _ => rfl⟩
    · intro h' tk' ns same
      have up := Heap.get?_push_of_some { cls := .type "dict", data := .dict #[] } at_
      exact go h' tk' hp.objs.size (fun b o nb ob => (same.2 b (Nat.ne_of_lt (Heap.lt_size ob))).trans ((Heap.get?_update_ne _ _ _ _ nb).trans (Heap.get?_push_of_some _ ob))) (Nat.le_refl _) xs.symm ((same.2 x xs).trans (Heap.get?_update_self _ up rfl)) ns)))))
end
/-- what the top says of the class -/
structure OexO (K : PySem.W.Frag) (C : Addr) : Prop where
  cls : ∃ nm q N bs sn sub ab col dd k0 k1 k2 k3 k5, K.lookup C = some (excClassObj nm q C N bs oeT true sn sub ab col dd k0 k1 k2 k3 k5 "OverflowError.__new__")
  sa : PySem.W.findIn K (.ref C) "__setattr__" = some (some (.builtin "object.__setattr__"))
  exC : PySem.W.subIn K (.ref C) (.type "BaseException") = some true
  tyC : PySem.W.typeIn K (.ref C) = some (.type "type")
  kC : PySem.W.keepIn K (.ref C) = true
section
variable {X : Cx} {pins : List (Addr × Obj)} {σ : L2.St} {H : Hp} {s : Shared} {a C : Addr} {f : Str} {y : V} {u : Value} {E : Value → Shared → Prop} {A : Around}
theorem sto_first {Q : Unit → Shared → Prop} (T : OexO X.K C) (I : Inv X pins σ H s) (e : H a = some (exo a C none)) (no : PySem.W.findIn X.K (.ref C) f = some none) (ry : RelV y u)
    (k : ∀ dx s', H dx = none → dx ≠ a → Inv X pins σ (upd (upd H dx (exd dx [(f, y)])) a (exo a C (some dx))) s' → Q () s') : wpAny (model X.prog X.w) A (setAttr (.ref a) f u) Q E s := by
  obtain ⟨nm, q, N, bs, sn, sub, ab, col, dd, k0, k1, k2, k3, k5, hC⟩ := T.cls
  have cl : PySem.W.clsIn X.K C = some { name := nm, bases := bs, mro := .ref C :: oeT, ns := N, qualname := q, hasDict := true, slotNames := sn, subclasses := sub, abstract := ab, collection := col, hasDel := false } := by unfold PySem.W.clsIn; rw [hC] <;> rfl
  obtain ⟨t1, ho⟩ := exo_at I.hok e
  obtain ⟨hp, g, dr, tk, os⟩ := s
  refine PySem.W.set_plain I.kIn (ox := { cls := .ref C, dict := none, data := .fields #[.ref t1, .none, .none, .none, .bool false, .none] }) (od := none) ⟨ho, rfl, rfl, trivial⟩ T.sa (first_field I.kIn ho cl rfl rfl no fun h' tk' dx keep fresh ndx hx ns => ?_)
  have free : H dx = none := I.hok.fresh fresh
  have old : ∀ {b : Addr} {o : Obj}, hp.get? b = some o → b ≠ dx := fun {b o} z => Nat.ne_of_lt (Nat.lt_of_lt_of_le (Heap.lt_size z) fresh)
  have apart : ∀ {b : Addr}, H b = none → b ≠ a := fun {b} z z2 => by rw [z2, e] at z; cases z
  refine k dx _ free ndx (I.un (t' := tk') ?_ fun b o z => ?_)
  · exact ⟨fun b o z z1 _ _ => keep b o (apart z1) z, fun b o z z1 _ _ => ⟨o.slots, keep b o (apart z1) z⟩, fun b o z z1 _ => by rw [upd_ne (apart z1), upd_ne (old z)]; exact z1,
      fun b o z _ => (by by_cases hb : b = a; · { subst hb; exact ⟨_, hx⟩ }; · exact ⟨o, keep b o hb z⟩), fun b xs z => by rw [upd_ne (at_ne e z exo_tup), upd_ne (ne_of_none z free)]; exact z,
      fun b o v z => by rw [upd_ne (at_ne e z exo_frz), upd_ne (ne_of_none z free)]; exact z, fun b ps z => ⟨#[], by rw [upd_ne (at_ne e z exo_tbl), upd_ne (ne_of_none z free), z]; simp⟩⟩
  · by_cases hb : b = a
    · subst hb; rw [upd_same] at z; cases z; exact exo_ok hx
    · rw [upd_ne hb] at z
      by_cases hd : b = dx
      · subst hd; rw [upd_same] at z; cases z; exact exd_ok ns (relO_put (fs := []) ry fun g => True.intro)
      · rw [upd_ne hd] at z
        refine (I.hok b o z).stay (fun c v hc z2 => keep c v (fun z3 => ?_) z2) (fun c hc => by rw [upd_ne (at_ne e hc exo_own), upd_ne (ne_of_none hc free)]; exact hc) (fun c xs hc => by rw [upd_ne (at_ne e hc exo_tup), upd_ne (ne_of_none hc free)]; exact hc)
        rcases hc with hc | hc
        · exact hb (hc ▸ z3)
        · exact at_ne e hc exo_own z3
end
/-- self.f = e -/
def tOstO (K : PySem.W.Frag) (f : Str) (to te : TE) : TS := fun D σ H => te σ H fun y H1 => to σ H1 fun x H2 => ∃ a C : Addr, x = .ref a ∧ OexO K C ∧ PySem.W.findIn K (.ref C) f = some none ∧ H2 a = some (exo a C none) ∧ ∀ dx, H2 dx = none → dx ≠ a → D.nx σ (upd (upd H2 dx (exd dx [(f, y)])) a (exo a C (some dx)))
theorem ps_ostO {X : Cx} {o e : Expr} {to te : TE} {f : Str} {p' pos : Pos} (ho : PE X o to) (he : PE X e te) (hs : swapsWith e (some (.Attribute o f p')) pos.line X.env = pure false := by rfl) : PS X (.Assign [.Attribute o f p'] e pos) (tOstO X.K f to te) :=
  ⟨fun pins s σ H D I h => plainObj_wpAny_Assign_Attribute (thn (he.run pins s σ H _ I h) fun v s1 ⟨y, H1, I1, r1, q1⟩ => thn (ho.run pins s1 σ H1 _ I1 q1) fun u s2 ⟨x, H2, I2, r2, a, C, ex, T, no, ea, q⟩ => by
    subst ex; obtain rfl : u = Value.ref a := r2
    exact sto_first T I2 ea no r1 fun dx s' n1 n2 J => ⟨σ, _, J, q dx n1 n2⟩) hs⟩
/-- such an error, made by its class -/
theorem pmk_over {X : Cx} {CX : CXT} {x : Str} {C fI : Addr} {k : Nat} {fd : FuncData} {ps : List Str} {sp : Sp} {e : Expr} {es : List Expr} {ta : TA} {p pos : Pos} (T : OexO X.K C) (iC : PySem.W.findIn X.K (.ref C) "__init__" = some (some (.ref fI))) (tI : PySem.W.typeIn X.K (.ref fI) = some (.type "function"))
    (G : FnOk X.prog X.w X.K X.mg X.base CX k fI fd ps sp) (hr : Room (k + 1) X.A) (hb : Binds X.K fd ps []) (hx : Passes CX X (fun _ _ _ => False)) (hg : Gl X x) (hm : X.mg x = some (.ref C)) (ha : PA X (e :: es) ta)
    (hdb : (x == ("__debug__" : Str)) = false := by decide) (he : starEach (e :: es) X.env = (false, eval e X.env) :: starEach es X.env := by rfl) (hpl : (backTo pos (starEach es X.env)).any (·.1) = false := by rfl) :
    PMk X (.Call (.Name x p) (e :: es) [] pos) (tMkO C sp [] ta) := fun pins s σ H Q I h => by
  obtain ⟨nm, q, N, bs, sn, sub, ab, col, dd, k0, k1, k2, k3, k5, hC⟩ := T.cls
  refine wpAny_Call_Name_kw (ld_glob I hg hm (PySem.W.callWith_K (h₀ := X.base) I.ok.mod.kin T.kC (thn (ha.run pos pins s σ H _ I h) fun us s1 ⟨vs, H1, I1, r1, hz, q1⟩ => ⟨I1.kIn, ?_⟩) he hpl) hdb)
  obtain ⟨hp, g, dr, tk, os⟩ := s1
  show wpAny _ _ (call (.ref C) us) _ _ _
  have big : hp.objs.size ≤ hp.objs.size + 1 := Nat.le_succ _
  have want := q1 (hp.objs.size + 1) (I1.hok.fresh big)
  have keep : ∀ b o, hp.get? b = some o → ((hp.push (PySem.W.kdv_tup us)).push (PySem.HandSPX.excO C hp.objs.size)).get? b = some o := fun b o z => Heap.get?_push_of_some _ (Heap.get?_push_of_some _ z)
  have there : ((hp.push (PySem.W.kdv_tup us)).push (PySem.HandSPX.excO C hp.objs.size)).get? (hp.objs.size + 1) = some (PySem.HandSPX.excO C hp.objs.size) := by heap_get
  have I2 : Inv X pins σ (upd H1 (hp.objs.size + 1) (exo (hp.objs.size + 1) C none)) ⟨(hp.push (PySem.W.kdv_tup us)).push (PySem.HandSPX.excO C hp.objs.size), g, dr, tk, os⟩ := I1.laid (t' := tk) (a := hp.objs.size + 1) (o := exo (hp.objs.size + 1) C none) (h' := (hp.push (PySem.W.kdv_tup us)).push (PySem.HandSPX.excO C hp.objs.size)) keep big (exo_ok there)
  have rv : Vals (V.ref (hp.objs.size + 1) :: (vs ++ [])) (Value.ref (hp.objs.size + 1) :: (us ++ [])) := .cons rfl (r1.append .nil)
  have len : (Value.ref (hp.objs.size + 1) :: us ++ []).length = ps.length := by have z := rv.length; rw [G.len _ _ _ _ want] at z; exact z.symm
  have few : us.length ≤ sizeLine := by rw [← Paired.length r1, sizeLine_eq]; omega
  have bnd := hb _ (Value.ref (hp.objs.size + 1) :: us) I2.kIn len
  rw [List.append_nil] at bnd
  have rv : Vals (V.ref (hp.objs.size + 1) :: (vs ++ [])) (Value.ref (hp.objs.size + 1) :: us) := .cons rfl (by rw [List.append_nil]; exact r1)
  have mro : ∀ Y : String, oeT.contains (.type Y) = ([.type "OverflowError", .type "ArithmeticError", .type "Exception", .type "BaseException", .type "object"] : List Value).contains (.type Y) := fun Y => rfl
  refine wpAny_call (PySem.HandSPX.call_own F.excBase_OverflowError mro (I1.kIn _ _ hC) (PySem.W.looks_findIn I1.kIn iC) (fun self => PySem.W.bind_fn I1.kIn self tI) few (codeAny_mono (G.run _ X.stack _ _ ⟨Value.ref (hp.objs.size + 1) :: us, []⟩ (Value.ref (hp.objs.size + 1) :: us) _ _ (fun _ _ _ => False)
    (hr.make C us []) (I2.env0.make C us []) bnd rv want) fun r s' z => ?_))
  match r, z with
  | .error er, z => exact hx pins σ _ _ er s' I2 z
  | .ok (.ret u), ⟨v, H2, os2, bare2, un2, hok2, r0, ev, d, fs, ea, ed, hd1, q2⟩ =>
    subst ev
    obtain ⟨h2, g2, d2, t2, os'⟩ := s'
    exact ⟨r0, mk_end (raises_own T.exC T.tyC) I1 big keep un2 hok2 os2 bare2 ea ed hd1 q2⟩
  | .ok .next, z => exact False.elim z
  | .ok .brk, z => exact False.elim z
  | .ok .cont, z => exact False.elim z
/-- the own __init__: it keeps its argument -/
def spXO (K : PySem.W.Frag) (fld : Str) : Sp := fun vs H Q _ => ∃ (a C : Addr) (v : V), vs = [.ref a, v] ∧ OexO K C ∧ PySem.W.findIn K (.ref C) fld = some none ∧ H a = some (exo a C none) ∧
  ∀ dx, H dx = none → dx ≠ a → Q .non (upd (upd H dx (exd dx [(fld, v)])) a (exo a C (some dx)))
section
variable {P : Program} {w : World} {K : PySem.W.Frag} {mg : Str → Option Value} {base : Heap}
theorem ok_xo {qual fld : Str} {st : Stmt} {f : Addr} {fd : FuncData} {p1 p2 p3 p4 : Pos} (F : Fun K "__init__" qual st f fd) (S : FnScope ["self", fld] ["self", fld] (defScope st))
    (hb : defBody st = [.Assign [.Attribute (.Name "self" p1) fld p2] (.Name fld p3) p4]) (h1 : (fld == ("__debug__" : Str)) = false) (h2 : (fld == ("__classdict__" : Str)) = false) : FnOk P w K mg base CX0 1 f fd ["self", fld] (spXO K fld) := by
  refine F.ok S (fun vs H Q E h => ?_) (fun cdv A outer s H vs Q E hr h => ?_)
  · obtain ⟨a, C, v, rfl, _⟩ := h; rfl
  · obtain ⟨a, C, v, rfl, T, hn, ha, k⟩ := h
    rw [hb]
    exact ⟨_, pss_one (ps_ostO (pe_var (i := 0) rfl (vis_of S (by simp))) (pe_var (i := 1) rfl (vis_of S (by simp)) h1 h2)), v, rfl, .ref a, rfl, a, C, rfl, T, hn, ha, k⟩
end
/-- what the top has made of the class x -/
structure ExTO (K : PySem.W.Frag) (mg : Str → Option Value) (x fld : Str) : Prop where
  g : mg x = some (.ref (ga K x))
  ox : OexO K (ga K x)
  xf : XfC K (ga K x)
  no : PySem.W.findIn K (.ref (ga K x)) fld = some none
  ini : ∃ (qual : Str) (st : Stmt) (f : Addr) (fd : FuncData) (p1 p2 p3 p4 : Pos), PySem.W.findIn K (.ref (ga K x)) "__init__" = some (some (.ref f)) ∧ PySem.W.typeIn K (.ref f) = some (.type "function") ∧ Fun K "__init__" qual st f fd ∧ FnScope ["self", fld] ["self", fld] (defScope st) ∧
    defBody st = [.Assign [.Attribute (.Name "self" p1) fld p2] (.Name fld p3) p4] ∧ Binds K fd ["self", fld] []
theorem ps_raiseO {X : Cx} {x fld : Str} {W : WX} {e : Expr} {te : TE} {p pos pos2 : Pos} (T : ExTO X.K X.mg x fld) (hr : Room 2 X.A) (tk : Takes X W) (he : PE X e te) (hc : X.calm = true := by rfl) (hg : Gl X x := by rfl) (hdb : (x == ("__debug__" : Str)) = false := by decide)
    (hd1 : (fld == ("__debug__" : Str)) = false := by decide) (hd2 : (fld == ("__classdict__" : Str)) = false := by decide)
    (hs : starEach [e] X.env = (false, eval e X.env) :: starEach [] X.env := by rfl) (hpl : (backTo pos (starEach [] X.env)).any (·.1) = false := by rfl) : PS X (.Raise (some (.Call (.Name x p) [e] [] pos)) none pos2) (tRaiseX X.K x fld W te) := by
  obtain ⟨qual, st, f, fd, p1, p2, p3, p4, hi, ht, F, S, hb, B⟩ := T.ini
  have G : FnOk X.prog X.w X.K X.mg X.base CX0 1 f fd ["self", fld] (spXO X.K fld) := ok_xo F S hb hd1 hd2
  refine PS.imp (ps_raise hc tk (pmk_over (k := 1) T.ox hi ht G hr B (pass0) hg T.g (pa_cons (PE.mcl he) pa_nil hs) hdb hs hpl)) fun D σ H q => ⟨_, q, fun v H1 k => ⟨by show 1 ≤ 1000; decide, fun a ha => ⟨a, _, v, rfl, T.ox, T.no, upd_same, fun dx hdx hne => ⟨rfl, dx, _, upd_same, by rw [upd_ne hne, upd_same], ?_, ?_⟩⟩⟩⟩
  · rw [upd_ne hne] at hdx; exact hdx
  · have hdn : H1 dx = none := by rw [upd_ne hne] at hdx; exact hdx
    refine k dx _ hdn (fun b u e => ?_) upd_same
    have h1 := ne_of_none e hdn
    have h2 := ne_of_none e ha
    rw [upd_ne h1, del_ne h2, upd_ne h2, upd_ne h1, upd_ne h2]
    exact e
theorem exto_mk {K : PySem.W.Frag} {mg : Str → Option Value} {h : Heap} (X : K.In h) (G : h.Ns mainGlobals mg) {x fld qual nm q : Str} {st : Stmt} {C f N : Addr} {bs bm sub : List Value} {sn : List Str} {ab : Bool} {col : Option Bool} {dd od an : Option Addr} {m0 m1 m2 m3 m5 : Option Value} {oc kV dc pm cd ct : Value} {sl : Array (Option Value)} {p1 p2 p3 p4 : Pos}
    (aC : PySem.W.nsIn K mainGlobals x = some (some (.ref C))) (xL : K.lookup C = some (excClassObj nm q C N bs bm true sn sub ab col dd m0 m1 m2 m3 m5 "OverflowError.__new__")) (hbm : bm = oeT)
    (sa : PySem.W.findIn K (.ref C) "__setattr__" = some (some (.builtin "object.__setattr__"))) (exC : PySem.W.subIn K (.ref C) (.type "BaseException") = some true) (tyC : PySem.W.typeIn K (.ref C) = some (.type "type")) (kC : PySem.W.keepIn K (.ref C) = true)
    (gA : PySem.W.findIn K (.ref C) "__getattribute__" = some (some (.builtin "BaseException.__getattribute__"))) (gG : PySem.W.findIn K (.ref C) "__getattr__" = some none) (hd : PySem.W.hasDictIn K C = true) (no : PySem.W.findIn K (.ref C) fld = some none)
    (iC : PySem.W.findIn K (.ref C) "__init__" = some (some (.ref f))) (tI : PySem.W.typeIn K (.ref f) = some (.type "function"))
    (lI : K.lookup f = some ⟨oc, od, .func (PySem.W.fnOf "__init__" qual (defArgs st) (defBody st) (defScope st) .none kV dc pm an cd ct), sl⟩) (cI : PySem.W.codeIn K cd qual = true) (kI : PySem.W.keepIn K (.ref f) = true)
    (S : FnScope ["self", fld] ["self", fld] (defScope st)) (hb : defBody st = [.Assign [.Attribute (.Name "self" p1) fld p2] (.Name fld p3) p4])
    (hB : ∀ (kV doc pm : Value) (an : Option Addr) (cdv ct : Value) (us : List Value), us.length = (["self", fld] : List Str).length → bindArgs (PySem.W.fnOf "__init__" qual (defArgs st) (defBody st) (defScope st) .none kV doc pm an cdv ct) ⟨us, []⟩ = pure ((["self", fld] : List Str).zip us)) : ExTO K mg x fld := by
  have e := ga_of aC
  subst hbm
  refine ⟨?_, ?_, ?_, ?_, ?_⟩
  · rw [e]; exact PySem.W.mg_of X G aC
  · rw [e]; exact ⟨⟨_, _, _, _, _, _, _, _, _, _, _, _, _, _, xL⟩, sa, exC, tyC, kC⟩
  · rw [e]; exact ⟨gA, gG, exC, hd⟩
  · rw [e]; exact no
  · rw [e]; exact ⟨qual, st, f, _, p1, p2, p3, p4, iC, tI, fun_mk lI cI kI, S, hb, (fun_mk (st := st) lI cI kI).binds hB⟩
end Iz
/-! Cp -/
set_option Elab.async false
set_option linter.all false
set_option maxRecDepth 100000
set_option maxHeartbeats 4000000
namespace Iz
/-! ### carpets: the mathematics -/
/-- the colour of a cell, told by b and the rows -/
def colR (b : Int) (rows : List (List Nat)) (x y : Int) : Nat :=
  let r := rows.getD (y % rows.length).toNat []
  r.getD ((x - b * (y / rows.length)) % r.length).toNat 0
structure RowsOk (a d : Nat) (rows : List (List Nat)) : Prop where
  a1 : 1 ≤ a
  d1 : 1 ≤ d
  len : rows.length = d
  all : ∀ r ∈ rows, r.length = a
def Per (C : Int → Int → Nat) (s t : Int) : Prop := ∀ x y, C (x + s) (y + t) = C x y
theorem Per.zero {C : Int → Int → Nat} : Per C 0 0 := fun x y => by rw [Int.add_zero, Int.add_zero]
theorem Per.add {C : Int → Int → Nat} {s t s' t' : Int} (p : Per C s t) (q : Per C s' t') : Per C (s + s') (t + t') := fun x y => by
  rw [← Int.add_assoc, ← Int.add_assoc, q, p]
theorem Per.neg {C : Int → Int → Nat} {s t : Int} (p : Per C s t) : Per C (-s) (-t) := fun x y => by
  have := p (x + -s) (y + -t)
  rw [Int.neg_add_cancel_right, Int.neg_add_cancel_right] at this
  exact this.symm
theorem Per.nsmul {C : Int → Int → Nat} {s t : Int} (p : Per C s t) (n : Nat) : Per C (n * s) (n * t) := by
  induction n with
  | zero => simpa using Per.zero
  | succ n ih => have := ih.add p; rwa [show ((n + 1 : Nat) : Int) * s = n * s + s by rw [Int.natCast_add, Int.add_mul]; simp, show ((n + 1 : Nat) : Int) * t = n * t + t by rw [Int.natCast_add, Int.add_mul]; simp]
theorem Per.smul {C : Int → Int → Nat} {s t : Int} (p : Per C s t) (n : Int) : Per C (n * s) (n * t) := by
  rcases Int.eq_nat_or_neg n with ⟨m, rfl | rfl⟩
  · exact p.nsmul m
  · have := (p.nsmul m).neg; rwa [← Int.neg_mul, ← Int.neg_mul] at this
theorem Per.sub {C : Int → Int → Nat} {s t s' t' : Int} (p : Per C s t) (q : Per C s' t') : Per C (s - s') (t - t') := p.add q.neg
/-- rows in their places -/
theorem RowsOk.row {a d : Nat} {rows : List (List Nat)} (R : RowsOk a d rows) (y : Int) : ∃ r, rows[(y % (d : Int)).toNat]? = some r ∧ r.length = a ∧ rows.getD (y % rows.length).toNat [] = r := by
  have d1 := R.d1
  have m0 := Int.emod_nonneg y (b := (d : Int)) (by omega)
  have m1 := Int.emod_lt_of_pos y (b := (d : Int)) (by omega)
  have hl : (y % (d : Int)).toNat < rows.length := by have := R.len; omega
  refine ⟨rows[(y % (d : Int)).toNat], List.getElem?_eq_getElem hl, R.all _ (List.getElem_mem hl), ?_⟩
  rw [R.len, List.getD_eq_getElem?_getD, List.getElem?_eq_getElem hl]; rfl
theorem RowsOk.col {a d : Nat} {rows : List (List Nat)} (R : RowsOk a d rows) {b x y : Int} {r : List Nat} (h : rows[(y % (d : Int)).toNat]? = some r) : colR b rows x y = r.getD ((x - b * (y / d)) % (a : Int)).toNat 0 := by
  obtain ⟨r', e, l, g⟩ := R.row y
  rw [h] at e; cases e
  rw [R.len] at g
  simp only [colR, R.len, g, l]
theorem RowsOk.per_a {a d : Nat} {rows : List (List Nat)} (R : RowsOk a d rows) {b : Int} : Per (colR b rows) a 0 := fun x y => by
  obtain ⟨r, e, l, g⟩ := R.row y
  rw [Int.add_zero, R.col e, R.col e]
  have : x + (a : Int) - b * (y / d) = (x - b * (y / d)) + a := by omega
  rw [this, Int.add_emod_right]
theorem RowsOk.per_bd {a d : Nat} {rows : List (List Nat)} (R : RowsOk a d rows) {b : Int} : Per (colR b rows) b d := fun x y => by
  have d1 := R.d1
  obtain ⟨r, e, l, g⟩ := R.row y
  have e' : rows[((y + (d : Int)) % (d : Int)).toNat]? = some r := by rw [Int.add_emod_right]; exact e
  rw [R.col e', R.col e]
  have h1 : (y + (d : Int)) / d = y / d + 1 := by rw [Int.add_ediv_of_dvd_right (Int.dvd_refl _), Int.ediv_self (by omega)]
  have : x + b - b * (y / d + 1) = x - b * (y / d) := by rw [Int.mul_add, Int.mul_one]; omega
  rw [h1, this]
/-- a place's own colour -/
theorem RowsOk.at {a d : Nat} {rows : List (List Nat)} (R : RowsOk a d rows) {b : Int} {j : Nat} {r : List Nat} (h : rows[j]? = some r) (i : Nat) (hi : i < a) : colR b rows i j = r.getD i 0 := by
  have hj : j < d := by have := (List.getElem?_eq_some_iff.mp h).1; have := R.len; omega
  have hm : ((j : Int) % (d : Int)) = j := Int.emod_eq_of_lt (by omega) (by omega)
  have hd : ((j : Int) / (d : Int)) = 0 := Int.ediv_eq_zero_of_lt (by omega) (by omega)
  have h' : rows[((j : Int) % (d : Int)).toNat]? = some r := by rw [hm]; exact h
  rw [R.col h', hd, Int.mul_zero, Int.sub_zero, Int.emod_eq_of_lt (by omega) (by omega), Int.toNat_natCast]
/-- a row turned by w signs -/
def tn (w : Nat) (r : List Nat) : List Nat := r.drop w ++ r.take w
theorem tn_length {w : Nat} {r : List Nat} : (tn w r).length = r.length := by
  simp only [tn, List.length_append, List.length_drop, List.length_take]; omega
theorem tn_get {w i : Nat} {r : List Nat} (hw : w ≤ r.length) (hi : i < r.length) : (tn w r).getD i 0 = r.getD ((i + w) % r.length) 0 := by
  unfold tn
  simp only [List.getD_eq_getElem?_getD]
  congr 1
  by_cases h : i < r.length - w
  · rw [List.getElem?_append_left (by rw [List.length_drop]; exact h), List.getElem?_drop, Nat.mod_eq_of_lt (by omega), Nat.add_comm]
  · rw [List.getElem?_append_right (by rw [List.length_drop]; omega), List.length_drop, List.getElem?_take, if_pos (by omega)]
    congr 1
    rw [Nat.mod_eq_sub_mod (by omega), Nat.mod_eq_of_lt (by omega)]
    omega
theorem getD_ext {r r' : List Nat} (hl : r.length = r'.length) (h : ∀ i, i < r.length → r.getD i 0 = r'.getD i 0) : r = r' := by
  refine List.ext_getElem hl fun i h1 h2 => ?_
  have := h i h1
  simpa only [List.getD_eq_getElem?_getD, List.getElem?_eq_getElem h1, List.getElem?_eq_getElem h2, Option.getD_some] using this
/-- the shift (s, y) leads each row to itself -/
def again (b : Int) (rows : List (List Nat)) (s : Int) (y : Nat) : Prop :=
  ∀ j r, rows[j]? = some r → ∃ o, rows[(j + y) % rows.length]? = some o ∧ tn ((s - b * (((j + y) / rows.length : Nat) : Int)) % (r.length : Int)).toNat o = r
theorem again_iff {a d : Nat} {rows : List (List Nat)} (R : RowsOk a d rows) {b s : Int} {y : Nat} : again b rows s y ↔ Per (colR b rows) s y := by
  have d1 := R.d1
  have a1 := R.a1
  have key : ∀ (j : Nat) (r o : List Nat), rows[j]? = some r → rows[(j + y) % d]? = some o → ∀ i, i < a → colR b rows ((i : Int) + s) ((j : Int) + y) = (tn ((s - b * (((j + y) / d : Nat) : Int)) % (a : Int)).toNat o).getD i 0 := by
    intro j r o hj ho i hi
    have lo : o.length = a := R.all _ (List.mem_of_getElem? ho)
    have ho' : rows[(((j : Int) + y) % (d : Int)).toNat]? = some o := by
      rw [show (((j : Int) + y) % (d : Int)) = (((j + y) % d : Nat) : Int) by simp, Int.toNat_natCast]; exact ho
    have m0 := Int.emod_nonneg (s - b * (((j + y) / d : Nat) : Int)) (b := (a : Int)) (by omega)
    have m1 := Int.emod_lt_of_pos (s - b * (((j + y) / d : Nat) : Int)) (b := (a : Int)) (by omega)
    rw [R.col ho', tn_get (by omega) (by omega), lo]
    congr 1
    rw [show (((j : Int) + y) / (d : Int)) = (((j + y) / d : Nat) : Int) by simp]
    generalize hu : s - b * (((j + y) / d : Nat) : Int) = u at *
    have e1 : (i : Int) + s - b * (((j + y) / d : Nat) : Int) = i + u := by omega
    rw [e1]
    have e2 : (((i + (u % (a : Int)).toNat) % a : Nat) : Int) = ((i : Int) + u) % a := by
      rw [Int.natCast_emod, Int.natCast_add, Int.toNat_of_nonneg m0, Int.add_emod_emod]
    omega
  constructor
  · intro h x z
    -- reduce (x, z) to a place
    have P1 : Per (colR b rows) a 0 := R.per_a
    have P2 : Per (colR b rows) b d := R.per_bd
    obtain ⟨u, hu⟩ : ∃ u, u = z / (d : Int) := ⟨_, rfl⟩
    obtain ⟨v, hv⟩ : ∃ v, v = (x - b * u) / (a : Int) := ⟨_, rfl⟩
    have m0 := Int.emod_nonneg z (b := (d : Int)) (by omega)
    have m1 := Int.emod_lt_of_pos z (b := (d : Int)) (by omega)
    have n0 := Int.emod_nonneg (x - b * u) (b := (a : Int)) (by omega)
    have n1 := Int.emod_lt_of_pos (x - b * u) (b := (a : Int)) (by omega)
    have Q := (P2.smul u).add (P1.smul v)
    have ez : z = (z % (d : Int)) + (u * d + v * 0) := by have := Int.emod_add_mul_ediv z d; rw [← hu] at this; rw [Int.mul_zero, Int.add_zero, Int.mul_comm u]; exact this.symm
    have ex : x = ((x - b * u) % (a : Int)) + (u * b + v * a) := by
      have := Int.emod_add_mul_ediv (x - b * u) a
      rw [← hv] at this
      rw [Int.mul_comm u, Int.mul_comm v]; omega
    have e1 := Q ((x - b * u) % (a : Int)) (z % (d : Int))
    have e2 := Q ((x - b * u) % (a : Int) + s) (z % (d : Int) + y)
    rw [← ex, ← ez] at e1
    rw [show (x - b * u) % (a : Int) + s + (u * b + v * a) = x + s by omega, show z % (d : Int) + y + (u * d + v * 0) = z + y by omega] at e2
    rw [e1, e2]
    have hj : (z % (d : Int)).toNat < rows.length := by have := R.len; omega
    have hjr := List.getElem?_eq_getElem hj
    obtain ⟨o, ho, ht⟩ := h _ _ hjr
    have lr : (rows[(z % (d : Int)).toNat]).length = a := R.all _ (List.getElem_mem hj)
    rw [R.len] at ho
    rw [R.len, lr] at ht
    have k := key _ _ _ hjr ho ((x - b * u) % (a : Int)).toNat (by omega)
    rw [ht, ← R.at hjr (b := b) _ (by omega)] at k
    rw [Int.toNat_of_nonneg m0, Int.toNat_of_nonneg n0] at k
    exact k
  · intro p j r hj
    have hlt : (j + y) % d < rows.length := by rw [R.len]; exact Nat.mod_lt _ (by omega)
    refine ⟨rows[(j + y) % d], by rw [R.len]; exact List.getElem?_eq_getElem hlt, ?_⟩
    have lr : r.length = a := R.all _ (List.mem_of_getElem? hj)
    have lo : (rows[(j + y) % d]).length = a := R.all _ (List.getElem_mem hlt)
    rw [R.len, lr]
    refine getD_ext (by rw [tn_length, lo, lr]) fun i hi => ?_
    rw [tn_length, lo] at hi
    rw [← key _ _ _ hj (List.getElem?_eq_getElem hlt) i hi, p, R.at hj i hi]
theorem again0 {a d : Nat} {rows : List (List Nat)} (R : RowsOk a d rows) {b : Int} {w : Nat} (hw : w ≤ a) : (∀ r ∈ rows, tn w r = r) ↔ Per (colR b rows) w 0 := by
  have d1 := R.d1
  have hj : ∀ {j : Nat} {r : List Nat}, rows[j]? = some r → j < d ∧ r.length = a := fun h => ⟨by have := (List.getElem?_eq_some_iff.mp h).1; have := R.len; omega, R.all _ (List.mem_of_getElem? h)⟩
  have tna : ∀ r : List Nat, r.length = a → tn (((w : Int)) % (a : Int)).toNat r = tn w r := by
    intro r hr
    by_cases e : w = a
    · subst e; simp [tn, ← hr]
    · rw [Int.emod_eq_of_lt (by omega) (by omega), Int.toNat_natCast]
  have := again_iff R (b := b) (s := w) (y := 0)
  rw [show ((0 : Nat) : Int) = 0 from rfl] at this
  rw [← this]
  constructor
  · intro h j r hr
    obtain ⟨h1, h2⟩ := hj hr
    refine ⟨r, by rw [R.len, Nat.add_zero, Nat.mod_eq_of_lt h1]; exact hr, ?_⟩
    rw [R.len, Nat.add_zero, Nat.div_eq_of_lt h1, h2]
    rw [show (w : Int) - b * ((0 : Nat) : Int) = w by simp, tna r h2]
    exact h r (List.mem_of_getElem? hr)
  · intro h r hr
    obtain ⟨j, hr⟩ := List.getElem?_of_mem hr
    obtain ⟨h1, h2⟩ := hj hr
    obtain ⟨o, ho, ht⟩ := h j r hr
    rw [R.len, Nat.add_zero, Nat.mod_eq_of_lt h1, hr] at ho
    cases ho
    rw [R.len, Nat.add_zero, Nat.div_eq_of_lt h1, h2] at ht
    rwa [show (w : Int) - b * ((0 : Nat) : Int) = w by simp, tna r h2] at ht
/-- the colours of the first w cells of the first h rows -/
def cells (C : Int → Int → Nat) (w h : Nat) : List (List Nat) := (List.range h).map fun (j : Nat) => (List.range w).map fun (i : Nat) => C i j
/-- the normal form of a colouring -/
structure NF (C : Int → Int → Nat) (w s h : Int) (R : List (List Nat)) : Prop where
  w1 : 1 ≤ w
  pw : Per C w 0
  lw : ∀ v, 1 ≤ v → v < w → ¬ Per C v 0
  s0 : 0 ≤ s
  sw : s < w
  h1 : 1 ≤ h
  ph : Per C s h
  lh : ∀ y v, 1 ≤ y → y < h → ¬ Per C v y
  rows : R = cells C w.toNat h.toNat
theorem NF.uniq {C : Int → Int → Nat} {w s h w' s' h' : Int} {R R' : List (List Nat)} (A : NF C w s h R) (B : NF C w' s' h' R') : w = w' ∧ s = s' ∧ h = h' ∧ R = R' := by
  have e1 : w = w' := by
    have := A.lw w' B.w1; have := B.lw w A.w1
    have p := A.pw; have q := B.pw
    by_cases h1 : w < w'
    · exact absurd p (B.lw w A.w1 h1)
    · by_cases h2 : w' < w
      · exact absurd q (A.lw w' B.w1 h2)
      · omega
  have e2 : h = h' := by
    have p := A.ph; have q := B.ph
    by_cases h1 : h < h'
    · exact absurd p (B.lh h s A.h1 h1)
    · by_cases h2 : h' < h
      · exact absurd q (A.lh h' s' B.h1 h2)
      · omega
  subst e1 e2
  have e3 : s = s' := by
    have p := A.ph.sub B.ph
    rw [Int.sub_self] at p
    have a0 := A.s0; have a1 := A.sw; have b0 := B.s0; have b1 := B.sw
    by_cases h1 : s < s'
    · have := p.neg
      rw [Int.neg_zero] at this
      exact absurd this (A.lw _ (by omega) (by omega))
    · by_cases h2 : s' < s
      · exact absurd p (A.lw _ (by omega) (by omega))
      · omega
  exact ⟨rfl, e3, rfl, A.rows.trans B.rows.symm⟩
theorem cells_get {C : Int → Int → Nat} {w h i j : Nat} (hi : i < w) (hj : j < h) : ((cells C w h).getD j []).getD i 0 = C i j := by
  simp [cells, List.getD_eq_getElem?_getD, hi, hj]
theorem NF.same {C C' : Int → Int → Nat} {w s h : Int} {R : List (List Nat)} (A : NF C w s h R) (B : NF C' w s h R) : C = C' := by
  have w1 := A.w1
  have h1 := A.h1
  have red : ∀ {D : Int → Int → Nat}, NF D w s h R → ∀ x y, D x y = (R.getD (y % h).toNat []).getD ((x - s * (y / h)) % w).toNat 0 := by
    intro D N x y
    have m0 := Int.emod_nonneg y (b := h) (by omega)
    have m1 := Int.emod_lt_of_pos y (b := h) (by omega)
    have n0 := Int.emod_nonneg (x - s * (y / h)) (b := w) (by omega)
    have n1 := Int.emod_lt_of_pos (x - s * (y / h)) (b := w) (by omega)
    rw [N.rows, cells_get (by omega) (by omega), Int.toNat_of_nonneg m0, Int.toNat_of_nonneg n0]
    have Q := (N.ph.smul (y / h)).add (N.pw.smul ((x - s * (y / h)) / w))
    have e := Q ((x - s * (y / h)) % w) (y % h)
    have q1 := Int.emod_add_mul_ediv y h
    have q2 := Int.emod_add_mul_ediv (x - s * (y / h)) w
    rw [show (x - s * (y / h)) % w + (y / h * s + (x - s * (y / h)) / w * w) = x by rw [Int.mul_comm (y / h) s, Int.mul_comm _ w]; omega, show y % h + (y / h * h + (x - s * (y / h)) / w * 0) = y by rw [Int.mul_zero, Int.add_zero, Int.mul_comm]; omega] at e
    exact e
  funext x y
  rw [red A, red B]
/-- what the search finds is the normal form -/
theorem nf_found {a d : Nat} {rows : List (List Nat)} (R : RowsOk a d rows) {b : Int} {w h : Nat} {s : Int} (w1 : 1 ≤ w) (wa : w ≤ a) (pw : ∀ r ∈ rows, tn w r = r) (lw : ∀ v, 1 ≤ v → v < w → ¬ ∀ r ∈ rows, tn v r = r)
    (s0 : 0 ≤ s) (sw : s < w) (h1 : 1 ≤ h) (hd : h ≤ d) (ph : Per (colR b rows) s h) (lh : ∀ y : Nat, 1 ≤ y → y < h → d % y = 0 → ∀ v : Nat, v < w → ¬ again b rows v y) :
    NF (colR b rows) w s h ((rows.take h).map (List.take w)) := by
  have d1 := R.d1
  have pw' := (again0 R (b := b) wa).mp pw
  refine ⟨by omega, pw', ?_, s0, sw, by omega, ph, ?_, ?_⟩
  · intro v v1 v2 p
    obtain ⟨n, rfl⟩ := Int.eq_ofNat_of_zero_le (show 0 ≤ v by omega)
    exact lw n (by omega) (by omega) ((again0 R (b := b) (by omega)).mpr p)
  · -- the least y of a period divides d
    have least : ∀ n : Nat, ∀ y : Nat, y ≤ n → 1 ≤ y → y < h → ∀ v : Int, ¬ Per (colR b rows) v y := by
      intro n
      induction n with
      | zero => intro y h0 h1; omega
      | succ n ih =>
        intro y hy y1 yh v p
        by_cases e : d % y = 0
        · -- v modulo w
          have q : Per (colR b rows) (v % w) y := by
            have := p.sub (pw'.smul (v / w))
            rw [Int.mul_zero, Int.sub_zero] at this
            have ev := Int.emod_add_mul_ediv v w
            rw [show v - v / w * w = v % w by rw [Int.mul_comm (v / (w : Int))]; omega] at this
            exact this
          have m0 := Int.emod_nonneg v (b := (w : Int)) (by omega)
          have m1 := Int.emod_lt_of_pos v (b := (w : Int)) (by omega)
          refine lh y y1 yh e (v % w).toNat (by omega) ((again_iff R).mpr ?_)
          rw [Int.toNat_of_nonneg m0]; exact q
        · have q := (R.per_bd (b := b)).sub (p.smul ((d / y : Nat) : Int))
          have ed := Nat.mod_add_div d y
          rw [show (d : Int) - ((d / y : Nat) : Int) * y = ((d % y : Nat) : Int) by
            have : (d : Int) = ((d % y : Nat) : Int) + (y : Int) * ((d / y : Nat) : Int) := by exact_mod_cast ed.symm
            rw [Int.mul_comm (((d / y : Nat) : Int))]; omega] at q
          have lt := Nat.mod_lt d (show y > 0 by omega)
          exact ih (d % y) (by omega) (by omega) (by omega) _ q
    intro y v y1 yh
    obtain ⟨n, rfl⟩ := Int.eq_ofNat_of_zero_le (show 0 ≤ y by omega)
    exact least n n (Nat.le_refl _) (by omega) (by omega) v
  · rw [Int.toNat_natCast, Int.toNat_natCast]
    refine List.ext_getElem ?_ fun j j1 j2 => ?_
    · simp [cells, R.len]; omega
    · have jh : j < h := by simpa [cells] using j2
      have jr : j < rows.length := by rw [R.len]; omega
      have lr : (rows[j]).length = a := R.all _ (List.getElem_mem jr)
      rw [List.getElem_map, List.getElem_take]
      simp only [cells, List.getElem_map, List.getElem_range]
      refine getD_ext (by simp [lr]; omega) fun i hi => ?_
      have iw : i < w := by rw [List.length_take] at hi; omega
      rw [List.getD_eq_getElem?_getD, List.getD_eq_getElem?_getD, List.getElem?_take, if_pos iw, List.getElem?_map, List.getElem?_range iw]
      simp only [Option.map_some, Option.getD_some]
      rw [R.at (List.getElem?_eq_getElem jr) i (by omega), List.getD_eq_getElem?_getD]
/-- told by other periods -/
theorem cells_ok {C : Int → Int → Nat} {w h : Nat} (hw : 1 ≤ w) (hh : 1 ≤ h) : RowsOk w h (cells C w h) := ⟨hw, hh, by simp [cells], fun r hr => by
  simp only [cells, List.mem_map] at hr
  obtain ⟨j, _, rfl⟩ := hr
  simp⟩
theorem cells_col {C : Int → Int → Nat} {w h : Nat} {b : Int} (hw : 1 ≤ w) (hh : 1 ≤ h) (pw : Per C w 0) (ph : Per C b h) : colR b (cells C w h) = C := by
  funext x y
  have R := cells_ok (C := C) hw hh
  obtain ⟨r, e, l, g⟩ := R.row y
  have m0 := Int.emod_nonneg y (b := (h : Int)) (by omega)
  have m1 := Int.emod_lt_of_pos y (b := (h : Int)) (by omega)
  have n0 := Int.emod_nonneg (x - b * (y / h)) (b := (w : Int)) (by omega)
  have n1 := Int.emod_lt_of_pos (x - b * (y / h)) (b := (w : Int)) (by omega)
  rw [R.len] at g
  rw [R.col e, ← g, cells_get (by omega) (by omega), Int.toNat_of_nonneg m0, Int.toNat_of_nonneg n0]
  have Q := (ph.smul (y / h)).add (pw.smul ((x - b * (y / h)) / w))
  have e := Q ((x - b * (y / h)) % w) (y % h)
  have q1 := Int.emod_add_mul_ediv y h
  have q2 := Int.emod_add_mul_ediv (x - b * (y / h)) w
  rw [show (x - b * (y / h)) % w + (y / h * b + (x - b * (y / h)) / w * w) = x by rw [Int.mul_comm (y / h) b, Int.mul_comm _ (w : Int)]; omega, show y % h + (y / h * h + (x - b * (y / h)) / w * 0) = y by rw [Int.mul_zero, Int.add_zero, Int.mul_comm]; omega] at e
  exact e.symm
theorem colR_inj {a d : Nat} {rows rows' : List (List Nat)} (R : RowsOk a d rows) (R' : RowsOk a d rows') {b : Int} (e : colR b rows = colR b rows') : rows = rows' := by
  refine List.ext_getElem (by rw [R.len, R'.len]) fun j h1 h2 => ?_
  have l1 := R.all _ (List.getElem_mem h1)
  have l2 := R'.all _ (List.getElem_mem h2)
  refine getD_ext (l1.trans l2.symm) fun i hi => ?_
  rw [← R.at (b := b) (List.getElem?_eq_getElem h1) i (by omega), ← R'.at (b := b) (List.getElem?_eq_getElem h2) i (by omega), e]
theorem NF.iff {C C' : Int → Int → Nat} {w s h w' s' h' : Int} {R R' : List (List Nat)} (A : NF C w s h R) (B : NF C' w' s' h' R') : C = C' ↔ (w = w' ∧ s = s' ∧ h = h' ∧ R = R') := by
  constructor
  · rintro rfl; exact A.uniq B
  · rintro ⟨rfl, rfl, rfl, rfl⟩; exact A.same B
end Iz
/-! St -/
set_option Elab.async false
set_option linter.all false
set_option maxRecDepth 100000
set_option maxHeartbeats 4000000
namespace Iz
open PySem PySem.Spec PyProof.Rows L2
open He (ga)
open SX (S S_len S_inj S_cat)
/-! ### texts told by their signs -/
theorem S_eq {a b : List Nat} : S a = S b ↔ a = b := ⟨S_inj, fun h => h ▸ rfl⟩
theorem S_len' {a : List Nat} : (S a).length = a.length := S_len a
theorem pe_strZ {X : Cx} {x : Str} {j} {pos : Pos} (l : List Nat) (h : x = S l := by decide +kernel) : PE X (.Constant (.str x) j pos) (tC (.str (S l))) := by subst h; exact pe_str
def rAddZ : R2 := fun x y H Q => ∃ l m, x = .str (S l) ∧ y = .str (S m) ∧ l.length + m.length ≤ sizeLine ∧ Q (.str (S (l ++ m))) H
theorem op_addZ {X : Cx} : OpR X (binaryOp .Add) rAddZ := fun pins s σ H x y v u Q I rx ry ⟨l, m, e1, e2, hz, q⟩ => op_add_str pins s σ H x y v u Q I rx ry ⟨S l, S m, e1, e2, by rw [S_len, S_len]; exact hz, by rw [S_cat]; exact q⟩
/-- l[lo:hi] -/
def cutZ (l : List Nat) (lo hi : Option Int) : List Nat := (l.drop (HT.sIx l.length 0 lo)).take (HT.sIx l.length l.length hi - HT.sIx l.length 0 lo)
theorem cutS_S {l : List Nat} {lo hi : Option Int} : cutS (S l) lo hi = S (cutZ l lo hi) := by unfold cutS cutZ; rw [S_len]
theorem cutZ_from {l : List Nat} {i : Int} (h : 0 ≤ i) : cutZ l (some i) none = l.drop i.toNat := SX.S_inj (by rw [← cutS_S, C8.cutS_slice, SX.slice_from h])
theorem cutZ_to {l : List Nat} {i : Int} (h : 0 ≤ i) : cutZ l none (some i) = l.take i.toNat := SX.S_inj (by rw [← cutS_S, C8.cutS_slice, SX.slice_to h])
def rSlZ : V → Option Int → Option Int → Hp → VK → Prop := fun x lo hi H Q => ∃ l, x = .str (S l) ∧ l.length ≤ sizeLine ∧ Q (.str (S (cutZ l lo hi))) H
theorem sl_strZ {X : Cx} : SlR X rSlZ := fun pins s σ H x v vl vu lo hi sl Q I rx hs pl pu ⟨l, e, hz, q⟩ => sl_str pins s σ H x v vl vu lo hi sl Q I rx hs pl pu ⟨S l, e, by rw [S_len]; exact hz, by rw [cutS_S]; exact q⟩
def rIxZ : R2 := fun x y H Q => ∃ l i c, x = .str (S l) ∧ y = .int i ∧ l.length ≤ sizeLine ∧ atI l i = some c ∧ Q (.str (S [c])) H
theorem ix_strZ {X : Cx} : IxR X rIxZ := fun value slice pins s σ H x y v u Q I rx ry ⟨l, i, c, e1, e2, hz, ha, q⟩ hs => ix_str value slice pins s σ H x y v u Q I rx ry ⟨S l, i, c, e1, e2, by rw [S_len]; exact hz, ha, q⟩ hs
def rInZ (neg : Bool) : R2 := fun x y H Q => ∃ (c : Nat) (l : List Nat), x = .str (S [c]) ∧ y = .str (S l) ∧ Q (.bl (if neg then !decide (c ∈ l) else decide (c ∈ l))) H
theorem op_inZ {X : Cx} : OpR X (compareOp .In) (rInZ false) := fun pins s σ H x y v u Q I rx ry ⟨c, l, e1, e2, q⟩ => op_in_sign pins s σ H x y v u Q I rx ry ⟨c, S l, e1, e2, q⟩
def rIntZ : List V → Hp → VK → Prop := fun xs H Q => ∃ c : Nat, xs = [.str (S [c])] ∧ 48 ≤ c ∧ c ≤ 57 ∧ Q (.int ((c : Int) - 48)) H
theorem call_intZ {X : Cx} : CallR X (.type "int") rIntZ := CallR.imp call_int_str fun xs H Q ⟨c, e, h1, h2, q⟩ => ⟨S [c], _, e, SX.int_S (a := [c]) (by simp [h1, h2]) (by simp) (by simp), by rw [S_len]; exact (by decide : 1 ≤ 640), by
  have : (NumText.digitsVal [c] : Int) = (c : Int) - 48 := by
    have : NumText.digitsVal [c] = c - 48 := by
      have h : c = 48 ∨ c = 49 ∨ c = 50 ∨ c = 51 ∨ c = 52 ∨ c = 53 ∨ c = 54 ∨ c = 55 ∨ c = 56 ∨ c = 57 := by omega
      rcases h with rfl | rfl | rfl | rfl | rfl | rfl | rfl | rfl | rfl | rfl <;> rfl
    rw [this]; omega
  rw [this]; exact q⟩
theorem num_dig {n : Nat} (h : n ≤ 9) : (toString ((n : Nat) : Int) : String) = String.ofList [Char.ofNat (48 + n)] := by
  have : n = 0 ∨ n = 1 ∨ n = 2 ∨ n = 3 ∨ n = 4 ∨ n = 5 ∨ n = 6 ∨ n = 7 ∨ n = 8 ∨ n = 9 := by omega
  rcases this with rfl | rfl | rfl | rfl | rfl | rfl | rfl | rfl | rfl | rfl <;> decide +kernel
theorem str_dig {n : Nat} (h : n ≤ 9) : Str.ofString (toString ((n : Nat) : Int)) = S [48 + n] := by
  have : n = 0 ∨ n = 1 ∨ n = 2 ∨ n = 3 ∨ n = 4 ∨ n = 5 ∨ n = 6 ∨ n = 7 ∨ n = 8 ∨ n = 9 := by omega
  rcases this with rfl | rfl | rfl | rfl | rfl | rfl | rfl | rfl | rfl | rfl <;> decide +kernel
def rStrZ : List V → Hp → VK → Prop := fun xs H Q => ∃ i : Int, xs = [.int i] ∧ 0 ≤ i ∧ i ≤ 9 ∧ Q (.str (S [48 + i.toNat])) H
theorem call_strZ {X : Cx} : CallR X (.type "str") rStrZ := CallR.imp call_str_int fun xs H Q ⟨i, e, h0, h9, q⟩ => ⟨i, e, log_lt (n := 4) (by omega) (by decide) (by decide), by
  obtain ⟨n, rfl⟩ := Int.eq_ofNat_of_zero_le h0
  rw [Int.toNat_natCast] at q
  rw [show (toString (n : Int) : String) = toString ((n : Nat) : Int) from rfl] at *
  have := str_dig (n := n) (by omega)
  exact this ▸ q⟩
def rLenZ : List V → Hp → VK → Prop := fun xs H Q => ∃ l, xs = [.str (S l)] ∧ l.length ≤ sizeLine ∧ Q (.int (l.length : Nat)) H
/-- a text times an int of 1 or more -/
def rRepZ : R2 := fun x y H Q => ∃ l i, x = .str (S l) ∧ y = .int i ∧ 1 ≤ i ∧ i ≤ 1000 ∧ l.length ≤ 1000 ∧ Q (.str (S (List.replicate i.toNat l).flatten)) H
theorem foldl_cat (l : List Nat) : ∀ (n : Nat) (acc : List Nat), (List.replicate n l.toArray).foldl (· ++ ·) acc.toArray = (acc ++ (List.replicate n l).flatten).toArray
  | 0, acc => by simp
  | n + 1, acc => by
    rw [List.replicate_succ, List.foldl_cons, List.replicate_succ, List.flatten_cons]
    have := foldl_cat l n (acc ++ l)
    rw [List.append_assoc] at this
    rw [← this]
    congr 1
    simp
theorem op_repZ {X : Cx} : OpR X (binaryOp .Mult) rRepZ := by
  intro pins s σ H x y v u Q I rx ry ⟨l, i, e1, e2, h1, h2, hl, q⟩
  subst e1 e2
  obtain ⟨t, rfl⟩ := rx
  obtain ⟨t', rfl⟩ := ry
  have hq : EP X pins σ Q (.str (S (List.replicate i.toNat l).flatten) s.toks) { s with toks := s.toks + 1 } := ⟨.str (S (List.replicate i.toNat l).flatten), H, I.tok _, ⟨_, rfl⟩, q⟩
  have hlen : (S l).length = l.length := S_len l
  have sm : l.length * i.toNat ≤ 1000000 := by
    have : i.toNat ≤ 1000 := by omega
    calc l.length * i.toNat ≤ 1000 * 1000 := Nat.mul_le_mul hl this
      _ = 1000000 := rfl
  refine P.mul_str (by
      rw [decide_eq_false (show ¬ i < -(2 ^ 63 : Int) by omega), decide_eq_false (show ¬ i ≥ 2 ^ 63 by omega)]; rfl) (fun _ _ => ?_) (fun _ _ => ?_) ?_
  · rw [hlen]
    have : (1000 : Int) ≤ (2 ^ 63 - 1) / i := (Int.le_ediv_iff_mul_le (by omega)).mpr (by omega)
    omega
  · rw [hlen]
    exact decide_eq_false (by rw [sizeLine_eq]; omega)
  · rw [if_neg (by omega)]
    have few : (S (List.replicate i.toNat l).flatten).length ≤ sizeLine := by
      rw [S_len, sizeLine_eq, List.length_flatten, List.map_replicate, List.sum_replicate_nat, Nat.mul_comm]
      omega
    by_cases c : (i == 1 || (S l).length == 0) = true
    · rw [if_pos c]
      have e : (List.replicate i.toNat l).flatten = l := by
        rw [Bool.or_eq_true, beq_iff_eq, beq_iff_eq, hlen] at c
        rcases c with rfl | c
        · simp
        · rw [List.eq_nil_of_length_eq_zero c]; simp
      rw [e] at q
      exact ⟨.str (S l), H, I, ⟨_, rfl⟩, q⟩
    · rw [if_neg c]
      have e : (⟨(List.replicate i.toNat (S l).cps).foldl (· ++ ·) #[]⟩ : Str) = S (List.replicate i.toNat l).flatten := by
        have := foldl_cat l i.toNat []
        rw [List.nil_append] at this
        exact congrArg Str.mk this
      rw [e]
      exact ⟨few, hq⟩
theorem call_lenZ {X : Cx} : CallR X (.builtin "len") rLenZ := CallR.imp call_len_str fun xs H Q ⟨l, e, hz, q⟩ => ⟨S l, e, by rw [S_len]; exact hz, by rw [S_len]; exact q⟩
/-- "".join(texts) -/
theorem joinL_nil : ∀ ls : List (List Nat), TL.joinL [] ls = ls.flatten
  | [] => rfl
  | [a] => by simp [TL.joinL]
  | a :: b :: r => by
    have := joinL_nil (b :: r)
    rw [List.flatten_cons, ← this]
    simp [TL.joinL]
def strsV (ls : List (List Nat)) : List V := ls.map fun l => V.str (S l)
theorem strsV_len {ls : List (List Nat)} : (strsV ls).length = ls.length := List.length_map _
theorem strsV_get {ls : List (List Nat)} {i : Nat} {l : List Nat} (h : ls[i]? = some l) : (strsV ls)[i]? = some (.str (S l)) := by unfold strsV; rw [List.getElem?_map, h]; rfl
theorem strsV_get' {ls : List (List Nat)} {i : Nat} {v : V} (h : (strsV ls)[i]? = some v) : ∃ l, ls[i]? = some l ∧ v = .str (S l) := by
  unfold strsV at h
  rw [List.getElem?_map] at h
  obtain ⟨l, h1, h2⟩ := Option.map_eq_some_iff.mp h
  exact ⟨l, h1, h2.symm⟩
def tJoinZ (te : TE) : TE := fun σ H Q => te σ H fun y H1 => ∃ p ls, y = .ref p ∧ H1 p = some (.lst (strsV ls)) ∧ (ls.map (·.length)).sum ≤ 1000000 ∧ Q (.str (S ls.flatten)) H1
theorem pe_joinZ {X : Cx} {e : Expr} {te : TE} {x : Str} {j : Nat} {p2 apos pos : Pos} (hx : x = S [] := by decide +kernel) (he : PE X e te) (hs : starEach [e] X.env = [(false, eval e X.env)] := by rfl)
    (hbase : attributeBase (.Constant (.str x) j p2) "join" X.env (eval (.Constant (.str x) j p2) X.env) = eval (.Constant (.str x) j p2) X.env := by rfl) (hline : (apos.endLine == pos.line) = true := by rfl) : PE X (.Call (.Attribute (.Constant (.str x) j p2) "join" apos) [e] [] pos) (tJoinZ te) := by
  subst hx
  refine PE.imp (pe_join pe_str (PE.mcl he) hs hbase hline) fun σ H Q h => ?_
  refine ⟨⟨_, rfl⟩, _, h, fun v H1 ⟨p, ls, e1, e2, e3, q⟩ => ?_⟩
  refine ⟨S [], p, ls.map S, rfl, by rw [e1], .inl ?_, ?_, ?_⟩
  · rw [List.map_map]; exact SqL.of e2
  · rw [SX.lens, S_len, List.length_nil, Nat.mul_zero, Nat.add_zero]; omega
  · rw [SX.join_S, joinL_nil]; exact q
/-! ### globals that hold a text or an int -/
theorem pe_glS {X : Cx} {x : Str} {l : List Nat} {pos : Pos} (h : ∃ t, X.mg x = some (.str (S l) t)) (hg : Gl X x := by rfl) (hd : (x == ("__debug__" : Str)) = false := by decide) : PE X (.Name x pos) (tC (.str (S l))) := let ⟨t, e⟩ := h; pe_glob hg e ⟨t, rfl⟩ hd
theorem pe_glI {X : Cx} {x : Str} {i : Int} {pos : Pos} (h : ∃ t, X.mg x = some (.int i t)) (hg : Gl X x := by rfl) (hd : (x == ("__debug__" : Str)) = false := by decide) : PE X (.Name x pos) (tC (.int i)) := let ⟨t, e⟩ := h; pe_glob hg e ⟨t, rfl⟩ hd
/-- tuple(x) of a list or a tuple -/
def rTupG (K : PySem.W.Frag) : List V → Hp → VK → Prop := fun xs H Q => ∃ p ys, xs = [.ref p] ∧ LG K H p ys ∧ ∀ q H', Same H H' → SqT K H' q ys → Q (.ref q) H'
theorem call_tupG {X : Cx} : CallR X (.type "tuple") (rTupG X.K) := CallR.imp call_tuple_of fun xs H Q ⟨p, ys, e, hp, n⟩ => ⟨p, ys, e, hp.elim (fun h => .inl ⟨SqL.of h, fun l hl => n l _ (Same.upd hl) (SqT.of upd_same)⟩) fun h => .inr ⟨h, n p H (fun _ _ h => h) h⟩⟩
/-! ### rows of texts, compared -/
def dStrs (ls : List (List Nat)) : List PyData := ls.map fun l => PyData.str (S l)
theorem dpA_strs {K : PySem.W.Frag} {H : Hp} : ∀ ls : List (List Nat), DpAll K H (strsV ls) (dStrs ls)
  | [] => .nil
  | l :: r => .cons (.str _) (dpA_strs r)
theorem eqvA_strs : ∀ ls ms : List (List Nat), PyData.eqvAll (dStrs ls) (dStrs ms) = decide (ls = ms)
  | [], [] => by simp [dStrs, PyData.eqvAll]
  | [], m :: ms => by simp [dStrs, PyData.eqvAll]
  | l :: ls, [] => by simp [dStrs, PyData.eqvAll]
  | l :: ls, m :: ms => by
    have ih := eqvA_strs ls ms
    simp only [dStrs, List.map_cons, PyData.eqvAll, PyData.eqv] at ih ⊢
    rw [ih, SX.S_beq_eq]
    by_cases h1 : l = m <;> by_cases h2 : ls = ms <;> simp [h1, h2]
/-- the signs are figures -/
def figs (ls : List (List Nat)) : Prop := ∀ l ∈ ls, ∀ c ∈ l, 48 ≤ c ∧ c ≤ 57
theorem figs_ok {ls : List (List Nat)} (h : figs ls) : ∀ l ∈ ls, PyData.strOk (S l) = true := fun l hl => by
  unfold PyData.strOk
  rw [Array.all_eq_true']
  intro c hc
  have := h l hl c (by simpa using hc)
  exact decide_eq_true (by omega)
theorem sh_strsT {n : Nat} {ls : List (List Nat)} (h : figs ls) : ShN (n + 1) (.tuple (dStrs ls)) := (ShN.tuple (n := 0) fun d hd => by
  obtain ⟨l, hl, rfl⟩ := List.mem_map.mp hd; exact ShN.str (figs_ok h l hl)).up (by omega)
theorem sh_strsL {n : Nat} {ls : List (List Nat)} (h : figs ls) : ShN (n + 1) (.list (dStrs ls)) := (ShN.list (n := 0) fun d hd => by
  obtain ⟨l, hl, rfl⟩ := List.mem_map.mp hd; exact ShN.str (figs_ok h l hl)).up (by omega)
theorem dp_strsT {K : PySem.W.Frag} {H : Hp} {p : Addr} {ls : List (List Nat)} (h : H p = some (.tup (strsV ls))) : Dp K H (.ref p) (.tuple (dStrs ls)) := .tup (SqT.of h) (dpA_strs ls)
theorem dp_strsL {K : PySem.W.Frag} {H : Hp} {p : Addr} {ls : List (List Nat)} (h : H p = some (.lst (strsV ls))) : Dp K H (.ref p) (.list (dStrs ls)) := .lst (SqL.of h) (dpA_strs ls)
/-- two lists of texts -/
theorem eq_strsL {K : PySem.W.Frag} {H : Hp} {p q : Addr} {ls ms : List (List Nat)} {R : VK} (h1 : H p = some (.lst (strsV ls))) (h2 : H q = some (.lst (strsV ms))) (f1 : figs ls) (f2 : figs ms) (r : R (.bl (decide (ls = ms))) H) : rEqD K (.ref p) (.ref q) H R :=
  ⟨_, _, dp_strsL h1, dp_strsL h2, (sh_strsL (n := 0) f1).ok, (sh_strsL (n := 0) f2).ok, by simp only [PyData.eqv]; rw [eqvA_strs]; exact r⟩
/-- a normal form as data -/
def dNF (w s h : Int) (R : List (List Nat)) : PyData := .tuple [.int w, .int s, .int h, .tuple (dStrs R)]
structure NFAt (H : Hp) (n q : Addr) (w s h : Int) (R : List (List Nat)) : Prop where
  n : H n = some (.tup [.int w, .int s, .int h, .ref q])
  q : H q = some (.tup (strsV R))
theorem NFAt.same {H H' : Hp} {n q : Addr} {w s h : Int} {R : List (List Nat)} (x : NFAt H n q w s h R) (e : Same H H') : NFAt H' n q w s h R := ⟨e _ _ x.n, e _ _ x.q⟩
theorem NFAt.dp {K : PySem.W.Frag} {H : Hp} {n q : Addr} {w s h : Int} {R : List (List Nat)} (x : NFAt H n q w s h R) : Dp K H (.ref n) (dNF w s h R) := .tup (SqT.of x.n) (.cons (.int w) (.cons (.int s) (.cons (.int h) (.cons (dp_strsT x.q) .nil))))
theorem sh_dNF {n : Nat} {w s h : Int} {R : List (List Nat)} (f : figs R) : ShN (n + 2) (dNF w s h R) := (ShN.tuple (n := 1) fun d hd => by
  simp only [List.mem_cons, List.not_mem_nil, or_false] at hd
  rcases hd with rfl | rfl | rfl | rfl
  · exact .int
  · exact .int
  · exact .int
  · exact sh_strsT (n := 0) f).up (by omega)
theorem eqv_dNF {w s h w' s' h' : Int} {R R' : List (List Nat)} : PyData.eqv (dNF w s h R) (dNF w' s' h' R') = decide (w = w' ∧ s = s' ∧ h = h' ∧ R = R') := by
  simp only [dNF, PyData.eqv, PyData.eqvAll, Bool.and_true, eqvA_strs]
  by_cases h1 : w = w' <;> by_cases h2 : s = s' <;> by_cases h3 : h = h' <;> by_cases h4 : R = R' <;> simp [h1, h2, h3, h4]
theorem eq_NF {K : PySem.W.Frag} {H : Hp} {n q n' q' : Addr} {w s h w' s' h' : Int} {R R' : List (List Nat)} {k : VK} (x : NFAt H n q w s h R) (y : NFAt H n' q' w' s' h' R') (f : figs R) (f' : figs R') (r : k (.bl (decide (w = w' ∧ s = s' ∧ h = h' ∧ R = R'))) H) : rEqD K (.ref n) (.ref n') H k :=
  ⟨_, _, x.dp, y.dp, (sh_dNF (n := 0) f).ok, (sh_dNF (n := 0) f').ok, by rw [eqv_dNF]; exact r⟩
/-! ### a comprehension over a text's signs -/
theorem st_lcZ {tl : TE} {g : TG} {tt : TT} {te : TE} {vs : List Nat} {σ : L2.St} {H : Hp} {Q : VK} {l : List Nat} (ha : ∀ R : V → Hp → Prop, R (.str (S l)) H → tl σ H R) (hz : l.length ≤ 1000) (f : Nat → V)
    (hs : ∀ (c : Nat) H' (R : V → Hp → Prop) (R2 : Hp → Prop), c ∈ l → Same H H' → R (f c) H' → g (.str (S [c])) (wipe σ vs) H' fun σ2 H2 => wipe σ2 vs = wipe σ vs ∧ tt σ2 H2 fun b H3 => if b = true then te σ2 H3 R else R2 H3)
    (hd : ∀ D H', Same H H' → H' D = some (.lst (l.map f)) → Q (.ref D) H') : tLc (iStr tl) g tt te vs σ H Q := by
  have e1 : (S l).cps.size = l.length := by simp
  refine ha _ ⟨S l, rfl, fun D hD => ?_⟩
  refine L2.lc_it (walk_str (z := S l)) (fun i H' => Same H H' ∧ H' D = some (.lst ((l.take i).map f))) ⟨Same.upd hD, by rw [upd_same]; simp⟩ (fun _ _ _ _ => trivial) ?_ ?_
  · rintro i x H1 _ hi ⟨s1, h1⟩ ⟨rfl, c, hc, rfl⟩
    have hc' : l[i]? = some c := by simpa using hc
    have hlt : ((l.take i).map f).length < sizeLine := by
      rw [List.length_map, List.length_take, sizeLine_eq]; omega
    refine hs c _ _ _ (List.mem_of_getElem? hc') s1 ⟨_, h1, hlt, fun b o hb => ?_, ?_⟩
    · rw [upd_ne (ne_of_none hb hD)]; exact s1 _ _ hb
    · rw [upd_same, List.take_succ, hc', List.map_append]; rfl
  · rintro H1 ⟨s1, h1⟩
    rw [e1, List.take_length] at h1
    exact hd D H1 s1 h1
/-- a test that may be asked for less -/
theorem PTm {X : Cx} {e : Expr} {t : TT} (h : PT X e t) : PT X e (mcl t) := ⟨fun pins s σ H Q I ⟨Q0, q, k⟩ => thn (h.run pins s σ H Q0 I q) fun b s1 ⟨H1, I1, q1⟩ => ⟨H1, I1, k b H1 q1⟩⟩
theorem mono_mcl {t : TT} (σ : L2.St) (H : Hp) (Q Q' : Bool → Hp → Prop) (k : ∀ b H1, Q b H1 → Q' b H1) (h : mcl t σ H Q) : mcl t σ H Q' := let ⟨Q0, q, m⟩ := h; ⟨Q0, q, fun b H1 z => k b H1 (m b H1 z)⟩
/-! ### rows walked -/
theorem st_lcQ {K : PySem.W.Frag} {tl : TE} {g : TG} {tt : TT} {te : TE} {vs : List Nat} {σ : L2.St} {H : Hp} {Q : VK} {a : Addr} {ls : List (List Nat)} (ha : ∀ R : V → Hp → Prop, R (.ref a) H → tl σ H R) (hx : SqT K H a (strsV ls)) (hz : ls.length ≤ 1000) (f : List Nat → V)
    (hs : ∀ (l : List Nat) H' (R : V → Hp → Prop) (R2 : Hp → Prop), l ∈ ls → Same H H' → R (f l) H' → g (.str (S l)) (wipe σ vs) H' fun σ2 H2 => wipe σ2 vs = wipe σ vs ∧ tt σ2 H2 fun b H3 => if b = true then te σ2 H3 R else R2 H3)
    (hd : ∀ D H', Same H H' → H' D = some (.lst (ls.map f)) → Q (.ref D) H') : tLc (iTup K tl) g tt te vs σ H Q := by
  refine ha _ ⟨a, rfl, ⟨_, hx⟩, fun D hD => ?_⟩
  refine lc_tup (xs := strsV ls) (fun i H' => Same H H' ∧ H' D = some (.lst ((ls.take i).map f))) ⟨Same.upd hD, by rw [upd_same]; simp⟩ (fun i H' _ p => SqT.same hx p.1) ?_ ?_
  · rintro i x H1 hi ⟨s1, h1⟩
    obtain ⟨l, hl, rfl⟩ := strsV_get' hi
    have hlt : ((ls.take i).map f).length < sizeLine := by rw [List.length_map, List.length_take, sizeLine_eq]; omega
    refine hs l _ _ _ (List.mem_of_getElem? hl) s1 ⟨_, h1, hlt, fun b o hb => ?_, ?_⟩
    · rw [upd_ne (ne_of_none hb hD)]; exact s1 _ _ hb
    · rw [upd_same, List.take_succ, hl, List.map_append]; rfl
  · rintro H1 ⟨s1, h1⟩
    rw [strsV_len, List.take_length] at h1
    exact hd D H1 s1 h1
/-- {i: z} -/
def tD1 (i : Int) (z : Str) : TE := fun _ H Q => News H (.dK (mergeK [] [(.inl i, .str z)])) Q
theorem pe_d1 {X : Cx} {i : Int} {z : Str} {a b : Expr} {pos : Pos} (ha : PE X a (tC (.int i))) (hb : PE X b (tC (.str z))) : PE X (.Dict [some a] [b] pos) (tD1 i z) :=
  PE.imp (pe_disp (pps_cons ha hb pps_nil) rfl rfl (by simp) (by simp)) fun σ H Q n p hp => ⟨upd_same, [(.inl i, .str z)], rfl, by simp, n p _ hp (fun b o hb => by rw [upd_ne (ne_of_none hb hp), upd_ne (ne_of_none hb hp)]; exact hb) upd_same⟩
theorem sl_listNk {X : Cx} {K : PySem.W.Frag} (e : X.K = K) : SlR X (rSlLN K) := e ▸ sl_listN
end Iz
/-! Cq -/
set_option Elab.async false
set_option linter.all false
set_option maxRecDepth 100000
set_option maxHeartbeats 4000000
namespace Iz
/-! ### carpets: places gone through, colours counted -/
theorem per_places {C : Int → Int → Nat} {a d : Nat} {b x y : Int} (a1 : 1 ≤ a) (d1 : 1 ≤ d) (P1 : Per C a 0) (P2 : Per C b d) (h : ∀ i j : Nat, i < a → j < d → C (i + x) (j + y) = C i j) : Per C x y := by
  intro u z
  obtain ⟨q, hq⟩ : ∃ q, q = z / (d : Int) := ⟨_, rfl⟩
  obtain ⟨v, hv⟩ : ∃ v, v = (u - b * q) / (a : Int) := ⟨_, rfl⟩
  have m0 := Int.emod_nonneg z (b := (d : Int)) (by omega)
  have m1 := Int.emod_lt_of_pos z (b := (d : Int)) (by omega)
  have n0 := Int.emod_nonneg (u - b * q) (b := (a : Int)) (by omega)
  have n1 := Int.emod_lt_of_pos (u - b * q) (b := (a : Int)) (by omega)
  have Q := (P2.smul q).add (P1.smul v)
  have ez : z = (z % (d : Int)) + (q * d + v * 0) := by have := Int.emod_add_mul_ediv z d; rw [← hq] at this; rw [Int.mul_zero, Int.add_zero, Int.mul_comm q]; exact this.symm
  have ex : u = ((u - b * q) % (a : Int)) + (q * b + v * a) := by
    have := Int.emod_add_mul_ediv (u - b * q) a
    rw [← hv] at this
    rw [Int.mul_comm q, Int.mul_comm v]; omega
  have e1 := Q ((u - b * q) % (a : Int)) (z % (d : Int))
  have e2 := Q ((u - b * q) % (a : Int) + x) (z % (d : Int) + y)
  rw [← ex, ← ez] at e1
  rw [show (u - b * q) % (a : Int) + x + (q * b + v * a) = u + x by omega, show z % (d : Int) + y + (q * d + v * 0) = z + y by omega] at e2
  rw [e1, e2]
  have := h ((u - b * q) % (a : Int)).toNat (z % (d : Int)).toNat (by omega) (by omega)
  rwa [Int.toNat_of_nonneg m0, Int.toNat_of_nonneg n0] at this
theorem RowsOk.cells {a d : Nat} {rows : List (List Nat)} (R : RowsOk a d rows) {b : Int} : rows = Iz.cells (colR b rows) a d := by
  refine List.ext_getElem (by simp [Iz.cells, R.len]) fun j h1 h2 => ?_
  have lr := R.all _ (List.getElem_mem h1)
  simp only [Iz.cells, List.getElem_map, List.getElem_range]
  refine List.ext_getElem (by simp [lr]) fun i h3 h4 => ?_
  simp only [List.getElem_map, List.getElem_range]
  rw [R.at (List.getElem?_eq_getElem h1) i (by omega), List.getD_eq_getElem?_getD, List.getElem?_eq_getElem h3]; rfl
/-- how often k comes among n neighbours of a row from s on -/
def rowN (f : Int → Nat) (k n : Nat) (s : Int) : Nat := ((List.range n).map fun (i : Nat) => f (s + i)).count k
theorem rowN_succ {f : Int → Nat} {k n : Nat} {s : Int} : rowN f k (n + 1) s = rowN f k n s + (if f (s + n) = k then 1 else 0) := by
  unfold rowN
  rw [List.range_succ, List.map_append, List.count_append]
  simp [List.count_cons]
theorem rowN_cons {f : Int → Nat} {k n : Nat} {s : Int} : rowN f k (n + 1) s = (if f s = k then 1 else 0) + rowN f k n (s + 1) := by
  induction n with
  | zero => rw [rowN_succ]; simp [rowN]
  | succ n ih =>
    rw [rowN_succ, ih, rowN_succ, show s + 1 + (n : Int) = s + ((n + 1 : Nat) : Int) by omega]; omega
theorem rowN_turn {f : Int → Nat} {k w : Nat} (p : ∀ x, f (x + w) = f x) (s : Int) : rowN f k w (s + 1) = rowN f k w s := by
  have h1 := rowN_succ (f := f) (k := k) (n := w) (s := s)
  have h2 := rowN_cons (f := f) (k := k) (n := w) (s := s)
  rw [p] at h1
  omega
theorem rowN_any {f : Int → Nat} {k w : Nat} (p : ∀ x, f (x + w) = f x) (n : Nat) : rowN f k w n = rowN f k w 0 := by
  induction n with
  | zero => rfl
  | succ n ih => rw [show ((n + 1 : Nat) : Int) = (n : Int) + 1 by omega, rowN_turn p, ih]
theorem rowN_add {f : Int → Nat} {k m n : Nat} {s : Int} : rowN f k (m + n) s = rowN f k m s + rowN f k n (s + m) := by
  induction n with
  | zero => simp [rowN]
  | succ n ih => rw [← Nat.add_assoc, rowN_succ, ih, rowN_succ, show s + ((m + n : Nat) : Int) = s + m + n by omega]; omega
theorem rowN_mul {f : Int → Nat} {k w : Nat} (p : ∀ x, f (x + w) = f x) (m : Nat) : rowN f k (w * m) 0 = m * rowN f k w 0 := by
  induction m with
  | zero => simp [rowN]
  | succ m ih =>
    rw [Nat.mul_succ, rowN_add, ih, Int.zero_add, show ((w * m : Nat) : Int) = ((w * m : Nat) : Int) from rfl, rowN_any p, Nat.succ_mul]
/-- how often k comes among the first w cells of the first h rows -/
def cntC (C : Int → Int → Nat) (k w : Nat) : Nat → Nat
  | 0 => 0
  | h + 1 => cntC C k w h + rowN (fun x => C x h) k w 0
theorem cntC_cells {C : Int → Int → Nat} {k w h : Nat} : (cells C w h).flatten.count k = cntC C k w h := by
  induction h with
  | zero => rfl
  | succ h ih =>
    rw [show cells C w (h + 1) = cells C w h ++ [(List.range w).map fun (i : Nat) => C i h] by unfold cells; rw [List.range_succ, List.map_append]; rfl, List.flatten_append, List.count_append, ih]
    simp [cntC, rowN]
theorem cntC_add {C : Int → Int → Nat} {k w m n : Nat} (p : ∀ j : Nat, rowN (fun x => C x ((m + j : Nat) : Int)) k w 0 = rowN (fun x => C x j) k w 0) : cntC C k w (m + n) = cntC C k w m + cntC C k w n := by
  induction n with
  | zero => rfl
  | succ n ih => rw [← Nat.add_assoc]; simp only [cntC]; rw [ih, p n]; omega
theorem count_all {C : Int → Int → Nat} {w s h : Int} {R : List (List Nat)} {a d : Nat} {b : Int} (N : NF C w s h R) (a1 : 1 ≤ a) (d1 : 1 ≤ d) (P1 : Per C a 0) (P2 : Per C b d) :
    ∃ m n : Nat, a = w.toNat * m ∧ d = h.toNat * n ∧ ∀ k, (cells C a d).flatten.count k = m * n * R.flatten.count k := by
  have w1 := N.w1; have h1 := N.h1; have s0 := N.s0
  have dw : (a : Int) % w = 0 := by
    have q := P1.sub (N.pw.smul ((a : Int) / w))
    have e := Int.emod_add_mul_ediv (a : Int) w
    rw [Int.mul_zero, Int.sub_zero, show (a : Int) - (a : Int) / w * w = (a : Int) % w by rw [Int.mul_comm ((a : Int) / w)]; omega] at q
    have m0 := Int.emod_nonneg (a : Int) (b := w) (by omega)
    have m1 := Int.emod_lt_of_pos (a : Int) (b := w) (by omega)
    by_cases c : (a : Int) % w = 0
    · exact c
    · exact absurd q (N.lw _ (by omega) m1)
  have dh : (d : Int) % h = 0 := by
    have q := P2.sub (N.ph.smul ((d : Int) / h))
    have e := Int.emod_add_mul_ediv (d : Int) h
    rw [show (d : Int) - (d : Int) / h * h = (d : Int) % h by rw [Int.mul_comm ((d : Int) / h)]; omega] at q
    have m0 := Int.emod_nonneg (d : Int) (b := h) (by omega)
    have m1 := Int.emod_lt_of_pos (d : Int) (b := h) (by omega)
    by_cases c : (d : Int) % h = 0
    · exact c
    · exact absurd q (N.lh _ _ (by omega) m1)
  obtain ⟨W, rfl⟩ := Int.eq_ofNat_of_zero_le (show 0 ≤ w by omega)
  obtain ⟨Hh, rfl⟩ := Int.eq_ofNat_of_zero_le (show 0 ≤ h by omega)
  obtain ⟨S, rfl⟩ := Int.eq_ofNat_of_zero_le s0
  have dw' : W ∣ a := Int.natCast_dvd_natCast.mp (Int.dvd_of_emod_eq_zero dw)
  have dh' : Hh ∣ d := Int.natCast_dvd_natCast.mp (Int.dvd_of_emod_eq_zero dh)
  obtain ⟨m, rfl⟩ := dw'
  obtain ⟨n, rfl⟩ := dh'
  refine ⟨m, n, by rw [Int.toNat_natCast], by rw [Int.toNat_natCast], fun k => ?_⟩
  have pw : ∀ j x : Int, C (x + W) j = C x j := fun j x => by have := N.pw x j; rwa [Int.add_zero] at this
  rw [N.rows, cntC_cells, cntC_cells, Int.toNat_natCast, Int.toNat_natCast]
  have rowM : ∀ e : Nat, cntC C k (W * m) e = m * cntC C k W e := fun e => by
    induction e with
    | zero => rfl
    | succ e ih => simp only [cntC]; rw [ih, rowN_mul (pw e), Nat.mul_add]
  have shift : ∀ j : Nat, rowN (fun x => C x ((Hh + j : Nat) : Int)) k W 0 = rowN (fun x => C x j) k W 0 := fun j => by
    rw [← rowN_any (pw ((Hh + j : Nat) : Int)) S]
    unfold rowN
    congr 1
    refine List.map_congr_left fun i _ => ?_
    have := N.ph (i : Int) (j : Int)
    rw [show (j : Int) + (Hh : Int) = ((Hh + j : Nat) : Int) by omega, Int.add_comm] at this
    show C ((S : Int) + (i : Int)) ((Hh + j : Nat) : Int) = C (0 + (i : Int)) j
    rw [this, Int.zero_add]
  have colM : ∀ e : Nat, cntC C k W (Hh * e) = e * cntC C k W Hh := fun e => by
    induction e with
    | zero => simp [cntC]
    | succ e ih =>
      rw [Nat.mul_succ, Nat.add_comm (Hh * e) Hh, cntC_add shift, ih, Nat.succ_mul]; omega
  rw [rowM, colM, Nat.mul_assoc]
end Iz
/-! Sc -/
set_option Elab.async false
set_option linter.all false
set_option maxRecDepth 100000
set_option maxHeartbeats 4000000
namespace Iz
open PySem PySem.Spec PyProof.Rows L2
open He (ga)
open SX (S S_len S_inj S_cat)
open PySem.StrLaws PySem.Builtin.Str
/-! ### a sign counted -/
theorem occ_run (l : List Nat) (c : Nat) : ∀ (k i : Nat) (st : Array Nat × Nat), i + k = l.length + 1 → st.snd ≤ i → st.fst.size ≤ i →
    (forIn (List.range' i k) st (occBody (S l) (S [c]) l.length (l.length + 1))).run.fst.size = st.fst.size + (l.drop i).count c
  | 0, i, st, h, _, _ => by
    rw [List.drop_eq_nil_of_le (by omega)]; rfl
  | k + 1, i, st, h, h1, h2 => by
    rw [List.range'_succ, List.forIn_cons]
    have one := subAt_one (S l) c i
    rw [S_len] at one
    have key : ((st.fst.size < l.length + 1 ∧ st.snd ≤ i) ∧ i + (S [c]).length ≤ l.length) ∧ subAt (S l) (S [c]) i = true ↔ l[i]? = some c := ⟨fun x => one.mp ⟨x.1.2, x.2⟩, fun x => by
      have y := one.mpr x
      exact ⟨⟨⟨by omega, h1⟩, y.1⟩, y.2⟩⟩
    unfold occBody
    by_cases e : l[i]? = some c
    · rw [if_pos (key.mpr e)]
      have ih := occ_run l c k (i + 1) (st.fst.push i, i + (S [c]).length) (by omega) (by show i + (S [c]).length ≤ i + 1; rw [S_len]; exact Nat.le_refl _) (by simp; omega)
      refine Eq.trans ih ?_
      have hd : l.drop i = c :: l.drop (i + 1) := drop_of e
      rw [hd, List.count_cons_self, Array.size_push]; omega
    · rw [if_neg (fun z => e (key.mp z))]
      have ih := occ_run l c k (i + 1) st (by omega) (by omega) (by omega)
      refine Eq.trans ih ?_
      cases e2 : l[i]? with
      | none => 
        have : l.length ≤ i := List.getElem?_eq_none_iff.mp e2
        rw [List.drop_eq_nil_of_le (by omega), List.drop_eq_nil_of_le this]
      | some a =>
        have hd : l.drop i = a :: l.drop (i + 1) := drop_of e2
        rw [hd, List.count_cons_of_ne (fun z => e (by rw [e2, z]))]
theorem count_S (l : List Nat) (c : Nat) : Txt.count (S l) (S [c]) = ((l.count c : Nat) : Int) := by
  show (((occurrences (S l) (S [c]) 0 (S l).length ((S l).length + 1)).length : Nat) : Int) = _
  rw [S_len, occ_eq, Nat.sub_zero, Array.length_toList]
  have := occ_run l c (l.length + 1) 0 (#[], 0) (by omega) (Nat.le_refl _) (Nat.le_refl _)
  rw [this]
  simp
def rCntZ (te ta : TE) : TE := fun σ H Q => te σ H fun x H1 => ∃ l : List Nat, x = .str (S l) ∧ ta σ H1 fun y H2 => ∃ c : Nat, y = .str (S [c]) ∧ Q (.int ((l.count c : Nat) : Int)) H2
theorem pe_cntZ {X : Cx} {o e : Expr} {to te : TE} {apos pos : Pos} (ho : PE X o to) (he : PE X e te) (hs : starEach [e] X.env = [(false, eval e X.env)] := by rfl) (hbase : attributeBase o "count" X.env (eval o X.env) = eval o X.env := by rfl) (hline : (apos.endLine == pos.line) = true := by rfl) :
    PE X (.Call (.Attribute o "count" apos) [e] [] pos) (rCntZ to te) :=
  PE.imp (pe_m1 F.slot_str_count F.type_str_count mt_count (PE.mcl ho) (PE.mcl he) hs hbase hline) fun σ H Q h =>
    ⟨_, h, fun x H1 ⟨l, e, q⟩ => ⟨⟨_, e⟩, _, q, fun y H2 ⟨c, e2, q2⟩ => ⟨S l, S [c], e, by rw [e2], by rw [count_S]; exact q2⟩⟩⟩
/-- "".join(texts), of a list or a tuple -/
def tJoinG (K : PySem.W.Frag) (te : TE) : TE := fun σ H Q => te σ H fun y H1 => ∃ p ls, y = .ref p ∧ SqT K H1 p (strsV ls) ∧ (ls.map (·.length)).sum ≤ 1000000 ∧ Q (.str (S ls.flatten)) H1
theorem pe_joinG {X : Cx} {e : Expr} {te : TE} {x : Str} {j : Nat} {p2 apos pos : Pos} (hx : x = S [] := by decide +kernel) (he : PE X e te) (hs : starEach [e] X.env = [(false, eval e X.env)] := by rfl)
    (hbase : attributeBase (.Constant (.str x) j p2) "join" X.env (eval (.Constant (.str x) j p2) X.env) = eval (.Constant (.str x) j p2) X.env := by rfl) (hline : (apos.endLine == pos.line) = true := by rfl) : PE X (.Call (.Attribute (.Constant (.str x) j p2) "join" apos) [e] [] pos) (tJoinG X.K te) := by
  subst hx
  refine PE.imp (pe_join pe_str (PE.mcl he) hs hbase hline) fun σ H Q h => ⟨⟨_, rfl⟩, _, h, fun v H1 ⟨p, ls, e1, e2, e3, q⟩ => ?_⟩
  refine ⟨S [], p, ls.map S, rfl, by rw [e1], .inr ?_, ?_, ?_⟩
  · rw [List.map_map]; exact e2
  · rw [SX.lens, S_len, List.length_nil, Nat.mul_zero, Nat.add_zero]; omega
  · rw [SX.join_S, joinL_nil]; exact q
/-! ### a comprehension over a range from 0, some left out -/
theorem st_lcR1F {ta : TA} {g : TG} {tt : TT} {te : TE} {vs : List Nat} {σ : L2.St} {H : Hp} {Q : VK} (n : Int) (hn : -(2 ^ 62) ≤ n ∧ n < 2 ^ 62) (ha : ∀ R : List V → Hp → Prop, R [.int n] H → ta σ H R) (hz : n.toNat ≤ sizeLine) (p : Int → Bool) (f : Int → V)
    (hs : ∀ x H' (A : Hp → Prop) (B : VK), 0 ≤ x → x < n → Same H H' → (p x = false → ∀ H3, Same H' H3 → A H3) → (p x = true → ∀ H4, Same H' H4 → B (f x) H4) →
      g (.int x) (wipe σ vs) H' fun σ2 H2 => wipe σ2 vs = wipe σ vs ∧ tt σ2 H2 fun b H3 => if b = true then te σ2 H3 B else A H3)
    (hd : ∀ D H', H D = none → Same H H' → H' D = some (.lst (((intsB 0 n).filter p).map f)) → Q (.ref D) H') : tLc (iRng1 ta) g tt te vs σ H Q := by
  have ln : (intsB 0 n).length = n.toNat := by simp [intsB]
  refine ha _ ⟨n, rfl, hn.1, hn.2, fun D hD => lc_range (fun i H' => Same H H' ∧ H' D = some (.lst ((((intsB 0 n).take i).filter p).map f))) ⟨Same.upd hD, upd_same⟩ (fun i H' hi q => ?_) (fun H' q => hd D H' hD q.1 (by rw [q.2, ← ln, List.take_length]))⟩
  have hi' : (intsB 0 n)[i]? = some (0 + (i : Int)) := by
    have : i < (n - 0).toNat := by omega
    unfold intsB
    rw [List.getElem?_map, List.getElem?_range this]; rfl
  refine hs (0 + i) H' _ _ (by omega) (by omega) q.1 (fun e H3 s3 => ⟨q.1.trans s3, ?_⟩) (fun e H4 s4 => ⟨_, s4 _ _ q.2, ?_, ?_, ?_⟩)
  · rw [s3 _ _ q.2, take_filter_succ hi', e]; simp
  · have h1 : (((intsB 0 n).take i).filter p).length ≤ ((intsB 0 n).take i).length := List.length_filter_le _ _
    have h2 : ((intsB 0 n).take i).length ≤ i := by rw [List.length_take]; exact Nat.min_le_left _ _
    rw [List.length_map]; omega
  · exact fun b u e2 => by
      have hb : b ≠ D := ne_of_none e2 hD
      rw [upd_ne hb]; exact s4 _ _ (q.1 _ _ e2)
  · rw [upd_same, take_filter_succ hi', e]; simp
theorem first_range (p : Int → Bool) (lo : Int) : ∀ n : Nat, (∃ v r, ((List.range n).map fun (k : Nat) => lo + (k : Int)).filter p = v :: r ∧ p v = true ∧ lo ≤ v ∧ v < lo + n ∧ ∀ u, lo ≤ u → u < v → p u = false) ∨
    (((List.range n).map fun (k : Nat) => lo + (k : Int)).filter p = [] ∧ ∀ u, lo ≤ u → u < lo + n → p u = false)
  | 0 => .inr ⟨rfl, fun u h1 h2 => by omega⟩
  | n + 1 => by
    rw [List.range_succ, List.map_append, List.filter_append]
    rcases first_range p lo n with ⟨v, r, e, pv, h1, h2, h3⟩ | ⟨e, h⟩
    · exact .inl ⟨v, _, by rw [e]; rfl, pv, h1, by omega, h3⟩
    · rw [e]
      by_cases c : p (lo + (n : Int)) = true
      · exact .inl ⟨lo + n, [], by simp [c], c, by omega, by omega, fun u h1 h2 => h u h1 h2⟩
      · refine .inr ⟨by simp [c], fun u h1 h2 => ?_⟩
        by_cases d : u = lo + n
        · subst d; simpa using c
        · exact h u h1 (by omega)
theorem first_ints (p : Int → Bool) (lo j : Int) : (∃ v r, (intsB lo j).filter p = v :: r ∧ p v = true ∧ lo ≤ v ∧ v < j ∧ ∀ u, lo ≤ u → u < v → p u = false) ∨ ((intsB lo j).filter p = [] ∧ ∀ u, lo ≤ u → u < j → p u = false) := by
  rcases first_range p lo (j - lo).toNat with ⟨v, r, e, pv, h1, h2, h3⟩ | ⟨e, h⟩
  · exact .inl ⟨v, r, e, pv, h1, by omega, h3⟩
  · exact .inr ⟨e, fun u h1 h2 => h u h1 (by omega)⟩
/-- list(x) of a list or a tuple -/
def rListG (K : PySem.W.Frag) : List V → Hp → VK → Prop := fun xs H Q => ∃ p ys, xs = [.ref p] ∧ LG K H p ys ∧ News H (.lst ys) Q
theorem call_listG {X : Cx} : CallR X (.type "list") (rListG X.K) := CallR.imp call_list_of fun xs H Q ⟨p, ys, a, b, n⟩ => ⟨p, ys, a, b.imp SqL.of id, n.all⟩
/-- normal forms compared by != -/
theorem ne_NF {K : PySem.W.Frag} {H : Hp} {n q n' q' : Addr} {w s h w' s' h' : Int} {R R' : List (List Nat)} {k : VK} (x : NFAt H n q w s h R) (y : NFAt H n' q' w' s' h' R') (f : figs R) (f' : figs R') (r : k (.bl (!decide (w = w' ∧ s = s' ∧ h = h' ∧ R = R'))) H) : rNeD K (.ref n) (.ref n') H k :=
  ⟨_, _, x.dp, y.dp, (sh_dNF (n := 0) f).ok, (sh_dNF (n := 0) f').ok, by rw [eqv_dNF]; exact r⟩
end Iz
/-! Dq -/
set_option Elab.async false
set_option linter.all false
set_option maxRecDepth 100000
set_option maxHeartbeats 4000000
namespace Iz
open PySem PySem.Spec PyProof.Rows L2
/-! ### in, deep -/
theorem u65 {k : Nat} {A : Around} (r : Room k A) : A.units + 65 < cLine := by have := r.un; omega
theorem op_inDk {X : Cx} {K : PySem.W.Frag} (e : X.K = K) (hu : X.A.units + 65 < cLine) : OpR X (compareOp .In) (rInD K) := e ▸ op_inD hu
/-- a list of normal forms, by what each is -/
theorem inD_NF {K : PySem.W.Frag} {H : Hp} {L n q : Addr} {w s h : Int} {R : List (List Nat)} {Q : VK} {xs : List V} {Rs : List (List (List Nat))} (hL : H L = some (.lst xs)) (x : NFAt H n q w s h R) (f : figs R)
    (hx : xs.length = Rs.length) (ha : ∀ (i : Nat) R', Rs[i]? = some R' → figs R' ∧ R' ≠ R ∧ ∃ n' q', xs[i]? = some (.ref n') ∧ NFAt H n' q' w s h R') (r : Q (.bl false) H) : rInD K (.ref n) (.ref L) H Q := by
  refine ⟨dNF w s h R, Rs.map (dNF w s h), x.dp, .lst (SqL.of hL) ?_, (sh_dNF (n := 0) f).ok, (ShN.list (n := 2) fun d hd => ?_).ok, ?_⟩
  · clear hL r
    induction Rs generalizing xs with
    | nil => match xs, hx with | [], _ => exact .nil
    | cons R1 Rs ih =>
      match xs, hx with
      | v :: xs, hx =>
        obtain ⟨_, _, n', q', e, y⟩ := ha 0 R1 rfl
        cases e
        exact .cons y.dp (ih (by simpa using hx) fun i R' hi => ha (i + 1) R' hi)
  · obtain ⟨R1, h1, rfl⟩ := List.mem_map.mp hd
    obtain ⟨i, hi⟩ := List.getElem?_of_mem h1
    exact sh_dNF (n := 0) (ha i R1 hi).1
  · have e : ((Rs.map (dNF w s h)).any fun z => PyData.eqv z (dNF w s h R)) = false := by
      rw [List.any_eq_false]
      intro z hz
      obtain ⟨R1, h1, rfl⟩ := List.mem_map.mp hz
      obtain ⟨i, hi⟩ := List.getElem?_of_mem h1
      rw [eqv_dNF]
      have := (ha i R1 hi).2.1
      simp [this]
    rw [e]; exact r
end Iz
/-! Dd -/
set_option Elab.async false
set_option linter.all false
set_option maxRecDepth 100000
set_option maxHeartbeats 4000000
namespace Iz
open PySem PySem.Spec PyProof.Rows L2
section
variable {X : Cx}
/-! ### {None: v}, d.get(k, x): dicts whose keys are None or ints -/
def tDN1 (P : Program) (w : World) (te : TE) : TE := fun σ H Q => ∀ p H1, H p = none → Same H H1 → H1 p = some (DN P w p [] 0) → te σ H1 fun v H2 => H2 p = some (DN P w p [] 0) ∧ ∀ ep H3, Put H2 H3 p (DN P w p [(none, v)] ep) → Q (.ref p) H3
theorem pe_dn1 {e : Expr} {te : TE} {j : Nat} {p1 pos : Pos} (he : PE X e te) : PE X (.Dict [some (.Constant .none j p1)] [e] pos) (tDN1 X.prog X.w te) := by
  refine ⟨fun pins s σ H Q I q => ?_⟩
  have hn := I.hok.fresh (Nat.le_refl s.heap.objs.size)
  have I1 := I.laid (a := s.heap.objs.size) (o := DN X.prog X.w s.heap.objs.size [] 0) (h' := s.heap.push { cls := .type "dict", data := .dict #[] }) (t' := s.toks) (fun _ _ q => Heap.get?_push_of_some _ q) (Nat.le_refl _)
    (dn_new (Nat.zero_le _) (beq_eq_false_iff_ne.mpr (Ne.symm (Nat.ne_of_lt I.big))) .nil ⟨_, #[], Heap.get?_push_size _ rfl, ⟨rfl, rfl, rfl⟩, rfl, fun _ he => by simp at he, Pairs.nil, List.nodup_nil⟩)
  refine wpAny_Dict_walk (knd := noneKind X.prog X.w) rfl rfl (by simp) (by simp) (thn ((pps_cons (pos := pos) pe_non he pps_nil).run pins _ σ _ (fun ps H2 => match ps with
    | [(.non, v)] => H2 s.heap.objs.size = some (DN X.prog X.w s.heap.objs.size [] 0) ∧ ∀ ep H3, Put H2 H3 s.heap.objs.size (DN X.prog X.w s.heap.objs.size [(none, v)] ep) → Q (.ref s.heap.objs.size) H3
    | _ => False) I1 (q _ _ hn (Same.upd hn) upd_same)) fun ws s2 ⟨ps, H2, I2, rel, q2⟩ => ?_)
  match ps, rel, q2 with
  | [(.non, v)], .cons (b := (u, b)) ⟨r1, r2⟩ .nil, ⟨e, q3⟩ =>
    obtain ⟨z, hd, vs0, r0, dd⟩ := dn_get I2 e
    cases r0
    refine ⟨[(none, b)], ⟨kN_is (k := none) r1, rfl, trivial⟩, dd.dictOf, fun h' dd' hs => ?_⟩
    obtain ⟨ep', dd2⟩ := dd'.dictAt
    have hx : ∃ q, h'.get? s.heap.objs.size = some q := let ⟨q, _, _, hq, _⟩ := dd'; ⟨q, hq⟩
    exact ⟨.ref s.heap.objs.size, upd H2 s.heap.objs.size (DN X.prog X.w s.heap.objs.size [(none, v)] ep'), d_write I2 (by rw [e]; exact True.intro) hs hx (dn_new (by rw [sizeLine_eq]; simp) hd (vs := [(none, b)]) (.cons ⟨rfl, r2⟩ .nil) dd2), rfl, q3 ep' _ ⟨upd_same, fun c hc => upd_ne hc⟩⟩
/-- d.get(k, x) -/
def tDGetN (P : Program) (w : World) (td ty tx : TE) : TE := fun σ H Q => td σ H fun x H1 => ∃ a kvs ep, x = .ref a ∧ H1 a = some (DN P w a kvs ep) ∧ ty σ H1 fun y H2 => tx σ H2 fun z H3 => ∃ kvs ep k, H3 a = some (DN P w a kvs ep) ∧ y = ov k ∧ Q ((valV kvs k).getD z) H3
theorem pe_dgetN {o e f : Expr} {td ty tx : TE} {apos cpos : Pos} (ho : PE X o td) (he : PE X e ty) (hf : PE X f tx) (m : M2 X o "get" apos e f cpos) : PE X (.Call (.Attribute o "get" apos) [e, f] [] cpos) (tDGetN X.prog X.w td ty tx) := by
  refine ⟨fun pins s σ H Q I h => ?_⟩
  refine wpAny_Call_method m.base m.few m.line PySem.F.plainAttrs_dict PySem.F.slot_dict_get PySem.F.type_dict_get (thn (ho.run pins s σ H _ I h) fun u s1 ⟨x, H1, I1, rx, a, kvs, ep, ex, d, q1⟩ => ?_)
  subst ex
  obtain rfl : u = Value.ref a := rx
  obtain ⟨z, hd, vs, rel, dd⟩ := dn_get I1 d
  refine ⟨dd.dictOf.typeIs, fun b q => ?_, ?_⟩
  · cases q
    obtain ⟨ob, _, h1, h2, _⟩ := dd
    exact ⟨ob, h1, h2.2.1⟩
  rw [m.trees]
  refine Calls.callWith_builtin rfl (Calls.evalArgs_plain (Calls.spliced_cons (thn (he.run pins s1 σ H1 _ I1 q1) fun iv s2 ⟨y, H2, I2, ry, q2⟩ =>
    Calls.spliced_cons (thn (hf.run pins s2 σ H2 _ I2 q2) fun fv s3 ⟨z, H3, I3, rz, kvs3, ep3, k, e3, ey, q3⟩ => Calls.spliced_nil ?_))))
  subst ey
  obtain ⟨z3, hd3, vs3, rel3, dd3⟩ := dn_get I3 e3
  refine call_meetsIn PySem.F.slot_dict_get dd3.dictOf.typeIs PySem.F.entry_dict_get (PySem.F.args_dict_get_3 _ _ _) (meets_dict_get_default (noneKind X.prog X.w) a (kN_is ry) hd3 fv) ⟨_, dd3.dictOf.mapOf, _, H3, I3.tok _, ?_, q3⟩
  have := (rel3.val (kk k)).getD rz
  rw [valV_kvK] at this
  exact this
theorem pe_dn1k {P : Program} {w : World} (h1 : X.prog = P) (h2 : X.w = w) {e : Expr} {te : TE} {j : Nat} {p1 pos : Pos} (he : PE X e te) : PE X (.Dict [some (.Constant .none j p1)] [e] pos) (tDN1 P w te) := by subst h1 h2; exact pe_dn1 he
theorem pe_dgetNk {P : Program} {w : World} (h1 : X.prog = P) (h2 : X.w = w) {o e f : Expr} {td ty tx : TE} {apos cpos : Pos} (ho : PE X o td) (he : PE X e ty) (hf : PE X f tx) (m : M2 X o "get" apos e f cpos) : PE X (.Call (.Attribute o "get" apos) [e, f] [] cpos) (tDGetN P w td ty tx) := by subst h1 h2; exact pe_dgetN ho he hf m
/-- x in a tuple, deep -/
def rInDT (K : PySem.W.Frag) : R2 := fun x y H Q => ∃ d ds, Dp K H x d ∧ Dp K H y (.tuple ds) ∧ SeqAt.shaped d = true ∧ SeqAt.shaped (.tuple ds) = true ∧ Q (.bl (ds.any fun z => PyData.eqv z d)) H
theorem op_inDTk {K : PySem.W.Frag} (ek : X.K = K) (hu : X.A.units + 65 < cLine) : OpR X (compareOp .In) (rInDT K) := by
  subst ek
  intro pins s σ H x y v u Q I rx ry h
  obtain ⟨d, ds, hd, he, sd, se, q⟩ := h
  obtain ⟨as, r1⟩ := Dp.reads I d x v hd rx
  obtain ⟨bs, r2⟩ := Dp.reads I (.tuple ds) y u he ry
  exact SeqAt.in_tuple_reads r2 r1 (SeqAt.canLay_of_shaped se) (SeqAt.canLay_of_shaped sd) (room_in_shaped sd hu) ⟨.bl _, H, I, rfl, q⟩
end
end Iz
/-! Sb -/
set_option Elab.async false
set_option linter.all false
set_option maxRecDepth 100000
set_option maxHeartbeats 4000000
namespace Iz
/-! ### bands: ascending pieces of the integers, each with a worth -/
abbrev Bd (α : Type) := Option Int × Option Int × α
def lowOk (lo : Option Int) (y : Int) : Bool := match lo with | none => true | some l => decide (l ≤ y)
def highOk (hi : Option Int) (y : Int) : Bool := match hi with | none => true | some h => decide (y < h)
def lies (lo hi : Option Int) (y : Int) : Bool := lowOk lo y && highOk hi y
section
variable {α : Type}
/-- the worth at a number -/
def valB (z : α) : List (Bd α) → Int → α
  | [], _ => z
  | b :: r, y => if lies b.1 b.2.1 y then b.2.2 else valB z r y
def okE (lo hi : Option Int) : Prop := ∀ l h, lo = some l → hi = some h → l < h
/-- ascending, none empty, none over another -/
def AscB : List (Bd α) → Prop
  | [] => True
  | b :: r => okE b.1 b.2.1 ∧ (match r with | [] => True | b' :: _ => ∃ h l, b.2.1 = some h ∧ b'.1 = some l ∧ h ≤ l) ∧ AscB r
/-- and touching ones have unlike worths -/
def Can : List (Bd α) → Prop
  | [] => True
  | b :: r => okE b.1 b.2.1 ∧ (match r with | [] => True | b' :: _ => ∃ h l, b.2.1 = some h ∧ b'.1 = some l ∧ h ≤ l ∧ (h = l → b.2.2 ≠ b'.2.2)) ∧ Can r
theorem Can.asc : ∀ {xs : List (Bd α)}, Can xs → AscB xs
  | [], _ => trivial
  | [b], h => ⟨h.1, trivial, trivial⟩
  | b :: b' :: r, h => by
    obtain ⟨h1, ⟨hh, l, e1, e2, e3, _⟩, h3⟩ := h
    exact ⟨h1, ⟨hh, l, e1, e2, e3⟩, h3.asc⟩
theorem lies_iff {lo hi : Option Int} {y : Int} : lies lo hi y = true ↔ (∀ l, lo = some l → l ≤ y) ∧ ∀ h, hi = some h → y < h := by
  unfold lies lowOk highOk
  cases lo <;> cases hi <;> simp
/-- what begins at l or above is worth nothing below l -/
theorem AscB.below {z : α} : ∀ {xs : List (Bd α)} {l y : Int}, AscB xs → (∀ b r, xs = b :: r → ∃ k, b.1 = some k ∧ l ≤ k) → y < l → valB z xs y = z
  | [], _, _, _, _, _ => rfl
  | b :: r, l, y, h, hl, hy => by
    obtain ⟨k, e, lk⟩ := hl b r rfl
    have no : ¬ lies b.1 b.2.1 y = true := fun q => by
      have := (lies_iff.mp q).1 k e
      omega
    simp only [valB, if_neg no]
    refine AscB.below h.2.2 (l := l) (fun b' r' e' => ?_) hy
    subst e'
    obtain ⟨h1, ⟨hh, m, e1, e2, e3⟩, _⟩ := h
    have := h1 k hh e e1
    exact ⟨m, e2, by omega⟩
theorem AscB.tail {b : Bd α} {r : List (Bd α)} (h : AscB (b :: r)) : AscB r := h.2.2
theorem Can.tail {b : Bd α} {r : List (Bd α)} (h : Can (b :: r)) : Can r := h.2.2
/-- behind the head's end nothing of the head -/
theorem AscB.next {b : Bd α} {r : List (Bd α)} {hh : Int} (h : AscB (b :: r)) (e : b.2.1 = some hh) : ∀ b' r', r = b' :: r' → ∃ k, b'.1 = some k ∧ hh ≤ k := by
  intro b' r' er
  subst er
  obtain ⟨_, ⟨h1, l, e1, e2, e3⟩, _⟩ := h
  rw [e] at e1; cases e1
  exact ⟨l, e2, e3⟩
theorem AscB.last {b : Bd α} {r : List (Bd α)} (h : AscB (b :: r)) (e : b.2.1 = none) : r = [] := by
  cases r with
  | nil => rfl
  | cons b' r' =>
    obtain ⟨_, ⟨h1, l, e1, _, _⟩, _⟩ := h
    rw [e] at e1; cases e1
theorem valB_in {z : α} {b : Bd α} {r : List (Bd α)} {y : Int} (h : lies b.1 b.2.1 y = true) : valB z (b :: r) y = b.2.2 := by simp only [valB, if_pos h]
theorem valB_out {z : α} {b : Bd α} {r : List (Bd α)} {y : Int} (h : ¬ lies b.1 b.2.1 y = true) : valB z (b :: r) y = valB z r y := by simp only [valB, if_neg h]
/-- at the head's end another worth -/
theorem Can.at_end {z : α} {b : Bd α} {r : List (Bd α)} {hh : Int} (h : Can (b :: r)) (nz : ∀ c ∈ b :: r, c.2.2 ≠ z) (e : b.2.1 = some hh) : valB z (b :: r) hh ≠ b.2.2 := by
  have no : ¬ lies b.1 b.2.1 hh = true := fun q => by
    have := (lies_iff.mp q).2 hh e
    omega
  rw [valB_out no]
  cases r with
  | nil => exact fun q => nz b (by simp) q.symm
  | cons b' r' =>
    obtain ⟨h1, ⟨h2, l, e1, e2, e3, e4⟩, h5⟩ := h
    rw [e] at e1; cases e1
    by_cases c : hh = l
    · have yes : lies b'.1 b'.2.1 hh = true := lies_iff.mpr ⟨fun m em => by rw [e2] at em; cases em; omega, fun m em => by have := h5.1 l m e2 em; omega⟩
      rw [valB_in yes]
      exact fun q => e4 c q.symm
    · rw [AscB.below h5.asc (l := l) (fun c r e' => by cases e'; exact ⟨l, e2, Int.le_refl _⟩) (by omega)]
      exact fun q => nz b (by simp) q.symm
/-- a number below all ends -/
theorem low_point : ∀ xs : List (Bd α), ∃ m : Int, ∀ b ∈ xs, (∀ l, b.1 = some l → m < l) ∧ ∀ h, b.2.1 = some h → m < h
  | [] => ⟨0, fun b h => by cases h⟩
  | b :: r => by
    obtain ⟨m, hm⟩ := low_point r
    obtain ⟨k, k1, k2⟩ : ∃ k : Int, (∀ l, b.1 = some l → k < l) ∧ ∀ h, b.2.1 = some h → k < h := by
      obtain ⟨lo, hi, w⟩ := b
      cases lo with
      | none => cases hi with
        | none => exact ⟨0, (fun l e => by cases e), (fun h e => by cases e)⟩
        | some h => exact ⟨h - 1, (fun l e => by cases e), (fun h e => by cases e; omega)⟩
      | some l => cases hi with
        | none => exact ⟨l - 1, (fun l e => by cases e; omega), (fun h e => by cases e)⟩
        | some h => exact ⟨min l h - 1, (fun l e => by cases e; omega), (fun h e => by cases e; omega)⟩
    refine ⟨min m k, fun c hc => ?_⟩
    rcases List.mem_cons.mp hc with rfl | hc
    · exact ⟨fun l e => by have := k1 l e; omega, fun h e => by have := k2 h e; omega⟩
    · exact ⟨fun l e => by have := (hm c hc).1 l e; omega, fun h e => by have := (hm c hc).2 h e; omega⟩
/-- the same worths, the same bands -/
theorem Can.uniq {z : α} : ∀ {xs ys : List (Bd α)}, Can xs → Can ys → (∀ c ∈ xs, c.2.2 ≠ z) → (∀ c ∈ ys, c.2.2 ≠ z) → (∀ y, valB z xs y = valB z ys y) → xs = ys
  | [], [], _, _, _, _, _ => rfl
  | [], b :: r, _, h2, _, n2, e => by
    exfalso
    obtain ⟨y, hy⟩ : ∃ y, lies b.1 b.2.1 y = true := by
      obtain ⟨lo, hi, w⟩ := b
      have ok := h2.1
      cases lo with
      | none => cases hi with
        | none => exact ⟨0, by simp [lies, lowOk, highOk]⟩
        | some h => exact ⟨h - 1, by simp [lies, lowOk, highOk]; omega⟩
      | some l => cases hi with
        | none => exact ⟨l, by simp [lies, lowOk, highOk]⟩
        | some h => exact ⟨l, by have := ok l h rfl rfl; simp [lies, lowOk, highOk]; omega⟩
    have := e y
    rw [valB_in hy] at this
    exact n2 b (by simp) this.symm
  | b :: r, [], h1, _, n1, _, e => by
    exfalso
    obtain ⟨y, hy⟩ : ∃ y, lies b.1 b.2.1 y = true := by
      obtain ⟨lo, hi, w⟩ := b
      have ok := h1.1
      cases lo with
      | none => cases hi with
        | none => exact ⟨0, by simp [lies, lowOk, highOk]⟩
        | some h => exact ⟨h - 1, by simp [lies, lowOk, highOk]; omega⟩
      | some l => cases hi with
        | none => exact ⟨l, by simp [lies, lowOk, highOk]⟩
        | some h => exact ⟨l, by have := ok l h rfl rfl; simp [lies, lowOk, highOk]; omega⟩
    have := e y
    rw [valB_in hy] at this
    exact n1 b (by simp) this
  | b :: r, b' :: r', h1, h2, n1, n2, e => by
    obtain ⟨lo, hi, w⟩ := b
    obtain ⟨lo', hi', w'⟩ := b'
    have ok := h1.1
    have ok' := h2.1
    have nw : w ≠ z := n1 _ (List.mem_cons_self ..)
    have nw' : w' ≠ z := n2 _ (List.mem_cons_self ..)
    -- the beginnings
    have start : ∀ {lo lo' hi hi' : Option Int} {w w' : α} {r r' : List (Bd α)}, Can ((lo, hi, w) :: r) → Can ((lo', hi', w') :: r') → w ≠ z → (∀ y, valB z ((lo, hi, w) :: r) y = valB z ((lo', hi', w') :: r') y) → ∀ l', lo' = some l' → ∃ l, lo = some l ∧ l' ≤ l := by
      intro lo lo' hi hi' w w' r r' h1 h2 nw e l' el
      have key : ∀ y, y < l' → ¬ lies lo hi y = true := fun y hy q => by
        have h := e y
        rw [valB_in q, AscB.below h2.asc (l := l') (fun b r e' => by cases e'; exact ⟨l', el, Int.le_refl _⟩) hy] at h
        exact nw h
      cases lo with
      | none => cases hi with
        | none => exact absurd (by simp [lies, lowOk, highOk]) (key (l' - 1) (by omega))
        | some h => exact absurd (by simp [lies, lowOk, highOk]; omega) (key (min l' h - 1) (by omega))
      | some l =>
        refine ⟨l, rfl, ?_⟩
        by_cases c : l' ≤ l
        · exact c
        · refine absurd ?_ (key l (by omega))
          cases hi with
          | none => simp [lies, lowOk, highOk]
          | some h => have := h1.1 l h rfl rfl; simp [lies, lowOk, highOk]; omega
    have elo : lo = lo' := by
      cases lo with
      | none => cases lo' with
        | none => rfl
        | some l' => obtain ⟨l, q, _⟩ := start h1 h2 nw e l' rfl; cases q
      | some l => cases lo' with
        | none => obtain ⟨l', q, _⟩ := start h2 h1 nw' (fun y => (e y).symm) l rfl; cases q
        | some l' =>
          obtain ⟨m, q, a⟩ := start h1 h2 nw e l' rfl; cases q
          obtain ⟨m, q, b⟩ := start h2 h1 nw' (fun y => (e y).symm) l rfl; cases q
          congr 1; omega
    subst elo
    -- a common point
    obtain ⟨y, hy, hy'⟩ : ∃ y, lies lo hi y = true ∧ lies lo hi' y = true := by
      cases lo with
      | some l => exact ⟨l, lies_iff.mpr ⟨fun k q => by cases q; omega, fun h q => ok l h rfl q⟩, lies_iff.mpr ⟨fun k q => by cases q; omega, fun h q => ok' l h rfl q⟩⟩
      | none => cases hi with
        | none => cases hi' with
          | none => exact ⟨0, by simp [lies, lowOk, highOk], by simp [lies, lowOk, highOk]⟩
          | some h' => exact ⟨h' - 1, by simp [lies, lowOk, highOk], by simp [lies, lowOk, highOk]; omega⟩
        | some h => cases hi' with
          | none => exact ⟨h - 1, by simp [lies, lowOk, highOk]; omega, by simp [lies, lowOk, highOk]⟩
          | some h' => exact ⟨min h h' - 1, by simp [lies, lowOk, highOk]; omega, by simp [lies, lowOk, highOk]; omega⟩
    have ew : w = w' := by
      have := e y
      rwa [valB_in hy, valB_in hy'] at this
    subst ew
    -- the ends
    have fin : ∀ {hi hi' : Option Int} {r r' : List (Bd α)}, Can ((lo, hi, w) :: r) → Can ((lo, hi', w) :: r') → (∀ c ∈ (lo, hi, w) :: r, c.2.2 ≠ z) → (∀ y, valB z ((lo, hi, w) :: r) y = valB z ((lo, hi', w) :: r') y) → ∀ h, hi = some h → ∃ h', hi' = some h' ∧ h' ≤ h := by
      intro hi hi' r r' h1 h2 n1 e h eh
      have ne := h1.at_end n1 eh
      have key : ¬ lies lo hi' h = true := fun q => by
        rw [e h, valB_in q] at ne
        exact ne rfl
      cases hi' with
      | none =>
        refine absurd (lies_iff.mpr ⟨fun l q => ?_, fun k q => by cases q⟩) key
        have := h1.1 l h q eh; omega
      | some h' =>
        refine ⟨h', rfl, ?_⟩
        by_cases c : h' ≤ h
        · exact c
        · refine absurd (lies_iff.mpr ⟨fun l q => ?_, fun k q => by cases q; omega⟩) key
          have := h1.1 l h q eh; omega
    have ehi : hi = hi' := by
      cases hi with
      | none => cases hi' with
        | none => rfl
        | some h' => obtain ⟨h, q, _⟩ := fin h2 h1 n2 (fun y => (e y).symm) h' rfl; cases q
      | some h => cases hi' with
        | none => obtain ⟨h', q, _⟩ := fin h1 h2 n1 e h rfl; cases q
        | some h' =>
          obtain ⟨m, q, a⟩ := fin h1 h2 n1 e h rfl; cases q
          obtain ⟨m, q, b⟩ := fin h2 h1 n2 (fun y => (e y).symm) h' rfl; cases q
          congr 1; omega
    subst ehi
    congr 1
    cases hi with
    | none => rw [h1.asc.last rfl, h2.asc.last rfl]
    | some h =>
      refine Can.uniq h1.tail h2.tail (fun c hc => n1 c (List.mem_cons_of_mem _ hc)) (fun c hc => n2 c (List.mem_cons_of_mem _ hc)) fun y => ?_
      by_cases c : y < h
      · rw [AscB.below h1.tail.asc (l := h) (h1.asc.next rfl) c, AscB.below h2.tail.asc (l := h) (h2.asc.next rfl) c]
      · have no : ¬ lies lo (some h) y = true := fun q => by
          have := (lies_iff.mp q).2 h rfl
          omega
        have := e y
        rwa [valB_out no, valB_out no] at this
/-! ### bands joined -/
theorem can_snoc {b c : Bd α} : ∀ {xs : List (Bd α)}, Can (xs ++ [c]) → okE b.1 b.2.1 → (∃ h l, c.2.1 = some h ∧ b.1 = some l ∧ h ≤ l ∧ (h = l → c.2.2 ≠ b.2.2)) → Can (xs ++ [c, b])
  | [], h, ok, k => ⟨h.1, k, ok, trivial, trivial⟩
  | [x], h, ok, k => ⟨h.1, h.2.1, h.2.2.1, k, ok, trivial, trivial⟩
  | x :: x' :: xs, h, ok, k => ⟨h.1, h.2.1, can_snoc (xs := x' :: xs) h.2.2 ok k⟩
theorem can_last {c : Bd α} {hi : Option Int} : ∀ {xs : List (Bd α)}, Can (xs ++ [c]) → okE c.1 hi → Can (xs ++ [(c.1, hi, c.2.2)])
  | [], h, ok => ⟨ok, trivial, trivial⟩
  | [x], h, ok => ⟨h.1, h.2.1, ok, trivial, trivial⟩
  | x :: x' :: xs, h, ok => ⟨h.1, h.2.1, can_last (xs := x' :: xs) h.2.2 ok⟩
theorem valB_right {z : α} {y : Int} : ∀ {xs ys : List (Bd α)}, (∀ b ∈ xs, ¬ lies b.1 b.2.1 y = true) → valB z (xs ++ ys) y = valB z ys y
  | [], _, _ => rfl
  | b :: xs, ys, h => by
    rw [List.cons_append, valB_out (h b (by simp)), valB_right fun c hc => h c (by simp [hc])]
theorem valB_none {z : α} {y : Int} : ∀ {xs : List (Bd α)}, (∀ b ∈ xs, ¬ lies b.1 b.2.1 y = true) → valB z xs y = z
  | [], _ => rfl
  | b :: xs, h => by rw [valB_out (h b (by simp)), valB_none fun c hc => h c (by simp [hc])]
theorem valB_left {z : α} {y : Int} : ∀ {xs ys : List (Bd α)}, (∀ b ∈ ys, ¬ lies b.1 b.2.1 y = true) → valB z (xs ++ ys) y = valB z xs y
  | [], ys, h => valB_none h
  | b :: xs, ys, h => by
    by_cases c : lies b.1 b.2.1 y = true
    · rw [List.cons_append, valB_in c, valB_in c]
    · rw [List.cons_append, valB_out c, valB_out c, valB_left h]
/-- one band more -/
def stepJ [DecidableEq α] (z : α) (acc : List (Bd α)) (b : Bd α) : List (Bd α) :=
  if b.2.2 = z then acc else match acc.getLast? with
    | some c => if c.2.1 = b.1 ∧ c.2.2 = b.2.2 then acc.dropLast ++ [(c.1, b.2.1, b.2.2)] else acc ++ [b]
    | none => acc ++ [b]
def joinB [DecidableEq α] (z : α) (bs : List (Bd α)) : List (Bd α) := bs.foldl (stepJ z) []
/-- bands side by side, from here on without end -/
def Tile : Option Int → List (Bd α) → Prop
  | _, [] => False
  | lo, b :: r => b.1 = lo ∧ okE b.1 b.2.1 ∧ (match b.2.1 with | none => r = [] | some h => Tile (some h) r)
/-- all ends at this number or below it -/
def Upto (xs : List (Bd α)) (lo : Option Int) : Prop := match lo with | none => xs = [] | some l => ∀ b ∈ xs, ∃ h, b.2.1 = some h ∧ h ≤ l
theorem Upto.no {xs : List (Bd α)} {l y : Int} (u : Upto xs (some l)) (h : l ≤ y) : ∀ b ∈ xs, ¬ lies b.1 b.2.1 y = true := fun b hb q => by
  obtain ⟨k, e, hk⟩ := u b hb
  have := (lies_iff.mp q).2 k e
  omega
theorem stepJ_ok [DecidableEq α] {z : α} {acc : List (Bd α)} {b : Bd α} (cn : Can acc) (nz : ∀ c ∈ acc, c.2.2 ≠ z) (up : Upto acc b.1) (ok : okE b.1 b.2.1) :
    Can (stepJ z acc b) ∧ (∀ c ∈ stepJ z acc b, c.2.2 ≠ z) ∧ (∀ h, b.2.1 = some h → Upto (stepJ z acc b) (some h)) ∧ ∀ y, valB z (stepJ z acc b) y = if lies b.1 b.2.1 y then b.2.2 else valB z acc y := by
  obtain ⟨lo, hi, w⟩ := b
  have upw : ∀ h, hi = some h → ∀ b ∈ acc, ∃ k, b.2.1 = some k ∧ k ≤ h := fun h eh b hb => by
    cases lo with
    | none => rw [show acc = [] from up] at hb; cases hb
    | some l =>
      obtain ⟨k, e, hk⟩ := up b hb
      have := ok l h rfl eh
      exact ⟨k, e, by omega⟩
  have clear_ : ∀ y, lies lo hi y = true → ∀ b ∈ acc, ¬ lies b.1 b.2.1 y = true := fun y hy b hb => by
    cases lo with
    | none => rw [show acc = [] from up] at hb; cases hb
    | some l => exact Upto.no (l := l) up ((lies_iff.mp hy).1 l rfl) b hb
  unfold stepJ
  by_cases cw : w = z
  · rw [if_pos cw]
    refine ⟨cn, nz, fun h eh => upw h eh, fun y => ?_⟩
    split
    · rename_i hy
      rw [valB_none (clear_ y hy)]; exact cw.symm
    · rfl
  · rw [if_neg cw]
    rcases List.eq_nil_or_concat acc with rfl | ⟨init, c, rfl⟩
    · refine ⟨⟨ok, trivial, trivial⟩, fun c hc => ?_, fun h eh b hb => ?_, fun y => ?_⟩
      · have : c = (lo, hi, w) := by simpa using hc
        rw [this]; exact cw
      · have : b = (lo, hi, w) := by simpa using hb
        rw [this]; exact ⟨h, eh, Int.le_refl _⟩
      · rfl
    · rw [List.concat_eq_append] at *
      have hl : (init ++ [c]).getLast? = some c := by simp
      rw [hl]
      simp only
      obtain ⟨l, rfl⟩ : ∃ l, lo = some l := by
        cases lo with
        | none => have : init ++ [c] = [] := up; simp at this
        | some l => exact ⟨l, rfl⟩
      obtain ⟨h1, e1, hl1⟩ := up c (by simp)
      by_cases m : c.2.1 = some l ∧ c.2.2 = w
      · rw [if_pos m, List.dropLast_concat]
        obtain ⟨m1, m2⟩ := m
        obtain ⟨clo, chi, cw'⟩ := c
        simp only at m1 m2 e1
        subst m1 m2
        cases e1
        have okc : okE clo hi := fun a h ea eh => by
          have h2 := ok l h rfl eh
          have h3 : okE clo (some l) := by
            clear up upw clear_ nz hl hl1
            induction init with
            | nil => exact cn.1
            | cons x xs ih => exact ih (by cases xs <;> exact cn.2.2)
          have := h3 a l ea rfl
          omega
        refine ⟨can_last cn okc, fun d hd => ?_, fun h eh d hd => ?_, fun y => ?_⟩
        · rcases List.mem_append.mp hd with hd | hd
          · exact nz d (by simp [hd])
          · rw [List.mem_singleton.mp hd]; exact cw
        · rcases List.mem_append.mp hd with hd | hd
          · exact upw h eh d (by simp [hd])
          · rw [List.mem_singleton.mp hd]; exact ⟨h, eh, Int.le_refl _⟩
        · by_cases hy : lies (some l) hi y = true
          · rw [if_pos hy, valB_right fun b hb => clear_ y hy b (by simp [hb])]
            refine valB_in (lies_iff.mpr ⟨fun a ea => ?_, (lies_iff.mp hy).2⟩)
            have := (lies_iff.mp hy).1 l rfl
            have ea : clo = some a := ea
            have h3 : okE clo (some l) := by
              clear up upw clear_ nz hl okc
              induction init with
              | nil => exact cn.1
              | cons x xs ih => exact ih (by cases xs <;> exact cn.2.2)
            have := h3 a l ea rfl
            omega
          · rw [if_neg hy]
            by_cases hc : lies clo (some l) y = true
            · by_cases ex : ∀ b ∈ init, ¬ lies b.1 b.2.1 y = true
              · rw [valB_right ex, valB_right ex, valB_in (b := (clo, some l, cw')) hc]
                refine valB_in (lies_iff.mpr ⟨(lies_iff.mp hc).1, fun h eh => ?_⟩)
                have := (lies_iff.mp hc).2 l rfl
                have := ok l h rfl eh
                omega
              · have go : ∀ (xs : List (Bd α)) (t t' : List (Bd α)), (¬ ∀ b ∈ xs, ¬ lies b.1 b.2.1 y = true) → valB z (xs ++ t) y = valB z (xs ++ t') y := by
                  intro xs t t'
                  induction xs with
                  | nil => intro h; exact absurd (fun b hb => by cases hb) h
                  | cons x xs ih =>
                    intro h
                    by_cases cx : lies x.1 x.2.1 y = true
                    · rw [List.cons_append, List.cons_append, valB_in cx, valB_in cx]
                    · rw [List.cons_append, List.cons_append, valB_out cx, valB_out cx]
                      refine ih fun q => h fun b hb => ?_
                      rcases List.mem_cons.mp hb with rfl | hb
                      · exact cx
                      · exact q b hb
                exact go init _ _ ex
            · rw [valB_left (ys := [(clo, hi, cw')]) fun b hb => ?_, valB_left (ys := [(clo, some l, cw')]) fun b hb => ?_]
              · rw [List.mem_singleton.mp hb]; exact hc
              · rw [List.mem_singleton.mp hb]
                intro q
                refine hc (lies_iff.mpr ⟨(lies_iff.mp q).1, fun h eh => ?_⟩)
                cases eh
                by_cases cy : y < l
                · exact cy
                · exact absurd (lies_iff.mpr ⟨fun a ea => by cases ea; omega, (lies_iff.mp q).2⟩) hy
      · rw [if_neg m]
        refine ⟨?_, fun d hd => ?_, fun h eh d hd => ?_, fun y => ?_⟩
        · rw [List.append_assoc]
          refine can_snoc cn ok ⟨h1, l, e1, rfl, hl1, fun e q => m ⟨by rw [e1, e], q⟩⟩
        · rcases List.mem_append.mp hd with hd | hd
          · exact nz d hd
          · rw [List.mem_singleton.mp hd]; exact cw
        · rcases List.mem_append.mp hd with hd | hd
          · exact upw h eh d hd
          · rw [List.mem_singleton.mp hd]; exact ⟨h, eh, Int.le_refl _⟩
        · by_cases hy : lies (some l) hi y = true
          · rw [if_pos hy, valB_right (clear_ y hy)]
            exact valB_in hy
          · rw [if_neg hy]
            exact valB_left fun b hb => by rw [List.mem_singleton.mp hb]; exact hy
/-- what joining makes of bands side by side: the bands of their worths -/
theorem join_ok [DecidableEq α] {z : α} : ∀ {T acc : List (Bd α)} {lo : Option Int}, Tile lo T → Can acc → (∀ c ∈ acc, c.2.2 ≠ z) → Upto acc lo →
    Can (T.foldl (stepJ z) acc) ∧ (∀ c ∈ T.foldl (stepJ z) acc, c.2.2 ≠ z) ∧ ∀ y, valB z (T.foldl (stepJ z) acc) y = if lowOk lo y then valB z T y else valB z acc y
  | [], _, _, h, _, _, _ => h.elim
  | b :: r, acc, lo, h, cn, nz, up => by
    obtain ⟨e, ok, h3⟩ := h
    subst e
    obtain ⟨s1, s2, s3, s4⟩ := stepJ_ok cn nz up ok
    rw [List.foldl_cons]
    cases hb : b.2.1 with
    | none =>
      rw [hb] at h3
      simp only at h3
      subst h3
      refine ⟨s1, s2, fun y => ?_⟩
      rw [List.foldl_nil, s4 y]
      unfold lies
      rw [hb]
      have : highOk none y = true := rfl
      rw [this, Bool.and_true]
      split
      · rename_i q
        exact (valB_in (by unfold lies; rw [hb, this, Bool.and_true]; exact q)).symm
      · rfl
    | some hh =>
      rw [hb] at h3
      simp only at h3
      obtain ⟨t1, t2, t3⟩ := join_ok h3 s1 s2 (s3 hh hb)
      refine ⟨t1, t2, fun y => ?_⟩
      rw [t3 y, s4 y]
      have ls : lies b.1 b.2.1 y = (lowOk b.1 y && decide (y < hh)) := by unfold lies; rw [hb]; rfl
      have low : lowOk (some hh) y = true → lowOk b.1 y = true := fun q => by
        have q : hh ≤ y := by simpa [lowOk] using q
        cases hl : b.1 with
        | none => rfl
        | some l => have := ok l hh hl hb; simp [lowOk]; omega
      by_cases c1 : lowOk (some hh) y = true
      · rw [if_pos c1, if_pos (low c1)]
        refine (valB_out fun q => ?_).symm
        have := (lies_iff.mp q).2 hh hb
        have c1 : hh ≤ y := by simpa [lowOk] using c1
        omega
      · rw [if_neg c1]
        have c1' : y < hh := by simp [lowOk] at c1; omega
        by_cases c2 : lowOk b.1 y = true
        · have yes : lies b.1 b.2.1 y = true := by rw [ls, c2]; simpa using c1'
          rw [if_pos yes, if_pos c2, valB_in yes]
        · rw [if_neg c2, if_neg (fun q => c2 (by rw [ls] at q; simp at q; exact q.1))]
theorem joinB_ok [DecidableEq α] {z : α} {T : List (Bd α)} (h : Tile none T) : Can (joinB z T) ∧ (∀ c ∈ joinB z T, c.2.2 ≠ z) ∧ ∀ y, valB z (joinB z T) y = valB z T y := by
  obtain ⟨a, b, c⟩ := join_ok (z := z) h (acc := []) trivial (fun c hc => by cases hc) rfl
  exact ⟨a, b, fun y => c y⟩
/-! ### changes -/
def putA : List (Option Int × α) → Option Int → α → List (Option Int × α)
  | [], k, v => [(k, v)]
  | p :: r, k, v => if p.1 = k then (p.1, v) :: r else p :: putA r k v
def valA : List (Option Int × α) → Option Int → Option α
  | [], _ => none
  | p :: r, k => if p.1 = k then some p.2 else valA r k
theorem valA_put {kvs : List (Option Int × α)} {k j : Option Int} {v : α} : valA (putA kvs k v) j = if k = j then some v else valA kvs j := by
  induction kvs with
  | nil => simp [putA, valA]
  | cons p r ih =>
    unfold putA
    by_cases c : p.1 = k
    · rw [if_pos c]
      simp only [valA]
      by_cases d : p.1 = j
      · rw [if_pos d, if_pos (by rw [← c, d])]
      · rw [if_neg d, if_neg (fun q => d (c.trans q)), if_neg d]
    · rw [if_neg c]
      simp only [valA]
      by_cases d : p.1 = j
      · rw [if_pos d, if_pos d, if_neg (fun q => c (d.trans q.symm))]
      · rw [if_neg d, if_neg d, ih]
def stepC (z : α) (kv : List (Option Int × α)) (b : Bd α) : List (Option Int × α) := match b.2.1 with
  | none => putA kv b.1 b.2.2
  | some h => putA (putA kv b.1 b.2.2) (some h) z
def chgA (z : α) (bs : List (Bd α)) : List (Option Int × α) := bs.foldl (stepC z) [(none, z)]
/-- the worth below all ends -/
def botB (z : α) : List (Bd α) → α
  | [] => z
  | b :: _ => if b.1 = none then b.2.2 else z
structure Chg (z : α) (kv : List (Option Int × α)) (bs : List (Bd α)) : Prop where
  a : ∀ e v, valA kv (some e) = some v → v = valB z bs e ∧ ∃ b ∈ bs, b.1 = some e ∨ b.2.1 = some e
  b : ∀ e, valA kv (some e) = none → ∀ b ∈ bs, b.1 ≠ some e ∧ b.2.1 ≠ some e
  c : valA kv none = some (botB z bs)
theorem Chg.start {z : α} : Chg z [(none, z)] [] := ⟨fun e v h => by simp [valA] at h, fun e h b hb => (by cases hb), rfl⟩
theorem botB_snoc {z : α} {bs : List (Bd α)} {b : Bd α} : botB z (bs ++ [b]) = if bs = [] then (if b.1 = none then b.2.2 else z) else botB z bs := by
  cases bs with
  | nil => simp [botB]
  | cons c r => simp [botB]
theorem Chg.step {z : α} {kv : List (Option Int × α)} {bs : List (Bd α)} {b : Bd α} (C : Chg z kv bs) (up : Upto bs b.1) (oks : ∀ c ∈ bs, okE c.1 c.2.1) (ok : okE b.1 b.2.1) : Chg z (stepC z kv b) (bs ++ [b]) := by
  obtain ⟨lo, hi, w⟩ := b
  have le : ∀ e, (∃ c ∈ bs, c.1 = some e ∨ c.2.1 = some e) → ∃ l, lo = some l ∧ e ≤ l := by
    intro e ⟨c, hc, h⟩
    cases lo with
    | none => rw [show bs = [] from up] at hc; cases hc
    | some l =>
      obtain ⟨k, ek, hk⟩ := up c hc
      refine ⟨l, rfl, ?_⟩
      rcases h with h | h
      · have := oks c hc e k h ek; omega
      · rw [ek] at h; cases h; exact hk
  have free : ∀ y, lowOk lo y = true → ∀ c ∈ bs, ¬ lies c.1 c.2.1 y = true := fun y hy c hc => by
    cases lo with
    | none => rw [show bs = [] from up] at hc; cases hc
    | some l => exact Upto.no (l := l) up (by simpa [lowOk] using hy) c hc
  have vin : ∀ y, lies lo hi y = true → valB z (bs ++ [(lo, hi, w)]) y = w := fun y hy => by
    have := lies_iff.mp hy
    rw [valB_right (free y (by cases lo with | none => rfl | some l => simpa [lowOk] using this.1 l rfl))]
    exact valB_in hy
  have vout : ∀ y, ¬ lies lo hi y = true → valB z (bs ++ [(lo, hi, w)]) y = valB z bs y := fun y hy => valB_left fun c hc => by rw [List.mem_singleton.mp hc]; exact hy
  -- what stands at a key
  have key : ∀ j, valA (stepC z kv (lo, hi, w)) j = if (∃ h, hi = some h ∧ j = some h) then some z else if j = lo then some w else valA kv j := by
    intro j
    cases hi with
    | none =>
      show valA (putA kv lo w) j = _
      have n : ¬ ∃ h, (none : Option Int) = some h ∧ j = some h := fun ⟨h, e, _⟩ => by cases e
      rw [valA_put, if_neg n]
      by_cases c : lo = j
      · rw [if_pos c, if_pos c.symm]
      · rw [if_neg c, if_neg fun q => c q.symm]
    | some h =>
      show valA (putA (putA kv lo w) (some h) z) j = _
      rw [valA_put, valA_put]
      by_cases c : some h = j
      · rw [if_pos c, if_pos ⟨h, rfl, c.symm⟩]
      · have n : ¬ ∃ k, (some h : Option Int) = some k ∧ j = some k := fun ⟨k, e, q⟩ => c (by cases e; exact q.symm)
        rw [if_neg c, if_neg n]
        by_cases d : lo = j
        · rw [if_pos d, if_pos d.symm]
        · rw [if_neg d, if_neg fun q => d q.symm]
  refine ⟨fun e v h => ?_, fun e h c hc => ?_, ?_⟩
  · rw [key] at h
    by_cases c1 : ∃ h, hi = some h ∧ (some e : Option Int) = some h
    · rw [if_pos c1] at h
      obtain ⟨k, ek, q⟩ := c1
      cases q; cases h
      refine ⟨?_, _, List.mem_append_right _ (List.mem_singleton.mpr rfl), .inr ek⟩
      have low : lowOk lo e = true := by
        cases lo with
        | none => rfl
        | some l => have := ok l e rfl ek; simp [lowOk]; omega
      rw [vout e fun q => by have := (lies_iff.mp q).2 e ek; omega, valB_none (free e low)]
    · rw [if_neg c1] at h
      by_cases c2 : some e = lo
      · rw [if_pos c2] at h
        cases h
        refine ⟨(vin e (lies_iff.mpr ⟨fun l el => ?_, fun k ek => ?_⟩)).symm, _, List.mem_append_right _ (List.mem_singleton.mpr rfl), .inl c2.symm⟩
        · rw [← c2] at el; cases el; omega
        · exact ok e k c2.symm ek
      · rw [if_neg c2] at h
        obtain ⟨h1, h2⟩ := C.a e v h
        obtain ⟨l, el, q⟩ := le e h2
        refine ⟨?_, let ⟨c, hc, q⟩ := h2; ⟨c, List.mem_append_left _ hc, q⟩⟩
        rw [vout e fun q2 => by have := (lies_iff.mp q2).1 l el; exact c2 (by rw [el]; congr 1; omega)]
        exact h1
  · rw [key] at h
    by_cases c1 : ∃ h, hi = some h ∧ (some e : Option Int) = some h
    · rw [if_pos c1] at h; cases h
    · rw [if_neg c1] at h
      by_cases c2 : some e = lo
      · rw [if_pos c2] at h; cases h
      · rw [if_neg c2] at h
        rcases List.mem_append.mp hc with hc | hc
        · exact C.b e h c hc
        · rw [List.mem_singleton.mp hc]
          exact ⟨fun q => c2 q.symm, fun q => c1 ⟨e, q, rfl⟩⟩
  · rw [key, if_neg (fun ⟨h, _, q⟩ => by cases q), botB_snoc]
    cases lo with
    | none =>
      rw [if_pos rfl, if_pos (show bs = [] from up), if_pos rfl]
    | some l =>
      rw [if_neg (by simp), C.c]
      by_cases c : bs = []
      · rw [if_pos c, if_neg (by simp), c]; rfl
      · rw [if_neg c]
theorem AscB.oks : ∀ {bs : List (Bd α)}, AscB bs → ∀ c ∈ bs, okE c.1 c.2.1
  | b :: r, h, c, hc => by
    rcases List.mem_cons.mp hc with rfl | hc
    · exact h.1
    · exact AscB.oks h.2.2 c hc
theorem chg_go {z : α} : ∀ {bs : List (Bd α)} {kv : List (Option Int × α)} {dn : List (Bd α)}, AscB bs → Chg z kv dn → (∀ c ∈ dn, okE c.1 c.2.1) → (∀ b r, bs = b :: r → Upto dn b.1) → Chg z (bs.foldl (stepC z) kv) (dn ++ bs)
  | [], kv, dn, _, C, _, _ => by rw [List.append_nil]; exact C
  | b :: r, kv, dn, h, C, ok, up => by
    rw [List.foldl_cons, show dn ++ b :: r = (dn ++ [b]) ++ r by simp]
    refine chg_go h.2.2 (C.step (up b r rfl) ok h.1) (fun c hc => ?_) (fun b' r' e => ?_)
    · rcases List.mem_append.mp hc with hc | hc
      · exact ok c hc
      · rw [List.mem_singleton.mp hc]; exact h.1
    · subst e
      obtain ⟨h1, ⟨hh, l, e1, e2, e3⟩, _⟩ := h
      rw [e2]
      intro c hc
      rcases List.mem_append.mp hc with hc | hc
      · have u := up b (b' :: r') rfl
        cases hb : b.1 with
        | none => rw [hb] at u; rw [show dn = [] from u] at hc; cases hc
        | some m =>
          rw [hb] at u
          obtain ⟨k, ek, hk⟩ := u c hc
          have := h1 m hh hb e1
          exact ⟨k, ek, by omega⟩
      · rw [List.mem_singleton.mp hc]; exact ⟨hh, e1, e3⟩
theorem chg_ok {z : α} {bs : List (Bd α)} (h : AscB bs) : Chg z (chgA z bs) bs := by
  have := chg_go h (Chg.start (z := z)) (fun c hc => by cases hc) (fun b r e => by
    cases b.1 with
    | none => rfl
    | some l => exact fun c hc => by cases hc)
  simpa [chgA] using this
/-- the worth from a cut on -/
def atC (z : α) (bs : List (Bd α)) : Option Int → α
  | none => botB z bs
  | some c => valB z bs c
/-- no end of a band behind the first and up to the second -/
def Gap (bs : List (Bd α)) (lo : Option Int) (y : Int) : Prop := ∀ b ∈ bs, ∀ x, (b.1 = some x ∨ b.2.1 = some x) → lowOk lo x = true → (∀ l, lo = some l → x ≠ l) → y < x
theorem gap_val {z : α} : ∀ {bs : List (Bd α)} {lo : Option Int} {y : Int}, AscB bs → lowOk lo y = true → Gap bs lo y → valB z bs y = atC z bs lo
  | [], none, _, _, _, _ => rfl
  | [], some _, _, _, _, _ => rfl
  | b :: r, none, y, h, _, g => by
    have hb := g b (by simp)
    by_cases c : b.1 = none
    · have yes : lies b.1 b.2.1 y = true := lies_iff.mpr ⟨(fun l e => by rw [c] at e; cases e), (fun k e => hb k (.inr e) rfl (fun _ q => by cases q))⟩
      rw [valB_in yes]
      show _ = if b.1 = none then b.2.2 else z
      rw [if_pos c]
    · obtain ⟨l, e⟩ : ∃ l, b.1 = some l := by cases q : b.1 with | none => exact absurd q c | some l => exact ⟨l, rfl⟩
      show _ = if b.1 = none then b.2.2 else z
      rw [if_neg c]
      exact AscB.below h (l := l) (fun b' r' e' => by cases e'; exact ⟨l, e, Int.le_refl _⟩) (hb l (.inl e) rfl (fun _ q => by cases q))
  | b :: r, some l, y, h, hy, g => by
    have hy : l ≤ y := by simpa [lowOk] using hy
    have same : ∀ {bs : List (Bd α)}, Gap bs (some l) y → valB z bs y = valB z bs l := by
      intro bs g
      induction bs with
      | nil => rfl
      | cons b r ih =>
        have gb := g b (by simp)
        have e : lies b.1 b.2.1 y = lies b.1 b.2.1 l := by
          rw [Bool.eq_iff_iff, lies_iff, lies_iff]
          constructor
          · intro ⟨h1, h2⟩
            refine ⟨fun k e => ?_, fun k e => by have := h2 k e; omega⟩
            by_cases c : k ≤ l
            · exact c
            · have := gb k (.inl e) (by simp [lowOk]; omega) (fun m q => by cases q; omega)
              have := h1 k e
              omega
          · intro ⟨h1, h2⟩
            refine ⟨fun k e => by have := h1 k e; omega, fun k e => ?_⟩
            have := h2 k e
            exact gb k (.inr e) (by simp [lowOk]; omega) (fun m q => by cases q; omega)
        simp only [valB, e]
        rw [ih fun c hc => g c (by simp [hc])]
    exact same g
/-- the cut at or below a number -/
def cutAt (lo : Option Int) : List Int → Int → Option Int
  | [], _ => lo
  | e :: r, y => if e ≤ y then cutAt (some e) r y else lo
def tileF (f : Option Int → α) (lo : Option Int) : List Int → List (Bd α)
  | [] => [(lo, none, f lo)]
  | e :: r => (lo, some e, f lo) :: tileF f (some e) r
def Up : Option Int → List Int → Prop
  | _, [] => True
  | lo, e :: r => (∀ l, lo = some l → l < e) ∧ Up (some e) r
theorem tile_ok {f : Option Int → α} : ∀ {E : List Int} {lo : Option Int}, Up lo E → Tile lo (tileF f lo E)
  | [], lo, _ => ⟨rfl, (fun l h _ q => by cases q), rfl⟩
  | e :: r, lo, h => ⟨rfl, (fun l k el ek => by cases ek; exact h.1 l el), tile_ok h.2⟩
theorem tile_val {z : α} {f : Option Int → α} : ∀ {E : List Int} {lo : Option Int} {y : Int}, Up lo E → lowOk lo y = true → valB z (tileF f lo E) y = f (cutAt lo E y)
  | [], lo, y, _, hy => valB_in (by unfold lies; rw [hy]; rfl)
  | e :: r, lo, y, h, hy => by
    unfold cutAt tileF
    by_cases c : e ≤ y
    · rw [if_pos c, valB_out fun q => by have := (lies_iff.mp q).2 e rfl; omega]
      exact tile_val h.2 (by simpa [lowOk] using c)
    · rw [if_neg c]
      exact valB_in (by unfold lies; rw [hy]; simp [highOk]; omega)
theorem cut_gap : ∀ {E : List Int} {lo : Option Int} {y : Int}, Up lo E → lowOk lo y = true → lowOk (cutAt lo E y) y = true ∧ ∀ x ∈ E, lowOk (cutAt lo E y) x = true → (∀ l, cutAt lo E y = some l → x ≠ l) → y < x
  | [], lo, y, _, hy => ⟨hy, fun x hx => by cases hx⟩
  | e :: r, lo, y, h, hy => by
    unfold cutAt
    have low : ∀ {E : List Int} {c : Option Int} {y : Int} {e : Int}, Up (some e) E → cutAt (some e) E y = c → ∃ l, c = some l ∧ e ≤ l := by
      intro E
      induction E with
      | nil => intro c y e _ q; exact ⟨e, q.symm, Int.le_refl _⟩
      | cons e2 r2 ih =>
        intro c y e h q
        unfold cutAt at q
        split at q
        · obtain ⟨l, e3, h3⟩ := ih h.2 q
          have := h.1 e rfl
          exact ⟨l, e3, by omega⟩
        · exact ⟨e, q.symm, Int.le_refl _⟩
    by_cases c : e ≤ y
    · rw [if_pos c]
      obtain ⟨h1, h2⟩ := cut_gap h.2 (y := y) (by simpa [lowOk] using c)
      refine ⟨h1, fun x hx q1 q2 => ?_⟩
      rcases List.mem_cons.mp hx with rfl | hx
      · obtain ⟨l, el, hl⟩ := low h.2 rfl
        rw [el] at q1
        have q1 : l ≤ x := by simpa [lowOk] using q1
        exact absurd (show x = l by omega) (q2 l el)
      · exact h2 x hx q1 q2
    · rw [if_neg c]
      refine ⟨hy, fun x hx q1 q2 => ?_⟩
      have up : ∀ {E : List Int} {e : Int}, Up (some e) E → ∀ x ∈ E, e < x := by
        intro E
        induction E with
        | nil => intro e _ x hx; cases hx
        | cons e2 r2 ih =>
          intro e h x hx
          have := h.1 e rfl
          rcases List.mem_cons.mp hx with rfl | hx
          · exact this
          · have := ih h.2 x hx; omega
      rcases List.mem_cons.mp hx with rfl | hx
      · omega
      · have := up h.2 x hx; omega
/-- the worths of some rows of bands, side by side -/
theorem side_val {z : α} {zz : List α} {rows : List (List (Bd α))} {E : List Int} (hE : Up none E) (asc : ∀ bs ∈ rows, AscB bs) (all : ∀ bs ∈ rows, ∀ b ∈ bs, ∀ x, (b.1 = some x ∨ b.2.1 = some x) → x ∈ E) (y : Int) :
    valB zz (tileF (fun c => rows.map fun bs => atC z bs c) none E) y = rows.map fun bs => valB z bs y := by
  rw [tile_val hE rfl]
  refine List.map_congr_left fun bs hb => ?_
  obtain ⟨h1, h2⟩ := cut_gap hE (y := y) rfl
  exact (gap_val (asc bs hb) h1 fun b hbb x hx q1 q2 => h2 x (all bs hb b hbb x hx) q1 q2).symm
/-- what the next cut's change makes of the worth -/
theorem run_next {z : α} {bs : List (Bd α)} {lo : Option Int} {e : Int} (h : AscB bs) (hlo : ∀ l, lo = some l → l < e) (g : ∀ b ∈ bs, ∀ x, (b.1 = some x ∨ b.2.1 = some x) → lowOk lo x = true → (∀ l, lo = some l → x ≠ l) → e ≤ x) :
    (valA (chgA z bs) (some e)).getD (atC z bs lo) = atC z bs (some e) := by
  have C := chg_ok (z := z) h
  cases q : valA (chgA z bs) (some e) with
  | some v => exact (C.a e v q).1
  | none =>
    have no := C.b e q
    show atC z bs lo = valB z bs e
    refine (gap_val h ?_ fun b hb x hx q1 q2 => ?_).symm
    · cases lo with
      | none => rfl
      | some l => have := hlo l rfl; simp [lowOk]; omega
    · have h1 := g b hb x hx q1 q2
      have h2 : x ≠ e := fun q => by
        subst q
        rcases hx with hx | hx
        · exact (no b hb).1 hx
        · exact (no b hb).2 hx
      omega
theorem tile_len {f : Option Int → α} : ∀ {E : List Int} {lo : Option Int}, (tileF f lo E).length = E.length + 1
  | [], _ => rfl
  | e :: r, lo => by
    show (tileF f (some e) r).length + 1 = _
    rw [tile_len]; rfl
theorem tile_get {f : Option Int → α} : ∀ {E : List Int} {lo c n : Option Int} {i : Nat}, (lo :: E.map some)[i]? = some c → (E.map some ++ [none])[i]? = some n → (tileF f lo E)[i]? = some (c, n, f c)
  | [], lo, c, n, 0, h1, h2 => by
    simp at h1 h2; subst h1 h2; rfl
  | [], lo, c, n, i + 1, h1, h2 => by simp at h1
  | e :: r, lo, c, n, 0, h1, h2 => by
    simp at h1 h2; subst h1 h2; rfl
  | e :: r, lo, c, n, i + 1, h1, h2 => by
    show (tileF f (some e) r)[i]? = _
    refine tile_get (by simpa using h1) (by simpa using h2)
theorem up_low : ∀ {E : List Int} {e : Int}, Up (some e) E → ∀ x ∈ E, e < x
  | [], _, _, _, hx => by cases hx
  | e2 :: r, e, h, x, hx => by
    have := h.1 e rfl
    rcases List.mem_cons.mp hx with rfl | hx
    · exact this
    · have := up_low h.2 x hx; omega
theorem up_gap : ∀ {E : List Int} {lo c : Option Int} {e : Int} {i : Nat}, Up lo E → (lo :: E.map some)[i]? = some c → E[i]? = some e →
    (∀ l, c = some l → l < e) ∧ ∀ x ∈ E, lowOk c x = true → (∀ l, c = some l → x ≠ l) → e ≤ x
  | [], _, _, _, _, _, _, h2 => by simp at h2
  | a :: r, lo, c, e, 0, h, h1, h2 => by
    simp at h1 h2
    subst h1 h2
    refine ⟨h.1, fun x hx _ _ => ?_⟩
    rcases List.mem_cons.mp hx with rfl | hx
    · exact Int.le_refl _
    · have := up_low h.2 x hx; omega
  | a :: r, lo, c, e, i + 1, h, h1, h2 => by
    have h1' : (some a :: r.map some)[i]? = some c := by simpa using h1
    have h2' : r[i]? = some e := by simpa using h2
    obtain ⟨g1, g2⟩ := up_gap h.2 h1' h2'
    refine ⟨g1, fun x hx q1 q2 => ?_⟩
    rcases List.mem_cons.mp hx with rfl | hx
    · exfalso
      have mem : c = some x ∨ ∃ t ∈ r, c = some t := by
        have := List.mem_of_getElem? h1'
        simpa [eq_comm] using this
      rcases mem with m | ⟨t, ht, m⟩
      · exact q2 x m rfl
      · subst m
        have := up_low h.2 t ht
        have q1 : t ≤ x := by simpa [lowOk] using q1
        omega
    · exact g2 x hx q1 q2
theorem stepJ_len [DecidableEq α] {z : α} {acc : List (Bd α)} {b : Bd α} : (stepJ z acc b).length ≤ acc.length + 1 := by
  unfold stepJ
  split
  · omega
  · split
    · split
      · rw [List.length_append, List.length_dropLast, List.length_singleton]; omega
      · rw [List.length_append, List.length_singleton]; exact Nat.le_refl _
    · rw [List.length_append, List.length_singleton]; exact Nat.le_refl _
theorem joinB_len [DecidableEq α] {z : α} {T : List (Bd α)} : (joinB z T).length ≤ T.length := by
  have go : ∀ (T acc : List (Bd α)), (T.foldl (stepJ z) acc).length ≤ acc.length + T.length := by
    intro T
    induction T with
    | nil => intro acc; simp
    | cons b r ih =>
      intro acc
      rw [List.foldl_cons, List.length_cons]
      have := ih (stepJ z acc b)
      have := stepJ_len (z := z) (acc := acc) (b := b)
      omega
  have := go T []
  simpa [joinB] using this
/-- x is an end of one of the bands -/
def EndB (bs : List (Bd α)) (x : Int) : Prop := ∃ b ∈ bs, b.1 = some x ∨ b.2.1 = some x
theorem stepJ_ends [DecidableEq α] {z : α} {acc : List (Bd α)} {b : Bd α} {x : Int} (h : EndB (stepJ z acc b) x) : EndB acc x ∨ b.1 = some x ∨ b.2.1 = some x := by
  unfold stepJ at h
  split at h
  · exact .inl h
  · split at h
    · rename_i c hc
      split at h
      · obtain ⟨d, hd, hx⟩ := h
        rcases List.mem_append.mp hd with hd | hd
        · exact .inl ⟨d, (List.dropLast_sublist _).subset hd, hx⟩
        · rw [List.mem_singleton.mp hd] at hx
          rcases hx with hx | hx
          · exact .inl ⟨c, List.mem_of_getLast? hc, .inl hx⟩
          · exact .inr (.inr hx)
      · obtain ⟨d, hd, hx⟩ := h
        rcases List.mem_append.mp hd with hd | hd
        · exact .inl ⟨d, hd, hx⟩
        · rw [List.mem_singleton.mp hd] at hx; exact .inr hx
    · obtain ⟨d, hd, hx⟩ := h
      rcases List.mem_append.mp hd with hd | hd
      · exact .inl ⟨d, hd, hx⟩
      · rw [List.mem_singleton.mp hd] at hx; exact .inr hx
theorem joinB_ends [DecidableEq α] {z : α} {T : List (Bd α)} {x : Int} (h : EndB (joinB z T) x) : EndB T x := by
  have go : ∀ (T acc : List (Bd α)), EndB (T.foldl (stepJ z) acc) x → EndB acc x ∨ EndB T x := by
    intro T
    induction T with
    | nil => intro acc h; exact .inl h
    | cons b r ih =>
      intro acc h
      rw [List.foldl_cons] at h
      rcases ih _ h with h | ⟨c, hc, hx⟩
      · rcases stepJ_ends h with h | h
        · exact .inl h
        · exact .inr ⟨b, by simp, h⟩
      · exact .inr ⟨c, by simp [hc], hx⟩
  rcases go T [] h with ⟨b, hb, _⟩ | h
  · cases hb
  · exact h
theorem tileF_ends {f : Option Int → α} {x : Int} : ∀ {E : List Int} {lo : Option Int}, EndB (tileF f lo E) x → lo = some x ∨ x ∈ E
  | [], lo, ⟨b, hb, hx⟩ => by
    have : b = (lo, none, f lo) := by simpa [tileF] using hb
    subst this
    rcases hx with hx | hx
    · exact .inl hx
    · cases hx
  | e :: r, lo, ⟨b, hb, hx⟩ => by
    rcases List.mem_cons.mp hb with rfl | hb
    · rcases hx with hx | hx
      · exact .inl hx
      · cases hx; exact .inr (by simp)
    · rcases tileF_ends ⟨b, hb, hx⟩ with h | h
      · cases h; exact .inr (by simp)
      · exact .inr (by simp [h])
end
end Iz
/-! Mx -/
namespace Iz
/-! ### how great a number is -/
def lg (x : Int) : Nat := if x = 0 then 0 else x.natAbs.log2 + 1
theorem lg_lt {x : Int} {n : Nat} (h : x.natAbs < 2 ^ n) : lg x ≤ n := by
  unfold lg
  split
  · omega
  · rename_i hx
    have := (Nat.log2_lt (n := x.natAbs) (k := n) (by omega)).mpr h
    omega
theorem lg_self (x : Int) : x.natAbs < 2 ^ lg x := by
  unfold lg
  split
  · rename_i h; subst h; decide
  · exact Nat.lt_log2_self
theorem lg_mono {x y : Int} (h : x.natAbs ≤ y.natAbs) : lg x ≤ lg y := lg_lt (Nat.lt_of_le_of_lt h (lg_self y))
theorem lg_half {x y : Int} (h : 2 * x.natAbs < y.natAbs) : lg x + 1 ≤ lg y := by
  have h1 := lg_self y
  have hy : 0 < lg y := by unfold lg; split <;> omega
  obtain ⟨n, hn⟩ : ∃ n, lg y = n + 1 := ⟨lg y - 1, by omega⟩
  rw [hn] at h1 ⊢
  have h2 : x.natAbs < 2 ^ n := by rw [Nat.pow_succ] at h1; omega
  have := lg_lt h2
  omega
def same (d r : Int) : Prop := (0 ≤ d ∧ 0 ≤ r) ∨ (d ≤ 0 ∧ r ≤ 0)
instance (d r : Int) : Decidable (same d r) := by unfold same; infer_instance
def bud (d r : Int) : Nat := if same d r then lg d + lg r + (if d.natAbs < r.natAbs then 1 else 0) else 2 * lg r + 1
/-- the rest of a division by floors -/
theorem rest_pos {d r : Int} (h : 0 < r) : 0 ≤ d - d.fdiv r * r ∧ d - d.fdiv r * r < r := by
  rw [Int.fdiv_eq_ediv_of_nonneg d (by omega)]
  have h1 := Int.emod_nonneg d (b := r) (by omega)
  have h2 := Int.emod_lt_of_pos d h
  have h3 := Int.emod_add_mul_ediv d r
  rw [Int.mul_comm] at h3
  omega
theorem rest_neg {d r : Int} (h : r < 0) : r < d - d.fdiv r * r ∧ d - d.fdiv r * r ≤ 0 := by
  have h1 := rest_pos (d := -d) (r := -r) (by omega)
  rw [Int.neg_fdiv_neg, Int.mul_neg] at h1
  omega
theorem fdiv_le (d r : Int) : (d.fdiv r).natAbs ≤ d.natAbs := by
  by_cases h : 0 ≤ r
  · rw [Int.fdiv_eq_ediv_of_nonneg d h]; exact Int.natAbs_ediv_le_natAbs _ _
  · rw [← Int.neg_fdiv_neg, Int.fdiv_eq_ediv_of_nonneg _ (by omega), ← Int.natAbs_neg d]; exact Int.natAbs_ediv_le_natAbs _ _
theorem fdiv_same {d r : Int} (hr : r ≠ 0) (hs : same d r) (hl : r.natAbs ≤ d.natAbs) : 2 * (d - d.fdiv r * r).natAbs < d.natAbs := by
  rcases Int.lt_or_gt_of_ne hr with h | h
  · have hd : d < 0 := by rcases hs with hs | hs <;> omega
    have h1 := rest_neg (d := d) h
    have ht : 1 ≤ d.fdiv r := by
      rw [← Int.neg_fdiv_neg, Int.fdiv_eq_ediv_of_nonneg _ (by omega)]
      exact (Int.le_ediv_iff_mul_le (by omega)).mpr (by omega)
    have h2 : d.fdiv r * r ≤ 1 * r := Int.mul_le_mul_of_nonpos_right ht (by omega)
    omega
  · have hd : 0 < d := by rcases hs with hs | hs <;> omega
    have h1 := rest_pos (d := d) h
    have ht : 1 ≤ d.fdiv r := by
      rw [Int.fdiv_eq_ediv_of_nonneg _ (by omega)]
      exact (Int.le_ediv_iff_mul_le (by omega)).mpr (by omega)
    have h2 : 1 * r ≤ d.fdiv r * r := Int.mul_le_mul_of_nonneg_right ht (by omega)
    omega
theorem fdiv_small {d r : Int} (hr : r ≠ 0) (hs : same d r) (hl : d.natAbs < r.natAbs) : d - d.fdiv r * r = d := by
  have : d.fdiv r = 0 := by
    rcases Int.lt_or_gt_of_ne hr with h | h
    · rw [← Int.neg_fdiv_neg, Int.fdiv_eq_ediv_of_nonneg _ (by omega)]
      exact Int.ediv_eq_zero_of_lt (by rcases hs with hs | hs <;> omega) (by rcases hs with hs | hs <;> omega)
    · rw [Int.fdiv_eq_ediv_of_nonneg _ (by omega)]
      exact Int.ediv_eq_zero_of_lt (by rcases hs with hs | hs <;> omega) (by rcases hs with hs | hs <;> omega)
  rw [this]; omega
theorem bud_step {d r : Int} (hr : r ≠ 0) : bud r (d - d.fdiv r * r) < bud d r := by
  have hlt : (d - d.fdiv r * r).natAbs < r.natAbs := by
    rcases Int.lt_or_gt_of_ne hr with h | h
    · have := rest_neg (d := d) h; omega
    · have := rest_pos (d := d) h; omega
  have hs' : same r (d - d.fdiv r * r) := by
    rcases Int.lt_or_gt_of_ne hr with h | h
    · have := rest_neg (d := d) h; exact .inr ⟨by omega, by omega⟩
    · have := rest_pos (d := d) h; exact .inl ⟨by omega, by omega⟩
  unfold bud
  rw [if_pos hs', if_neg (by omega)]
  by_cases hs : same d r
  · rw [if_pos hs]
    by_cases hl : d.natAbs < r.natAbs
    · rw [if_pos hl, fdiv_small hr hs hl]; omega
    · rw [if_neg hl]
      have := lg_half (fdiv_same hr hs (by omega))
      omega
  · rw [if_neg hs]
    have := lg_mono (x := d - d.fdiv r * r) (y := r) (by omega)
    omega
theorem bud_le {d r : Int} {n : Nat} (hd : d.natAbs < 2 ^ n) (hr : r.natAbs < 2 ^ n) : bud d r ≤ 2 * n + 1 := by
  have h1 := lg_lt hd
  have h2 := lg_lt hr
  unfold bud
  split
  · split <;> omega
  · omega
/-! ### the weighed divisor's loop -/
structure EI (one other d u v r nu nv : Int) (k : Nat) : Prop where
  e1 : u * one + v * other = d
  e2 : nu * one + nv * other = r
  g : Int.gcd d r = Int.gcd one other
  hd : d.natAbs < 2 ^ 250
  hr : r.natAbs < 2 ^ 250
  bu : u.natAbs ≤ 2 ^ (251 * k)
  bv : v.natAbs ≤ 2 ^ (251 * k)
  bnu : nu.natAbs ≤ 2 ^ (251 * k)
  bnv : nv.natAbs ≤ 2 ^ (251 * k)
  kb : k + bud d r ≤ 501
theorem EI.start {one other : Int} (h1 : one.natAbs < 2 ^ 250) (h2 : other.natAbs < 2 ^ 250) : EI one other one 1 0 other 0 1 0 :=
  ⟨by omega, by omega, rfl, h1, h2, by decide, by decide, by decide, by decide, by have := bud_le h1 h2; omega⟩
theorem grow {u t nu : Int} {k : Nat} (hu : u.natAbs ≤ 2 ^ (251 * k)) (hn : nu.natAbs ≤ 2 ^ (251 * k)) (ht : t.natAbs < 2 ^ 250) : (u - t * nu).natAbs ≤ 2 ^ (251 * (k + 1)) := by
  have h1 : (t * nu).natAbs ≤ 2 ^ 250 * 2 ^ (251 * k) := by rw [Int.natAbs_mul]; exact Nat.mul_le_mul (Nat.le_of_lt ht) hn
  have h2 : (u - t * nu).natAbs ≤ u.natAbs + (t * nu).natAbs := by omega
  have h3 : 2 ^ (251 * (k + 1)) = 2 * 2 ^ 250 * 2 ^ (251 * k) := by rw [Nat.mul_succ, Nat.pow_add, show (251 : Nat) = 250 + 1 from rfl, Nat.pow_succ]; rw [Nat.mul_comm, Nat.mul_comm (2 ^ 250) 2]
  have h4 : (1 : Nat) * 2 ^ (251 * k) ≤ 2 ^ 250 * 2 ^ (251 * k) := Nat.mul_le_mul_right _ (Nat.one_le_two_pow)
  rw [h3, Nat.mul_assoc]
  generalize 2 ^ 250 * 2 ^ (251 * k) = A at *
  omega
theorem EI.next {one other d u v r nu nv : Int} {k : Nat} (I : EI one other d u v r nu nv k) (h : r ≠ 0) :
    EI one other r nu nv (d - d.fdiv r * r) (u - d.fdiv r * nu) (v - d.fdiv r * nv) (k + 1) := by
  have ht : (d.fdiv r).natAbs < 2 ^ 250 := Nat.lt_of_le_of_lt (fdiv_le d r) I.hd
  have hm : ∀ {z : Int}, z.natAbs ≤ 2 ^ (251 * k) → z.natAbs ≤ 2 ^ (251 * (k + 1)) := fun hz => Nat.le_trans hz (Nat.pow_le_pow_right (by decide) (by omega))
  refine ⟨I.e2, ?_, ?_, I.hr, ?_, hm I.bnu, hm I.bnv, grow I.bu I.bnu ht, grow I.bv I.bnv ht, ?_⟩
  · generalize d.fdiv r = t
    rw [← I.e1, ← I.e2, Int.sub_mul, Int.sub_mul, Int.mul_add, Int.mul_assoc, Int.mul_assoc]; omega
  · rw [← I.g, Int.gcd_comm d r, Int.mul_comm]; exact Int.gcd_sub_mul_left_right _ _ _
  · refine Nat.lt_trans (?_ : _ < r.natAbs) I.hr
    rcases Int.lt_or_gt_of_ne h with h | h
    · have := rest_neg (d := d) h; omega
    · have := rest_pos (d := d) h; omega
  · have := bud_step (d := d) h
    have := I.kb
    omega
theorem EI.done {one other d u v nu nv : Int} {k : Nat} (I : EI one other d u v 0 nu nv k) : d.natAbs = Int.gcd one other ∧ u * one + v * other = d ∧ u.natAbs ≤ 2 ^ 130000 := by
  refine ⟨?_, I.e1, Nat.le_trans I.bu (Nat.pow_le_pow_right (by decide) (by have := I.kb; omega))⟩
  have := I.g
  rw [Int.gcd_zero_right] at this
  exact this
theorem EI.quo {one other d u v r nu nv : Int} {k : Nat} (I : EI one other d u v r nu nv k) : (d.fdiv r).natAbs < 2 ^ 250 := Nat.lt_of_le_of_lt (fdiv_le d r) I.hd
theorem EI.big {one other d u v r nu nv z : Int} {k : Nat} (I : EI one other d u v r nu nv k) (h : z.natAbs ≤ 2 ^ (251 * k)) : z.natAbs < 2 ^ 130000 := Nat.lt_of_le_of_lt h (Nat.pow_lt_pow_right (by decide) (by have := I.kb; omega))
end Iz
/-! My -/
namespace Iz
theorem gpos {b p : Int} (hp : 1 ≤ p) : 0 < (Int.gcd b p : Int) := by have := Int.gcd_pos_of_ne_zero_right b (show p ≠ 0 by omega); omega
theorem qpos {b p : Int} (hp : 1 ≤ p) : 0 < p / (Int.gcd b p : Int) := Int.ediv_pos_of_pos_of_dvd (by omega) (by omega) (Int.gcd_dvd_right b p)
theorem line_sol {a b r p u v : Int} (hp : 1 ≤ p) (h : u * b + v * p = (Int.gcd b p : Int)) (hd : (r - a) % (Int.gcd b p : Int) = 0) :
    (a + b * ((r - a) / (Int.gcd b p : Int) * u % (p / (Int.gcd b p : Int))) - r) % p = 0 := by
  have hg := gpos (b := b) hp
  have e1 : (Int.gcd b p : Int) * (p / (Int.gcd b p : Int)) = p := Int.mul_ediv_cancel' (Int.gcd_dvd_right b p)
  have e2 : (Int.gcd b p : Int) * (b / (Int.gcd b p : Int)) = b := Int.mul_ediv_cancel' (Int.gcd_dvd_left b p)
  have e3 : (Int.gcd b p : Int) * ((r - a) / (Int.gcd b p : Int)) = r - a := Int.mul_ediv_cancel' (Int.dvd_of_emod_eq_zero hd)
  generalize (Int.gcd b p : Int) = g at *
  generalize hq : p / g = q at *
  generalize hk : (r - a) / g = k at *
  generalize hb : b / g = b' at *
  have e4 := Int.emod_add_mul_ediv (k * u) q
  generalize k * u % q = s at *
  generalize k * u / q = m at *
  refine Int.emod_eq_zero_of_dvd ⟨-(k * v + b' * m), ?_⟩
  have e5 : s = k * u - q * m := by omega
  have e6 : b * s = b * (k * u) - b * (q * m) := by rw [e5, Int.mul_sub]
  have e7 : b * (q * m) = p * (b' * m) := by rw [← e1, ← e2, Int.mul_assoc g b', Int.mul_assoc g q]; congr 1; rw [← Int.mul_assoc, ← Int.mul_assoc, Int.mul_comm b' q, Int.mul_assoc]
  have e8 : b * (k * u) = k * (u * b) := by rw [Int.mul_comm b, Int.mul_assoc]
  have e9 : k * (u * b) = k * g - k * (v * p) := by rw [← Int.mul_sub]; congr 1; omega
  have e10 : k * (v * p) = p * (k * v) := by rw [← Int.mul_assoc, Int.mul_comm]
  have e11 : k * g = r - a := by rw [Int.mul_comm]; exact e3
  rw [Int.mul_neg, Int.mul_add]
  omega
theorem dvd_line {b p k : Int} (hp : 1 ≤ p) : p ∣ b * k ↔ p / (Int.gcd b p : Int) ∣ k := by
  have hg := gpos (b := b) hp
  have e1 : (Int.gcd b p : Int) * (p / (Int.gcd b p : Int)) = p := Int.mul_ediv_cancel' (Int.gcd_dvd_right b p)
  have e2 : (Int.gcd b p : Int) * (b / (Int.gcd b p : Int)) = b := Int.mul_ediv_cancel' (Int.gcd_dvd_left b p)
  have co := Int.gcd_ediv_gcd_ediv_gcd (i := b) (j := p) (by omega)
  generalize (Int.gcd b p : Int) = g at *
  generalize p / g = q at *
  generalize b / g = b' at *
  rw [← e1, ← e2, Int.mul_assoc, Int.mul_dvd_mul_iff_left (by omega)]
  constructor
  · intro h
    have h2 : q.natAbs ∣ b'.natAbs * k.natAbs := by rw [← Int.natAbs_mul]; exact Int.natAbs_dvd_natAbs.mpr h
    have h3 : Nat.Coprime q.natAbs b'.natAbs := by
      rw [Int.gcd_eq_natAbs_gcd_natAbs, Nat.gcd_comm] at co; exact co
    exact Int.natAbs_dvd_natAbs.mp (h3.dvd_of_dvd_mul_left h2)
  · exact fun h => Int.dvd_mul_of_dvd_right h
/-- of which i a + b i is r modulo p -/
theorem line_iff {a b r p s i : Int} (hp : 1 ≤ p) (h : (a + b * s - r) % p = 0) : (a + b * i - r) % p = 0 ↔ (i - s) % (p / (Int.gcd b p : Int)) = 0 := by
  have h1 := Int.dvd_of_emod_eq_zero h
  have e : a + b * i - r = (a + b * s - r) + b * (i - s) := by rw [Int.mul_sub]; omega
  rw [← Int.dvd_iff_emod_eq_zero, ← Int.dvd_iff_emod_eq_zero, e, ← dvd_line hp]
  exact Int.dvd_add_right h1
theorem gcd_small {b p : Int} {n : Nat} (hp : 1 ≤ p) (h : p.natAbs < 2 ^ n) : (Int.gcd b p : Int).natAbs < 2 ^ n := by
  have := Int.le_of_dvd (by omega) (Int.gcd_dvd_right b p)
  have := gpos (b := b) hp
  omega
theorem ediv_small {x g : Int} {n : Nat} (h : x.natAbs < 2 ^ n) : (x / g).natAbs < 2 ^ n := Nat.lt_of_le_of_lt (Int.natAbs_ediv_le_natAbs _ _) h
theorem pow_small {x m n : Nat} (h : x < 2 ^ m) (hm : m ≤ n) : x < 2 ^ n := Nat.lt_of_lt_of_le h (Nat.pow_le_pow_right (by decide) hm)
theorem mod_sub {a m n r : Int} (h : n ∣ m) (hr : n ∣ a - r) : (a % m - r) % n = 0 := by
  refine Int.emod_eq_zero_of_dvd ?_
  have h1 : n ∣ a - a % m := Int.dvd_trans h Int.dvd_self_sub_emod
  have e : a % m - r = (a - r) - (a - a % m) := by omega
  rw [e]; exact Int.dvd_sub hr h1
theorem both_sol {r p o q s : Int} (hq : 1 ≤ q) (h : (r + p * s - o) % q = 0) :
    ((r + p * s) % (p * (q / (Int.gcd p q : Int))) - r) % p = 0 ∧ ((r + p * s) % (p * (q / (Int.gcd p q : Int))) - o) % q = 0 := by
  refine ⟨mod_sub (Int.dvd_mul_right _ _) (by rw [show r + p * s - r = p * s by omega]; exact Int.dvd_mul_right _ _), mod_sub ?_ (Int.dvd_of_emod_eq_zero h)⟩
  have e1 : (Int.gcd p q : Int) * (q / (Int.gcd p q : Int)) = q := Int.mul_ediv_cancel' (Int.gcd_dvd_right p q)
  obtain ⟨c, hc⟩ := Int.gcd_dvd_left p q
  refine ⟨c, ?_⟩
  have : p * (q / (Int.gcd p q : Int)) = (Int.gcd p q : Int) * (q / (Int.gcd p q : Int)) * c := by
    conv => lhs; rw [hc]
    rw [Int.mul_assoc, Int.mul_assoc, Int.mul_comm c]
    congr 2
    rw [← hc]
  rw [this, e1]
/-! ### Euclid's steps -/
theorem bud_mod {d r : Int} (h : 0 < r) : bud r (d % r) < bud d r := by
  have := bud_step (d := d) (r := r) (by omega)
  rw [Int.fdiv_eq_ediv_of_nonneg d (by omega)] at this
  have e := Int.emod_def d r
  rw [Int.mul_comm] at e
  rw [e]; exact this
theorem mod_swap {a b g : Int} : (a - b) % g = 0 ↔ (b - a) % g = 0 := by
  rw [← Int.dvd_iff_emod_eq_zero, ← Int.dvd_iff_emod_eq_zero, ← Int.dvd_neg]
  rw [show -(a - b) = b - a by omega]
theorem mul_div_gcd {p q : Int} : p * (q / (Int.gcd p q : Int)) = p / (Int.gcd p q : Int) * q := by
  rw [← Int.mul_ediv_assoc _ (Int.gcd_dvd_right p q), Int.mul_comm p q, Int.mul_ediv_assoc _ (Int.gcd_dvd_left p q), Int.mul_comm]
theorem lcm_abs {x y : Int} : (x.natAbs : Int) / (Int.gcd (x.natAbs : Int) (y.natAbs : Int) : Int) * (y.natAbs : Int) = ((x * y).natAbs : Int) / (Int.gcd x y : Int) := by
  have e : Int.gcd (x.natAbs : Int) (y.natAbs : Int) = Int.gcd x y := by rw [Int.gcd_eq_natAbs_gcd_natAbs, Int.gcd_eq_natAbs_gcd_natAbs]; rfl
  have d : (Int.gcd x y : Int) ∣ (y.natAbs : Int) := Int.dvd_natAbs.mpr (Int.gcd_dvd_right x y)
  have d2 : (Int.gcd x y : Int) ∣ (x.natAbs : Int) := Int.dvd_natAbs.mpr (Int.gcd_dvd_left x y)
  rw [e, Int.natAbs_mul, Int.natCast_mul, Int.mul_comm (x.natAbs : Int) (y.natAbs : Int), Int.mul_ediv_assoc _ d2, Int.mul_comm]
end Iz
/-! Lm -/
namespace Iz
theorem EI.doneV {one other d u v nu nv : Int} {k : Nat} (I : EI one other d u v 0 nu nv k) : v.natAbs ≤ 2 ^ 130000 := Nat.le_trans I.bv (Nat.pow_le_pow_right (by decide) (by have := I.kb; omega))
/-! ### lattices as sets of shifts -/
/-- the place of a cell -/
def plX (a b d x y : Int) : Int := (x - b * (y / d)) % a
def plY (d y : Int) : Int := y - d * (y / d)
def inL (a b d : Int) : Option (Int × Int) → Bool
  | none => false
  | some (x, y) => decide (plX a b d x y = 0 ∧ plY d y = 0)
structure LB (a b d : Int) : Prop where
  a1 : 1 ≤ a
  b0 : 0 ≤ b
  ba : b < a
  d1 : 1 ≤ d
  aS : a.natAbs < 2 ^ 500
  dS : d.natAbs < 2 ^ 500
theorem LB.bS {a b d : Int} (h : LB a b d) : b.natAbs < 2 ^ 500 := by have := h.aS; have := h.ba; have := h.b0; omega
/-- j (a, 0) + k (b, d) -/
def Ml (a b d x y : Int) : Prop := ∃ j k : Int, x = a * j + b * k ∧ y = d * k
theorem inL_iff {a b d x y : Int} (a1 : 1 ≤ a) (d1 : 1 ≤ d) : inL a b d (some (x, y)) = true ↔ Ml a b d x y := by
  unfold inL plX plY
  rw [decide_eq_true_eq]
  constructor
  · rintro ⟨h1, h2⟩
    obtain ⟨j, hj⟩ := Int.dvd_of_emod_eq_zero h1
    exact ⟨j, y / d, by omega, by omega⟩
  · rintro ⟨j, k, rfl, rfl⟩
    rw [Int.mul_ediv_cancel_left _ (by omega)]
    exact ⟨Int.emod_eq_zero_of_dvd ⟨j, by omega⟩, by omega⟩
theorem Ml.a {a b d : Int} : Ml a b d a 0 := ⟨1, 0, by omega, by omega⟩
theorem Ml.b {a b d : Int} : Ml a b d b d := ⟨0, 1, by omega, by omega⟩
theorem Ml.zero {a b d : Int} : Ml a b d 0 0 := ⟨0, 0, by omega, by omega⟩
theorem Ml.add {a b d x y u v : Int} (h : Ml a b d x y) (g : Ml a b d u v) : Ml a b d (x + u) (y + v) := by
  obtain ⟨j, k, rfl, rfl⟩ := h
  obtain ⟨m, n, rfl, rfl⟩ := g
  exact ⟨j + m, k + n, by rw [Int.mul_add, Int.mul_add]; omega, by rw [Int.mul_add]⟩
theorem Ml.smul {a b d x y : Int} (n : Int) (h : Ml a b d x y) : Ml a b d (n * x) (n * y) := by
  obtain ⟨j, k, rfl, rfl⟩ := h
  exact ⟨n * j, n * k, by rw [Int.mul_add, Int.mul_left_comm, Int.mul_left_comm n b], by rw [Int.mul_left_comm]⟩
theorem Ml.uniq {a b d a' b' d' : Int} (B : LB a b d) (B' : LB a' b' d') (h : ∀ x y, Ml a b d x y ↔ Ml a' b' d' x y) : a = a' ∧ b = b' ∧ d = d' := by
  have half : ∀ {a b d a' b' d' : Int}, LB a b d → LB a' b' d' → (∀ x y, Ml a b d x y → Ml a' b' d' x y) → a' ∣ a ∧ d' ∣ d := by
    intro a b d a' b' d' B B' h
    obtain ⟨j, k, h1, h2⟩ := h _ _ Ml.a
    have d1 := B'.d1
    have : k = 0 := by rcases Int.mul_eq_zero.mp h2.symm with e | e <;> omega
    subst this
    obtain ⟨j', k', _, h3⟩ := h _ _ Ml.b
    exact ⟨⟨j, by omega⟩, ⟨k', h3⟩⟩
  obtain ⟨p1, p2⟩ := half B B' fun x y => (h x y).mp
  obtain ⟨q1, q2⟩ := half B' B fun x y => (h x y).mpr
  have a1 := B.a1; have a1' := B'.a1; have d1 := B.d1; have d1' := B'.d1
  have ea : a = a' := Int.le_antisymm (Int.le_of_dvd (by omega) q1) (Int.le_of_dvd (by omega) p1)
  have ed : d = d' := Int.le_antisymm (Int.le_of_dvd (by omega) q2) (Int.le_of_dvd (by omega) p2)
  subst ea ed
  obtain ⟨j, k, h1, h2⟩ := (h _ _).mp (Ml.b (a := a) (b := b) (d := d))
  have : k = 1 := by
    have : d * k = d * 1 := by omega
    exact Int.eq_of_mul_eq_mul_left (by omega) this
  subst this
  refine ⟨rfl, ?_, rfl⟩
  have b0 := B.b0; have ba := B.ba; have b0' := B'.b0; have ba' := B'.ba
  have e : b - b' = a * j := by omega
  have : j = 0 := by
    rcases Int.lt_trichotomy j 0 with g | g | g
    · have := Int.mul_le_mul_of_nonneg_left (show j ≤ -1 by omega) (show 0 ≤ a by omega); omega
    · exact g
    · have := Int.mul_le_mul_of_nonneg_left (show 1 ≤ j by omega) (show 0 ≤ a by omega); omega
  subst this
  omega
theorem le_iff {a b d a' b' d' : Int} (B' : LB a' b' d') : (inL a' b' d' (some (a, 0)) && inL a' b' d' (some (b, d))) = true ↔ ∀ x y, Ml a b d x y → Ml a' b' d' x y := by
  rw [Bool.and_eq_true, inL_iff B'.a1 B'.d1, inL_iff B'.a1 B'.d1]
  constructor
  · rintro ⟨h1, h2⟩ x y ⟨j, k, rfl, rfl⟩
    have := (h1.smul j).add (h2.smul k)
    rw [Int.mul_comm a, Int.mul_comm b, Int.mul_comm d]
    rw [show j * 0 + k * d = k * d by omega] at this
    exact this
  · exact fun h => ⟨h _ _ Ml.a, h _ _ Ml.b⟩
theorem bez (x y : Int) : ∃ u v : Int, u * x + v * y = (Int.gcd x y : Int) := by
  have nat : ∀ m n : Nat, ∃ u v : Int, u * m + v * n = (Nat.gcd m n : Int) := by
    intro m n
    induction m, n using Nat.gcd.induction with
    | H0 n => exact ⟨0, 1, by simp⟩
    | H1 m n hm ih =>
      obtain ⟨u, v, h⟩ := ih
      rw [Nat.gcd_rec]
      refine ⟨v - u * ((n / m : Nat) : Int), u, ?_⟩
      have e : ((n % m : Nat) : Int) = (n : Int) - (m : Int) * ((n / m : Nat) : Int) := by
        have := Nat.mod_add_div n m
        have h2 : ((n % m + m * (n / m) : Nat) : Int) = (n : Int) := by rw [this]
        rw [Int.natCast_add, Int.natCast_mul] at h2
        omega
      rw [← h, e, Int.mul_sub, Int.sub_mul, Int.mul_comm (m : Int) _, Int.mul_assoc]
      omega
  obtain ⟨u, v, h⟩ := nat x.natAbs y.natAbs
  have s : ∀ z : Int, ∃ e : Int, e * z = (z.natAbs : Int) := fun z => by
    rcases Int.le_total 0 z with g | g
    · exact ⟨1, by omega⟩
    · exact ⟨-1, by omega⟩
  obtain ⟨e, he⟩ := s x
  obtain ⟨f, hf⟩ := s y
  exact ⟨u * e, v * f, by rw [Int.mul_assoc, Int.mul_assoc, he, hf]; exact h⟩
/-! ### the lattice that two shifts span -/
section
variable {p q r s u v : Int}
/-- the sums of multiples of both -/
def Sp2 (p q r s x y : Int) : Prop := ∃ m n : Int, x = m * p + n * r ∧ y = m * q + n * s
theorem span_iff (hW : p * s - r * q ≠ 0) (h : u * q + v * s = (Int.gcd q s : Int)) : 1 ≤ (Int.gcd q s : Int) ∧ 1 ≤ ((p * s - r * q).natAbs : Int) / (Int.gcd q s : Int) ∧ ((p * s - r * q).natAbs : Int) / (Int.gcd q s : Int) * (Int.gcd q s : Int) = ((p * s - r * q).natAbs : Int) ∧
    ∀ x y, Ml (((p * s - r * q).natAbs : Int) / (Int.gcd q s : Int)) ((u * p + v * r) % (((p * s - r * q).natAbs : Int) / (Int.gcd q s : Int))) (Int.gcd q s : Int) x y ↔ Sp2 p q r s x y := by
  have hD : 1 ≤ (Int.gcd q s : Int) := by
    have : Int.gcd q s ≠ 0 := fun e => by
      obtain ⟨h1, h2⟩ := Int.gcd_eq_zero_iff.mp e
      subst h1 h2
      simp at hW
    omega
  obtain ⟨q', hq⟩ := Int.gcd_dvd_left q s
  obtain ⟨s', hs⟩ := Int.gcd_dvd_right q s
  generalize (Int.gcd q s : Int) = D at *
  subst hq hs
  have e1 : u * q' + v * s' = 1 := by
    have : D * (u * q' + v * s') = D * 1 := by rw [Int.mul_add, Int.mul_left_comm D u, Int.mul_left_comm D v]; omega
    exact Int.eq_of_mul_eq_mul_left (by omega) this
  have eW : p * (D * s') - r * (D * q') = D * (p * s' - r * q') := by rw [Int.mul_sub, Int.mul_left_comm p, Int.mul_left_comm r]
  rw [eW] at hW ⊢
  generalize hw : p * s' - r * q' = w at *
  have hw0 : w ≠ 0 := fun e => by subst e; simp at hW
  have eA : ((D * w).natAbs : Int) = D * (w.natAbs : Int) := by rw [Int.natAbs_mul, Int.natCast_mul]; congr 1; omega
  rw [eA, Int.mul_ediv_cancel_left _ (by omega)]
  obtain ⟨e, he, he2⟩ : ∃ e : Int, (w.natAbs : Int) = e * w ∧ e * e = 1 := by
    rcases Int.le_total 0 w with g | g
    · exact ⟨1, by omega, rfl⟩
    · exact ⟨-1, by omega, rfl⟩
  refine ⟨hD, by omega, Int.mul_comm _ _, fun x y => ?_⟩
  have hA : (w.natAbs : Int) ≠ 0 := by omega
  generalize (w.natAbs : Int) = A at *
  have hB := Int.emod_add_mul_ediv (u * p + v * r) A
  generalize (u * p + v * r) % A = B at *
  generalize (u * p + v * r) / A = t at *
  have hB : B = u * p + v * r - A * t := by omega
  subst hB
  constructor
  · rintro ⟨j, k, rfl, rfl⟩
    exact ⟨u * k + e * s' * (j - t * k), v * k - e * q' * (j - t * k), by grind, by grind⟩
  · rintro ⟨m, n, rfl, rfl⟩
    exact ⟨t * (m * q' + n * s') + e * (m * v - n * u), m * q' + n * s', by grind, by grind⟩
/-- a sum of multiples, told by remainders -/
theorem sum_iff {x y : Int} (hW : p * s - r * q ≠ 0) : ((x * s - y * r) % (p * s - r * q) = 0 ∧ (y * p - x * q) % (p * s - r * q) = 0) ↔ Sp2 p q r s x y := by
  constructor
  · rintro ⟨h1, h2⟩
    obtain ⟨m, hm⟩ := Int.dvd_of_emod_eq_zero h1
    obtain ⟨n, hn⟩ := Int.dvd_of_emod_eq_zero h2
    have e1 : (p * s - r * q) * x = (p * s - r * q) * (m * p + n * r) := by grind
    have e2 : (p * s - r * q) * y = (p * s - r * q) * (m * q + n * s) := by grind
    exact ⟨m, n, Int.eq_of_mul_eq_mul_left hW e1, Int.eq_of_mul_eq_mul_left hW e2⟩
  · rintro ⟨m, n, rfl, rfl⟩
    exact ⟨Int.emod_eq_zero_of_dvd ⟨m, by grind⟩, Int.emod_eq_zero_of_dvd ⟨n, by grind⟩⟩
theorem Sp2.swap {x y : Int} : Sp2 p q r s x y ↔ Sp2 r s p q x y := ⟨fun ⟨m, n, h1, h2⟩ => ⟨n, m, by omega, by omega⟩, fun ⟨m, n, h1, h2⟩ => ⟨n, m, by omega, by omega⟩⟩
theorem Sp2.turn {x y : Int} : Sp2 (p + r) (q + s) (0 - r) (0 - s) x y ↔ Sp2 p q r s x y := by
  constructor
  · rintro ⟨m, n, h1, h2⟩
    exact ⟨m, m - n, by grind, by grind⟩
  · rintro ⟨m, n, h1, h2⟩
    exact ⟨m, m - n, by grind, by grind⟩
end
/-! ### the lattice that two have in common, and the one that both span -/
section
variable {a1 b1 d1 a2 b2 d2 : Int}
theorem lcm_dvd {x y z : Int} (hy : 1 ≤ y) (h1 : x ∣ z) (h2 : y ∣ z) : x * (y / (Int.gcd x y : Int)) ∣ z := by
  obtain ⟨m, rfl⟩ := h1
  exact Int.mul_dvd_mul_left x ((dvd_line hy).mp h2)
theorem lcm_facts {x y : Int} (hx : 1 ≤ x) (hy : 1 ≤ y) : x / (Int.gcd x y : Int) * y = x * (y / (Int.gcd x y : Int)) ∧ x ∣ x * (y / (Int.gcd x y : Int)) ∧ y ∣ x * (y / (Int.gcd x y : Int)) := by
  have e := mul_div_gcd (p := x) (q := y)
  exact ⟨e.symm, Int.dvd_mul_right _ _, by rw [e]; exact Int.dvd_mul_left _ _⟩
theorem div_of {d g e : Int} (hg : g ≠ 0) (h : d = g * e) : d / g = e := by rw [h, Int.mul_ediv_cancel_left _ hg]
theorem cm1 {e1 b1 e2 b2 t a1 j1 a2 j2 g h1 h2 x : Int} (hx1 : x = a1 * j1 + b1 * (e1 * t)) (hx2 : x = a2 * j2 + b2 * (e2 * t)) (hh1 : a1 = g * h1) (hh2 : a2 = g * h2) : (e1 * b1 - e2 * b2) * t = g * (h2 * j2 - h1 * j1) := by subst hh1 hh2; grind
theorem cm2 {x a j b e tm k c c1 : Int} (hx : x = a * j + b * (e * (tm * k))) (hc : c - tm * (e * b) = a * c1) : x - c * k = a * (j - c1 * k) := by
  have : c = tm * (e * b) + a * c1 := by omega
  subst this hx
  grind
/-- lv: the least multiple of both heights -/
theorem common_iff {lv c : Int} (A1 : 1 ≤ a1) (D1 : 1 ≤ d1) (A2 : 1 ≤ a2) (D2 : 1 ≤ d2) (hlv : lv = d1 * (d2 / (Int.gcd d1 d2 : Int)))
    (hc1 : (c - (Int.gcd a1 a2 : Int) / (Int.gcd (Int.gcd a1 a2 : Int) (lv / d1 * b1 - lv / d2 * b2) : Int) * (lv / d1 * b1)) % a1 = 0) (hc2 : (c - (Int.gcd a1 a2 : Int) / (Int.gcd (Int.gcd a1 a2 : Int) (lv / d1 * b1 - lv / d2 * b2) : Int) * (lv / d2 * b2)) % a2 = 0) :
    ∀ x y, Ml (a1 * (a2 / (Int.gcd a1 a2 : Int))) c ((Int.gcd a1 a2 : Int) / (Int.gcd (Int.gcd a1 a2 : Int) (lv / d1 * b1 - lv / d2 * b2) : Int) * lv) x y ↔ Ml a1 b1 d1 x y ∧ Ml a2 b2 d2 x y := by
  obtain ⟨_, l1, l2⟩ := lcm_facts A1 A2
  obtain ⟨_, m1, m2⟩ := lcm_facts D1 D2
  have hld := fun z => lcm_dvd (x := a1) (y := a2) (z := z) A2
  have hmd := fun z => lcm_dvd (x := d1) (y := d2) (z := z) D2
  rw [← hlv] at m1 m2 hmd
  have g1 : (Int.gcd a1 a2 : Int) ∣ a1 := Int.gcd_dvd_left a1 a2
  have g2 : (Int.gcd a1 a2 : Int) ∣ a2 := Int.gcd_dvd_right a1 a2
  have hg : 1 ≤ (Int.gcd a1 a2 : Int) := by have := Int.gcd_pos_of_ne_zero_left a2 (show a1 ≠ 0 by omega); omega
  generalize a1 * (a2 / (Int.gcd a1 a2 : Int)) = A at *
  generalize (Int.gcd a1 a2 : Int) = g at *
  have key := fun t => dvd_line (b := lv / d1 * b1 - lv / d2 * b2) (p := g) (k := t) hg
  rw [Int.gcd_comm _ g] at key
  generalize g / (Int.gcd g (lv / d1 * b1 - lv / d2 * b2) : Int) = tm at *
  obtain ⟨e1, he1⟩ := m1
  obtain ⟨e2, he2⟩ := m2
  have q1 : lv / d1 = e1 := by rw [he1, Int.mul_ediv_cancel_left _ (by omega)]
  have q2 : lv / d2 = e2 := by rw [he2, Int.mul_ediv_cancel_left _ (by omega)]
  rw [q1, q2] at key
  rw [q1] at hc1
  rw [q2] at hc2
  obtain ⟨c1, hc1⟩ := Int.dvd_of_emod_eq_zero hc1
  obtain ⟨c2, hc2⟩ := Int.dvd_of_emod_eq_zero hc2
  obtain ⟨f1, hf1⟩ := l1
  obtain ⟨f2, hf2⟩ := l2
  intro x y
  constructor
  · rintro ⟨j, k, rfl, rfl⟩
    exact ⟨⟨f1 * j + c1 * k, tm * e1 * k, by grind, by grind⟩, ⟨f2 * j + c2 * k, tm * e2 * k, by grind, by grind⟩⟩
  · rintro ⟨⟨j1, k1, hx1, hy1⟩, j2, k2, hx2, hy2⟩
    obtain ⟨t, ht⟩ := hmd y ⟨k1, hy1⟩ ⟨k2, hy2⟩
    have hk1 : k1 = e1 * t := Int.eq_of_mul_eq_mul_left (show d1 ≠ 0 by omega) (by rw [← hy1, ht, he1, Int.mul_assoc])
    have hk2 : k2 = e2 * t := Int.eq_of_mul_eq_mul_left (show d2 ≠ 0 by omega) (by rw [← hy2, ht, he2, Int.mul_assoc])
    obtain ⟨h1, hh1⟩ := g1
    obtain ⟨h2, hh2⟩ := g2
    have hg : g ∣ (e1 * b1 - e2 * b2) * t := ⟨h2 * j2 - h1 * j1, cm1 (x := x) (by rw [← hk1]; exact hx1) (by rw [← hk2]; exact hx2) hh1 hh2⟩
    obtain ⟨k, hk⟩ := (key t).mp hg
    obtain ⟨j, hj⟩ := hld (x - c * k) ⟨j1 - c1 * k, cm2 (x := x) (by rw [← hk, ← hk1]; exact hx1) hc1⟩ ⟨j2 - c2 * k, cm2 (x := x) (by rw [← hk, ← hk2]; exact hx2) hc2⟩
    exact ⟨j, k, by omega, by rw [ht, hk, ← Int.mul_assoc, Int.mul_comm lv tm]⟩
theorem joined_iff {u v a c : Int} (D1 : 1 ≤ d1) (h : u * d1 + v * d2 = (Int.gcd d1 d2 : Int)) (ha : a = (Int.gcd (Int.gcd a1 a2 : Int) (d2 / (Int.gcd d1 d2 : Int) * b1 - d1 / (Int.gcd d1 d2 : Int) * b2) : Int)) (hc : c = (u * b1 + v * b2) % a) :
    ∀ x y, Ml a c (Int.gcd d1 d2 : Int) x y ↔ ∃ x1 y1 x2 y2, Ml a1 b1 d1 x1 y1 ∧ Ml a2 b2 d2 x2 y2 ∧ x = x1 + x2 ∧ y = y1 + y2 := by
  obtain ⟨e1, he1⟩ := Int.gcd_dvd_left d1 d2
  obtain ⟨e2, he2⟩ := Int.gcd_dvd_right d1 d2
  have hg : 1 ≤ (Int.gcd d1 d2 : Int) := by have := Int.gcd_pos_of_ne_zero_left d2 (show d1 ≠ 0 by omega); omega
  have q1 : d1 / (Int.gcd d1 d2 : Int) = e1 := div_of (by omega) he1
  have q2 : d2 / (Int.gcd d1 d2 : Int) = e2 := div_of (by omega) he2
  rw [q1, q2] at ha
  generalize (Int.gcd d1 d2 : Int) = g at *
  have ee : u * e1 + v * e2 = 1 := Int.eq_of_mul_eq_mul_left (show g ≠ 0 by omega) (by grind)
  obtain ⟨α, β, h1⟩ := bez a1 a2
  obtain ⟨γ, δ, h2⟩ := bez (Int.gcd a1 a2 : Int) (e2 * b1 - e1 * b2)
  have k1 : (Int.gcd a1 a2 : Int) ∣ a1 := Int.gcd_dvd_left a1 a2
  have k2 : (Int.gcd a1 a2 : Int) ∣ a2 := Int.gcd_dvd_right a1 a2
  have k3 : a ∣ (Int.gcd a1 a2 : Int) := by rw [ha]; exact Int.gcd_dvd_left _ _
  have k4 : a ∣ e2 * b1 - e1 * b2 := by rw [ha]; exact Int.gcd_dvd_right _ _
  rw [← ha] at h2
  generalize (Int.gcd a1 a2 : Int) = f at *
  obtain ⟨r1, k1⟩ := Int.dvd_trans k3 k1
  obtain ⟨r2, k2⟩ := Int.dvd_trans k3 k2
  obtain ⟨r4, k4⟩ := k4
  have hB := Int.emod_add_mul_ediv (u * b1 + v * b2) a
  rw [← hc] at hB
  generalize (u * b1 + v * b2) / a = t at *
  intro x y
  constructor
  · rintro ⟨j, k, rfl, rfl⟩
    generalize hz : j - t * k = z
    refine ⟨a1 * (γ * α * z) + b1 * (u * k + δ * e2 * z), d1 * (u * k + δ * e2 * z), a2 * (γ * β * z) + b2 * (v * k - δ * e1 * z), d2 * (v * k - δ * e1 * z), ⟨_, _, rfl, rfl⟩, ⟨_, _, rfl, rfl⟩, ?_, ?_⟩
    · grind
    · grind
  · rintro ⟨_, _, _, _, ⟨j1, k1', rfl, rfl⟩, ⟨j2, k2', rfl, rfl⟩, rfl, rfl⟩
    exact ⟨r1 * j1 + r2 * j2 + r4 * (k1' * v - k2' * u) + t * (e1 * k1' + e2 * k2'), e1 * k1' + e2 * k2', by grind, by grind⟩
/-- the areas go together -/
theorem areas {w w2 h h2 z : Int} (hw : 1 ≤ w) (hh : 1 ≤ h) : w * (w2 / (Int.gcd w w2 : Int)) * ((Int.gcd w w2 : Int) / (Int.gcd (Int.gcd w w2 : Int) z : Int) * (h * (h2 / (Int.gcd h h2 : Int)))) * ((Int.gcd (Int.gcd w w2 : Int) z : Int) * (Int.gcd h h2 : Int)) = w * h * (w2 * h2) := by
  have e1 : (Int.gcd w w2 : Int) * (w2 / (Int.gcd w w2 : Int)) = w2 := Int.mul_ediv_cancel' (Int.gcd_dvd_right w w2)
  have e2 : (Int.gcd (Int.gcd w w2 : Int) z : Int) * ((Int.gcd w w2 : Int) / (Int.gcd (Int.gcd w w2 : Int) z : Int)) = (Int.gcd w w2 : Int) := Int.mul_ediv_cancel' (Int.gcd_dvd_left _ _)
  have e3 : (Int.gcd h h2 : Int) * (h2 / (Int.gcd h h2 : Int)) = h2 := Int.mul_ediv_cancel' (Int.gcd_dvd_right h h2)
  generalize (Int.gcd (Int.gcd w w2 : Int) z : Int) = y at *
  generalize (Int.gcd w w2 : Int) / y = x at *
  generalize w2 / (Int.gcd w w2 : Int) = v at *
  generalize (Int.gcd w w2 : Int) = g at *
  generalize h2 / (Int.gcd h h2 : Int) = u at *
  generalize (Int.gcd h h2 : Int) = k at *
  subst e1 e2 e3
  grind
end
theorem com_eq {A C D w s h w2 s2 h2 : Int} (BC : LB A C D) (B1 : LB w s h) (B2 : LB w2 s2 h2) (mem : ∀ x y, Ml A C D x y ↔ Ml w s h x y ∧ Ml w2 s2 h2 x y) :
    decide (A = w ∧ C = s ∧ D = h) = (inL w2 s2 h2 (some (w, 0)) && inL w2 s2 h2 (some (s, h))) := by
  rw [Bool.eq_iff_iff, decide_eq_true_iff, le_iff B2]
  constructor
  · rintro ⟨e1, e2, e3⟩ x y m
    have := (mem x y).mp (by rw [e1, e2, e3]; exact m)
    exact this.2
  · intro g
    exact Ml.uniq BC B1 fun x y => (mem x y).trans ⟨fun m => m.1, fun m => ⟨m, g _ _ m⟩⟩
theorem joi_eq {J I G w s h w2 s2 h2 : Int} (BJ : LB J I G) (B1 : LB w s h) (mem : ∀ x y, Ml J I G x y ↔ ∃ x1 y1 x2 y2, Ml w s h x1 y1 ∧ Ml w2 s2 h2 x2 y2 ∧ x = x1 + x2 ∧ y = y1 + y2) :
    decide (J = w ∧ I = s ∧ G = h) = (inL w s h (some (w2, 0)) && inL w s h (some (s2, h2))) := by
  rw [Bool.eq_iff_iff, decide_eq_true_iff, le_iff B1]
  constructor
  · rintro ⟨e1, e2, e3⟩ x y m
    have := (mem x y).mpr ⟨0, 0, x, y, Ml.zero, m, by omega, by omega⟩
    rwa [e1, e2, e3] at this
  · intro g
    exact Ml.uniq BJ B1 fun x y => (mem x y).trans ⟨fun ⟨x1, y1, x2, y2, m1, m2, ex, ey⟩ => by rw [ex, ey]; exact m1.add (g _ _ m2), fun m => ⟨x, y, 0, 0, m, Ml.zero, by omega, by omega⟩⟩
end Iz
/-! S2 -/
set_option Elab.async false
set_option linter.all false
set_option maxRecDepth 100000
set_option maxHeartbeats 4000000
namespace Iz
open PySem PySem.Spec PyProof.Rows L2
/-! ### every second of a list: xs[::2], xs[1::2] -/
def ev2 {α : Type} : List α → List α
  | [] => []
  | [x] => [x]
  | x :: _ :: r => x :: ev2 r
theorem ev2_range {α : Type} : ∀ (l : List α) (n : Nat), n = (l.length + 1) / 2 → ((List.range n).filterMap fun k => l[2 * k]?) = ev2 l
  | [], n, h => by subst h; simp [ev2]
  | [x], n, h => by subst h; simp [ev2, List.range_succ]
  | x :: y :: r, n, h => by
    obtain ⟨m, rfl⟩ : ∃ m, n = m + 1 := ⟨(r.length + 1) / 2, by rw [h, List.length_cons, List.length_cons]; omega⟩
    rw [List.range_succ_eq_map, List.filterMap_cons, List.filterMap_map]
    show x :: _ = x :: ev2 r
    rw [← ev2_range r m (by rw [List.length_cons, List.length_cons] at h; omega)]
    rfl
theorem fm_congr {α β : Type} {f g : α → Option β} : ∀ {l : List α}, (∀ x ∈ l, f x = g x) → l.filterMap f = l.filterMap g
  | [], _ => rfl
  | x :: l, h => by
    rw [List.filterMap_cons, List.filterMap_cons, h x (List.mem_cons_self ..), fm_congr fun y hy => h y (List.mem_cons_of_mem _ hy)]
theorem pick_ev2 (items : Array Value) : slicePick items none none (some 2) = (ev2 items.toList).toArray := by
  unfold slicePick
  rw [show sliceBounds none none (some 2) items.size = (0, (items.size : Int), 2) from rfl]
  show ((sliceRange 0 (items.size : Int) 2).filterMap (items[·]?)).toArray = _
  rw [← ev2_range items.toList _ rfl]
  unfold sliceRange
  rw [List.filterMap_map]
  congr 1
  have e : (if (2 : Int) > 0 then (if (0 : Int) < (items.size : Int) then ((items.size : Int) - 0 + 2 - 1) / 2 else 0) else (if (0 : Int) > (items.size : Int) then (0 - (items.size : Int) - 2 - 1) / (-2) else 0)).toNat = (items.toList.length + 1) / 2 := by
    rw [Array.length_toList, if_pos (by decide)]
    split <;> omega
  simp only [e]
  refine fm_congr fun k _ => ?_
  show items[((0 : Int) + 2 * (k : Int)).toNat]? = _
  rw [show ((0 : Int) + 2 * (k : Int)).toNat = 2 * k by omega, Array.getElem?_toList]
theorem pick_od2 (items : Array Value) : slicePick items (some 1) none (some 2) = (ev2 items.toList.tail).toArray := by
  unfold slicePick
  rw [show sliceBounds (some 1) none (some 2) items.size = (max 0 (min 1 (items.size : Int)), (items.size : Int), 2) from rfl]
  show ((sliceRange (max 0 (min 1 (items.size : Int))) (items.size : Int) 2).filterMap (items[·]?)).toArray = _
  rw [← ev2_range items.toList.tail _ rfl]
  unfold sliceRange
  rw [List.filterMap_map]
  congr 1
  have e : (if (2 : Int) > 0 then (if max 0 (min 1 (items.size : Int)) < (items.size : Int) then ((items.size : Int) - max 0 (min 1 (items.size : Int)) + 2 - 1) / 2 else 0) else (if max 0 (min 1 (items.size : Int)) > (items.size : Int) then (max 0 (min 1 (items.size : Int)) - (items.size : Int) - 2 - 1) / (-2) else 0)).toNat = (items.toList.tail.length + 1) / 2 := by
    rw [List.length_tail, Array.length_toList, if_pos (by decide)]
    split <;> omega
  simp only [e]
  refine fm_congr fun k hk => ?_
  have hk := List.mem_range.mp hk
  rw [List.length_tail, Array.length_toList] at hk
  show items[((max 0 (min 1 (items.size : Int))) + 2 * (k : Int)).toNat]? = _
  rw [show ((max 0 (min 1 (items.size : Int))) + 2 * (k : Int)).toNat = 2 * k + 1 by omega, List.getElem?_tail, Array.getElem?_toList]
section
variable {X : Cx} {e : Expr} {te : TE}
/-- every second of a list, from the second or the first on -/
def tEv2 (o : Bool) (te : TE) : TE := fun σ H Q => te σ H fun x H1 => ∃ a xs, x = .ref a ∧ H1 a = some (.lst xs) ∧ News H1 (.lst (ev2 (if o = true then xs.tail else xs))) Q
theorem vals_tail : ∀ {xs : List V} {its : List Value}, Vals xs its → Vals xs.tail its.tail
  | _, _, .nil => .nil
  | _, _, .cons _ r => r
theorem vals_ev2 : ∀ {xs : List V} {its : List Value}, Vals xs its → Vals (ev2 xs) (ev2 its)
  | _, _, .nil => .nil
  | _, _, .cons h .nil => .cons h .nil
  | _, _, .cons h (.cons _ r) => .cons h (vals_ev2 r)
theorem ev2_len {α : Type} : ∀ l : List α, (ev2 l).length ≤ l.length
  | [] => Nat.le_refl _
  | [_] => Nat.le_refl _
  | x :: y :: r => by have := ev2_len r; simp only [ev2, List.length_cons]; omega
theorem pe_ev2L {k : Nat} {p1 p3 pos : Pos} (he : PE X e te) : PE X (.Subscript e (.Slice none none (some (.Constant (.int 2) k p1)) p3) pos) (tEv2 false te) := by
  refine ⟨fun pins s σ H Q I h => ?_⟩
  refine Subscript_ (thn (he.run pins s σ H _ I h) fun v s1 ⟨x, H1, I1, r1, q1⟩ => ?_)
  obtain ⟨a, xs, ex, hx, q⟩ := q1
  subst ex
  cases r1
  have hst : PO X (some (.Constant (.int 2) k p1)) (tPart (tC (.int 2))) := po_some pe_int
  refine wpAny_Slice (thn (po_none.run pins s1 σ H1 (fun o H2 => o = none ∧ H2 = H1) I1 ⟨rfl, rfl⟩) fun vl s2 ⟨l, H2, I2, pl, el, e2⟩ => ?_)
  subst el e2
  refine thn (po_none.run pins s2 σ H2 (fun o H3 => o = none ∧ H3 = H2) I2 ⟨rfl, rfl⟩) fun vu s3 ⟨u, H3, I3, pu, eu, e3⟩ => ?_
  subst eu e3
  refine thn (hst.run pins s3 σ H3 (fun o H4 => o = some 2 ∧ H4 = H3) I3 ⟨2, rfl, rfl, rfl⟩) fun vs s4 ⟨o, H4, I4, ps, eo, e4⟩ => ?_
  subst eo e4
  have I5 : Inv X pins σ H4 { s4 with heap := s4.heap.push { cls := .type "slice", data := .fields #[vl, vu, vs] } } := I4.kept (t' := s4.toks) fun b ob q => Heap.get?_push_of_some _ q
  obtain ⟨its, r, ht, hz⟩ := I5.list (SqL.of hx)
  have hlen := r.length
  show wpAny (model X.prog X.w) X.A (subscriptTail e (.Slice none none (some (.Constant (.int 2) k p1)) p3) (.ref a) (.ref s4.heap.objs.size)) (EP X pins σ Q) X.xe { s4 with heap := s4.heap.push { cls := .type "slice", data := .fields #[vl, vu, vs] } }
  refine tail_any (ops := [.ref a, .ref s4.heap.objs.size]) ht.isList.typeIs (PySem.slot_list_getitem.lookup) ?_ (by with_unfolding_all rfl)
  refine wpAny_getItem_list_slice ht.isList (Heap.IsSliceOf.new _ vl vu vs) pl pu ps (by decide) ?_ (by rw [List.size_toArray]; omega)
  rw [pick_ev2]
  refine ⟨.ref _, _, I5.laid (t' := s4.toks) (o := .lst (ev2 xs)) (fun b ob q => Heap.get?_push_of_some _ q) (Nat.le_refl _) ?_, rfl, q.all _ (I5.hok.fresh (Nat.le_refl _))⟩
  exact ⟨Nat.le_trans (ev2_len xs) hz, _, 0, vals_ev2 r, Heap.get?_push_size _ rfl⟩
theorem pe_od2L {k k0 : Nat} {p0 p1 p3 pos : Pos} (he : PE X e te) : PE X (.Subscript e (.Slice (some (.Constant (.int 1) k0 p0)) none (some (.Constant (.int 2) k p1)) p3) pos) (tEv2 true te) := by
  refine ⟨fun pins s σ H Q I h => ?_⟩
  refine Subscript_ (thn (he.run pins s σ H _ I h) fun v s1 ⟨x, H1, I1, r1, q1⟩ => ?_)
  obtain ⟨a, xs, ex, hx, q⟩ := q1
  subst ex
  cases r1
  have hst0 : PO X (some (.Constant (.int 1) k0 p0)) (tPart (tC (.int 1))) := po_some pe_int
  have hst : PO X (some (.Constant (.int 2) k p1)) (tPart (tC (.int 2))) := po_some pe_int
  refine wpAny_Slice (thn (hst0.run pins s1 σ H1 (fun o H2 => o = some 1 ∧ H2 = H1) I1 ⟨1, rfl, rfl, rfl⟩) fun vl s2 ⟨l, H2, I2, pl, el, e2⟩ => ?_)
  subst el e2
  refine thn (po_none.run pins s2 σ H2 (fun o H3 => o = none ∧ H3 = H2) I2 ⟨rfl, rfl⟩) fun vu s3 ⟨u, H3, I3, pu, eu, e3⟩ => ?_
  subst eu e3
  refine thn (hst.run pins s3 σ H3 (fun o H4 => o = some 2 ∧ H4 = H3) I3 ⟨2, rfl, rfl, rfl⟩) fun vs s4 ⟨o, H4, I4, ps, eo, e4⟩ => ?_
  subst eo e4
  have I5 : Inv X pins σ H4 { s4 with heap := s4.heap.push { cls := .type "slice", data := .fields #[vl, vu, vs] } } := I4.kept (t' := s4.toks) fun b ob q => Heap.get?_push_of_some _ q
  obtain ⟨its, r, ht, hz⟩ := I5.list (SqL.of hx)
  have hlen := r.length
  show wpAny (model X.prog X.w) X.A (subscriptTail e (.Slice (some (.Constant (.int 1) k0 p0)) none (some (.Constant (.int 2) k p1)) p3) (.ref a) (.ref s4.heap.objs.size)) (EP X pins σ Q) X.xe { s4 with heap := s4.heap.push { cls := .type "slice", data := .fields #[vl, vu, vs] } }
  refine tail_any (ops := [.ref a, .ref s4.heap.objs.size]) ht.isList.typeIs (PySem.slot_list_getitem.lookup) ?_ (by with_unfolding_all rfl)
  refine wpAny_getItem_list_slice ht.isList (Heap.IsSliceOf.new _ vl vu vs) pl pu ps (by decide) ?_ (by rw [List.size_toArray]; omega)
  rw [pick_od2]
  refine ⟨.ref _, _, I5.laid (t' := s4.toks) (o := .lst (ev2 xs.tail)) (fun b ob q => Heap.get?_push_of_some _ q) (Nat.le_refl _) ?_, rfl, q.all _ (I5.hok.fresh (Nat.le_refl _))⟩
  exact ⟨Nat.le_trans (ev2_len _) (Nat.le_trans (by rw [List.length_tail]; omega) hz), _, 0, vals_ev2 (vals_tail r), Heap.get?_push_size _ rfl⟩
end
end Iz
/-! Sm -/
set_option Elab.async false
set_option linter.all false
set_option maxRecDepth 100000
set_option maxHeartbeats 4000000
namespace Iz
abbrev Row := List (Option Int × Option Int)
def rb (R : List (Option Int × Option Int)) : List (Bd Bool) := R.map fun p => (p.1, p.2, true)
theorem rb_true {R : Row} : ∀ c ∈ rb R, c.2.2 ≠ false := fun c hc => by
  obtain ⟨p, _, rfl⟩ := List.mem_map.mp hc
  exact fun e => by cases e
theorem rb_inj {R S : Row} (h : rb R = rb S) : R = S := by
  have e : ∀ T : Row, (rb T).map (fun b => (b.1, b.2.1)) = T := fun T => by
    unfold rb
    rw [List.map_map]
    exact (List.map_congr_left fun p _ => rfl).trans (List.map_id T)
  rw [← e R, h, e S]
theorem row_uniq {R S : Row} (a : Can (rb R)) (b : Can (rb S)) (h : ∀ x, valB false (rb R) x = valB false (rb S) x) : R = S :=
  rb_inj (Can.uniq a b rb_true rb_true h)
def Mixed (ks : List (List Bool)) (A B R : Row) : Prop := Can (rb R) ∧ (∀ x, valB false (rb R) x = decide ([valB false (rb A) x, valB false (rb B) x] ∈ ks)) ∧ ∀ x, EndB (rb R) x → EndB (rb A) x ∨ EndB (rb B) x
def RowsGood (S : List (Bd Row)) : Prop := ∀ s ∈ S, Can (rb s.2.2) ∧ s.2.2.length ≤ 1000
/-! ### regions: the mathematics -/
section
variable {α : Type}
theorem count_drop {l h k : Int} (h1 : l ≤ k) (h2 : k < h) : ∀ {E : List Int}, k ∈ E → E.countP (fun x => decide (h ≤ x)) + 1 ≤ E.countP (fun x => decide (l ≤ x)) := by
  intro E
  induction E with
  | nil => intro m; simp at m
  | cons e E ih =>
    intro m
    have mono : E.countP (fun x => decide (h ≤ x)) ≤ E.countP (fun x => decide (l ≤ x)) := List.countP_mono_left fun x _ hx => by simp at hx ⊢; omega
    rw [List.countP_cons, List.countP_cons]
    rcases List.mem_cons.mp m with rfl | m
    · rw [if_neg (by simp; omega), if_pos (by simpa using h1)]; omega
    · have := ih m
      by_cases c : h ≤ e
      · rw [if_pos (by simpa using c), if_pos (by simp; omega)]; omega
      · rw [if_neg (by simpa using c)]; omega
theorem asc_count : ∀ {bs : List (Bd α)} {l : Int} {E : List Int}, AscB bs → (∀ b r, bs = b :: r → ∃ k, b.1 = some k ∧ l ≤ k) → (∀ x, EndB bs x → x ∈ E) → bs.length ≤ E.countP (fun x => decide (l ≤ x))
  | [], _, _, _, _, _ => by simp
  | b :: r, l, E, a, lo, en => by
    obtain ⟨k, ek, lk⟩ := lo b r rfl
    have mk : k ∈ E := en k ⟨b, by simp, .inl ek⟩
    cases eh : b.2.1 with
    | none =>
      rw [a.last eh]
      have : 0 < E.countP (fun x => decide (l ≤ x)) := List.countP_pos_iff.mpr ⟨k, mk, by simpa using lk⟩
      simpa using this
    | some h =>
      have kh : k < h := a.1 k h ek eh
      have := asc_count (l := h) (E := E) a.tail (a.next eh) (fun x ⟨c, hc, hx⟩ => en x ⟨c, by simp [hc], hx⟩)
      have := count_drop lk kh mk
      simp only [List.length_cons]; omega
theorem asc_len {bs : List (Bd α)} {E : List Int} (a : AscB bs) (en : ∀ x, EndB bs x → x ∈ E) : bs.length ≤ E.length + 1 := by
  cases bs with
  | nil => simp
  | cons b r =>
    cases eh : b.2.1 with
    | none => rw [a.last eh]; simp
    | some h =>
      have := asc_count (l := h) (E := E) a.tail (a.next eh) (fun x ⟨c, hc, hx⟩ => en x ⟨c, by simp [hc], hx⟩)
      have : E.countP (fun x => decide (h ≤ x)) ≤ E.length := List.countP_le_length
      simp only [List.length_cons]; omega
theorem asc_ge : ∀ {r : List (Bd α)} {b : Bd α} {h : Int}, AscB (b :: r) → b.2.1 = some h → ∀ c ∈ r, ∃ k, c.1 = some k ∧ h ≤ k
  | [], _, _, _, _, c, hc => by simp at hc
  | d :: r, b, h, a, e, c, hc => by
    obtain ⟨k, ek, hk⟩ := a.next e d r rfl
    rcases List.mem_cons.mp hc with rfl | hc
    · exact ⟨k, ek, hk⟩
    · cases ed : d.2.1 with
      | none => rw [a.tail.last ed] at hc; simp at hc
      | some h2 =>
        obtain ⟨k2, e2, l2⟩ := asc_ge a.tail ed c hc
        have := a.tail.1 k h2 ek ed
        exact ⟨k2, e2, by omega⟩
theorem asc_at {z : α} : ∀ {bs : List (Bd α)} {b : Bd α} {y : Int}, AscB bs → b ∈ bs → lies b.1 b.2.1 y = true → valB z bs y = b.2.2
  | c :: r, b, y, a, hb, hy => by
    rcases List.mem_cons.mp hb with rfl | hb
    · exact valB_in hy
    · cases eh : c.2.1 with
      | none => rw [a.last eh] at hb; simp at hb
      | some h =>
        obtain ⟨k, ek, hk⟩ := asc_ge a eh b hb
        have h1 := (lies_iff.mp hy).1 k ek
        rw [valB_out (fun q => by have := (lies_iff.mp q).2 h eh; omega)]
        exact asc_at a.tail hb hy
theorem okE_point {lo hi : Option Int} (h : okE lo hi) : ∃ y, lies lo hi y = true := by
  cases lo with
  | none => cases hi with
    | none => exact ⟨0, rfl⟩
    | some h' => exact ⟨h' - 1, by simp [lies, lowOk, highOk]; omega⟩
  | some l => exact ⟨l, lies_iff.mpr ⟨fun k e => by cases e; omega, fun k e => h l k rfl e⟩⟩
end
/-- whether slabs have a cell -/
def hasS (S : List (Bd Row)) (x y : Int) : Bool := valB false (rb (valB [] S y)) x
abbrev Box := (Option Int × Option Int) × (Option Int × Option Int)
def inBox (b : Box) (x y : Int) : Bool := lies b.1.1 b.1.2 x && lies b.2.1 b.2.2 y
def okBox (b : Box) : Prop := okE b.1.1 b.1.2 ∧ okE b.2.1 b.2.2
/-- slabs as they should be, all ends among these -/
structure GoodS (EX EY : List Int) (S : List (Bd Row)) : Prop where
  can : Can S
  nz : ∀ s ∈ S, s.2.2 ≠ []
  rows : ∀ y, Can (rb (valB [] S y))
  ex : ∀ y x, EndB (rb (valB [] S y)) x → x ∈ EX
  ey : ∀ y, EndB S y → y ∈ EY
section
variable {EX EY : List Int} {A B S : List (Bd Row)}
theorem rb_len {R : Row} : (rb R).length = R.length := by unfold rb; rw [List.length_map]
theorem GoodS.len (g : GoodS EX EY S) : S.length ≤ EY.length + 1 := asc_len g.can.asc g.ey
theorem GoodS.row_len (g : GoodS EX EY S) (y : Int) : (valB [] S y).length ≤ EX.length + 1 := by
  rw [← rb_len]; exact asc_len (g.rows y).asc (g.ex y)
theorem GoodS.rg (g : GoodS EX EY S) (h : EX.length ≤ 900) : RowsGood S := fun s hs => by
  obtain ⟨y, hy⟩ := okE_point (g.can.asc.oks s hs)
  have e := asc_at (z := ([] : Row)) g.can.asc hs hy
  have h1 := g.rows y
  have h2 := g.row_len y
  rw [e] at h1 h2
  exact ⟨h1, by omega⟩
theorem GoodS.uniq {EX' EY' : List Int} (a : GoodS EX EY A) (b : GoodS EX' EY' B) (h : ∀ x y, hasS A x y = hasS B x y) : A = B :=
  Can.uniq (z := ([] : Row)) a.can b.can a.nz b.nz fun y => row_uniq (a.rows y) (b.rows y) fun x => h x y
theorem GoodS.nil : GoodS EX EY [] := ⟨trivial, fun s h => by simp at h, fun y => trivial, fun y x ⟨b, h, _⟩ => by simp [valB, rb] at h, fun y ⟨b, h, _⟩ => by simp at h⟩
theorem hasS_nil {x y : Int} : hasS [] x y = false := rfl
theorem valB_one {α : Type} {z v : α} {lo hi : Option Int} {y : Int} : valB z [(lo, hi, v)] y = if lies lo hi y = true then v else z := rfl
theorem GoodS.one {x0 x1 y0 y1 : Option Int} (hx : okE x0 x1) (hy : okE y0 y1) (ix : ∀ e, x0 = some e ∨ x1 = some e → e ∈ EX) (iy : ∀ e, y0 = some e ∨ y1 = some e → e ∈ EY) : GoodS EX EY [(y0, y1, [(x0, x1)])] := by
  refine ⟨⟨hy, trivial, trivial⟩, fun s h => by rw [List.mem_singleton.mp h]; simp, fun y => ?_, fun y x => ?_, fun y ⟨b, h, e⟩ => by rw [List.mem_singleton.mp h] at e; exact iy y e⟩
  · rw [valB_one]; split
    · exact ⟨hx, trivial, trivial⟩
    · trivial
  · rw [valB_one]; split
    · rintro ⟨b, h, e⟩
      rw [show rb [(x0, x1)] = [(x0, x1, true)] from rfl, List.mem_singleton] at h
      subst h
      exact ix x e
    · rintro ⟨b, h, e⟩
      simp [rb] at h
theorem hasS_one {x0 x1 y0 y1 : Option Int} {x y : Int} : hasS [(y0, y1, [(x0, x1)])] x y = inBox ((x0, x1), (y0, y1)) x y := by
  unfold hasS inBox
  rw [valB_one]
  by_cases c : lies y0 y1 y = true
  · rw [if_pos c, show rb [(x0, x1)] = [(x0, x1, true)] from rfl, valB_one, c]
    by_cases d : lies x0 x1 x = true
    · simp [d]
    · simp [d]
  · rw [if_neg c]; simp only [Bool.not_eq_true] at c; rw [c]; simp [rb, valB]
/-- what is put together of two -/
theorem GoodS.mix {ks : List (List Bool)} (a : GoodS EX EY A) (b : GoodS EX EY B) (c : Can S) (nz : ∀ s ∈ S, s.2.2 ≠ []) (en : ∀ y, EndB S y → EndB A y ∨ EndB B y) (m : ∀ y, Mixed ks (valB [] A y) (valB [] B y) (valB [] S y)) : GoodS EX EY S :=
  ⟨c, nz, fun y => (m y).1, fun y x h => ((m y).2.2 x h).elim (a.ex y x) (b.ex y x), fun y h => (en y h).elim (a.ey y) (b.ey y)⟩
theorem GoodS.wide {EX' EY' : List Int} (a : GoodS EX EY A) (hx : ∀ x ∈ EX, x ∈ EX') (hy : ∀ y ∈ EY, y ∈ EY') : GoodS EX' EY' A := ⟨a.can, a.nz, a.rows, fun y x h => hx x (a.ex y x h), fun y h => hy y (a.ey y h)⟩
theorem has_mix {ks : List (List Bool)} (m : ∀ y, Mixed ks (valB [] A y) (valB [] B y) (valB [] S y)) (x y : Int) : hasS S x y = decide ([hasS A x y, hasS B x y] ∈ ks) := (m y).2.1 x
abbrev ksEither : List (List Bool) := [[true, false], [false, true], [true, true]]
abbrev ksBoth : List (List Bool) := [[true, true]]
abbrev ksButNot : List (List Bool) := [[true, false]]
theorem ks_either (a b : Bool) : decide ([a, b] ∈ ksEither) = (a || b) := by cases a <;> cases b <;> decide
theorem ks_both (a b : Bool) : decide ([a, b] ∈ ksBoth) = (a && b) := by cases a <;> cases b <;> decide
theorem ks_butnot (a b : Bool) : decide ([a, b] ∈ ksButNot) = (a && !b) := by cases a <;> cases b <;> decide
end
/-- the ends of boxes -/
def exB (B : List Box) : List Int := B.flatMap fun b => b.1.1.toList ++ b.1.2.toList
def eyB (B : List Box) : List Int := B.flatMap fun b => b.2.1.toList ++ b.2.2.toList
theorem len_o (o : Option Int) : o.toList.length ≤ 1 := by cases o <;> simp
theorem exB_len : ∀ B : List Box, (exB B).length ≤ 2 * B.length
  | [] => by simp [exB]
  | b :: B => by
    have := exB_len B
    have h1 := len_o b.1.1
    have h2 := len_o b.1.2
    unfold exB at *
    rw [List.flatMap_cons, List.length_append, List.length_append, List.length_cons]; omega
theorem eyB_len : ∀ B : List Box, (eyB B).length ≤ 2 * B.length
  | [] => by simp [eyB]
  | b :: B => by
    have := eyB_len B
    have h1 := len_o b.2.1
    have h2 := len_o b.2.2
    unfold eyB at *
    rw [List.flatMap_cons, List.length_append, List.length_append, List.length_cons]; omega
theorem mem_exB {B : List Box} {b : Box} (h : b ∈ B) {e : Int} (he : b.1.1 = some e ∨ b.1.2 = some e) : e ∈ exB B :=
  List.mem_flatMap.mpr ⟨b, h, List.mem_append.mpr (he.imp (fun q => by rw [q]; simp) (fun q => by rw [q]; simp))⟩
theorem mem_eyB {B : List Box} {b : Box} (h : b ∈ B) {e : Int} (he : b.2.1 = some e ∨ b.2.2 = some e) : e ∈ eyB B :=
  List.mem_flatMap.mpr ⟨b, h, List.mem_append.mpr (he.imp (fun q => by rw [q]; simp) (fun q => by rw [q]; simp))⟩
/-! ### lists halved -/
section
variable {α : Type}
theorem ev2_get : ∀ (l : List α) (i : Nat), (ev2 l)[i]? = l[2 * i]?
  | [], i => by simp [ev2]
  | [x], 0 => rfl
  | [x], i + 1 => by
    rw [show ev2 [x] = [x] from rfl, List.getElem?_eq_none (by simp), List.getElem?_eq_none (by simp; omega)]
  | x :: y :: r, 0 => rfl
  | x :: y :: r, i + 1 => by
    rw [show ev2 (x :: y :: r) = x :: ev2 r from rfl, List.getElem?_cons_succ, ev2_get r i, show 2 * (i + 1) = 2 * i + 1 + 1 by omega, List.getElem?_cons_succ, List.getElem?_cons_succ]
theorem ev2_lenN : ∀ (l : List α), (ev2 l).length = (l.length + 1) / 2
  | [] => by simp [ev2]
  | [x] => by simp [ev2]
  | x :: y :: r => by
    rw [show ev2 (x :: y :: r) = x :: ev2 r from rfl, List.length_cons, ev2_lenN r, List.length_cons, List.length_cons]; omega
theorem od2_get (l : List α) (i : Nat) : (ev2 l.tail)[i]? = l[2 * i + 1]? := by rw [ev2_get, List.getElem?_tail]
theorem od2_lenN (l : List α) : (ev2 l.tail).length = l.length / 2 := by rw [ev2_lenN, List.length_tail]; omega
theorem any_two {p : α → Bool} {l : List α} {i : Nat} {a b : α} (h1 : l[2 * i]? = some a) (h2 : l[2 * i + 1]? = some b) : (l.take (2 * (i + 1))).any p = ((l.take (2 * i)).any p || (p a || p b)) := by
  rw [show 2 * (i + 1) = 2 * i + 1 + 1 by omega, List.take_succ, List.take_succ, h1, h2]
  simp [Bool.or_assoc]
theorem any_split {p : α → Bool} (l : List α) (n : Nat) : l.any p = ((l.take n).any p || (l.drop n).any p) := by
  rw [← List.any_append, List.take_append_drop]
end
section
variable {α : Type}
theorem asc_idx : ∀ {bs : List (Bd α)} {i j : Nat} {b c : Bd α}, AscB bs → i < j → bs[i]? = some b → bs[j]? = some c → ∃ h l, b.2.1 = some h ∧ c.1 = some l ∧ h ≤ l
  | [], _, _, _, _, _, _, h, _ => by simp at h
  | d :: r, 0, j + 1, b, c, a, _, hb, hc => by
    cases hb
    have hc : r[j]? = some c := hc
    cases eh : d.2.1 with
    | none => rw [a.last eh] at hc; simp at hc
    | some h =>
      obtain ⟨k, ek, hk⟩ := asc_ge a eh c (List.mem_of_getElem? hc)
      exact ⟨h, k, rfl, ek, hk⟩
  | d :: r, i + 1, j + 1, b, c, a, ij, hb, hc => asc_idx (bs := r) a.tail (by omega) hb hc
end
/-- how a row is searched -/
structure Srch (E : Row) (n : Int) (lo hi : Nat) : Prop where
  le : lo ≤ hi
  top : hi ≤ E.length
  a : ∀ (i : Nat) p, i < lo → E[i]? = some p → ∃ h, p.2 = some h ∧ h ≤ n
  b : ∀ (i : Nat) p, hi ≤ i → E[i]? = some p → ∀ h, p.2 = some h → n < h
section
variable {E : Row} {n : Int} {lo hi m : Nat} {p : Option Int × Option Int}
theorem Srch.start : Srch E n 0 E.length := ⟨Nat.zero_le _, Nat.le_refl _, fun i p h => absurd h (by omega), fun i p h e => by rw [List.getElem?_eq_none h] at e; cases e⟩
theorem rb_get {i : Nat} (h : E[i]? = some p) : (rb E)[i]? = some (p.1, p.2, true) := by unfold rb; rw [List.getElem?_map, h]; rfl
theorem Srch.right (s : Srch E n lo hi) (asc : AscB (rb E)) (h1 : m < hi) (hm : E[m]? = some p) {h : Int} (eh : p.2 = some h) (hn : h ≤ n) : Srch E n (m + 1) hi := by
  refine ⟨h1, s.top, fun i r hi hr => ?_, s.b⟩
  by_cases c : i = m
  · subst c; rw [hm] at hr; cases hr; exact ⟨h, eh, hn⟩
  · obtain ⟨h', l, e1, e2, e3⟩ := asc_idx asc (show i < m by omega) (rb_get hr) (rb_get hm)
    have := asc.oks _ (List.mem_of_getElem? (rb_get hm)) l h e2 eh
    exact ⟨h', e1, by omega⟩
theorem Srch.left (s : Srch E n lo hi) (asc : AscB (rb E)) (h0 : lo ≤ m) (h1 : m < hi) (hm : E[m]? = some p) (hn : ∀ h, p.2 = some h → n < h) : Srch E n lo m := by
  refine ⟨h0, by have := s.top; omega, s.a, fun i r hi hr h eh => ?_⟩
  by_cases c : i = m
  · subst c; rw [hm] at hr; cases hr; exact hn h eh
  · obtain ⟨h', l, e1, e2, e3⟩ := asc_idx asc (show m < i by omega) (rb_get hm) (rb_get hr)
    have := asc.oks _ (List.mem_of_getElem? (rb_get hr)) l h e2 eh
    have := hn h' e1
    omega
theorem Srch.none (s : Srch E n lo hi) (e : lo = E.length) : ∀ p ∈ E, lies p.1 p.2 n = false := fun p hp => by
  obtain ⟨i, hi⟩ := List.getElem?_of_mem hp
  have := (List.getElem?_eq_some_iff.mp hi).1
  obtain ⟨h, e1, e2⟩ := s.a i p (by omega) hi
  rw [Bool.eq_false_iff]
  intro q
  have := (lies_iff.mp q).2 h e1
  omega
theorem Srch.not (s : Srch E n lo lo) (asc : AscB (rb E)) (hm : E[lo]? = some p) {l : Int} (el : p.1 = some l) (ln : n < l) : ∀ p ∈ E, lies p.1 p.2 n = false := fun r hr => by
  obtain ⟨i, hi⟩ := List.getElem?_of_mem hr
  rw [Bool.eq_false_iff]
  intro q
  obtain ⟨q1, q2⟩ := lies_iff.mp q
  by_cases c : i < lo
  · obtain ⟨h, e1, e2⟩ := s.a i r c hi
    have := q2 h e1
    omega
  · by_cases c2 : i = lo
    · subst c2; rw [hm] at hi; cases hi
      have := q1 l el
      omega
    · obtain ⟨h', l', e1, e2, e3⟩ := asc_idx asc (show lo < i by omega) (rb_get hm) (rb_get hi)
      have := asc.oks _ (List.mem_of_getElem? (rb_get hm)) l h' el e1
      have := q1 l' e2
      omega
theorem Srch.yes (s : Srch E n lo lo) (hm : E[lo]? = some p) (hl : ∀ l, p.1 = some l → l ≤ n) : lies p.1 p.2 n = true := lies_iff.mpr ⟨hl, s.b lo p (Nat.le_refl _) hm⟩
end
section
open PySem PySem.Spec PyProof.Rows L2
variable {X : Cx} {k : Nat} {x : Str} {ps : List Str} {sp : Sp} {E : XK} {p pos : Pos}
/-- f() -/
theorem pcl0 {CX : CXT} (O : OkF X.prog X.w X.K X.mg X.base CX k x ps sp) (hr : Room k X.A) (hx : Passes CX X E) (hg : Gl X x := by rfl) (hdb : (x == ("__debug__" : Str)) = false := by decide) : PE X (.Call (.Name x p) [] [] pos) (tCall sp [] E tNil) := by
  obtain ⟨f, fd, g, kp, b, G⟩ := O.ex
  exact pe_call0 G hr hg g kp b .nil hx hdb
theorem op_ownInK {CX : CXT} {K : PySem.W.Frag} (hK : X.K = K) (O : OkM X.prog X.w X.K X.mg X.base CX k x "__contains__" ps [] sp) (hr : Room k X.A) (hx : Passes CX X E) : OpR X (compareOp .In) (rOwnIn (He.ga K x) false sp E) := hK ▸ op_ownIn O hr hx
end
open PySem PySem.Spec PyProof.Rows L2 in
theorem sqT_fr {K : PySem.W.Frag} {H : Hp} {t : Addr} {od : Option Addr} {its : Array Value} {n : Nat} {sl : Array (Option Value)} {xs : List V} (h : K.lookup t = some ⟨.type "tuple", od, .seq its n, sl⟩) (hz : its.size ≤ sizeLine) (v : Vals xs its.toList) : SqT K H t xs := .inr ⟨_, its, n, h, rfl, rfl, hz, v⟩
section
open PySem PySem.Spec PyProof.Rows L2
/-- xs.pop(i) -/
def tPopI (to : TE) (ta : TA) : TE := fun σ H Q => to σ H fun x H1 => ∃ l, x = .ref l ∧ (∃ xs, H1 l = some (.lst xs)) ∧ ta σ H1 fun vs H2 => ∃ (i : Int) (xs : List V) (y : V), vs = [.int i] ∧ H2 l = some (.lst xs) ∧ 0 ≤ i ∧ i < xs.length ∧ i < 1000000 ∧ xs[i.toNat]? = some y ∧ ∀ H3, Put H2 H3 l (.lst (xs.eraseIdx i.toNat)) → Q y H3
theorem pe_popI {X : Cx} {o e : Expr} {to : TE} {ta : TA} {apos cpos : Pos} (ho : PE X o to) (ha : PA X [e] ta)
    (hbase : attributeBase o "pop" X.env (eval o X.env) = eval o X.env := by rfl)
    (hfew : ((backTo cpos (starEach [e] X.env)).all (fun x => !x.1) && (backToKw cpos (keywordEach [] X.env)).all (fun x => x.1.isSome) && decide ([e].length + ([] : List Keyword).length + (if ([] : List Keyword).isEmpty then 0 else 1) < 30)) = true := by rfl)
    (hline : (apos.endLine == cpos.line) = true := by rfl) (hs : starEach [e] X.env = (false, eval e X.env) :: starEach [] X.env := by rfl) (hplain : (backTo cpos (starEach [] X.env)).any (·.1) = false := by rfl) :
    PE X (.Call (.Attribute o "pop" apos) [e] [] cpos) (tPopI to ta) :=
  PE.imp (pe_bm PySem.F.plainAttrs_list PySem.F.slot_list_pop PySem.F.type_list_pop mt_popAt (PE.mcl ho) (PA.mcl ha) hbase hfew hline hs hplain) fun σ H Q q =>
    ⟨_, q, fun x H1 ⟨l, hx, ⟨xs, hl⟩, q⟩ => by subst hx; exact ⟨.inl ⟨rfl, xs, SqL.of hl⟩, _, q, fun vs H2 ⟨i, xs, y, a, b, c0, c1, c2, d, q⟩ => ⟨l, xs, i, i.toNat, y, rfl, a, b, by omega, by omega, by
      unfold seqIndex?
      rw [if_neg (show ¬ i < 0 by omega)]
      simp only [Bool.and_eq_true, decide_eq_true_eq]
      rw [if_pos ⟨c0, c1⟩], d, q _ ⟨upd_same, fun _ h => upd_ne h⟩⟩⟩⟩
end
section
open PySem PySem.Spec PyProof.Rows L2
theorem pi_listK {X : Cx} {K : PySem.W.Frag} {tg l : Expr} {tl : TE} (hK : X.K = K) (h : PE X l tl) : PI X tg l (iList K tl) := hK ▸ pi_list h
theorem pi_tupK {X : Cx} {K : PySem.W.Frag} {tg l : Expr} {tl : TE} (hK : X.K = K) (h : PE X l tl) : PI X tg l (iTup K tl) := hK ▸ pi_tup h
end
end Iz
/-! Gr -/
set_option Elab.async false
set_option linter.all false
set_option maxRecDepth 100000
set_option maxHeartbeats 4000000
namespace Iz
/-! ### a window of cells, told by bands -/
section
variable {β : Type}
def e17 : List Int := (List.range 17).map fun (k : Nat) => -8 + (k : Int)
def clampI (y : Int) : Int := if y < -8 then -9 else if 8 ≤ y then 8 else y
theorem cut_range : ∀ (n : Nat) (a y : Int) (lo : Option Int), 1 ≤ n → cutAt lo ((List.range n).map fun (k : Nat) => a + (k : Int)) y = if y < a then lo else some (if a + n ≤ y then a + n - 1 else y)
  | 1, a, y, lo, _ => by
    simp only [List.range_one, List.map_cons, List.map_nil, cutAt]
    by_cases c : a + (0 : Nat) ≤ y
    · rw [if_pos c, if_neg (by omega)]
      congr 1
      split <;> omega
    · rw [if_neg c, if_pos (by omega)]
  | n + 2, a, y, lo, _ => by
    have ih := cut_range (n + 1) (a + 1) y (some a) (by omega)
    rw [List.range_succ_eq_map, List.map_cons, List.map_map]
    have e : (List.range (n + 1)).map ((fun (k : Nat) => a + (k : Int)) ∘ Nat.succ) = (List.range (n + 1)).map fun (k : Nat) => a + 1 + (k : Int) := List.map_congr_left fun k _ => by
      show a + ((k + 1 : Nat) : Int) = _
      omega
    rw [e]
    unfold cutAt
    by_cases c : a + (0 : Nat) ≤ y
    · rw [if_pos c, if_neg (by omega), show a + ((0 : Nat) : Int) = a by omega, ih]
      by_cases d : y < a + 1
      · rw [if_pos d, if_neg (by omega)]; congr 1; omega
      · rw [if_neg d]
        congr 1
        by_cases f : a + 1 + ((n + 1 : Nat) : Int) ≤ y
        · rw [if_pos f, if_pos (by omega)]; omega
        · rw [if_neg f, if_neg (by omega)]
    · rw [if_neg c, if_pos (by omega)]
theorem up_range : ∀ (n : Nat) (a : Int) (lo : Option Int), (∀ l, lo = some l → l < a) → Up lo ((List.range n).map fun (k : Nat) => a + (k : Int))
  | 0, _, _, _ => trivial
  | n + 1, a, lo, h => by
    rw [List.range_succ_eq_map, List.map_cons, List.map_map]
    have e : (List.range n).map ((fun (k : Nat) => a + (k : Int)) ∘ Nat.succ) = (List.range n).map fun (k : Nat) => a + 1 + (k : Int) := List.map_congr_left fun k _ => by
      show a + ((k + 1 : Nat) : Int) = _
      omega
    rw [e]
    refine ⟨fun l hl => by have := h l hl; omega, up_range n (a + 1) _ fun l hl => by cases hl; omega⟩
theorem up17 : Up none e17 := up_range 17 (-8) none fun l h => by cases h
theorem mem17 {x : Int} : x ∈ e17 ↔ -8 ≤ x ∧ x ≤ 8 := by
  unfold e17
  rw [List.mem_map]
  constructor
  · rintro ⟨k, hk, rfl⟩
    have := List.mem_range.mp hk
    omega
  · rintro ⟨h1, h2⟩
    exact ⟨(x + 8).toNat, List.mem_range.mpr (by omega), by omega⟩
def lowOf (j : Nat) : Option Int := if j = 0 then none else some ((j : Int) - 9)
def hiOf (j : Nat) : Option Int := if j = 18 then none else some ((j : Int) - 9)
/-- the window as bands: column by column, the first and the last one without end -/
def tl (f : Int → β) : List (Bd β) := tileF (fun c => f (c.getD (-9))) none e17
theorem tl_len {f : Int → β} : (tl f).length = 18 := by unfold tl; rw [tile_len]; rfl
theorem e17_get {j : Nat} (h : j < 17) : e17[j]? = some ((j : Int) - 8) := by
  unfold e17
  rw [List.getElem?_map, List.getElem?_range h]
  simp; omega
theorem tl_get {f : Int → β} {j : Nat} (h : j < 18) : (tl f)[j]? = some (lowOf j, hiOf (j + 1), f ((j : Int) - 9)) := by
  have h1 : (none :: e17.map some)[j]? = some (lowOf j) := by
    cases j with
    | zero => rfl
    | succ j =>
      rw [List.getElem?_cons_succ, List.getElem?_map, e17_get (by omega)]
      unfold lowOf
      rw [if_neg (by omega)]
      simp; omega
  have h2 : (e17.map some ++ [none])[j]? = some (hiOf (j + 1)) := by
    by_cases c : j < 17
    · rw [List.getElem?_append_left (by simp [e17]; exact c), List.getElem?_map, e17_get c]
      unfold hiOf
      rw [if_neg (by omega)]
      simp; omega
    · obtain rfl : j = 17 := by omega
      rfl
  have := tile_get (f := fun c => f (c.getD (-9))) h1 h2
  unfold tl
  rw [this]
  congr 3
  unfold lowOf
  split
  · rename_i e; subst e; rfl
  · rfl
theorem tl_val {z : β} {f : Int → β} (y : Int) : valB z (tl f) y = f (clampI y) := by
  unfold tl
  rw [tile_val up17 rfl]
  unfold e17
  rw [cut_range 17 (-8) y none (by omega)]
  unfold clampI
  by_cases c : y < -8
  · rw [if_pos c, if_pos c]; rfl
  · rw [if_neg c, if_neg c]
    by_cases d : 8 ≤ y
    · rw [if_pos d]
      show f (if _ then _ else _) = _
      split
      · rfl
      · congr 1; omega
    · rw [if_neg d]
      show f (if _ then _ else _) = _
      rw [if_neg (by omega)]
theorem tl_tile {f : Int → β} : Tile none (tl f) := tile_ok up17
theorem tl_ends {f : Int → β} {x : Int} (h : EndB (tl f) x) : x ∈ e17 := (tileF_ends h).resolve_left fun h => by cases h
variable [DecidableEq β]
def Jn (z : β) (f : Int → β) (i : Nat) : List (Bd β) := ((tl f).take i).foldl (stepJ z) []
theorem Jn_succ {z : β} {f : Int → β} {i : Nat} (h : i < 18) : Jn z f (i + 1) = stepJ z (Jn z f i) (lowOf i, hiOf (i + 1), f ((i : Int) - 9)) := by
  unfold Jn
  rw [List.take_succ, tl_get h, List.foldl_append]; rfl
theorem Jn_all {z : β} {f : Int → β} : Jn z f 18 = joinB z (tl f) := by
  unfold Jn joinB
  rw [List.take_of_length_le (by rw [tl_len]; exact Nat.le_refl _)]
theorem step_nil {z : β} {acc : List (Bd β)} {b : Bd β} (h : b.2.2 = z) : stepJ z acc b = acc := by unfold stepJ; rw [if_pos h]
theorem step_app {z : β} {acc : List (Bd β)} {b : Bd β} (h : b.2.2 ≠ z) (n : ∀ c, acc.getLast? = some c → ¬ (c.2.1 = b.1 ∧ c.2.2 = b.2.2)) : stepJ z acc b = acc ++ [b] := by
  unfold stepJ
  rw [if_neg h]
  cases e : acc.getLast? with
  | none => rfl
  | some c => show (if _ then _ else _) = _; rw [if_neg (n c e)]
theorem step_merge {z : β} {acc : List (Bd β)} {b c : Bd β} (h : b.2.2 ≠ z) (h1 : c.2.1 = b.1) (h2 : c.2.2 = b.2.2) : stepJ z (acc ++ [c]) b = acc ++ [(c.1, b.2.1, b.2.2)] := by
  unfold stepJ
  rw [if_neg h, List.getLast?_concat]
  show (if _ then _ else _) = _
  rw [if_pos ⟨h1, h2⟩, List.dropLast_concat]
end
theorem low_hi {i : Nat} (h0 : 0 < i) (h : i < 18) : hiOf i = lowOf i := by unfold hiOf lowOf; rw [if_neg (by omega), if_neg (by omega)]
theorem rb_snoc {R : Row} {p : Option Int × Option Int} : rb (R ++ [p]) = rb R ++ [(p.1, p.2, true)] := by simp [rb]
theorem rb_last {R : Row} {c : Bd Bool} (h : (rb R).getLast? = some c) : ∃ p ∈ R, c = (p.1, p.2, true) := by
  obtain ⟨p, hp, e⟩ := List.mem_map.mp (List.mem_of_getLast? h)
  exact ⟨p, hp, e.symm⟩
/-- the runs told so far, and where the one begins that stands open -/
def RunI (g : Int → Bool) (i : Nat) (acc : Row) : Option Nat → Prop
  | none => Jn false g i = rb acc ∧ ∀ p ∈ acc, ∃ h, p.2 = some h ∧ h + 9 < i
  | some s => s < i ∧ Jn false g i = rb acc ++ [(lowOf s, hiOf i, true)] ∧ ∀ p ∈ acc, ∃ h, p.2 = some h ∧ h + 9 < s
section
variable {g : Int → Bool} {i s : Nat} {acc : Row}
theorem RunI.start : RunI g 0 [] none := ⟨rfl, fun p h => by simp at h⟩
theorem RunI.off (R : RunI g i acc none) (h : i < 18) (e : g ((i : Int) - 9) = false) : RunI g (i + 1) acc none :=
  ⟨by rw [Jn_succ h, step_nil e]; exact R.1, fun p hp => let ⟨h, e1, e2⟩ := R.2 p hp; ⟨h, e1, by omega⟩⟩
theorem RunI.open' (R : RunI g i acc none) (h : i < 18) (e : g ((i : Int) - 9) = true) : RunI g (i + 1) acc (some i) := by
  refine ⟨by omega, ?_, R.2⟩
  rw [Jn_succ h, R.1, step_app (by show g _ ≠ false; rw [e]; decide) fun c hc => ?_, e]
  obtain ⟨p, hp, rfl⟩ := rb_last hc
  obtain ⟨k, e1, e2⟩ := R.2 p hp
  rintro ⟨q, _⟩
  have q : p.2 = lowOf i := q
  rw [e1] at q
  unfold lowOf at q
  split at q
  · cases q
  · cases q; omega
theorem RunI.on (R : RunI g i acc (some s)) (h : i < 18) (e : g ((i : Int) - 9) = true) : RunI g (i + 1) acc (some s) := by
  obtain ⟨h1, h2, h3⟩ := R
  refine ⟨by omega, ?_, h3⟩
  rw [Jn_succ h, h2, step_merge (by show g _ ≠ false; rw [e]; decide) (low_hi (by omega) h) e.symm, e]
theorem RunI.close (R : RunI g i acc (some s)) (h : i < 18) (e : g ((i : Int) - 9) = false) : RunI g (i + 1) (acc ++ [(lowOf s, hiOf i)]) none := by
  obtain ⟨h1, h2, h3⟩ := R
  refine ⟨by rw [Jn_succ h, step_nil e, h2, rb_snoc], fun p hp => ?_⟩
  rcases List.mem_append.mp hp with hp | hp
  · obtain ⟨k, e1, e2⟩ := h3 p hp
    exact ⟨k, e1, by omega⟩
  · rw [List.mem_singleton.mp hp]
    refine ⟨(i : Int) - 9, ?_, by omega⟩
    show hiOf i = _
    unfold hiOf
    rw [if_neg (by omega)]
theorem RunI.end_none (R : RunI g 18 acc none) : rb acc = joinB false (tl g) := by rw [← Jn_all]; exact R.1.symm
theorem RunI.end_some (R : RunI g 18 acc (some s)) : rb (acc ++ [(lowOf s, none)]) = joinB false (tl g) := by rw [← Jn_all, rb_snoc]; exact R.2.1.symm
end
/-- the slabs told so far, and the row at which the one begins that stands open -/
def SlabI (F : Int → Row) (i s : Nat) (acc : List (Bd Row)) : Prop :=
  s < i ∧ Jn [] F i = acc ++ (if F ((s : Int) - 9) = [] then [] else [(lowOf s, hiOf i, F ((s : Int) - 9))]) ∧ ∀ b ∈ acc, ∃ h, b.2.1 = some h ∧ h + 9 ≤ s
section
variable {F : Int → Row} {i s : Nat} {acc : List (Bd Row)}
theorem SlabI.start : SlabI F 1 0 [] := by
  refine ⟨by omega, ?_, fun b h => by simp at h⟩
  rw [Jn_succ (i := 0) (by omega)]
  by_cases c : F (((0 : Nat) : Int) - 9) = []
  · rw [if_pos c, step_nil c]; rfl
  · rw [if_neg c, step_app c (fun c h => by simp [Jn] at h)]; rfl
theorem SlabI.same (S : SlabI F i s acc) (h : i < 18) (e : F ((i : Int) - 9) = F ((s : Int) - 9)) : SlabI F (i + 1) s acc := by
  obtain ⟨h1, h2, h3⟩ := S
  refine ⟨by omega, ?_, h3⟩
  rw [Jn_succ h, h2, e]
  by_cases c : F ((s : Int) - 9) = []
  · rw [if_pos c, if_pos c, step_nil c]
  · rw [if_neg c, if_neg c]
    exact step_merge (c := (lowOf s, hiOf i, F ((s : Int) - 9))) (b := (lowOf i, hiOf (i + 1), F ((s : Int) - 9))) c (low_hi (by omega) h) rfl
theorem SlabI.new (S : SlabI F i s acc) (h : i < 18) (e : F ((i : Int) - 9) ≠ F ((s : Int) - 9)) : SlabI F (i + 1) i (acc ++ (if F ((s : Int) - 9) = [] then [] else [(lowOf s, hiOf i, F ((s : Int) - 9))])) := by
  obtain ⟨h1, h2, h3⟩ := S
  refine ⟨by omega, ?_, fun b hb => ?_⟩
  · rw [Jn_succ h, ← h2]
    by_cases c : F ((i : Int) - 9) = []
    · rw [if_pos c, step_nil c, List.append_nil]
    · rw [if_neg c, step_app c fun d hd => ?_]
      rintro ⟨q1, q2⟩
      rw [h2] at hd
      by_cases k : F ((s : Int) - 9) = []
      · rw [if_pos k, List.append_nil] at hd
        obtain ⟨x, e1, e2⟩ := h3 d (List.mem_of_getLast? hd)
        have q1 : d.2.1 = lowOf i := q1
        rw [e1] at q1
        unfold lowOf at q1
        rw [if_neg (by omega)] at q1
        cases q1; omega
      · rw [if_neg k, List.getLast?_concat] at hd
        cases hd
        exact e q2.symm
  · rcases List.mem_append.mp hb with hb | hb
    · obtain ⟨x, e1, e2⟩ := h3 b hb
      exact ⟨x, e1, by omega⟩
    · split at hb
      · simp at hb
      · rw [List.mem_singleton.mp hb]
        refine ⟨(i : Int) - 9, ?_, by omega⟩
        show hiOf i = _
        unfold hiOf
        rw [if_neg (by omega)]
theorem SlabI.end' (S : SlabI F 18 s acc) : acc ++ (if F ((s : Int) - 9) = [] then [] else [(lowOf s, none, F ((s : Int) - 9))]) = joinB [] (tl F) := by rw [← Jn_all]; exact S.2.1.symm
end
/-- the row that runs tell -/
def rowF (g : Int → Bool) : Row := (joinB false (tl g)).map fun b => (b.1, b.2.1)
theorem rb_rowF (g : Int → Bool) : rb (rowF g) = joinB false (tl g) := by
  have nz := (joinB_ok (z := false) (tl_tile (f := g))).2.1
  unfold rb rowF
  rw [List.map_map]
  refine (List.map_congr_left fun b hb => ?_).trans (List.map_id _)
  have := nz b hb
  obtain ⟨x, y, w⟩ := b
  cases w
  · exact absurd rfl this
  · rfl
/-- the slabs that a grid tells -/
def slabsF (G : Int → Int → Bool) : List (Bd Row) := joinB [] (tl fun y => rowF fun x => G x y)
def wideE (e : Int) : Prop := -8 ≤ e ∧ e ≤ 8
def wideO : Option Int → Prop
  | none => True
  | some e => wideE e
def wideB (b : Box) : Prop := wideO b.1.1 ∧ wideO b.1.2 ∧ wideO b.2.1 ∧ wideO b.2.2
theorem lies_clamp {lo hi : Option Int} (h1 : wideO lo) (h2 : wideO hi) (x : Int) : lies lo hi (clampI x) = lies lo hi x := by
  have a : lowOk lo (clampI x) = lowOk lo x := by
    cases lo with
    | none => rfl
    | some l =>
      have : -8 ≤ l ∧ l ≤ 8 := h1
      show decide (l ≤ clampI x) = decide (l ≤ x)
      unfold clampI
      congr 1
      refine propext ?_
      split
      · omega
      · split <;> omega
  have b : highOk hi (clampI x) = highOk hi x := by
    cases hi with
    | none => rfl
    | some l =>
      have : -8 ≤ l ∧ l ≤ 8 := h2
      show decide (clampI x < l) = decide (x < l)
      unfold clampI
      congr 1
      refine propext ?_
      split
      · omega
      · split <;> omega
  unfold lies
  rw [a, b]
def gridB (B : List Box) (x y : Int) : Bool := B.any fun b => inBox b x y
theorem grid_clamp {B : List Box} (h : ∀ b ∈ B, wideB b) (x y : Int) : gridB B (clampI x) (clampI y) = gridB B x y := by
  unfold gridB
  induction B with
  | nil => rfl
  | cons b B ih =>
    obtain ⟨h1, h2, h3, h4⟩ := h b (by simp)
    rw [List.any_cons, List.any_cons, ih fun c hc => h c (by simp [hc])]
    unfold inBox
    rw [lies_clamp h1 h2, lies_clamp h3 h4]
theorem slabsF_has (G : Int → Int → Bool) (x y : Int) : hasS (slabsF G) x y = G (clampI x) (clampI y) := by
  unfold hasS slabsF
  rw [(joinB_ok (z := ([] : Row)) tl_tile).2.2, tl_val, rb_rowF, (joinB_ok (z := false) tl_tile).2.2, tl_val]
theorem slabsF_good (G : Int → Int → Bool) : GoodS e17 e17 (slabsF G) := by
  obtain ⟨j1, j2, j3⟩ := joinB_ok (z := ([] : Row)) (tl_tile (f := fun y => rowF fun x => G x y))
  have r : ∀ y, rb (valB [] (slabsF G) y) = joinB false (tl fun x => G x (clampI y)) := fun y => by
    unfold slabsF
    rw [j3, tl_val, rb_rowF]
  refine ⟨j1, j2, fun y => ?_, fun y x h => ?_, fun y h => tl_ends (joinB_ends h)⟩
  · rw [r]; exact (joinB_ok tl_tile).1
  · rw [r] at h; exact tl_ends (joinB_ends h)
theorem slabsF_eq {EX EY : List Int} {S : List (Bd Row)} {B : List Box} (g : GoodS EX EY S) (h : ∀ x y, hasS S x y = gridB B x y) (w : ∀ b ∈ B, wideB b) : S = slabsF (gridB B) :=
  g.uniq (slabsF_good _) fun x y => by rw [h, slabsF_has, grid_clamp w]
end Iz
/-! Iv -/
set_option Elab.async false
set_option linter.all false
set_option maxRecDepth 100000
set_option maxHeartbeats 4000000
namespace Iz
open PySem PySem.Spec PyProof.Rows L2
open He (ga)
/-! ### ~ of an own object -/
section
variable {X : Cx} {CX : CXT} {k : Nat} {x m : Str} {ps : List Str} {sp : Sp} {E : XK}
theorem own_call1 {f a : Addr} {fd : FuncData} {pins : List (Addr × Obj)} {σ : L2.St} {H : Hp} {s : Shared} {Q : VK} {R : Value → Shared → Prop} (I : Inv X pins σ H s) (F : FnOk X.prog X.w X.K X.mg X.base CX k f fd ps sp) (hb : Binds X.K fd ps []) (hr : Room k X.A) (hx : Passes CX X E)
    (hsp : sp [.ref a] H Q E) (hR : ∀ v w H' s', Inv X pins σ H' s' → RelV v w → Q v H' → R w s') : wpAny (model X.prog X.w) X.A (call (.ref f) [.ref a]) R X.xe s := by
  have hl := F.len _ _ _ _ hsp
  have bd := hb s [.ref a] I.kIn (by simpa using hl)
  refine wpAny_call (codeAny_mono (F.run X.A X.stack s H ⟨[.ref a], []⟩ [.ref a] [.ref a] _ E hr I.env0 (by simpa using bd) (.cons rfl .nil) hsp) fun r s' z => ?_)
  cases r with
  | error e => exact hx _ _ _ _ _ _ I z
  | ok fl =>
    cases fl with
    | ret w => obtain ⟨v, H', I', rv, q⟩ := I.after z; exact hR v w H' s' I' rv q
    | next => exact False.elim z
    | brk => exact False.elim z
    | cont => exact False.elim z
def rOwnU (C : Addr) (sp : Sp) (E : XK) : V → Hp → VK → Prop := fun x H Q => ∃ a dx fs, x = .ref a ∧ H a = some (.ins C dx fs) ∧ sp [.ref a] H Q E
theorem un_own (O : OkM X.prog X.w X.K X.mg X.base CX k x "__invert__" ps [] sp) (hr : Room k X.A) (hx : Passes CX X E) : UnR X (unaryOp .Invert) (rOwnU (ga X.K x) sp E) := by
  intro pins s σ H v0 v Q I rx h
  obtain ⟨a, dx, fs, rfl, ha, hsp⟩ := h
  cases rx
  obtain ⟨f, fd, M, bd, F⟩ := O.ex
  obtain ⟨ds, hd, hbi⟩ := bd 0 (Nat.le_refl _)
  cases hd
  obtain ⟨mA, O', _⟩ := ins_get I.hok ha
  obtain ⟨od, J, _⟩ := O'.look
  obtain ⟨mm, hF⟩ := I.fr
  unfold unaryOp
  refine wpAny_holding ?_
  dsimp only
  rw [if_neg (by decide)]
  exact wpAny_bind (PySem.W.special_fn (I.ok.mod.kin.keeps hF.keep) J M.at_ (beq_iff_eq.mp M.fn) (own_call1 I F hbi hr hx hsp fun v w H' s' I' rv q => wpAny_pure ⟨v, H', I', rv, q⟩))
end
/-! ### two clauses in one comprehension, both over tuples -/
theorem st_lc2T {K : PySem.W.Frag} {tl tl1 : TE} {g g1 : TG} {te : TE} {vs vs1 : List Nat} {σ : L2.St} {H : Hp} {Q : VK} {a : Addr} {xs : List V} (ha : ∀ R : V → Hp → Prop, R (.ref a) H → tl σ H R) (hx : SqT K H a xs) (Pv : Addr → Nat → Hp → Prop)
    (h0 : ∀ D H1, H D = none → Same H H1 → H1 D = some (.lst []) → Pv D 0 H1) (hl : ∀ D i H, Pv D i H → SqT K H a xs)
    (hs : ∀ D i x H, xs[i]? = some x → Pv D i H → g x (wipe σ vs) H fun σ2 H2 => wipe σ2 vs = wipe σ vs ∧ ∃ (b : Addr) (ys : List V), (∀ R : V → Hp → Prop, R (.ref b) H2 → tl1 σ2 H2 R) ∧ ∃ Pw : Nat → Hp → Prop, Pw 0 H2 ∧ (∀ j H, Pw j H → SqT K H b ys) ∧ (∀ H, Pw ys.length H → Pv D (i + 1) H) ∧
      ∀ j y H, ys[j]? = some y → Pw j H → g1 y (wipe σ2 vs1) H fun σ3 H5 => wipe σ3 vs1 = wipe σ2 vs1 ∧ te σ3 H5 fun z H7 => ∃ acc, H7 D = some (.lst acc) ∧ acc.length < sizeLine ∧ Pw (j + 1) (upd H7 D (.lst (acc ++ [z]))))
    (hg : ∀ v σ H (Q Q' : L2.St → Hp → Prop), (∀ σ H, Q σ H → Q' σ H) → g v σ H Q → g v σ H Q') (hg1 : ∀ v σ H (Q Q' : L2.St → Hp → Prop), (∀ σ H, Q σ H → Q' σ H) → g1 v σ H Q → g1 v σ H Q')
    (hd : ∀ D H, Pv D xs.length H → Q (.ref D) H) : tLc2 (iTup K tl) g tYes (iTup K tl1) g1 tYes te vs vs1 σ H Q := by
  refine ha _ ⟨a, rfl, ⟨xs, hx⟩, fun D hD => ?_⟩
  refine ⟨fun i m H => m = xs.length - i ∧ i ≤ xs.length ∧ Pv D i H, ⟨_, rfl, Nat.zero_le _, h0 D _ hD (Same.upd hD) upd_same⟩, ?_⟩
  rintro i m H1 ⟨rfl, hi, p⟩
  have q := hl D i H1 p
  by_cases hlt : i < xs.length
  · refine .inr ⟨⟨xs, xs[i], q, by simp [hlt]⟩, Pv D (i + 1), fun H' p' => ⟨xs.length - (i + 1), by omega, rfl, hlt, p'⟩, fun x H' y => ?_⟩
    obtain ⟨e, y⟩ := y
    subst e
    refine hg _ _ _ _ _ (fun σ2 H2 q2 => ?_) (hs D i x _ (y xs q) p)
    obtain ⟨e, b, ys, hr, Pw, w0, wl, wd, ws⟩ := q2
    refine ⟨e, ?_⟩
    simp only [tYes, if_true]
    refine hr _ ⟨b, rfl, ⟨ys, wl 0 _ w0⟩, ?_⟩
    refine ⟨fun j k H => k = ys.length - j ∧ j ≤ ys.length ∧ Pw j H, ⟨_, rfl, Nat.zero_le _, w0⟩, ?_⟩
    rintro j k H3 ⟨rfl, hj, pw⟩
    have q3 := wl j H3 pw
    by_cases hjt : j < ys.length
    · refine .inr ⟨⟨ys, ys[j], q3, by simp [hjt]⟩, Pw (j + 1), fun H' p' => ⟨ys.length - (j + 1), by omega, rfl, hjt, p'⟩, fun z H' y' => ?_⟩
      obtain ⟨e', y'⟩ := y'
      subst e'
      exact hg1 _ _ _ _ _ (fun σ3 H5 q => ⟨q.1, q.2⟩) (ws j z _ (y' ys q3) pw)
    · have ej : j = ys.length := by omega
      subst ej
      exact .inl ⟨⟨ys, q3, Nat.le_refl _⟩, wd _ pw⟩
  · have ei : i = xs.length := by omega
    subst ei
    exact .inl ⟨⟨xs, q, Nat.le_refl _⟩, hd D _ p⟩
theorem gTupN_mono {n : Nat} {t : TGs} (ht : ∀ xs σ H (Q Q' : L2.St → Hp → Prop), (∀ σ H, Q σ H → Q' σ H) → t xs σ H Q → t xs σ H Q') : ∀ v σ H (Q Q' : L2.St → Hp → Prop), (∀ σ H, Q σ H → Q' σ H) → gTupN n t v σ H Q → gTupN n t v σ H Q' :=
  fun _ _ _ _ _ k ⟨a, xs, e1, e2, e3, q⟩ => ⟨a, xs, e1, e2, e3, ht _ _ _ _ _ k q⟩
theorem pg_tupKK {X : Cx} {K : PySem.W.Frag} (hK : X.K = K) {es : List Expr} {k : Nat} {pos : Pos} {t : L2.TGs} {n : Nat} (hc : X.calm = true) (h : PGs X es t) (hn : (assignEach es X.env).length = n := by rfl) (hst : (assignEach es X.env).findIdx? (·.1) = none := by rfl) : PG X (.Tuple es k pos) (gTup K n t) := hK ▸ pg_tup hc h hn hst
end Iz
/-! Cd -/
set_option Elab.async false
set_option linter.all false
set_option maxRecDepth 100000
set_option maxHeartbeats 4000000
namespace Iz
open PySem PySem.Spec PyProof.Rows L2
open He (ga)
/-! ### a dict that is a constant of the program -/
def DicC (P : Program) (w : World) (K : PySem.W.Frag) (C : Addr) (kvs : List (Key × V)) : Prop :=
  ∃ (vs : List (Key × Value)) (es : Array DictEntry) (ep : Nat), KV kvs vs ∧ K.lookup C = some { cls := .type "dict", data := .dict es ep } ∧ KeysOf (mixKind P w) es ∧ Pairs (mixKind P w) es.toList vs ∧ (vs.map (·.1)).Nodup
def rIxC (P : Program) (w : World) (K : PySem.W.Frag) : R2 := fun x y H Q => ∃ C kvs k v, x = .ref C ∧ y = kV k ∧ DicC P w K C kvs ∧ valV kvs k = some v ∧ Q v H
theorem ix_C {X : Cx} : IxR X (rIxC X.prog X.w X.K) := by
  intro value slice pins s σ H x y v u Q I rx ry h hs
  obtain ⟨C, kvs, k, z0, rfl, rfl, ⟨vs, es, ep, rel, lk, ks, ps, nd⟩, hv, q⟩ := h
  cases rx
  have dd : s.heap.DictOf (mixKind X.prog X.w) C vs := ⟨_, es, ep, I.kIn _ _ lk, ⟨rfl, rfl, rfl⟩, rfl, ks, ps, nd⟩
  obtain ⟨w', hw, rw'⟩ := RelO.some_of (v := z0) (o := valueAt vs k) (by rw [← hv]; exact rel.val k)
  exact tail_any dd.typeIs slot_dict_getitem.lookup (wpAny_getItem_of (kV_is ry) dd.mapOf hw ⟨z0, H, I.tok _, rw', q⟩) hs
theorem ix_Ck {X : Cx} {P : Program} {w : World} {K : PySem.W.Frag} (h1 : X.prog = P) (h2 : X.w = w) (h3 : X.K = K) : IxR X (rIxC P w K) := by subst h1 h2 h3; exact ix_C
def entC (w : World) (p : Str × Tok × Value) : DictEntry := { hash := PyData.keyHash w.params p.1, key := .str p.1 p.2.1, val := p.2.2 }
theorem dicC_mk {P : Program} {w : World} {K : PySem.W.Frag} {C : Addr} (l : List (Str × Tok × Value)) {kvs : List (Key × V)} {ep : Nat} (lk : K.lookup C = some { cls := .type "dict", data := .dict (l.map (entC w)).toArray ep })
    (rel : KV kvs (l.map fun p => ((.inr p.1 : Key), p.2.2))) (nd : (l.map fun p => (.inr p.1 : Key)).Nodup) : DicC P w K C kvs := by
  refine ⟨_, _, ep, rel, lk, fun e he => ?_, ?_, by rw [List.map_map]; exact nd⟩
  · obtain ⟨p, _, rfl⟩ := List.mem_map.mp (List.mem_toArray.mp he)
    exact ⟨.inr p.1, by simp [mixKind, keyIs, entC, Value.isStrOf], rfl⟩
  · rw [List.toList_toArray]
    clear rel lk nd
    induction l with
    | nil => exact .nil
    | cons p l ih => exact .cons (by simp [mixKind, keyIs, entC, Value.isStrOf]) rfl ih
/-- a constant pair of zeros -/
def PZ (K : PySem.W.Frag) (t : Addr) : Prop := ∀ H : Hp, SqT K H t [.int 0, .int 0]
def rNotInDT (K : PySem.W.Frag) : R2 := fun x y H Q => ∃ d ds, Dp K H x d ∧ Dp K H y (.tuple ds) ∧ SeqAt.shaped d = true ∧ SeqAt.shaped (.tuple ds) = true ∧ Q (.bl (!ds.any fun z => PyData.eqv z d)) H
theorem op_notInDTk {X : Cx} {K : PySem.W.Frag} (ek : X.K = K) (hu : X.A.units + 65 < cLine) : OpR X (compareOp .NotIn) (rNotInDT K) := by
  subst ek
  intro pins s σ H x y v u Q I rx ry h
  obtain ⟨d, ds, hd, he, sd, se, q⟩ := h
  obtain ⟨as, r1⟩ := Dp.reads I d x v hd rx
  obtain ⟨bs, r2⟩ := Dp.reads I (.tuple ds) y u he ry
  exact SeqAt.notIn_tuple_reads r2 r1 (SeqAt.canLay_of_shaped se) (SeqAt.canLay_of_shaped sd) (room_in_shaped sd hu) ⟨.bl _, H, I, rfl, q⟩
/-! ### dicts of texts and ints as keys -/
def rIxK : R2 := fun x y H Q => ∃ a kvs k v, x = .ref a ∧ y = kV k ∧ H a = some (.dK kvs) ∧ valV kvs k = some v ∧ Q v H
theorem ix_K {X : Cx} : IxR X rIxK := by
  intro value slice pins s σ H x y v u Q I rx ry h hs
  obtain ⟨a, kvs, k, z0, rfl, rfl, ha, hv, q⟩ := h
  cases rx
  obtain ⟨z, hd, vs, rel, dd⟩ := dk_of I.hok ha
  obtain ⟨w', hw, rw'⟩ := RelO.some_of (v := z0) (o := valueAt vs k) (by rw [← hv]; exact rel.val k)
  exact tail_any dd.typeIs slot_dict_getitem.lookup (wpAny_getItem_of (kV_is ry) dd.mapOf hw ⟨z0, H, I.tok _, rw', q⟩) hs
def rSetK : TSet := fun o i v H Q => ∃ a k kvs, o = .ref a ∧ i = kV k ∧ H a = some (.dK kvs) ∧ kvs.length < sizeLine ∧ ∀ H', Put H H' a (.dK (putK kvs k v)) → Q H'
theorem set_K {X : Cx} : PSet X rSetK := by
  intro pins s σ H o i v ov' iv u Q I ro ri rv h
  obtain ⟨a, k, kvs, rfl, rfl, ha, hl, q⟩ := h
  cases ro
  obtain ⟨z, hd, vs, rel, dd⟩ := dk_of I.hok ha
  have hz : vs.length ≤ sizeLine := by rw [← rel.length]; exact z
  have hl2 : (putK kvs k v).length ≤ sizeLine := by have := length_putK kvs k v; omega
  refine wpAny_setItem_pairs (hsz := hz) (kV_is ri) dd fun h' dd' hs => ?_
  have he : ∃ q, h'.get? a = some q := let ⟨q, _, _, hq, _⟩ := dd'; ⟨q, hq⟩
  exact ⟨upd H a (.dK (putK kvs k v)), d_write I (by rw [ha]; exact True.intro) hs he (dk_new hl2 hd (rel.put k rv) dd'), q _ ⟨upd_same, fun b hb => upd_ne hb⟩⟩
/-- a display of pairs, the keys texts -/
def tDispK (trs : List (TE × TE)) : TE := fun σ H Q => ∀ p H0, H p = none → Same H H0 → H0 p = some (.dK []) → tPairs trs σ H0 fun ps H2 => H2 p = some (.dK []) ∧ ∃ kvs : List (Key × V), ps = kvs.map (fun kv => (kV kv.1, kv.2)) ∧ kvs.length ≤ 15 ∧ ∀ H', Put H2 H' p (.dK (mergeK [] kvs)) → Q (.ref p) H'
theorem tPairs_mono : ∀ {trs : List (TE × TE)} {σ : L2.St} {H : Hp} {Q Q' : List (V × V) → Hp → Prop}, tPairs trs σ H Q → Q = Q' → tPairs trs σ H Q' := fun h e => e ▸ h
theorem pe_dispK {X : Cx} {pos : Pos} {keys : List (Option Expr)} {values : List Expr} {trs : List (TE × TE)} (h : PPs X pos keys values trs) (hall : keys.all (·.isSome) = true) (hl : keys.length = values.length) (h0 : keys ≠ [])
    (h15 : keys.length ≤ 15) : PE X (.Dict keys values pos) (tDispK trs) := by
  refine ⟨fun pins s σ H Q I q => ?_⟩
  have hn := I.hok.fresh (Nat.le_refl s.heap.objs.size)
  have I1 := I.laid (a := s.heap.objs.size) (o := .dK []) (h' := s.heap.push { cls := .type "dict", data := .dict #[] }) (t' := s.toks) (fun _ _ q => Heap.get?_push_of_some _ q) (Nat.le_refl _) (dk_empty s.heap I.big)
  refine wpAny_Dict_walk (knd := mixKind X.prog X.w) hall hl h0 h15 (thn (h.run pins _ σ _ _ I1 (q _ _ hn (Same.upd hn) upd_same)) fun ws s2 ⟨ps, H2, I2, rel, e, kvs, ep, lk, q2⟩ => ?_)
  subst ep
  obtain ⟨rs, c, rk⟩ := carries_of (P := X.prog) (w := X.w) rel
  obtain ⟨z, hd, vs0, r0, dd⟩ := dk_of I2.hok e
  cases r0
  refine ⟨rs, c, dd, fun h' dd' hs => ⟨.ref s.heap.objs.size, _, ?_, rfl, q2 _ ⟨upd_same, fun b hb => upd_ne hb⟩⟩⟩
  have hz : (mergeK [] kvs).length ≤ sizeLine := by
    have h1 := length_mergeK kvs []
    rw [List.length_nil] at h1
    rw [sizeLine_eq]; omega
  have he : ∃ q, h'.get? s.heap.objs.size = some q := let ⟨q, _, _, hq, _⟩ := dd'; ⟨q, hq⟩
  exact d_write I2 (by rw [e]; exact True.intro) hs he (dk_new hz hd (rk.merge .nil) dd')
/-- xs.index(y) of a list of flat values -/
def tIdxL (to : TE) (ta : TA) : TE := fun σ H Q => to σ H fun x H1 => ∃ l, x = .ref l ∧ (∃ xs, H1 l = some (.lst xs)) ∧ ta σ H1 fun vs H2 => ∃ (y : V) (xs : List V) (j : Nat) (z : V), vs = [y] ∧ H2 l = some (.lst xs) ∧ flatV y = true ∧ xs.all flatV = true ∧ xs[j]? = some z ∧ eqV z y = true ∧ (∀ (m : Nat) (z' : V), m < j → xs[m]? = some z' → eqV z' y = false) ∧ Q (.int (j : Nat)) H2
theorem pe_idxL {X : Cx} {o e : Expr} {to : TE} {ta : TA} {apos cpos : Pos} (ho : PE X o to) (ha : PA X [e] ta)
    (hbase : attributeBase o "index" X.env (eval o X.env) = eval o X.env := by rfl)
    (hfew : ((backTo cpos (starEach [e] X.env)).all (fun x => !x.1) && (backToKw cpos (keywordEach [] X.env)).all (fun x => x.1.isSome) && decide ([e].length + ([] : List Keyword).length + (if ([] : List Keyword).isEmpty then 0 else 1) < 30)) = true := by rfl)
    (hline : (apos.endLine == cpos.line) = true := by rfl) (hs : starEach [e] X.env = (false, eval e X.env) :: starEach [] X.env := by rfl) (hplain : (backTo cpos (starEach [] X.env)).any (·.1) = false := by rfl) :
    PE X (.Call (.Attribute o "index" apos) [e] [] cpos) (tIdxL to ta) :=
  PE.imp (pe_bm PySem.F.plainAttrs_list PySem.F.slot_list_index PySem.F.type_list_index mt_index (PE.mcl ho) (PA.mcl ha) hbase hfew hline hs hplain) fun σ H Q q =>
    ⟨_, q, fun x H1 ⟨l, hx, ⟨xs, hl⟩, q⟩ => by subst hx; exact ⟨.inl ⟨rfl, xs, SqL.of hl⟩, _, q, fun vs H2 ⟨y, xs, j, z, a, b, c0, c1, c2, c3, c4, q⟩ => ⟨l, xs, y, j, z, rfl, a, SqL.of b, c0, c1, c2, c3, c4, q⟩⟩⟩
end Iz
/-! Sv -/
set_option Elab.async false
set_option linter.all false
set_option maxRecDepth 100000
set_option maxHeartbeats 4000000
namespace Iz
/-! ### sieves: mathematics -/
def fK (k n : Int) : Int := n + n / (k - 1)
def gK (k m : Int) : Int := m - m / k
def okK (ks : List Int) : Prop := ∀ k ∈ ks, 2 ≤ k ∧ k ≤ 9
theorem k_cases {k : Int} (h : 2 ≤ k ∧ k ≤ 9) : k = 2 ∨ k = 3 ∨ k = 4 ∨ k = 5 ∨ k = 6 ∨ k = 7 ∨ k = 8 ∨ k = 9 := by omega
/-- what is to be shown of each k -/
theorem k_all {p : Int → Int → Prop} (h : p 2 1 ∧ p 3 2 ∧ p 4 3 ∧ p 5 4 ∧ p 6 5 ∧ p 7 6 ∧ p 8 7 ∧ p 9 8) {k : Int} (hk : 2 ≤ k ∧ k ≤ 9) : p k (k - 1) := by
  obtain ⟨h2, h3, h4, h5, h6, h7, h8, h9⟩ := h
  rcases k_cases hk with rfl | rfl | rfl | rfl | rfl | rfl | rfl | rfl
  · exact h2
  · exact h3
  · exact h4
  · exact h5
  · exact h6
  · exact h7
  · exact h8
  · exact h9
theorem gal1 {k n m : Int} (hk : 2 ≤ k ∧ k ≤ 9) (hn : 0 ≤ n) (hm : 0 ≤ m) : fK k n < m ↔ n < gK k m := by
  unfold fK gK
  exact k_all (p := fun k j => n + n / j < m ↔ n < m - m / k) ⟨by omega, by omega, by omega, by omega, by omega, by omega, by omega, by omega⟩ hk
theorem fK_pos {k n : Int} (hk : 2 ≤ k ∧ k ≤ 9) (hn : 0 ≤ n) : 0 ≤ fK k n := by
  unfold fK
  have := Int.ediv_nonneg hn (show 0 ≤ k - 1 by omega)
  omega
theorem gK_pos {k n : Int} (hk : 2 ≤ k ∧ k ≤ 9) (hn : 0 ≤ n) : 0 ≤ gK k n := by
  unfold gK
  exact k_all (p := fun k j => 0 ≤ n - n / k) ⟨by omega, by omega, by omega, by omega, by omega, by omega, by omega, by omega⟩ hk
theorem fK_lt {k a b : Int} (hk : 2 ≤ k ∧ k ≤ 9) (h0 : 0 ≤ a) (h : a < b) : fK k a < fK k b := by
  unfold fK
  exact k_all (p := fun k j => a + a / j < b + b / j) ⟨by omega, by omega, by omega, by omega, by omega, by omega, by omega, by omega⟩ hk
theorem gK_le {k n : Int} (hk : 2 ≤ k ∧ k ≤ 9) (hn : 0 ≤ n) : gK k n ≤ n := by
  unfold gK
  have := Int.ediv_nonneg hn (show 0 ≤ k by omega)
  omega
/-- the n-th left, how many are left below m -/
def nthL (ks : List Int) (n : Int) : Int := ks.foldr fK n
def belL (ks : List Int) (m : Int) : Int := ks.foldl (fun m k => gK k m) m
theorem okK.tail {k : Int} {ks : List Int} (h : okK (k :: ks)) : okK ks := fun j hj => h j (by simp [hj])
theorem nthL_pos : ∀ {ks : List Int} {n : Int}, okK ks → 0 ≤ n → 0 ≤ nthL ks n
  | [], n, _, hn => hn
  | k :: ks, n, h, hn => fK_pos (h k (by simp)) (nthL_pos h.tail hn)
theorem belL_pos : ∀ {ks : List Int} {m : Int}, okK ks → 0 ≤ m → 0 ≤ belL ks m
  | [], m, _, hm => hm
  | k :: ks, m, h, hm => belL_pos (ks := ks) h.tail (gK_pos (h k (by simp)) hm)
theorem belL_le : ∀ {ks : List Int} {m : Int}, okK ks → 0 ≤ m → belL ks m ≤ m
  | [], m, _, hm => Int.le_refl m
  | k :: ks, m, h, hm => Int.le_trans (belL_le (ks := ks) h.tail (gK_pos (h k (by simp)) hm)) (gK_le (h k (by simp)) hm)
theorem gal : ∀ {ks : List Int} {n m : Int}, okK ks → 0 ≤ n → 0 ≤ m → (nthL ks n < m ↔ n < belL ks m)
  | [], n, m, _, _, _ => Iff.rfl
  | k :: ks, n, m, h, hn, hm => (gal1 (h k (by simp)) (nthL_pos h.tail hn) hm).trans (gal h.tail hn (gK_pos (h k (by simp)) hm))
theorem nthL_lt : ∀ {ks : List Int} {a b : Int}, okK ks → 0 ≤ a → a < b → nthL ks a < nthL ks b
  | [], _, _, _, _, h => h
  | k :: ks, a, b, hk, h0, h => fK_lt (hk k (by simp)) (nthL_pos hk.tail h0) (nthL_lt hk.tail h0 h)
theorem nthL_snoc {ks : List Int} {k n : Int} : nthL (ks ++ [k]) n = nthL ks (fK k n) := by unfold nthL; rw [List.foldr_append]; rfl
theorem belL_snoc {ks : List Int} {k n : Int} : belL (ks ++ [k]) n = gK k (belL ks n) := by unfold belL; rw [List.foldl_append]; rfl
theorem okK.app {ks : List Int} {k : Int} (h : okK ks) (hk : 2 ≤ k ∧ k ≤ 9) : okK (ks ++ [k]) := fun j hj => by
  rcases List.mem_append.mp hj with hj | hj
  · exact h j hj
  · rw [List.mem_singleton.mp hj]; exact hk
/-- what a list from 0 on leaves: the list that the law strikes -/
def strL (ks : List Int) (N : Int) : List Int := (List.range (belL ks N).toNat).map fun (n : Nat) => nthL ks (n : Int)
theorem gK_succ {k : Int} (hk : 2 ≤ k ∧ k ≤ 9) (n : Nat) : gK k ((n : Int) + 1) = gK k n + (if (n : Int) % k ≠ k - 1 then 1 else 0) ∧ ((n : Int) % k ≠ k - 1 → fK k (gK k n) = n) := by
  unfold fK gK
  exact k_all (p := fun k j => (n : Int) + 1 - ((n : Int) + 1) / k = (n : Int) - (n : Int) / k + (if (n : Int) % k ≠ j then 1 else 0) ∧ ((n : Int) % k ≠ j → (n : Int) - (n : Int) / k + ((n : Int) - (n : Int) / k) / j = n))
    ⟨by split <;> omega, by split <;> omega, by split <;> omega, by split <;> omega, by split <;> omega, by split <;> omega, by split <;> omega, by split <;> omega⟩ hk
theorem keep_idx {k : Int} (hk : 2 ≤ k ∧ k ≤ 9) : ∀ n : Nat, ((List.range n).filter fun (a : Nat) => decide ((a : Int) % k ≠ k - 1)).map (fun (a : Nat) => (a : Int)) = (List.range (gK k n).toNat).map fun (i : Nat) => fK k (i : Int)
  | 0 => by
    have : gK k ((0 : Nat) : Int) = 0 := by unfold gK; simp
    rw [this]; rfl
  | n + 1 => by
    obtain ⟨e1, e2⟩ := gK_succ hk n
    have p0 := gK_pos hk (show (0 : Int) ≤ n by omega)
    rw [List.range_succ, List.filter_append, List.map_append, keep_idx hk n, Int.natCast_succ, e1]
    by_cases c : (n : Int) % k ≠ k - 1
    · rw [if_pos c]
      have e3 : (gK k n + 1).toNat = (gK k n).toNat + 1 := by omega
      have e4 : (((gK k n).toNat : Nat) : Int) = gK k n := by omega
      rw [e3, List.range_succ, List.map_append]
      simp only [List.filter_cons, c, decide_true, if_true, List.filter_nil, List.map_cons, List.map_nil]
      rw [e4, e2 c]
      simp [c]
    · rw [if_neg c, Int.add_zero]
      simp only [List.filter_cons, c, decide_false, List.filter_nil]
      simp
theorem map_idx {ks : List Int} {k N : Int} (h : okK ks) (hk : 2 ≤ k ∧ k ≤ 9) (hN : 0 ≤ N) : ((List.range (strL ks N).length).filter fun (a : Nat) => decide ((a : Int) % k ≠ k - 1)).map (fun (a : Nat) => nthL ks (a : Int)) = strL (ks ++ [k]) N := by
  have hl : (strL ks N).length = (belL ks N).toNat := by unfold strL; rw [List.length_map, List.length_range]
  have p0 := belL_pos h hN
  have e : (((belL ks N).toNat : Nat) : Int) = belL ks N := by omega
  have hi := congrArg (List.map (nthL ks)) (keep_idx hk (belL ks N).toNat)
  rw [List.map_map, List.map_map, e] at hi
  rw [hl]
  unfold strL
  rw [belL_snoc]
  refine hi.trans ?_
  exact List.map_congr_left fun i _ => nthL_snoc.symm
theorem strL_get {ks : List Int} {N : Int} {i : Nat} (h : i < (belL ks N).toNat) : (strL ks N)[i]? = some (nthL ks (i : Int)) := by
  unfold strL
  rw [List.getElem?_map, List.getElem?_range h]; rfl
theorem strL_len {ks : List Int} {N : Int} : (strL ks N).length = (belL ks N).toNat := by unfold strL; rw [List.length_map, List.length_range]
theorem range_lt (c : Nat) : ∀ B : Nat, (List.range B).filter (fun n => decide (n < c)) = List.range (min c B)
  | 0 => by simp
  | B + 1 => by
    rw [List.range_succ, List.filter_append, range_lt c B]
    by_cases h : B < c
    · simp only [List.filter_cons, h, decide_true, if_true, List.filter_nil]
      rw [Nat.min_eq_right (by omega), Nat.min_eq_right (by omega), List.range_succ]
    · simp only [List.filter_cons, h, decide_false, List.filter_nil]
      rw [Nat.min_eq_left (by omega), Nat.min_eq_left (by omega)]; simp
/-- how many of the list are below x -/
theorem strL_below {ks : List Int} {N x : Int} (h : okK ks) (hN : 0 ≤ N) : (strL ks N).filter (fun y => decide (y < x)) = (List.range (min (belL ks (max 0 x)).toNat (belL ks N).toNat)).map fun (n : Nat) => nthL ks (n : Int) := by
  unfold strL
  rw [List.filter_map, ← range_lt]
  congr 1
  refine List.filter_congr fun n _ => ?_
  show decide (nthL ks (n : Int) < x) = decide (n < (belL ks (max 0 x)).toNat)
  have p := nthL_pos h (show (0 : Int) ≤ n by omega)
  have g := gal h (show (0 : Int) ≤ n by omega) (show 0 ≤ max 0 x by omega)
  have pb := belL_pos h (show 0 ≤ max 0 x by omega)
  rw [Bool.eq_iff_iff, decide_eq_true_iff, decide_eq_true_iff]
  constructor
  · intro q
    have := g.mp (by omega)
    omega
  · intro q
    have := g.mpr (by omega)
    omega
theorem belL_mono {ks : List Int} {a b : Int} (h : okK ks) (h0 : 0 ≤ a) (hab : a ≤ b) : belL ks a ≤ belL ks b := by
  have pa := belL_pos h h0
  have pb := belL_pos h (show 0 ≤ b by omega)
  by_cases c : belL ks b < belL ks a
  · have := (gal h pb h0).mpr c
    have := (gal h pb (show 0 ≤ b by omega)).mp (by omega)
    omega
  · omega
/-! products -/
def prL (ks : List Int) : Int := ks.foldl (fun a k => a * k) 1
def prodL : List Int → Int
  | [] => 1
  | k :: ks => k * prodL ks
theorem prL_eq (ks : List Int) : prL ks = prodL ks := by
  have g : ∀ (ks : List Int) (a : Int), ks.foldl (fun a k => a * k) a = a * prodL ks := by
    intro ks
    induction ks with
    | nil => intro a; simp [prodL]
    | cons k ks ih => intro a; rw [List.foldl_cons, ih, prodL, Int.mul_assoc]
  unfold prL
  rw [g, Int.one_mul]
theorem prodL_pos : ∀ {ks : List Int}, (∀ k ∈ ks, 1 ≤ k) → 1 ≤ prodL ks
  | [], _ => by simp [prodL]
  | k :: ks, h => by
    have h1 := h k (by simp)
    have h2 := prodL_pos (ks := ks) fun j hj => h j (by simp [hj])
    show 1 ≤ k * prodL ks
    have := Int.mul_le_mul h1 h2 (by omega) (by omega)
    omega
def decs (ks : List Int) : List Int := ks.map fun k => k - 1
theorem fK_add {k n t : Int} (hk : 2 ≤ k ∧ k ≤ 9) : fK k (n + (k - 1) * t) = fK k n + k * t := by
  unfold fK
  rw [Int.add_mul_ediv_left _ _ (by omega : k - 1 ≠ 0)]
  have : k * t = (k - 1) * t + t := by rw [Int.sub_mul, Int.one_mul]; omega
  omega
theorem gK_add {k n t : Int} (hk : 2 ≤ k ∧ k ≤ 9) : gK k (n + k * t) = gK k n + (k - 1) * t := by
  unfold gK
  rw [Int.add_mul_ediv_left _ _ (by omega : k ≠ 0)]
  have : k * t = (k - 1) * t + t := by rw [Int.sub_mul, Int.one_mul]; omega
  omega
theorem nthL_add : ∀ {ks : List Int} {n t : Int}, okK ks → nthL ks (n + prodL (decs ks) * t) = nthL ks n + prodL ks * t
  | [], n, t, _ => by simp [nthL, prodL, decs]
  | k :: ks, n, t, h => by
    show fK k (nthL ks (n + ((k - 1) * prodL (decs ks)) * t)) = fK k (nthL ks n) + k * prodL ks * t
    have e : ((k - 1) * prodL (decs ks)) * t = prodL (decs ks) * ((k - 1) * t) := by
      rw [Int.mul_comm (k - 1), Int.mul_assoc]
    rw [e, nthL_add h.tail]
    have e2 : prodL ks * ((k - 1) * t) = (k - 1) * (prodL ks * t) := by rw [← Int.mul_assoc, Int.mul_comm (prodL ks), Int.mul_assoc]
    rw [e2, fK_add (h k (by simp)), Int.mul_assoc]
theorem belL_add : ∀ {ks : List Int} {n t : Int}, okK ks → belL ks (n + prodL ks * t) = belL ks n + prodL (decs ks) * t
  | [], n, t, _ => by simp [belL, prodL, decs]
  | k :: ks, n, t, h => by
    show belL ks (gK k (n + (k * prodL ks) * t)) = belL ks (gK k n) + ((k - 1) * prodL (decs ks)) * t
    rw [Int.mul_assoc, gK_add (h k (by simp))]
    have e2 : (k - 1) * (prodL ks * t) = prodL ks * ((k - 1) * t) := by rw [← Int.mul_assoc, Int.mul_comm (k - 1), Int.mul_assoc]
    have e3 : (k - 1) * prodL (decs ks) * t = prodL (decs ks) * ((k - 1) * t) := by rw [Int.mul_comm (k - 1), Int.mul_assoc]
    rw [e2, belL_add h.tail, e3]
/-! two that come again and agree for long -/
theorem again_eq {α : Type} {u v : Nat → α} {P P' : Nat} (hP : 0 < P) (hP' : 0 < P') (hu : ∀ n, u (n + P) = u n) (hv : ∀ n, v (n + P') = v n) (h : ∀ n, n < P + P' → u n = v n) : ∀ n, u n = v n := by
  have hu' : ∀ n, u (n + P') = u n := by
    intro n
    induction n using Nat.strongRecOn with
    | _ n ih =>
      by_cases c : n < P
      · rw [h (n + P') (by omega), hv, ← h n (by omega)]
      · have e1 : n + P' = (n - P + P') + P := by omega
        have e2 : n = (n - P) + P := by omega
        rw [e1, hu, ih (n - P) (by omega), ← hu (n - P), ← e2]
  intro n
  induction n using Nat.strongRecOn with
  | _ n ih =>
    by_cases c : n < P'
    · exact h n (by omega)
    · have e : n = (n - P') + P' := by omega
      rw [e, hu', hv]
      exact ih (n - P') (by omega)
/-! two sieves that leave the same -/
def natN (ks : List Int) (n : Nat) : Nat := (nthL ks (n : Int)).toNat
theorem nthL_0 {ks : List Int} (h : okK ks) : nthL ks 0 = 0 := by
  have h1 : ∀ ks : List Int, nthL ks 0 = 0 := by
    intro ks
    induction ks with
    | nil => rfl
    | cons k ks ih => show fK k (nthL ks 0) = 0; rw [ih]; unfold fK; simp
  exact h1 ks
theorem bel_of_nth {ks js : List Int} (h : okK ks) (g : okK js) (e : ∀ n : Nat, nthL ks (n : Int) = nthL js (n : Int)) {m : Int} (hm : 0 ≤ m) : belL ks m = belL js m := by
  have key : ∀ {ks js : List Int}, okK ks → okK js → (∀ n : Nat, nthL ks (n : Int) = nthL js (n : Int)) → ¬ belL ks m < belL js m := by
    intro ks js h g e c
    have p := belL_pos h hm
    have q := (gal g p hm).mpr c
    have e2 := e (belL ks m).toNat
    have : (((belL ks m).toNat : Nat) : Int) = belL ks m := by omega
    rw [this] at e2
    rw [← e2] at q
    have := (gal h p hm).mp q
    omega
  have a := key h g e
  have b := key g h fun n => (e n).symm
  omega
theorem nth_of_bel {ks js : List Int} (h : okK ks) (g : okK js) (e : ∀ m : Nat, belL ks (m : Int) = belL js (m : Int)) (n : Nat) : nthL ks (n : Int) = nthL js (n : Int) := by
  have key : ∀ {ks js : List Int}, okK ks → okK js → (∀ m : Nat, belL ks (m : Int) = belL js (m : Int)) → ¬ nthL ks (n : Int) < nthL js (n : Int) := by
    intro ks js h g e c
    have p := nthL_pos g (show (0 : Int) ≤ n by omega)
    have e2 := e (nthL js (n : Int)).toNat
    have : (((nthL js (n : Int)).toNat : Nat) : Int) = nthL js (n : Int) := by omega
    rw [this] at e2
    have q := (gal h (show (0 : Int) ≤ n by omega) p).mp c
    rw [e2] at q
    have := (gal g (show (0 : Int) ≤ n by omega) p).mpr q
    omega
  have a := key h g e
  have b := key g h fun m => (e m).symm
  omega
/-- the two rows of what is left agree for long: they are the same -/
theorem same_nth {ks js : List Int} (h : okK ks) (g : okK js) (e : ∀ n : Nat, (n : Int) < prodL (decs ks) + prodL (decs js) + 1 → nthL ks (n : Int) = nthL js (n : Int)) : ∀ n : Nat, nthL ks (n : Int) = nthL js (n : Int) := by
  have pp : ∀ {ks : List Int}, okK ks → 1 ≤ prodL (decs ks) := fun h => prodL_pos fun k hk => by
    obtain ⟨j, hj, rfl⟩ := List.mem_map.mp hk
    have := h j hj; omega
  have p1 := pp h
  have p2 := pp g
  have per : ∀ {ks : List Int}, okK ks → ∀ n : Nat, nthL ks (((n + (prodL (decs ks)).toNat : Nat) : Int) + 1) - nthL ks ((n + (prodL (decs ks)).toNat : Nat) : Int) = nthL ks ((n : Int) + 1) - nthL ks (n : Int) := by
    intro ks h n
    have p := pp h
    have e1 : (((n + (prodL (decs ks)).toNat : Nat) : Int) + 1) = ((n : Int) + 1) + prodL (decs ks) * 1 := by omega
    have e2 : ((n + (prodL (decs ks)).toNat : Nat) : Int) = (n : Int) + prodL (decs ks) * 1 := by omega
    rw [e1, e2, nthL_add h, nthL_add h]
    omega
  have d := again_eq (u := fun n : Nat => nthL ks ((n : Int) + 1) - nthL ks (n : Int)) (v := fun n : Nat => nthL js ((n : Int) + 1) - nthL js (n : Int)) (P := (prodL (decs ks)).toNat) (P' := (prodL (decs js)).toNat) (by omega) (by omega) (per h) (per g) (fun n hn => by
    have a := e n (by omega)
    have b := e (n + 1) (by omega)
    rw [Int.natCast_succ] at b
    show nthL ks ((n : Int) + 1) - nthL ks (n : Int) = nthL js ((n : Int) + 1) - nthL js (n : Int)
    rw [a, b])
  intro n
  induction n with
  | zero => rw [show ((0 : Nat) : Int) = 0 from rfl, nthL_0 h, nthL_0 g]
  | succ n ih =>
    have : nthL ks ((n : Int) + 1) - nthL ks (n : Int) = nthL js ((n : Int) + 1) - nthL js (n : Int) := d n
    rw [Int.natCast_succ]
    omega
theorem belL_succ {ks : List Int} (h : okK ks) (m : Nat) : belL ks ((m : Int) + 1) = belL ks (m : Int) + (if nthL ks (belL ks (m : Int)) = m then 1 else 0) := by
  have p := belL_pos h (show (0 : Int) ≤ m by omega)
  have le := belL_mono h (show (0 : Int) ≤ m by omega) (show (m : Int) ≤ m + 1 by omega)
  have g0 := gal h p (show (0 : Int) ≤ m by omega)
  have g1 := gal h p (show (0 : Int) ≤ (m : Int) + 1 by omega)
  have g2 := gal h (show (0 : Int) ≤ belL ks (m : Int) + 1 by omega) (show (0 : Int) ≤ (m : Int) + 1 by omega)
  have lt := nthL_lt h p (show belL ks (m : Int) < belL ks (m : Int) + 1 by omega)
  have n0 : ¬ nthL ks (belL ks (m : Int)) < m := fun q => by have := g0.mp q; omega
  split
  · rename_i c
    have a := g1.mp (by omega)
    have b : ¬ belL ks (m : Int) + 1 < belL ks ((m : Int) + 1) := fun q => by have := g2.mpr q; omega
    omega
  · rename_i c
    have a : ¬ belL ks (m : Int) < belL ks ((m : Int) + 1) := fun q => by have := g1.mpr q; omega
    omega
/-- x is in the row exactly if it is the one at its own place -/
theorem strL_mem {ks : List Int} {N x : Int} (h : okK ks) (hN : 0 ≤ N) : x ∈ strL ks N ↔ 0 ≤ x ∧ x < N ∧ nthL ks (belL ks x) = x := by
  unfold strL
  rw [List.mem_map]
  constructor
  · rintro ⟨n, hn, rfl⟩
    have hn := List.mem_range.mp hn
    have p := nthL_pos h (show (0 : Int) ≤ n by omega)
    have pb := belL_pos h hN
    have lt := (gal h (show (0 : Int) ≤ n by omega) hN).mpr (by omega)
    refine ⟨p, lt, ?_⟩
    have q := belL_pos h p
    have g1 := gal h (show (0 : Int) ≤ n by omega) p
    have a : ¬ (n : Int) < belL ks (nthL ks (n : Int)) := fun z => by have := g1.mpr z; omega
    by_cases c : belL ks (nthL ks (n : Int)) < n
    · have := nthL_lt h q c
      have := (gal h q p).mp this
      omega
    · rw [show belL ks (nthL ks (n : Int)) = n by omega]
  · rintro ⟨x0, xN, e⟩
    have p := belL_pos h x0
    have lt := (gal h p hN).mp (by omega)
    refine ⟨(belL ks x).toNat, List.mem_range.mpr (by omega), ?_⟩
    rw [show (((belL ks x).toNat : Nat) : Int) = belL ks x by omega, e]
theorem same_str {ks js : List Int} (h : okK ks) (g : okK js) (e : strL ks (prodL ks + prodL js) = strL js (prodL ks + prodL js)) : ∀ n : Nat, nthL ks (n : Int) = nthL js (n : Int) := by
  have pp : ∀ {ks : List Int}, okK ks → 1 ≤ prodL ks := fun h => prodL_pos fun k hk => by have := h k hk; omega
  have p1 := pp h
  have p2 := pp g
  have per : ∀ {ks : List Int}, okK ks → ∀ n : Nat, decide (nthL ks (belL ks ((n + (prodL ks).toNat : Nat) : Int)) = ((n + (prodL ks).toNat : Nat) : Int)) = decide (nthL ks (belL ks (n : Int)) = (n : Int)) := by
    intro ks h n
    have p := pp h
    have e2 : ((n + (prodL ks).toNat : Nat) : Int) = (n : Int) + prodL ks * 1 := by omega
    rw [e2, belL_add h, nthL_add h, Bool.eq_iff_iff, decide_eq_true_iff, decide_eq_true_iff]
    omega
  have d := again_eq (u := fun n : Nat => decide (nthL ks (belL ks (n : Int)) = (n : Int))) (v := fun n : Nat => decide (nthL js (belL js (n : Int)) = (n : Int))) (P := (prodL ks).toNat) (P' := (prodL js).toNat) (by omega) (by omega) (per h) (per g) (fun n hn => by
    rw [Bool.eq_iff_iff, decide_eq_true_iff, decide_eq_true_iff]
    have a := strL_mem (x := (n : Int)) h (show 0 ≤ prodL ks + prodL js by omega)
    have b := strL_mem (x := (n : Int)) g (show 0 ≤ prodL ks + prodL js by omega)
    rw [e] at a
    have ab := a.symm.trans b
    constructor
    · intro q; exact (ab.mp ⟨by omega, by omega, q⟩).2.2
    · intro q; exact (ab.mpr ⟨by omega, by omega, q⟩).2.2)
  refine nth_of_bel h g fun m => ?_
  induction m with
  | zero =>
    have z : ∀ {ks : List Int}, okK ks → belL ks ((0 : Nat) : Int) = 0 := fun h => by
      have a := belL_pos h (show (0 : Int) ≤ ((0 : Nat) : Int) by omega)
      have b := belL_le h (show (0 : Int) ≤ ((0 : Nat) : Int) by omega)
      omega
    rw [z h, z g]
  | succ m ih =>
    rw [Int.natCast_succ, belL_succ h, belL_succ g, ih]
    have dm := decide_eq_decide.mp (d m)
    rw [ih] at dm
    by_cases c : nthL js (belL js (m : Int)) = m
    · rw [if_pos c, if_pos (dm.mpr c)]
    · rw [if_neg c, if_neg fun q => c (dm.mp q)]
end Iz
/-! Ts -/
set_option Elab.async false
set_option linter.all false
set_option maxRecDepth 100000
set_option maxHeartbeats 4000000
namespace Iz
open PySem PySem.Spec PyProof.Rows L2
/-! ### t[::-1] of a tuple -/
theorem adj_back (n : Nat) : Builtin.Slice.sliceAdjust none none (-1) (n : Int) = ((n : Int) - 1, -1) := by
  unfold Builtin.Slice.sliceAdjust
  simp
theorem plc_back (n : Nat) : Builtin.Slice.slicePlaces ((n : Int) - 1) (-1) (-1) = n := by
  unfold Builtin.Slice.slicePlaces
  rw [if_neg (by decide), show (-(-1) : Int) = 1 by decide, Int.ediv_one]
  split <;> omega
theorem range_back (ys : List Value) : (List.range ys.length).filterMap (fun (k : Nat) => ys[ys.length - 1 - k]?) = ys.reverse := by
  apply List.ext_getElem?
  intro i
  have e : (List.range ys.length).filterMap (fun (k : Nat) => ys[ys.length - 1 - k]?) = (List.range ys.length).map fun k => ys.reverse.getD k .none := by
    rw [← List.filterMap_eq_map]
    refine fm_congr fun k hk => ?_
    have hk := List.mem_range.mp hk
    show ys[ys.length - 1 - k]? = some (ys.reverse.getD k .none)
    rw [List.getD_eq_getElem?_getD, List.getElem?_reverse hk, List.getElem?_eq_getElem (by omega)]
    rfl
  rw [e, List.getElem?_map]
  by_cases h : i < ys.length
  · rw [List.getElem?_range h, Option.map_some, List.getD_eq_getElem?_getD, List.getElem?_eq_getElem (by rw [List.length_reverse]; exact h)]
    rfl
  · rw [List.getElem?_eq_none (by rw [List.length_range]; omega), List.getElem?_eq_none (by rw [List.length_reverse]; omega)]
    rfl
theorem pick_back (xs : Array Value) : ((List.range xs.size).filterMap fun (k : Nat) => xs[(((xs.size : Int) - 1) + (k : Int) * (-1)).toNat]?).toArray = xs.toList.reverse.toArray := by
  have e : (List.range xs.size).filterMap (fun (k : Nat) => xs[(((xs.size : Int) - 1) + (k : Int) * (-1)).toNat]?) = xs.toList.reverse := by
    rw [← range_back xs.toList]
    refine fm_congr fun k hk => ?_
    have hk := List.mem_range.mp hk
    rw [Array.getElem?_toList, Array.length_toList]
    rw [show (((xs.size : Int) - 1) + (k : Int) * (-1)).toNat = xs.size - 1 - k by omega]
  rw [e]
section
variable {prog : Program} {w : World} {A : Around} {E : Value → Shared → Prop} {s : Shared}
theorem applied_back {sl : Addr} {u : Tok} {n : Nat} {Q : Int × Int × Nat → Shared → Prop} (hs : s.heap.IsSliceOf sl .none .none (.int (-1) u)) (h : Q ((n : Int) - 1, -1, n) s) :
    wpAny (model prog w) A (Builtin.Slice.sliceApplied (.ref sl) (pure (n : Int))) Q E s := by
  obtain ⟨os, h1, _, h3⟩ := id hs
  unfold Builtin.Slice.sliceApplied Builtin.Slice.sliceFields
  refine wpAny_bind (wpAny_bind (wpAny_field h1 h3 (x := .none) rfl (wpAny_bind (wpAny_field h1 h3 (x := .none) rfl (wpAny_bind (wpAny_field h1 h3 (x := .int (-1) u) rfl (wpAny_pure ?_)))))))
  refine wpAny_bind (slicePart_int ?_)
  show wpAny _ _ (if ((-1 : Int) == 0) = true then _ else _) _ _ s
  rw [if_neg (by decide)]
  refine wpAny_bind (slicePart_none (wpAny_bind (slicePart_none (wpAny_bind (wpAny_pure ?_)))))
  show wpAny _ _ (match Builtin.Slice.sliceAdjust none none (-1) (n : Int) with | (lo, hi) => pure (lo, (-1 : Int), Builtin.Slice.slicePlaces lo hi (-1))) _ _ s
  rw [adj_back]
  show wpAny _ _ (pure ((n : Int) - 1, (-1 : Int), Builtin.Slice.slicePlaces ((n : Int) - 1) (-1) (-1))) _ _ s
  rw [plc_back]
  exact wpAny_pure h
theorem get_back {t sl : Addr} {items : Array Value} {u : Tok} {Q : Value → Shared → Prop} (ht : IsTup s.heap t items) (hs : s.heap.IsSliceOf sl .none .none (.int (-1) u))
    (h : Q (.ref s.heap.objs.size) { s with heap := s.heap.push { cls := .type "tuple", data := .seq items.toList.reverse.toArray } })
    (hsz : items.size ≤ sizeLine) : wpAny (model prog w) A (getItem (.ref t) (.ref sl)) Q E s := by
  have hok : sizeOk (.seq items.toList.reverse.toArray) := by
    show items.toList.reverse.toArray.size ≤ sizeLine
    rw [List.size_toArray, List.length_reverse, Array.length_toList]
    exact hsz
  obtain ⟨os, h1, h2, _⟩ := id hs
  have hT : s.TypeIs (.ref sl) "slice" := ⟨os, h1, h2⟩
  unfold getItem
  try with_reducible refine wpAny_holding ?_
  first | refine wpAny_bind (wpAny_pure ?_) | skip
  refine wpAny_bind (wpAny_sequenceKey ht.typeIs (by decide) ?_)
  refine wpAny_bind (wpAny_callSpecial?_slot (name := Str.ofString "__getitem__") ht.typeIs PyProof.Rows.slot_tuple_getitem (wpAny_call_entry PyProof.Rows.slot_tuple_getitem ht.typeIs entry_tuple_getitem ?_ (args_tuple_getitem _ _)))
  show wpAny _ _ (Builtin.Tuple.tupleItemsOf (.ref t) >>= _) _ _ s
  refine wpAny_bind (tupleItemsOf_ ht (wpAny_bind (wpAny_typeOf hT ?_)))
  rw [if_pos (by decide)]
  refine wpAny_bind (applied_back hs ?_)
  have hno : ¬ ((((items.size : Int) - 1) == 0 && (-1 : Int) == 1 && items.size == items.size) = true) := by
    rw [show ((-1 : Int) == 1) = false by decide]; simp
  show wpAny _ _ (if (((items.size : Int) - 1) == 0 && (-1 : Int) == 1 && items.size == items.size) = true then _ else _) _ _ s
  rw [if_neg hno, pick_back]
  first
    | exact wpAny_bind (m := Builtin.Tuple.tupleExact _) (wpAny_newObj_type (wpAny_pure ⟨_, rfl, wpAny_pure h⟩) hok)
    | exact wpAny_bind (m := Builtin.Tuple.tupleExact _) (wpAny_newObj_type (wpAny_bind (wpAny_pure (wpAny_pure ⟨_, rfl, wpAny_pure h⟩))) hok)
    | exact wpAny_bind (wpAny_bind (m := Builtin.Tuple.tupleExact _) (wpAny_newObj_type (wpAny_pure (wpAny_pure ⟨_, rfl, wpAny_pure h⟩)) hok))
    | exact wpAny_bind (wpAny_bind (m := Builtin.Tuple.tupleExact _) (wpAny_newObj_type (wpAny_pure ⟨_, rfl, wpAny_pure h⟩) hok))
end
section
variable {X : Cx} {e : Expr} {te : TE}
def tRevG (K : PySem.W.Frag) (te : TE) : TE := fun σ H Q => te σ H fun x H1 => ∃ a xs, x = .ref a ∧ SqT K H1 a xs ∧ News H1 (.tup xs.reverse) Q
theorem pe_revG {k : Nat} {p1 p2 p3 pos : Pos} (he : PE X e te) : PE X (.Subscript e (.Slice none none (some (.UnaryOp .USub (.Constant (.int 1) k p1) p2)) p3) pos) (tRevG X.K te) := by
  refine ⟨fun pins s σ H Q I h => ?_⟩
  refine Subscript_ (thn (he.run pins s σ H _ I h) fun v s1 ⟨x, H1, I1, r1, q1⟩ => ?_)
  obtain ⟨a, xs, ex, hx, q⟩ := q1
  subst ex
  cases r1
  have hst : PO X (some (.UnaryOp .USub (.Constant (.int 1) k p1) p2)) (tPart (tUn (rU fun i => .int (-i)) (tC (.int 1)))) := po_some (pe_un un_neg pe_int)
  refine wpAny_Slice (thn (po_none.run pins s1 σ H1 (fun o H2 => o = none ∧ H2 = H1) I1 ⟨rfl, rfl⟩) fun vl s2 ⟨l, H2, I2, pl, el, e2⟩ => ?_)
  subst el e2
  refine thn (po_none.run pins s2 σ H2 (fun o H3 => o = none ∧ H3 = H2) I2 ⟨rfl, rfl⟩) fun vu s3 ⟨u, H3, I3, pu, eu, e3⟩ => ?_
  subst eu e3
  refine thn (hst.run pins s3 σ H3 (fun o H4 => o = some (-1) ∧ H4 = H3) I3 ⟨1, rfl, -1, rfl, rfl, rfl⟩) fun vs s4 ⟨o, H4, I4, ps, eo, e4⟩ => ?_
  subst eo e4
  cases pl
  cases pu
  obtain ⟨tok, rfl⟩ : ∃ tok, vs = .int (-1) tok := by cases ps; exact ⟨_, rfl⟩
  have I5 : Inv X pins σ H4 { s4 with heap := s4.heap.push { cls := .type "slice", data := .fields #[.none, .none, .int (-1) tok] } } := I4.kept (t' := s4.toks) fun b ob q => Heap.get?_push_of_some _ q
  obtain ⟨its, r, ht, hz⟩ := I5.tuple hx
  have hlen := r.length
  show wpAny (model X.prog X.w) X.A (subscriptTail e (.Slice none none (some (.UnaryOp .USub (.Constant (.int 1) k p1) p2)) p3) (.ref a) (.ref s4.heap.objs.size)) (EP X pins σ Q) X.xe { s4 with heap := s4.heap.push { cls := .type "slice", data := .fields #[.none, .none, .int (-1) tok] } }
  refine tail_any (ops := [.ref a, .ref s4.heap.objs.size]) ht.typeIs (PyProof.Rows.slot_tuple_getitem.lookup) ?_ (by with_unfolding_all rfl)
  refine get_back ht (Heap.IsSliceOf.new _ _ _ _) ?_ (by rw [List.size_toArray]; omega)
  refine ⟨.ref _, _, I5.laid (t' := s4.toks) (o := .tup xs.reverse) (fun b ob q => Heap.get?_push_of_some _ q) (Nat.le_refl _) ?_, rfl, q.all _ (I5.hok.fresh (Nat.le_refl _))⟩
  exact ⟨by rw [List.length_reverse]; exact hz, _, r.reverse, IsTup.new _ _⟩
end
end Iz
/-! k85_text -/
set_option Elab.async false
set_option linter.all false
set_option maxRecDepth 100000
set_option maxHeartbeats 4000000
namespace Iz
open PySem PySem.Spec PyProof.Rows L2
open He (ga)
open SX (S S_len)
local macro_rules | `(tactic| walk_at "wp") => `(tactic| simp only [tD1, rTupN, rAll, rMax2, rMin2, tSl, tPart, tNoPart, rSlLN, tYes, rLenS, rRepN, unset, tEv2, calmS, tRevG, tRevLN, cx_K, Value.ref.injEq, HO.xd.injEq, lk0, tSeq, tPar3, tPar, tCons, tNil, tVar, tC, tAsg, gName, gCons, gNil, gTupN, gSub, tOp, rI, rI0, rU, tTest, rNe, rEq, rIxTN, rIxLN, rLenL, rLenT, tLstRg, tRg1, tRg2, rIntI, rIntB, rAbs, rSetLN, tTruL, tRaiseX, rIsTy, rIsOw, ixN0, ixN1, tRet, tIf, tIfS, tNext, tBreak, tCont, tDrop, tTupN, tLstN, tUn, tCB, tCall, tNot, tAnd, tOr, tB, tAndV, tOrV, tNotV, tChain, tApp, LamX.tLam, tRevLN, rCatN, rInTN, rInLN, flatV, inV, List.all_cons, List.all_nil, List.any_cons, List.any_nil, Bool.and_self, Bool.and_true, if_true, Bool.false_eq_true, if_false, tMt, tFldN, tSto, HO.ins.injEq, lkh, List.drop_zero, List.drop_succ_cons, List.drop_nil, rListS, wipe, L2.start, List.map_cons, List.map_nil, List.length_cons, List.length_nil, List.replicate, List.cons_append, List.nil_append, List.append_nil, Nat.reduceAdd, Nat.reduceSub, Nat.zero_add, List.replicate_succ, List.replicate_zero, List.getElem?_cons_zero, List.getElem?_cons_succ, List.set_cons_zero, List.set_cons_succ, Option.some.injEq, V.int.injEq, V.bl.injEq, V.ref.injEq, V.str.injEq, V.ty.injEq, List.cons.injEq, HO.tup.injEq, HO.lst.injEq, and_true, true_and, and_assoc, exists_eq_left, exists_eq_left', exists_and_left, exists_eq', atI0, atI1, atI2, atI3, Int.cast_ofNat_Int, Int.reduceToNat, scal_ii, scal_in, scal_ni, scal_nn, scal_bb, scal_ss, scal_sn, scal_ns, scal_bn, scal_nb, ite_iff, decide_eq_true_eq, decide_eq_false_iff_not, Bool.not_eq_true', Classical.not_not, ne_eq, not_false_eq_true, not_true_eq_false, forall_const, true_implies, false_implies, imp_self, sizeLine_eq, Nat.reduceLeDiff, reduceCtorEq, decide_true, decide_false])
def top (i : Nat) : Stmt := PySem.Challenge.pw_endlessplane_k85_whole_sieves.main.body.getD i (.Pass ⟨0, 0, 0, 0⟩)
abbrev s_is_whole : Stmt := top 7
abbrev N_is_whole : List Str := ["value"]
theorem sc_is_whole : FnScope ["value"] ["value"] (defScope s_is_whole) := ⟨rfl, rfl, rfl, by decide +kernel, rfl, by decide +kernel, by decide +kernel⟩
abbrev s_is_from : Stmt := top 8
abbrev N_is_from : List Str := ["value", "least"]
theorem sc_is_from : FnScope ["value", "least"] ["value", "least"] (defScope s_is_from) := ⟨rfl, rfl, rfl, by decide +kernel, rfl, by decide +kernel, by decide +kernel⟩
abbrev s_is_row : Stmt := top 9
abbrev N_is_row : List Str := ["value"]
theorem sc_is_row : FnScope ["value"] ["value"] (defScope s_is_row) := ⟨rfl, rfl, rfl, by decide +kernel, rfl, by decide +kernel, by decide +kernel⟩
abbrev s_is_span : Stmt := top 10
abbrev N_is_span : List Str := ["low", "high"]
theorem sc_is_span : FnScope ["low", "high"] ["low", "high"] (defScope s_is_span) := ⟨rfl, rfl, rfl, by decide +kernel, rfl, by decide +kernel, by decide +kernel⟩
abbrev s_require_whole : Stmt := top 11
abbrev N_require_whole : List Str := ["value"]
theorem sc_require_whole : FnScope ["value"] ["value"] (defScope s_require_whole) := ⟨rfl, rfl, rfl, by decide +kernel, rfl, by decide +kernel, by decide +kernel⟩
abbrev s_require_from : Stmt := top 12
abbrev N_require_from : List Str := ["value", "least"]
theorem sc_require_from : FnScope ["value", "least"] ["value", "least"] (defScope s_require_from) := ⟨rfl, rfl, rfl, by decide +kernel, rfl, by decide +kernel, by decide +kernel⟩
abbrev s_Stretch___init__ : Stmt := inClass (top 14) 0
abbrev N_Stretch___init__ : List Str := ["self", "low", "high"]
theorem sc_Stretch___init__ : FnScope ["self", "low", "high"] ["self", "low", "high"] (defScope s_Stretch___init__) := ⟨rfl, rfl, rfl, by decide +kernel, rfl, by decide +kernel, by decide +kernel⟩
abbrev s_Sieve___init__ : Stmt := inClass (top 20) 0
abbrev N_Sieve___init__ : List Str := ["self", "ks", "index", "item"]
theorem sc_Sieve___init__ : FnScope ["self", "ks", "index", "item"] ["self", "ks"] (defScope s_Sieve___init__) := ⟨rfl, rfl, rfl, by decide +kernel, rfl, by decide +kernel, by decide +kernel⟩
abbrev s_Sieve___eq__ : Stmt := inClass (top 20) 1
abbrev N_Sieve___eq__ : List Str := ["self", "other"]
theorem sc_Sieve___eq__ : FnScope ["self", "other"] ["self", "other"] (defScope s_Sieve___eq__) := ⟨rfl, rfl, rfl, by decide +kernel, rfl, by decide +kernel, by decide +kernel⟩
abbrev s_Sieve_product : Stmt := inClass (top 20) 2
abbrev N_Sieve_product : List Str := ["self"]
theorem sc_Sieve_product : FnScope ["self"] ["self"] (defScope s_Sieve_product) := ⟨rfl, rfl, rfl, by decide +kernel, rfl, by decide +kernel, by decide +kernel⟩
abbrev s_Sieve_many : Stmt := inClass (top 20) 3
abbrev N_Sieve_many : List Str := ["self", "k"]
theorem sc_Sieve_many : FnScope ["self", "k"] ["self"] (defScope s_Sieve_many) := ⟨rfl, rfl, rfl, by decide +kernel, rfl, by decide +kernel, by decide +kernel⟩
abbrev s_Sieve_is_left : Stmt := inClass (top 20) 4
abbrev N_Sieve_is_left : List Str := ["self", "value"]
theorem sc_Sieve_is_left : FnScope ["self", "value"] ["self", "value"] (defScope s_Sieve_is_left) := ⟨rfl, rfl, rfl, by decide +kernel, rfl, by decide +kernel, by decide +kernel⟩
abbrev s_Sieve_nth_left : Stmt := inClass (top 20) 5
abbrev N_Sieve_nth_left : List Str := ["self", "n", "k"]
theorem sc_Sieve_nth_left : FnScope ["self", "n", "k"] ["self", "n"] (defScope s_Sieve_nth_left) := ⟨rfl, rfl, rfl, by decide +kernel, rfl, by decide +kernel, by decide +kernel⟩
abbrev s_Sieve_place_of : Stmt := inClass (top 20) 6
abbrev N_Sieve_place_of : List Str := ["self", "x", "below"]
theorem sc_Sieve_place_of : FnScope ["self", "x", "below"] ["self", "x"] (defScope s_Sieve_place_of) := ⟨rfl, rfl, rfl, by decide +kernel, rfl, by decide +kernel, by decide +kernel⟩
abbrev s_Sieve_left_below : Stmt := inClass (top 20) 7
abbrev N_Sieve_left_below : List Str := ["self", "x", "many", "k"]
theorem sc_Sieve_left_below : FnScope ["self", "x", "many", "k"] ["self", "x"] (defScope s_Sieve_left_below) := ⟨rfl, rfl, rfl, by decide +kernel, rfl, by decide +kernel, by decide +kernel⟩
abbrev s_Sieve_next_left : Stmt := inClass (top 20) 8
abbrev N_Sieve_next_left : List Str := ["self", "x"]
theorem sc_Sieve_next_left : FnScope ["self", "x"] ["self", "x"] (defScope s_Sieve_next_left) := ⟨rfl, rfl, rfl, by decide +kernel, rfl, by decide +kernel, by decide +kernel⟩
abbrev s_Sieve_left_in : Stmt := inClass (top 20) 9
abbrev N_Sieve_left_in : List Str := ["self", "stretch"]
theorem sc_Sieve_left_in : FnScope ["self", "stretch"] ["self", "stretch"] (defScope s_Sieve_left_in) := ⟨rfl, rfl, rfl, by decide +kernel, rfl, by decide +kernel, by decide +kernel⟩
abbrev s_Sieve_leaves_alike : Stmt := inClass (top 20) 10
abbrev N_Sieve_leaves_alike : List Str := ["self", "other", "n"]
theorem sc_Sieve_leaves_alike : FnScope ["self", "other", "n"] ["self", "other"] (defScope s_Sieve_leaves_alike) := ⟨rfl, rfl, rfl, by decide +kernel, rfl, by decide +kernel, by decide +kernel⟩
abbrev s_require_sieve : Stmt := top 21
abbrev N_require_sieve : List Str := ["value"]
theorem sc_require_sieve : FnScope ["value"] ["value"] (defScope s_require_sieve) := ⟨rfl, rfl, rfl, by decide +kernel, rfl, by decide +kernel, by decide +kernel⟩
abbrev s__product_of : Stmt := top 22
abbrev N__product_of : List Str := ["numbers", "total", "number"]
theorem sc__product_of : FnScope ["numbers", "total", "number"] ["numbers"] (defScope s__product_of) := ⟨rfl, rfl, rfl, by decide +kernel, rfl, by decide +kernel, by decide +kernel⟩
abbrev s__law_pool : Stmt := top 24
abbrev N__law_pool : List Str := ["_law_script", "_law_k", "_law_cell", "_law_size", "_law_mixed"]
theorem sc__law_pool : FnScope ["_law_script", "_law_k", "_law_cell", "_law_size", "_law_mixed"] ["_law_script", "_law_k"] (defScope s__law_pool) := ⟨rfl, rfl, rfl, by decide +kernel, rfl, by decide +kernel, by decide +kernel⟩
abbrev s__law_draw : Stmt := top 25
abbrev N__law_draw : List Str := ["_law_pool_here", "_law_many", "_law_found"]
theorem sc__law_draw : FnScope ["_law_pool_here", "_law_many", "_law_found"] ["_law_pool_here", "_law_many"] (defScope s__law_draw) := ⟨rfl, rfl, rfl, by decide +kernel, rfl, by decide +kernel, by decide +kernel⟩
abbrev s__law_pick : Stmt := top 26
abbrev N__law_pick : List Str := ["_law_pool_here", "_law_some"]
theorem sc__law_pick : FnScope ["_law_pool_here", "_law_some"] ["_law_pool_here", "_law_some"] (defScope s__law_pick) := ⟨rfl, rfl, rfl, by decide +kernel, rfl, by decide +kernel, by decide +kernel⟩
abbrev s__law_struck : Stmt := top 27
abbrev N__law_struck : List Str := ["_law_ks", "_law_many", "_law_left", "_law_k", "_law_at"]
theorem sc__law_struck : FnScope ["_law_ks", "_law_many", "_law_left", "_law_k", "_law_at"] ["_law_ks", "_law_many"] (defScope s__law_struck) := ⟨rfl, rfl, rfl, by decide +kernel, rfl, by decide +kernel, by decide +kernel⟩
abbrev s__law_product : Stmt := top 28
abbrev N__law_product : List Str := ["_law_ks", "_law_less", "_law_found", "_law_k"]
theorem sc__law_product : FnScope ["_law_ks", "_law_less", "_law_found", "_law_k"] ["_law_ks", "_law_less"] (defScope s__law_product) := ⟨rfl, rfl, rfl, by decide +kernel, rfl, by decide +kernel, by decide +kernel⟩
abbrev s__law_near_right : Stmt := top 29
abbrev N__law_near_right : List Str := ["_law_pool_here", "_law_sieve", "_law_left", "_law_many", "_law_turn", "_law_x", "_law_below", "_law_behind", "_law_high", "_law_one"]
theorem sc__law_near_right : FnScope ["_law_pool_here", "_law_sieve", "_law_left", "_law_many", "_law_turn", "_law_x", "_law_below", "_law_behind", "_law_high", "_law_one"] ["_law_pool_here", "_law_sieve", "_law_left", "_law_many"] (defScope s__law_near_right) := ⟨rfl, rfl, rfl, by decide +kernel, rfl, by decide +kernel, by decide +kernel⟩
abbrev s__law_far_right : Stmt := top 30
abbrev N__law_far_right : List Str := ["_law_pool_here", "_law_sieve", "_law_left", "_law_times", "_law_far", "_law_step", "_law_turn", "_law_n", "_law_x"]
theorem sc__law_far_right : FnScope ["_law_pool_here", "_law_sieve", "_law_left", "_law_times", "_law_far", "_law_step", "_law_turn", "_law_n", "_law_x"] ["_law_pool_here", "_law_sieve", "_law_left"] (defScope s__law_far_right) := ⟨rfl, rfl, rfl, by decide +kernel, rfl, by decide +kernel, by decide +kernel⟩
abbrev s__law_alike_right : Stmt := top 31
abbrev N__law_alike_right : List Str := ["_law_ks", "_law_others", "_law_many"]
theorem sc__law_alike_right : FnScope ["_law_ks", "_law_others", "_law_many"] ["_law_ks", "_law_others"] (defScope s__law_alike_right) := ⟨rfl, rfl, rfl, by decide +kernel, rfl, by decide +kernel, by decide +kernel⟩
abbrev s_law : Stmt := top 32
abbrev N_law : List Str := ["_law_script", "_law_rows", "_law_one", "_law_other", "_law_k", "_law_pool_here", "_law_ks", "_law_sieve", "_law_left", "_law_others", "_law_odd", "_law_at"]
theorem sc_law : FnScope ["_law_script", "_law_rows", "_law_one", "_law_other", "_law_k", "_law_pool_here", "_law_ks", "_law_sieve", "_law_left", "_law_others", "_law_odd", "_law_at"] ["_law_script"] (defScope s_law) := ⟨rfl, rfl, rfl, by decide +kernel, rfl, by decide +kernel, by decide +kernel⟩
theorem b_Stretch___init__ {K : PySem.W.Frag} {f : Addr} {fd : FuncData} (F : FunD K "__init__" "Stretch.__init__" (defArgs s_Stretch___init__) (defBody s_Stretch___init__) (defScope s_Stretch___init__) [.non, .non] [] f fd) : BindD K fd ["self", "low", "high"] [.non, .non] := fun j hj => match j, hj with
    | 0, _ => F.binds1 1 0 (by simp) rfl fun _ _ _ _ _ _ _ us its hu hi => match us, its, hu, hi with | [_], [_, _], _, _ => ⟨_, rfl, rfl⟩
    | 1, _ => F.binds1 2 1 (by simp) rfl fun _ _ _ _ _ _ _ us its hu hi => match us, its, hu, hi with | [_, _], [_, _], _, _ => ⟨_, rfl, rfl⟩
    | 2, _ => F.binds1 3 2 (by simp) rfl fun _ _ _ _ _ _ _ us its hu hi => match us, its, hu, hi with | [_, _, _], [_, _], _, _ => ⟨_, rfl, rfl⟩
    | j + 3, h => absurd h (by simp)
theorem b_Sieve___init__ {K : PySem.W.Frag} {f : Addr} {fd : FuncData} (F : FunD K "__init__" "Sieve.__init__" (defArgs s_Sieve___init__) (defBody s_Sieve___init__) (defScope s_Sieve___init__) [] [] f fd) : BindD K fd ["self", "ks"] [] := BindD.none (F.bindsN fun _ _ _ _ _ _ us hl => match us, hl with | [_, _], _ => rfl)
theorem b_Sieve___eq__ {K : PySem.W.Frag} {f : Addr} {fd : FuncData} (F : FunD K "__eq__" "Sieve.__eq__" (defArgs s_Sieve___eq__) (defBody s_Sieve___eq__) (defScope s_Sieve___eq__) [] [] f fd) : BindD K fd ["self", "other"] [] := BindD.none (F.bindsN fun _ _ _ _ _ _ us hl => match us, hl with | [_, _], _ => rfl)
theorem b_Sieve_product {K : PySem.W.Frag} {f : Addr} {fd : FuncData} (F : FunD K "product" "Sieve.product" (defArgs s_Sieve_product) (defBody s_Sieve_product) (defScope s_Sieve_product) [] [] f fd) : BindD K fd ["self"] [] := BindD.none (F.bindsN fun _ _ _ _ _ _ us hl => match us, hl with | [_], _ => rfl)
theorem b_Sieve_many {K : PySem.W.Frag} {f : Addr} {fd : FuncData} (F : FunD K "many" "Sieve.many" (defArgs s_Sieve_many) (defBody s_Sieve_many) (defScope s_Sieve_many) [] [] f fd) : BindD K fd ["self"] [] := BindD.none (F.bindsN fun _ _ _ _ _ _ us hl => match us, hl with | [_], _ => rfl)
theorem b_Sieve_is_left {K : PySem.W.Frag} {f : Addr} {fd : FuncData} (F : FunD K "is_left" "Sieve.is_left" (defArgs s_Sieve_is_left) (defBody s_Sieve_is_left) (defScope s_Sieve_is_left) [] [] f fd) : BindD K fd ["self", "value"] [] := BindD.none (F.bindsN fun _ _ _ _ _ _ us hl => match us, hl with | [_, _], _ => rfl)
theorem b_Sieve_nth_left {K : PySem.W.Frag} {f : Addr} {fd : FuncData} (F : FunD K "nth_left" "Sieve.nth_left" (defArgs s_Sieve_nth_left) (defBody s_Sieve_nth_left) (defScope s_Sieve_nth_left) [] [] f fd) : BindD K fd ["self", "n"] [] := BindD.none (F.bindsN fun _ _ _ _ _ _ us hl => match us, hl with | [_, _], _ => rfl)
theorem b_Sieve_place_of {K : PySem.W.Frag} {f : Addr} {fd : FuncData} (F : FunD K "place_of" "Sieve.place_of" (defArgs s_Sieve_place_of) (defBody s_Sieve_place_of) (defScope s_Sieve_place_of) [] [] f fd) : BindD K fd ["self", "x"] [] := BindD.none (F.bindsN fun _ _ _ _ _ _ us hl => match us, hl with | [_, _], _ => rfl)
theorem b_Sieve_left_below {K : PySem.W.Frag} {f : Addr} {fd : FuncData} (F : FunD K "left_below" "Sieve.left_below" (defArgs s_Sieve_left_below) (defBody s_Sieve_left_below) (defScope s_Sieve_left_below) [] [] f fd) : BindD K fd ["self", "x"] [] := BindD.none (F.bindsN fun _ _ _ _ _ _ us hl => match us, hl with | [_, _], _ => rfl)
theorem b_Sieve_next_left {K : PySem.W.Frag} {f : Addr} {fd : FuncData} (F : FunD K "next_left" "Sieve.next_left" (defArgs s_Sieve_next_left) (defBody s_Sieve_next_left) (defScope s_Sieve_next_left) [] [] f fd) : BindD K fd ["self", "x"] [] := BindD.none (F.bindsN fun _ _ _ _ _ _ us hl => match us, hl with | [_, _], _ => rfl)
theorem b_Sieve_left_in {K : PySem.W.Frag} {f : Addr} {fd : FuncData} (F : FunD K "left_in" "Sieve.left_in" (defArgs s_Sieve_left_in) (defBody s_Sieve_left_in) (defScope s_Sieve_left_in) [] [] f fd) : BindD K fd ["self", "stretch"] [] := BindD.none (F.bindsN fun _ _ _ _ _ _ us hl => match us, hl with | [_, _], _ => rfl)
theorem b_Sieve_leaves_alike {K : PySem.W.Frag} {f : Addr} {fd : FuncData} (F : FunD K "leaves_alike" "Sieve.leaves_alike" (defArgs s_Sieve_leaves_alike) (defBody s_Sieve_leaves_alike) (defScope s_Sieve_leaves_alike) [] [] f fd) : BindD K fd ["self", "other"] [] := BindD.none (F.bindsN fun _ _ _ _ _ _ us hl => match us, hl with | [_, _], _ => rfl)
structure Txt (K : PySem.W.Frag) (mg : Str → Option Value) : Prop where
  d_is_whole : ∃ (f : Addr) (fd : FuncData), mg "is_whole" = some (.ref f) ∧ Fun K "is_whole" "is_whole" s_is_whole f fd
  d_is_from : ∃ (f : Addr) (fd : FuncData), mg "is_from" = some (.ref f) ∧ Fun K "is_from" "is_from" s_is_from f fd
  d_is_row : ∃ (f : Addr) (fd : FuncData), mg "is_row" = some (.ref f) ∧ Fun K "is_row" "is_row" s_is_row f fd
  d_is_span : ∃ (f : Addr) (fd : FuncData), mg "is_span" = some (.ref f) ∧ Fun K "is_span" "is_span" s_is_span f fd
  d_require_whole : ∃ (f : Addr) (fd : FuncData), mg "require_whole" = some (.ref f) ∧ Fun K "require_whole" "require_whole" s_require_whole f fd
  d_require_from : ∃ (f : Addr) (fd : FuncData), mg "require_from" = some (.ref f) ∧ Fun K "require_from" "require_from" s_require_from f fd
  d_require_sieve : ∃ (f : Addr) (fd : FuncData), mg "require_sieve" = some (.ref f) ∧ Fun K "require_sieve" "require_sieve" s_require_sieve f fd
  d__product_of : ∃ (f : Addr) (fd : FuncData), mg "_product_of" = some (.ref f) ∧ Fun K "_product_of" "_product_of" s__product_of f fd
  d__law_pool : ∃ (f : Addr) (fd : FuncData), mg "_law_pool" = some (.ref f) ∧ Fun K "_law_pool" "_law_pool" s__law_pool f fd
  d__law_draw : ∃ (f : Addr) (fd : FuncData), mg "_law_draw" = some (.ref f) ∧ Fun K "_law_draw" "_law_draw" s__law_draw f fd
  d__law_pick : ∃ (f : Addr) (fd : FuncData), mg "_law_pick" = some (.ref f) ∧ Fun K "_law_pick" "_law_pick" s__law_pick f fd
  d__law_struck : ∃ (f : Addr) (fd : FuncData), mg "_law_struck" = some (.ref f) ∧ Fun K "_law_struck" "_law_struck" s__law_struck f fd
  d__law_product : ∃ (f : Addr) (fd : FuncData), mg "_law_product" = some (.ref f) ∧ Fun K "_law_product" "_law_product" s__law_product f fd
  d__law_near_right : ∃ (f : Addr) (fd : FuncData), mg "_law_near_right" = some (.ref f) ∧ Fun K "_law_near_right" "_law_near_right" s__law_near_right f fd
  d__law_far_right : ∃ (f : Addr) (fd : FuncData), mg "_law_far_right" = some (.ref f) ∧ Fun K "_law_far_right" "_law_far_right" s__law_far_right f fd
  d__law_alike_right : ∃ (f : Addr) (fd : FuncData), mg "_law_alike_right" = some (.ref f) ∧ Fun K "_law_alike_right" "_law_alike_right" s__law_alike_right f fd
  d_law : ∃ (f : Addr) (fd : FuncData), mg "law" = some (.ref f) ∧ Fun K "law" "law" s_law f fd
  ci_Stretch : ClsI K (ga K "Stretch")
  c_Stretch : Cls K (ga K "Stretch")
  g_Stretch : mg "Stretch" = some (.ref (ga K "Stretch"))
  na_Stretch_low : NoAttr K (ga K "Stretch") "low"
  na_Stretch_high : NoAttr K (ga K "Stretch") "high"
  ci_Sieve : ClsI K (ga K "Sieve")
  c_Sieve : Cls K (ga K "Sieve")
  g_Sieve : mg "Sieve" = some (.ref (ga K "Sieve"))
  na_Sieve_ks : NoAttr K (ga K "Sieve") "ks"
  d_Stretch___init__ : ∃ (f : Addr) (fd : FuncData), Mk K (ga K "Stretch") f ∧ FunD K "__init__" "Stretch.__init__" (defArgs s_Stretch___init__) (defBody s_Stretch___init__) (defScope s_Stretch___init__) [.non, .non] [] f fd
  d_Sieve___init__ : ∃ (f : Addr) (fd : FuncData), Mk K (ga K "Sieve") f ∧ FunD K "__init__" "Sieve.__init__" (defArgs s_Sieve___init__) (defBody s_Sieve___init__) (defScope s_Sieve___init__) [] [] f fd
  d_Sieve___eq__ : ∃ (f : Addr) (fd : FuncData), Meth K (ga K "Sieve") "__eq__" f ∧ FunD K "__eq__" "Sieve.__eq__" (defArgs s_Sieve___eq__) (defBody s_Sieve___eq__) (defScope s_Sieve___eq__) [] [] f fd
  d_Sieve_product : ∃ (f : Addr) (fd : FuncData), Meth K (ga K "Sieve") "product" f ∧ FunD K "product" "Sieve.product" (defArgs s_Sieve_product) (defBody s_Sieve_product) (defScope s_Sieve_product) [] [] f fd
  d_Sieve_many : ∃ (f : Addr) (fd : FuncData), Meth K (ga K "Sieve") "many" f ∧ FunD K "many" "Sieve.many" (defArgs s_Sieve_many) (defBody s_Sieve_many) (defScope s_Sieve_many) [] [] f fd
  d_Sieve_is_left : ∃ (f : Addr) (fd : FuncData), Meth K (ga K "Sieve") "is_left" f ∧ FunD K "is_left" "Sieve.is_left" (defArgs s_Sieve_is_left) (defBody s_Sieve_is_left) (defScope s_Sieve_is_left) [] [] f fd
  d_Sieve_nth_left : ∃ (f : Addr) (fd : FuncData), Meth K (ga K "Sieve") "nth_left" f ∧ FunD K "nth_left" "Sieve.nth_left" (defArgs s_Sieve_nth_left) (defBody s_Sieve_nth_left) (defScope s_Sieve_nth_left) [] [] f fd
  d_Sieve_place_of : ∃ (f : Addr) (fd : FuncData), Meth K (ga K "Sieve") "place_of" f ∧ FunD K "place_of" "Sieve.place_of" (defArgs s_Sieve_place_of) (defBody s_Sieve_place_of) (defScope s_Sieve_place_of) [] [] f fd
  d_Sieve_left_below : ∃ (f : Addr) (fd : FuncData), Meth K (ga K "Sieve") "left_below" f ∧ FunD K "left_below" "Sieve.left_below" (defArgs s_Sieve_left_below) (defBody s_Sieve_left_below) (defScope s_Sieve_left_below) [] [] f fd
  d_Sieve_next_left : ∃ (f : Addr) (fd : FuncData), Meth K (ga K "Sieve") "next_left" f ∧ FunD K "next_left" "Sieve.next_left" (defArgs s_Sieve_next_left) (defBody s_Sieve_next_left) (defScope s_Sieve_next_left) [] [] f fd
  d_Sieve_left_in : ∃ (f : Addr) (fd : FuncData), Meth K (ga K "Sieve") "left_in" f ∧ FunD K "left_in" "Sieve.left_in" (defArgs s_Sieve_left_in) (defBody s_Sieve_left_in) (defScope s_Sieve_left_in) [] [] f fd
  d_Sieve_leaves_alike : ∃ (f : Addr) (fd : FuncData), Meth K (ga K "Sieve") "leaves_alike" f ∧ FunD K "leaves_alike" "Sieve.leaves_alike" (defArgs s_Sieve_leaves_alike) (defBody s_Sieve_leaves_alike) (defScope s_Sieve_leaves_alike) [] [] f fd
  k_MOST_STRIKES : ∃ t, mg "MOST_STRIKES" = some (.int 5 t)
  m_isinstance : mg "isinstance" = none
  m_int : mg "int" = none
  m_bool : mg "bool" = none
  m_tuple : mg "tuple" = none
  m_len : mg "len" = none
  m_list : mg "list" = none
  m_range : mg "range" = none
  m_max : mg "max" = none
  m_min : mg "min" = none
  m_sum : mg "sum" = none
  m_abs : mg "abs" = none
  m_all : mg "all" = none
  m_enumerate : mg "enumerate" = none
end Iz
/-! k85_a -/
set_option Elab.async false
set_option linter.all false
set_option maxRecDepth 100000
set_option maxHeartbeats 4000000
namespace Iz
open PySem PySem.Spec PyProof.Rows L2
open He (ga)
open SX (S S_len)
local macro_rules | `(tactic| walk_at "wp") => `(tactic| simp only [tD1, rTupN, rAll, rMax2, rMin2, tSl, tPart, tNoPart, rSlLN, tYes, rLenS, rRepN, unset, tEv2, calmS, tRevG, tRevLN, cx_K, Value.ref.injEq, HO.xd.injEq, lk0, tSeq, tPar3, tPar, tCons, tNil, tVar, tC, tAsg, gName, gCons, gNil, gTupN, gSub, tOp, rI, rI0, rU, tTest, rNe, rEq, rIxTN, rIxLN, rLenL, rLenT, tLstRg, tRg1, tRg2, rIntI, rIntB, rAbs, rSetLN, tTruL, tRaiseX, rIsTy, rIsOw, ixN0, ixN1, tRet, tIf, tIfS, tNext, tBreak, tCont, tDrop, tTupN, tLstN, tUn, tCB, tCall, tNot, tAnd, tOr, tB, tAndV, tOrV, tNotV, tChain, tApp, LamX.tLam, tRevLN, rCatN, rInTN, rInLN, flatV, inV, List.all_cons, List.all_nil, List.any_cons, List.any_nil, Bool.and_self, Bool.and_true, if_true, Bool.false_eq_true, if_false, tMt, tFldN, tSto, HO.ins.injEq, lkh, List.drop_zero, List.drop_succ_cons, List.drop_nil, rListS, wipe, L2.start, List.map_cons, List.map_nil, List.length_cons, List.length_nil, List.replicate, List.cons_append, List.nil_append, List.append_nil, Nat.reduceAdd, Nat.reduceSub, Nat.zero_add, List.replicate_succ, List.replicate_zero, List.getElem?_cons_zero, List.getElem?_cons_succ, List.set_cons_zero, List.set_cons_succ, Option.some.injEq, V.int.injEq, V.bl.injEq, V.ref.injEq, V.str.injEq, V.ty.injEq, List.cons.injEq, HO.tup.injEq, HO.lst.injEq, and_true, true_and, and_assoc, exists_eq_left, exists_eq_left', exists_and_left, exists_eq', atI0, atI1, atI2, atI3, Int.cast_ofNat_Int, Int.reduceToNat, scal_ii, scal_in, scal_ni, scal_nn, scal_bb, scal_ss, scal_sn, scal_ns, scal_bn, scal_nb, ite_iff, decide_eq_true_eq, decide_eq_false_iff_not, Bool.not_eq_true', Classical.not_not, ne_eq, not_false_eq_true, not_true_eq_false, forall_const, true_implies, false_implies, imp_self, sizeLine_eq, Nat.reduceLeDiff, reduceCtorEq, decide_true, decide_false])
section
variable {P : Program} {w : World} {K : PySem.W.Frag} {mg : Str → Option Value} {base : Heap}
/-! ### basics -/
def spWhole (K : PySem.W.Frag) : Sp := fun vs H Q _ => ∃ x, vs = [x] ∧ Wh K H x ∧ Q (.bl (isI x)) H
theorem o_is_whole (T : Txt K mg) : OkF P w K mg base CX0 1 "is_whole" ["value"] (spWhole K) := by
  obtain ⟨f, fd, g, F⟩ := T.d_is_whole
  refine ⟨f, fd, g, F.kp, F.binds (fun _ _ _ _ _ _ us hl => match us, hl with | [_], _ => rfl), F.ok sc_is_whole (fun vs H Q E h => ?_) (fun cdv A outer s H vs Q E hr h => ?_)⟩
  · obtain ⟨x, rfl, _⟩ := h; rfl
  · obtain ⟨x, rfl, ⟨t, b1, b2, ty, k1, k2, e⟩, kk⟩ := h
    refine ⟨_, pss_one (ps_ret (pe_and (pe_callB call_isTy (by rfl) T.m_isinstance (by decide +kernel) (pa_cons (pv 0) (pa_cons ((pe_bltn (v := .ty "int") (by rfl) T.m_int (by decide +kernel) rfl)) pa_nil))) (pe_one (pe_not (pe_callB call_isTy (by rfl) T.m_isinstance (by decide +kernel) (pa_cons (pv 0) (pa_cons ((pe_bltn (v := .ty "bool") (by rfl) T.m_bool (by decide +kernel) rfl)) pa_nil))))))), ?_⟩
    walk_at "wp"
    rw [← e] at kk
    refine ⟨t, ty, b1, k1, fun h => ⟨t, ty, b2, k2, ?_⟩, fun h => ?_⟩
    · subst h; exact kk
    · cases b1
      · exact kk
      · exact absurd rfl h

/-! ### small ones -/
theorem st_lcTG {K : PySem.W.Frag} {tl : TE} {g : L2.TG} {tt : TT} {te : TE} {vs : List Nat} {σ : L2.St} {H : Hp} {Q : VK} {a : Addr} {xs : List V} (ha : ∀ R : V → Hp → Prop, R (.ref a) H → tl σ H R) (hx : SqT K H a xs) (Pv : Addr → Nat → Hp → Prop)
    (h0 : ∀ D H1, H D = none → Same H H1 → H1 D = some (.lst []) → Pv D 0 H1) (hl : ∀ D i H, Pv D i H → SqT K H a xs)
    (hs : ∀ D i x H, xs[i]? = some x → Pv D i H → g x (wipe σ vs) H fun σ2 H2 => wipe σ2 vs = wipe σ vs ∧ tt σ2 H2 fun b H3 => if b = true then te σ2 H3 fun y H4 => ∃ acc, H4 D = some (.lst acc) ∧ acc.length < sizeLine ∧ Pv D (i + 1) (upd H4 D (.lst (acc ++ [y]))) else Pv D (i + 1) H3)
    (hd : ∀ D H, Pv D xs.length H → Q (.ref D) H) : tLc (iTup K tl) g tt te vs σ H Q :=
  ha _ ⟨a, rfl, ⟨xs, hx⟩, fun D hD => lc_tup (Pv D) (h0 D _ hD (Same.upd hD) upd_same) (fun i H _ p => hl D i H p) (hs D) (hd D)⟩
theorem st_forSq {K : PySem.W.Frag} {tl : TE} {g : L2.TG} {tb : TS} {D : Ends} {σ : L2.St} {H : Hp} {a : Addr} {xs : List V} (ha : ∀ R : V → Hp → Prop, R (.ref a) H → tl σ H R) (hx : SqT K H a xs) (Pv : Nat → L2.St → Hp → Prop) (h0 : Pv 0 σ H) (hl : ∀ i σ H, Pv i σ H → SqT K H a xs)
    (hs : ∀ i x σ H, xs[i]? = some x → Pv i σ H → g x σ H fun σ2 H2 => tb { D with nx := Pv (i + 1), ct := Pv (i + 1), bk := D.nx } σ2 H2) (hd : ∀ σ H, Pv xs.length σ H → D.nx σ H) : tFor (iTup K tl) g tb D σ H :=
  ha _ ⟨a, rfl, ⟨xs, hx⟩, for_tup Pv h0 (fun i σ H _ p => hl i σ H p) hs hd⟩
theorem get_int {ks : List Int} {i : Nat} {x : V} (h : (ks.map V.int)[i]? = some x) : ∃ k, ks[i]? = some k ∧ x = .int k := by
  rw [List.getElem?_map] at h
  obtain ⟨k, h1, h2⟩ := Option.map_eq_some_iff.mp h
  exact ⟨k, h1, h2.symm⟩
def spIsF : Sp := fun vs H Q _ => ∃ x l, vs = [.int x, .int l] ∧ Q (.bl (decide (l ≤ x))) H
theorem o_is_from (T : Txt K mg) : OkF P w K mg base CX0 2 "is_from" ["value", "least"] spIsF := by
  have o_is_whole := o_is_whole (P := P) (w := w) (base := base) T
  obtain ⟨f, fd, g, F⟩ := T.d_is_from
  refine ⟨f, fd, g, F.kp, F.binds (fun _ _ _ _ _ _ us hl => match us, hl with | [_, _], _ => rfl), F.ok sc_is_from (fun vs H Q E h => ?_) (fun cdv A outer s H vs Q E hr h => ?_)⟩
  · first | (obtain ⟨_, rfl, _⟩ := h; rfl) | (obtain ⟨rfl, _⟩ := h; rfl) | (obtain ⟨_, _, rfl, _⟩ := h; rfl) | (obtain ⟨_, _, _, rfl, _⟩ := h; rfl) | (obtain ⟨_, _, _, _, rfl, _⟩ := h; rfl) | (obtain ⟨_, _, _, _, _, rfl, _⟩ := h; rfl) | (obtain ⟨_, _, _, _, _, _, rfl, _⟩ := h; rfl) | (obtain ⟨_, _, _, _, _, _, _, rfl, _⟩ := h; rfl)
  have hu64 := hr.units
  refine ⟨_, pss_one (ps_ret (pe_and (pcl o_is_whole (hr.mono (by decide)) pass0 (pa_cons (pv 0) pa_nil)) (pe_one (pe_cmpR op_ge (pv 0) (pv 1) (nomark _))))), ?_⟩
  obtain ⟨x, l, rfl, k⟩ := h
  simp only [spWhole, exists_and_left, tD1, rTupN, rAll, rMax2, rMin2, tSl, tPart, tNoPart, rSlLN, tYes, rLenS, rRepN, unset, tEv2, calmS, tRevG, tRevLN, cx_K, Value.ref.injEq, HO.xd.injEq, lk0, tSeq, tPar3, tPar, tCons, tNil, tVar, tC, tAsg, gName, gCons, gNil, gTupN, gSub, tOp, rI, rI0, rU, tTest, rNe, rEq, rIxTN, rIxLN, rLenL, rLenT, tLstRg, tRg1, tRg2, rIntI, rIntB, rAbs, rSetLN, tTruL, tRaiseX, rIsTy, rIsOw, ixN0, ixN1, tRet, tIf, tIfS, tNext, tBreak, tCont, tDrop, tTupN, tLstN, tUn, tCB, tCall, tNot, tAnd, tOr, tB, tAndV, tOrV, tNotV, tChain, tApp, LamX.tLam, tRevLN, rCatN, rInTN, rInLN, flatV, inV, List.all_cons, List.all_nil, List.any_cons, List.any_nil, Bool.and_self, Bool.and_true, if_true, Bool.false_eq_true, if_false, tMt, tFldN, tSto, HO.ins.injEq, lkh, List.drop_zero, List.drop_succ_cons, List.drop_nil, rListS, wipe, L2.start, List.map_cons, List.map_nil, List.length_cons, List.length_nil, List.replicate, List.cons_append, List.nil_append, List.append_nil, Nat.reduceAdd, Nat.reduceSub, Nat.zero_add, List.replicate_succ, List.replicate_zero, List.getElem?_cons_zero, List.getElem?_cons_succ, List.set_cons_zero, List.set_cons_succ, Option.some.injEq, V.int.injEq, V.bl.injEq, V.ref.injEq, V.str.injEq, V.ty.injEq, List.cons.injEq, HO.tup.injEq, HO.lst.injEq, and_true, true_and, and_assoc, exists_eq_left, exists_eq_left', exists_and_left, exists_eq', atI0, atI1, atI2, atI3, Int.cast_ofNat_Int, Int.reduceToNat, scal_ii, scal_in, scal_ni, scal_nn, scal_bb, scal_ss, scal_sn, scal_ns, scal_bn, scal_nb, ite_iff, decide_eq_true_eq, decide_eq_false_iff_not, Bool.not_eq_true', Classical.not_not, ne_eq, not_false_eq_true, not_true_eq_false, forall_const, true_implies, false_implies, imp_self, sizeLine_eq, Nat.reduceLeDiff, reduceCtorEq, decide_true, decide_false]
  exact ⟨wh_int, fun _ => k, fun c => absurd rfl c⟩
def spReqW : Sp := fun vs H Q _ => ∃ x : Int, vs = [.int x] ∧ Q .non H
theorem o_require_whole (T : Txt K mg) : OkF P w K mg base CX0 2 "require_whole" ["value"] spReqW := by
  have o_is_whole := o_is_whole (P := P) (w := w) (base := base) T
  obtain ⟨f, fd, g, F⟩ := T.d_require_whole
  refine ⟨f, fd, g, F.kp, F.binds (fun _ _ _ _ _ _ us hl => match us, hl with | [_], _ => rfl), F.ok sc_require_whole (fun vs H Q E h => ?_) (fun cdv A outer s H vs Q E hr h => ?_)⟩
  · first | (obtain ⟨_, rfl, _⟩ := h; rfl) | (obtain ⟨rfl, _⟩ := h; rfl) | (obtain ⟨_, _, rfl, _⟩ := h; rfl) | (obtain ⟨_, _, _, rfl, _⟩ := h; rfl) | (obtain ⟨_, _, _, _, rfl, _⟩ := h; rfl) | (obtain ⟨_, _, _, _, _, rfl, _⟩ := h; rfl) | (obtain ⟨_, _, _, _, _, _, rfl, _⟩ := h; rfl) | (obtain ⟨_, _, _, _, _, _, _, rfl, _⟩ := h; rfl)
  have hu64 := hr.units
  refine ⟨_, pss_one (ps_if (pt_not (pt_val (pcl o_is_whole (hr.mono (by decide)) pass0 (pa_cons (pv 0) pa_nil)))) (pss_one (ps_never)) (pss_nil)), ?_⟩
  obtain ⟨x, rfl, k⟩ := h
  simp only [spWhole, exists_and_left, tD1, rTupN, rAll, rMax2, rMin2, tSl, tPart, tNoPart, rSlLN, tYes, rLenS, rRepN, unset, tEv2, calmS, tRevG, tRevLN, cx_K, Value.ref.injEq, HO.xd.injEq, lk0, tSeq, tPar3, tPar, tCons, tNil, tVar, tC, tAsg, gName, gCons, gNil, gTupN, gSub, tOp, rI, rI0, rU, tTest, rNe, rEq, rIxTN, rIxLN, rLenL, rLenT, tLstRg, tRg1, tRg2, rIntI, rIntB, rAbs, rSetLN, tTruL, tRaiseX, rIsTy, rIsOw, ixN0, ixN1, tRet, tIf, tIfS, tNext, tBreak, tCont, tDrop, tTupN, tLstN, tUn, tCB, tCall, tNot, tAnd, tOr, tB, tAndV, tOrV, tNotV, tChain, tApp, LamX.tLam, tRevLN, rCatN, rInTN, rInLN, flatV, inV, List.all_cons, List.all_nil, List.any_cons, List.any_nil, Bool.and_self, Bool.and_true, if_true, Bool.false_eq_true, if_false, tMt, tFldN, tSto, HO.ins.injEq, lkh, List.drop_zero, List.drop_succ_cons, List.drop_nil, rListS, wipe, L2.start, List.map_cons, List.map_nil, List.length_cons, List.length_nil, List.replicate, List.cons_append, List.nil_append, List.append_nil, Nat.reduceAdd, Nat.reduceSub, Nat.zero_add, List.replicate_succ, List.replicate_zero, List.getElem?_cons_zero, List.getElem?_cons_succ, List.set_cons_zero, List.set_cons_succ, Option.some.injEq, V.int.injEq, V.bl.injEq, V.ref.injEq, V.str.injEq, V.ty.injEq, List.cons.injEq, HO.tup.injEq, HO.lst.injEq, and_true, true_and, and_assoc, exists_eq_left, exists_eq_left', exists_and_left, exists_eq', atI0, atI1, atI2, atI3, Int.cast_ofNat_Int, Int.reduceToNat, scal_ii, scal_in, scal_ni, scal_nn, scal_bb, scal_ss, scal_sn, scal_ns, scal_bn, scal_nb, ite_iff, decide_eq_true_eq, decide_eq_false_iff_not, Bool.not_eq_true', Classical.not_not, ne_eq, not_false_eq_true, not_true_eq_false, forall_const, true_implies, false_implies, imp_self, sizeLine_eq, Nat.reduceLeDiff, reduceCtorEq, decide_true, decide_false]
  exact ⟨wh_int, fun c => (by cases c), fun _ => k⟩
def spReqF : Sp := fun vs H Q _ => ∃ x l : Int, vs = [.int x, .int l] ∧ l ≤ x ∧ Q .non H
theorem o_require_from (T : Txt K mg) : OkF P w K mg base CX0 3 "require_from" ["value", "least"] spReqF := by
  have o_is_from := o_is_from (P := P) (w := w) (base := base) T
  obtain ⟨f, fd, g, F⟩ := T.d_require_from
  refine ⟨f, fd, g, F.kp, F.binds (fun _ _ _ _ _ _ us hl => match us, hl with | [_, _], _ => rfl), F.ok sc_require_from (fun vs H Q E h => ?_) (fun cdv A outer s H vs Q E hr h => ?_)⟩
  · first | (obtain ⟨_, rfl, _⟩ := h; rfl) | (obtain ⟨rfl, _⟩ := h; rfl) | (obtain ⟨_, _, rfl, _⟩ := h; rfl) | (obtain ⟨_, _, _, rfl, _⟩ := h; rfl) | (obtain ⟨_, _, _, _, rfl, _⟩ := h; rfl) | (obtain ⟨_, _, _, _, _, rfl, _⟩ := h; rfl) | (obtain ⟨_, _, _, _, _, _, rfl, _⟩ := h; rfl) | (obtain ⟨_, _, _, _, _, _, _, rfl, _⟩ := h; rfl)
  have hu64 := hr.units
  refine ⟨_, pss_one (ps_if (pt_not (pt_val (pcl o_is_from (hr.mono (by decide)) pass0 (pa_cons (pv 0) (pa_cons (pv 1) pa_nil))))) (pss_one (ps_never)) (pss_nil)), ?_⟩
  obtain ⟨x, l, rfl, hl, k⟩ := h
  simp only [spIsF, exists_and_left, tD1, rTupN, rAll, rMax2, rMin2, tSl, tPart, tNoPart, rSlLN, tYes, rLenS, rRepN, unset, tEv2, calmS, tRevG, tRevLN, cx_K, Value.ref.injEq, HO.xd.injEq, lk0, tSeq, tPar3, tPar, tCons, tNil, tVar, tC, tAsg, gName, gCons, gNil, gTupN, gSub, tOp, rI, rI0, rU, tTest, rNe, rEq, rIxTN, rIxLN, rLenL, rLenT, tLstRg, tRg1, tRg2, rIntI, rIntB, rAbs, rSetLN, tTruL, tRaiseX, rIsTy, rIsOw, ixN0, ixN1, tRet, tIf, tIfS, tNext, tBreak, tCont, tDrop, tTupN, tLstN, tUn, tCB, tCall, tNot, tAnd, tOr, tB, tAndV, tOrV, tNotV, tChain, tApp, LamX.tLam, tRevLN, rCatN, rInTN, rInLN, flatV, inV, List.all_cons, List.all_nil, List.any_cons, List.any_nil, Bool.and_self, Bool.and_true, if_true, Bool.false_eq_true, if_false, tMt, tFldN, tSto, HO.ins.injEq, lkh, List.drop_zero, List.drop_succ_cons, List.drop_nil, rListS, wipe, L2.start, List.map_cons, List.map_nil, List.length_cons, List.length_nil, List.replicate, List.cons_append, List.nil_append, List.append_nil, Nat.reduceAdd, Nat.reduceSub, Nat.zero_add, List.replicate_succ, List.replicate_zero, List.getElem?_cons_zero, List.getElem?_cons_succ, List.set_cons_zero, List.set_cons_succ, Option.some.injEq, V.int.injEq, V.bl.injEq, V.ref.injEq, V.str.injEq, V.ty.injEq, List.cons.injEq, HO.tup.injEq, HO.lst.injEq, and_true, true_and, and_assoc, exists_eq_left, exists_eq_left', exists_and_left, exists_eq', atI0, atI1, atI2, atI3, Int.cast_ofNat_Int, Int.reduceToNat, scal_ii, scal_in, scal_ni, scal_nn, scal_bb, scal_ss, scal_sn, scal_ns, scal_bn, scal_nb, ite_iff, decide_eq_true_eq, decide_eq_false_iff_not, Bool.not_eq_true', Classical.not_not, ne_eq, not_false_eq_true, not_true_eq_false, forall_const, true_implies, false_implies, imp_self, sizeLine_eq, Nat.reduceLeDiff, reduceCtorEq, decide_true, decide_false]
  exact ⟨fun c => absurd hl c, fun _ => k⟩
def spIsRow (K : PySem.W.Frag) : Sp := fun vs H Q _ => ∃ a, vs = [.ref a] ∧ ∃ xs, LG K H a xs ∧ ∀ H', Same H H' → Q (.bl true) H'
theorem o_is_row (T : Txt K mg) : OkF P w K mg base CX0 1 "is_row" ["value"] (spIsRow K) := by
  obtain ⟨f, fd, g, F⟩ := T.d_is_row
  refine ⟨f, fd, g, F.kp, F.binds (fun _ _ _ _ _ _ us hl => match us, hl with | [_], _ => rfl), F.ok sc_is_row (fun vs H Q E h => ?_) (fun cdv A outer s H vs Q E hr h => ?_)⟩
  · first | (obtain ⟨_, rfl, _⟩ := h; rfl) | (obtain ⟨rfl, _⟩ := h; rfl) | (obtain ⟨_, _, rfl, _⟩ := h; rfl) | (obtain ⟨_, _, _, rfl, _⟩ := h; rfl) | (obtain ⟨_, _, _, _, rfl, _⟩ := h; rfl) | (obtain ⟨_, _, _, _, _, rfl, _⟩ := h; rfl) | (obtain ⟨_, _, _, _, _, _, rfl, _⟩ := h; rfl) | (obtain ⟨_, _, _, _, _, _, _, rfl, _⟩ := h; rfl)
  have hu64 := hr.units
  refine ⟨_, pss_one (ps_ret (pe_callB call_isiT (by rfl) T.m_isinstance (by decide +kernel) (pa_cons (pv 0) (pa_cons (pe_tupN (pa_cons ((pe_bltn (v := .ty "list") (by rfl) T.m_list (by decide +kernel) rfl)) (pa_cons ((pe_bltn (v := .ty "tuple") (by rfl) T.m_tuple (by decide +kernel) rfl)) pa_nil))) pa_nil)))), ?_⟩
  obtain ⟨x, rfl, xs, hx, k⟩ := h
  simp only [rIsiT, exists_and_left, tD1, rTupN, rAll, rMax2, rMin2, tSl, tPart, tNoPart, rSlLN, tYes, rLenS, rRepN, unset, tEv2, calmS, tRevG, tRevLN, cx_K, Value.ref.injEq, HO.xd.injEq, lk0, tSeq, tPar3, tPar, tCons, tNil, tVar, tC, tAsg, gName, gCons, gNil, gTupN, gSub, tOp, rI, rI0, rU, tTest, rNe, rEq, rIxTN, rIxLN, rLenL, rLenT, tLstRg, tRg1, tRg2, rIntI, rIntB, rAbs, rSetLN, tTruL, tRaiseX, rIsTy, rIsOw, ixN0, ixN1, tRet, tIf, tIfS, tNext, tBreak, tCont, tDrop, tTupN, tLstN, tUn, tCB, tCall, tNot, tAnd, tOr, tB, tAndV, tOrV, tNotV, tChain, tApp, LamX.tLam, tRevLN, rCatN, rInTN, rInLN, flatV, inV, List.all_cons, List.all_nil, List.any_cons, List.any_nil, Bool.and_self, Bool.and_true, if_true, Bool.false_eq_true, if_false, tMt, tFldN, tSto, HO.ins.injEq, lkh, List.drop_zero, List.drop_succ_cons, List.drop_nil, rListS, wipe, L2.start, List.map_cons, List.map_nil, List.length_cons, List.length_nil, List.replicate, List.cons_append, List.nil_append, List.append_nil, Nat.reduceAdd, Nat.reduceSub, Nat.zero_add, List.replicate_succ, List.replicate_zero, List.getElem?_cons_zero, List.getElem?_cons_succ, List.set_cons_zero, List.set_cons_succ, Option.some.injEq, V.int.injEq, V.bl.injEq, V.ref.injEq, V.str.injEq, V.ty.injEq, List.cons.injEq, HO.tup.injEq, HO.lst.injEq, and_true, true_and, and_assoc, exists_eq_left, exists_eq_left', exists_and_left, exists_eq', atI0, atI1, atI2, atI3, Int.cast_ofNat_Int, Int.reduceToNat, scal_ii, scal_in, scal_ni, scal_nn, scal_bb, scal_ss, scal_sn, scal_ns, scal_bn, scal_nb, ite_iff, decide_eq_true_eq, decide_eq_false_iff_not, Bool.not_eq_true', Classical.not_not, ne_eq, not_false_eq_true, not_true_eq_false, forall_const, true_implies, false_implies, imp_self, sizeLine_eq, Nat.reduceLeDiff, reduceCtorEq, decide_true, decide_false]
  intro p H1 hp s1 h1
  obtain ⟨t, ty, kt⟩ := hx.ty
  exact ⟨p, rfl, _, h1, t, _, .cons (.ty _) (.cons (.ty _) .nil), tyX_mono ty s1, _, kt, k _ s1⟩
def okS : V → V → Bool
  | .non, .non => true
  | .non, .int _ => true
  | .int _, .non => true
  | .int a, .int b => decide (a < b)
  | _, _ => false
def spSpan (K : PySem.W.Frag) : Sp := fun vs H Q _ => ∃ l h, vs = [l, h] ∧ Wh K H l ∧ Wh K H h ∧ Q (.bl (okS l h)) H
theorem o_is_span (T : Txt K mg) : OkF P w K mg base CX0 2 "is_span" ["low", "high"] (spSpan K) := by
  have o_is_whole := o_is_whole (P := P) (w := w) (base := base) T
  obtain ⟨f, fd, g, F⟩ := T.d_is_span
  refine ⟨f, fd, g, F.kp, F.binds (fun _ _ _ _ _ _ us hl => match us, hl with | [_, _], _ => rfl), F.ok sc_is_span (fun vs H Q E h => ?_) (fun cdv A outer s H vs Q E hr h => ?_)⟩
  · first | (obtain ⟨_, rfl, _⟩ := h; rfl) | (obtain ⟨rfl, _⟩ := h; rfl) | (obtain ⟨_, _, rfl, _⟩ := h; rfl) | (obtain ⟨_, _, _, rfl, _⟩ := h; rfl) | (obtain ⟨_, _, _, _, rfl, _⟩ := h; rfl) | (obtain ⟨_, _, _, _, _, rfl, _⟩ := h; rfl) | (obtain ⟨_, _, _, _, _, _, rfl, _⟩ := h; rfl) | (obtain ⟨_, _, _, _, _, _, _, rfl, _⟩ := h; rfl)
  have hu64 := hr.units
  refine ⟨_, pss_cons (ps_if (PW.pt (pw_or (pt_not (PW.pt (pw_or (pt_cmpR op_isN (pv 0) (pe_non) (nomark _)) (pw_or1 (pt_val (pcl o_is_whole (hr.mono (by decide)) pass0 (pa_cons (pv 0) pa_nil))))))) (pw_or1 (pt_not (PW.pt (pw_or (pt_cmpR op_isN (pv 1) (pe_non) (nomark _)) (pw_or1 (pt_val (pcl o_is_whole (hr.mono (by decide)) pass0 (pa_cons (pv 1) pa_nil)))))))))) (pss_one (ps_ret (pe_bl))) (pss_nil))
      (pss_one (ps_ret (pe_or (pe_cmpR op_isN (pv 0) (pe_non) (nomark _)) (pe_or (pe_cmpR op_isN (pv 1) (pe_non) (nomark _)) (pe_one (pe_cmpR op_lt (pv 0) (pv 1) (nomark _))))))), ?_⟩
  obtain ⟨l, h, rfl, Wl, Wr, k⟩ := h
  simp only [spWhole, exists_and_left, tD1, rTupN, rAll, rMax2, rMin2, tSl, tPart, tNoPart, rSlLN, tYes, rLenS, rRepN, unset, tEv2, calmS, tRevG, tRevLN, cx_K, Value.ref.injEq, HO.xd.injEq, lk0, tSeq, tPar3, tPar, tCons, tNil, tVar, tC, tAsg, gName, gCons, gNil, gTupN, gSub, tOp, rI, rI0, rU, tTest, rNe, rEq, rIxTN, rIxLN, rLenL, rLenT, tLstRg, tRg1, tRg2, rIntI, rIntB, rAbs, rSetLN, tTruL, tRaiseX, rIsTy, rIsOw, ixN0, ixN1, tRet, tIf, tIfS, tNext, tBreak, tCont, tDrop, tTupN, tLstN, tUn, tCB, tCall, tNot, tAnd, tOr, tB, tAndV, tOrV, tNotV, tChain, tApp, LamX.tLam, tRevLN, rCatN, rInTN, rInLN, flatV, inV, List.all_cons, List.all_nil, List.any_cons, List.any_nil, Bool.and_self, Bool.and_true, if_true, Bool.false_eq_true, if_false, tMt, tFldN, tSto, HO.ins.injEq, lkh, List.drop_zero, List.drop_succ_cons, List.drop_nil, rListS, wipe, L2.start, List.map_cons, List.map_nil, List.length_cons, List.length_nil, List.replicate, List.cons_append, List.nil_append, List.append_nil, Nat.reduceAdd, Nat.reduceSub, Nat.zero_add, List.replicate_succ, List.replicate_zero, List.getElem?_cons_zero, List.getElem?_cons_succ, List.set_cons_zero, List.set_cons_succ, Option.some.injEq, V.int.injEq, V.bl.injEq, V.ref.injEq, V.str.injEq, V.ty.injEq, List.cons.injEq, HO.tup.injEq, HO.lst.injEq, and_true, true_and, and_assoc, exists_eq_left, exists_eq_left', exists_and_left, exists_eq', atI0, atI1, atI2, atI3, Int.cast_ofNat_Int, Int.reduceToNat, scal_ii, scal_in, scal_ni, scal_nn, scal_bb, scal_ss, scal_sn, scal_ns, scal_bn, scal_nb, ite_iff, decide_eq_true_eq, decide_eq_false_iff_not, Bool.not_eq_true', Classical.not_not, ne_eq, not_false_eq_true, not_true_eq_false, forall_const, true_implies, false_implies, imp_self, sizeLine_eq, Nat.reduceLeDiff, reduceCtorEq, decide_true, decide_false]
  cases l <;> cases h <;> simp_all [okS, isI]
def spStI (K : PySem.W.Frag) : Sp := fun vs H Q _ => ∃ p l h, vs = [.ref p, l, h] ∧ ∃ dx, H p = some (.ins (ga K "Stretch") dx []) ∧ Wh K H l ∧ Wh K H h ∧ okS l h = true ∧
  ∀ H', (∀ b, b ≠ p → H' b = H b) → H' p = some (.ins (ga K "Stretch") dx [("low", l), ("high", h)]) → Q .non H'
theorem i_Stretch___init__ (T : Txt K mg) {f : Addr} {fd : FuncData} (F : FunD K "__init__" "Stretch.__init__" (defArgs s_Stretch___init__) (defBody s_Stretch___init__) (defScope s_Stretch___init__) [.non, .non] [] f fd) : FnOk P w K mg base CX0 3 f fd ["self", "low", "high"] (spStI K) := by
  have o_is_span := o_is_span (P := P) (w := w) (base := base) T
  refine F.ok (CX := CX0) sc_Stretch___init__ (fun vs H Q E h => ?_) (fun cdv A outer s H vs Q E hr h => ?_)
  · first | (obtain ⟨_, rfl, _⟩ := h; rfl) | (obtain ⟨rfl, _⟩ := h; rfl) | (obtain ⟨_, _, rfl, _⟩ := h; rfl) | (obtain ⟨_, _, _, rfl, _⟩ := h; rfl) | (obtain ⟨_, _, _, _, rfl, _⟩ := h; rfl) | (obtain ⟨_, _, _, _, _, rfl, _⟩ := h; rfl) | (obtain ⟨_, _, _, _, _, _, rfl, _⟩ := h; rfl) | (obtain ⟨_, _, _, _, _, _, _, rfl, _⟩ := h; rfl)
  have hu64 := hr.units
  refine ⟨_, PSs.nox (pss_cons (ps_if (pt_not (pt_val (pcl o_is_span (hr.mono (by decide)) pass0 (pa_cons (pv 1) (pa_cons (pv 2) pa_nil))))) (pss_one (ps_never)) (pss_nil))
      (pss_cons (ps_fldN T.c_Stretch T.na_Stretch_low (pv 0) (pv 1))
      (pss_one (ps_fldN T.c_Stretch T.na_Stretch_high (pv 0) (pv 2))))), ?_⟩
  obtain ⟨p, l, h, rfl, dx, hp, Wl, Wr, e, k⟩ := h
  simp only [spSpan, exists_and_left, tD1, rTupN, rAll, rMax2, rMin2, tSl, tPart, tNoPart, rSlLN, tYes, rLenS, rRepN, unset, tEv2, calmS, tRevG, tRevLN, cx_K, Value.ref.injEq, HO.xd.injEq, lk0, tSeq, tPar3, tPar, tCons, tNil, tVar, tC, tAsg, gName, gCons, gNil, gTupN, gSub, tOp, rI, rI0, rU, tTest, rNe, rEq, rIxTN, rIxLN, rLenL, rLenT, tLstRg, tRg1, tRg2, rIntI, rIntB, rAbs, rSetLN, tTruL, tRaiseX, rIsTy, rIsOw, ixN0, ixN1, tRet, tIf, tIfS, tNext, tBreak, tCont, tDrop, tTupN, tLstN, tUn, tCB, tCall, tNot, tAnd, tOr, tB, tAndV, tOrV, tNotV, tChain, tApp, LamX.tLam, tRevLN, rCatN, rInTN, rInLN, flatV, inV, List.all_cons, List.all_nil, List.any_cons, List.any_nil, Bool.and_self, Bool.and_true, if_true, Bool.false_eq_true, if_false, tMt, tFldN, tSto, HO.ins.injEq, lkh, List.drop_zero, List.drop_succ_cons, List.drop_nil, rListS, wipe, L2.start, List.map_cons, List.map_nil, List.length_cons, List.length_nil, List.replicate, List.cons_append, List.nil_append, List.append_nil, Nat.reduceAdd, Nat.reduceSub, Nat.zero_add, List.replicate_succ, List.replicate_zero, List.getElem?_cons_zero, List.getElem?_cons_succ, List.set_cons_zero, List.set_cons_succ, Option.some.injEq, V.int.injEq, V.bl.injEq, V.ref.injEq, V.str.injEq, V.ty.injEq, List.cons.injEq, HO.tup.injEq, HO.lst.injEq, and_true, true_and, and_assoc, exists_eq_left, exists_eq_left', exists_and_left, exists_eq', atI0, atI1, atI2, atI3, Int.cast_ofNat_Int, Int.reduceToNat, scal_ii, scal_in, scal_ni, scal_nn, scal_bb, scal_ss, scal_sn, scal_ns, scal_bn, scal_nb, ite_iff, decide_eq_true_eq, decide_eq_false_iff_not, Bool.not_eq_true', Classical.not_not, ne_eq, not_false_eq_true, not_true_eq_false, forall_const, true_implies, false_implies, imp_self, sizeLine_eq, Nat.reduceLeDiff, reduceCtorEq, decide_true, decide_false]
  refine ⟨Wl, Wr, fun c => absurd e (by rw [c]; decide), fun _ => ⟨dx, [], hp, by decide, fun H1 p1 => ⟨dx, _, p1.1, by rw [putF_nil]; exact (by decide : 1 < 1000), fun H2 p2 => ?_⟩⟩⟩
  refine k H2 (fun b hb => by rw [p2.2 b hb, p1.2 b hb]) ?_
  rw [p2.1, putF_nil, putF_cons (by decide +kernel), putF_nil]
def spSt (K : PySem.W.Frag) : Sp := fun vs H Q _ => ∃ l h, vs = [l, h] ∧ Wh K H l ∧ Wh K H h ∧ okS l h = true ∧ ∀ a dx H', H a = none → Same H H' → H' a = some (.ins (ga K "Stretch") dx [("low", l), ("high", h)]) → Q (.ref a) H'
theorem o_Stretch (T : Txt K mg) : OkK P w K mg base CX0 3 "Stretch" ["low", "high"] [.non, .non] (spSt K) := by
  obtain ⟨f, fd, M, F⟩ := T.d_Stretch___init__
  refine ⟨f, fd, spStI K, M, T.g_Stretch, b_Stretch___init__ F, i_Stretch___init__ T F, fun vs H Q E h p dx hp hdx hne => ?_⟩
  obtain ⟨l, r, rfl, Wl, Wr, e, k⟩ := h
  have s := same_made (H' := upd (upd H dx (.own p)) p (.ins (ga K "Stretch") dx [])) hp hdx fun b _ => rfl
  exact ⟨p, l, r, rfl, dx, upd_same, wh_mono Wl s, wh_mono Wr s, e, fun H' hk hp' => ⟨rfl, k p dx H' hp (same_made hp hdx hk) hp'⟩⟩
theorem lkLow {l h : V} : List.lookup ("low" : Str) [(("low" : Str), l), (("high" : Str), h)] = some l := lkh
theorem lkHigh {l h : V} : List.lookup ("high" : Str) [(("low" : Str), l), (("high" : Str), h)] = some h := lk1 (by decide +kernel)
/-! ### products -/
def spPrd (K : PySem.W.Frag) : Sp := fun vs H Q _ => ∃ a, vs = [.ref a] ∧ ∃ ks : List Int, LG K H a (ks.map V.int) ∧ (∀ k ∈ ks, 0 ≤ k ∧ k ≤ 9) ∧ ks.length ≤ 5 ∧ Q (.int (prL ks)) H
theorem o__product_of (T : Txt K mg) : OkF P w K mg base CX0 1 "_product_of" ["numbers"] (spPrd K) := by
  obtain ⟨f, fd, g, F⟩ := T.d__product_of
  refine ⟨f, fd, g, F.kp, F.binds (fun _ _ _ _ _ _ us hl => match us, hl with | [_], _ => rfl), F.ok sc__product_of (fun vs H Q E h => ?_) (fun cdv A outer s H vs Q E hr h => ?_)⟩
  · first | (obtain ⟨_, rfl, _⟩ := h; rfl) | (obtain ⟨rfl, _⟩ := h; rfl) | (obtain ⟨_, _, rfl, _⟩ := h; rfl) | (obtain ⟨_, _, _, rfl, _⟩ := h; rfl) | (obtain ⟨_, _, _, _, rfl, _⟩ := h; rfl) | (obtain ⟨_, _, _, _, _, rfl, _⟩ := h; rfl) | (obtain ⟨_, _, _, _, _, _, rfl, _⟩ := h; rfl) | (obtain ⟨_, _, _, _, _, _, _, rfl, _⟩ := h; rfl)
  have hu64 := hr.units
  refine ⟨_, pss_cons (ps_set (i := 1) sc__product_of.nd rfl (Or.inl rfl) (pe_int))
      (pss_cons (ps_for PassesOwn.never rfl (pi_or (pi_list (pv 0)) (pi_tup (pv 0))) (pg_name (i := 2) sc__product_of.nd rfl (Or.inl rfl)) (pss_one (ps_set (i := 1) sc__product_of.nd rfl (Or.inl rfl) (pe_op op_mulW (pv 1) (pv 2)))))
      (pss_one (ps_ret (pv 1)))), ?_⟩
  obtain ⟨a, rfl, ks, ha, hk, hl, k⟩ := h
  simp only [exists_and_left, tD1, rTupN, rAll, rMax2, rMin2, tSl, tPart, tNoPart, rSlLN, tYes, rLenS, rRepN, unset, tEv2, calmS, tRevG, tRevLN, cx_K, Value.ref.injEq, HO.xd.injEq, lk0, tSeq, tPar3, tPar, tCons, tNil, tVar, tC, tAsg, gName, gCons, gNil, gTupN, gSub, tOp, rI, rI0, rU, tTest, rNe, rEq, rIxTN, rIxLN, rLenL, rLenT, tLstRg, tRg1, tRg2, rIntI, rIntB, rAbs, rSetLN, tTruL, tRaiseX, rIsTy, rIsOw, ixN0, ixN1, tRet, tIf, tIfS, tNext, tBreak, tCont, tDrop, tTupN, tLstN, tUn, tCB, tCall, tNot, tAnd, tOr, tB, tAndV, tOrV, tNotV, tChain, tApp, LamX.tLam, tRevLN, rCatN, rInTN, rInLN, flatV, inV, List.all_cons, List.all_nil, List.any_cons, List.any_nil, Bool.and_self, Bool.and_true, if_true, Bool.false_eq_true, if_false, tMt, tFldN, tSto, HO.ins.injEq, lkh, List.drop_zero, List.drop_succ_cons, List.drop_nil, rListS, wipe, L2.start, List.map_cons, List.map_nil, List.length_cons, List.length_nil, List.replicate, List.cons_append, List.nil_append, List.append_nil, Nat.reduceAdd, Nat.reduceSub, Nat.zero_add, List.replicate_succ, List.replicate_zero, List.getElem?_cons_zero, List.getElem?_cons_succ, List.set_cons_zero, List.set_cons_succ, Option.some.injEq, V.int.injEq, V.bl.injEq, V.ref.injEq, V.str.injEq, V.ty.injEq, List.cons.injEq, HO.tup.injEq, HO.lst.injEq, and_true, true_and, and_assoc, exists_eq_left, exists_eq_left', exists_and_left, exists_eq', atI0, atI1, atI2, atI3, Int.cast_ofNat_Int, Int.reduceToNat, scal_ii, scal_in, scal_ni, scal_nn, scal_bb, scal_ss, scal_sn, scal_ns, scal_bn, scal_nb, ite_iff, decide_eq_true_eq, decide_eq_false_iff_not, Bool.not_eq_true', Classical.not_not, ne_eq, not_false_eq_true, not_true_eq_false, forall_const, true_implies, false_implies, imp_self, sizeLine_eq, Nat.reduceLeDiff, reduceCtorEq, decide_true, decide_false]
  refine st_forLG (fun R r => ⟨_, rfl, r⟩) ha (fun _ _ h => h) (fun i σ' H' => H' = H ∧ ∃ t x2, σ' = [some (V.ref a), some (V.int t), x2] ∧ 0 ≤ t ∧ t ≤ 9 ^ i ∧ t = (ks.take i).foldl (fun a k => a * k) 1) ⟨rfl, 1, none, rfl, by decide, by decide, rfl⟩ (fun i σ' H' ⟨e, _⟩ => by rw [e]; exact fun _ _ h => h) ?_ ?_
  · rintro i x _ H' hi ⟨rfl, t, x2, rfl, t0, t9, te⟩
    obtain ⟨j, hj, rfl⟩ := get_int hi
    have jb := hk j (List.mem_of_getElem? hj)
    have il : i < 5 := by have := (List.getElem?_eq_some_iff.mp hj).1; omega
    have t16 : t < 2 ^ 16 := Int.lt_of_le_of_lt t9 (by
      have : i = 0 ∨ i = 1 ∨ i = 2 ∨ i = 3 ∨ i = 4 := by omega
      rcases this with rfl | rfl | rfl | rfl | rfl <;> decide)
    simp only [exists_and_left, tD1, rTupN, rAll, rMax2, rMin2, tSl, tPart, tNoPart, rSlLN, tYes, rLenS, rRepN, unset, tEv2, calmS, tRevG, tRevLN, cx_K, Value.ref.injEq, HO.xd.injEq, lk0, tSeq, tPar3, tPar, tCons, tNil, tVar, tC, tAsg, gName, gCons, gNil, gTupN, gSub, tOp, rI, rI0, rU, tTest, rNe, rEq, rIxTN, rIxLN, rLenL, rLenT, tLstRg, tRg1, tRg2, rIntI, rIntB, rAbs, rSetLN, tTruL, tRaiseX, rIsTy, rIsOw, ixN0, ixN1, tRet, tIf, tIfS, tNext, tBreak, tCont, tDrop, tTupN, tLstN, tUn, tCB, tCall, tNot, tAnd, tOr, tB, tAndV, tOrV, tNotV, tChain, tApp, LamX.tLam, tRevLN, rCatN, rInTN, rInLN, flatV, inV, List.all_cons, List.all_nil, List.any_cons, List.any_nil, Bool.and_self, Bool.and_true, if_true, Bool.false_eq_true, if_false, tMt, tFldN, tSto, HO.ins.injEq, lkh, List.drop_zero, List.drop_succ_cons, List.drop_nil, rListS, wipe, L2.start, List.map_cons, List.map_nil, List.length_cons, List.length_nil, List.replicate, List.cons_append, List.nil_append, List.append_nil, Nat.reduceAdd, Nat.reduceSub, Nat.zero_add, List.replicate_succ, List.replicate_zero, List.getElem?_cons_zero, List.getElem?_cons_succ, List.set_cons_zero, List.set_cons_succ, Option.some.injEq, V.int.injEq, V.bl.injEq, V.ref.injEq, V.str.injEq, V.ty.injEq, List.cons.injEq, HO.tup.injEq, HO.lst.injEq, and_true, true_and, and_assoc, exists_eq_left, exists_eq_left', exists_and_left, exists_eq', atI0, atI1, atI2, atI3, Int.cast_ofNat_Int, Int.reduceToNat, scal_ii, scal_in, scal_ni, scal_nn, scal_bb, scal_ss, scal_sn, scal_ns, scal_bn, scal_nb, ite_iff, decide_eq_true_eq, decide_eq_false_iff_not, Bool.not_eq_true', Classical.not_not, ne_eq, not_false_eq_true, not_true_eq_false, forall_const, true_implies, false_implies, imp_self, sizeLine_eq, Nat.reduceLeDiff, reduceCtorEq, decide_true, decide_false]
    refine ⟨wide_mul (a := 16) (b := 4) (by omega) (by omega) (by decide) (by decide) (by decide), Int.mul_nonneg t0 jb.1, ?_, ?_⟩
    · rw [Int.pow_succ]
      exact Int.mul_le_mul t9 jb.2 jb.1 (Int.le_trans t0 t9)
    · rw [List.take_succ, hj, List.foldl_append, ← te]; rfl
  · rintro _ H' ⟨rfl, t, x2, rfl, t0, t9, te⟩
    rw [List.length_map, List.take_length] at te
    simp only [exists_and_left, tD1, rTupN, rAll, rMax2, rMin2, tSl, tPart, tNoPart, rSlLN, tYes, rLenS, rRepN, unset, tEv2, calmS, tRevG, tRevLN, cx_K, Value.ref.injEq, HO.xd.injEq, lk0, tSeq, tPar3, tPar, tCons, tNil, tVar, tC, tAsg, gName, gCons, gNil, gTupN, gSub, tOp, rI, rI0, rU, tTest, rNe, rEq, rIxTN, rIxLN, rLenL, rLenT, tLstRg, tRg1, tRg2, rIntI, rIntB, rAbs, rSetLN, tTruL, tRaiseX, rIsTy, rIsOw, ixN0, ixN1, tRet, tIf, tIfS, tNext, tBreak, tCont, tDrop, tTupN, tLstN, tUn, tCB, tCall, tNot, tAnd, tOr, tB, tAndV, tOrV, tNotV, tChain, tApp, LamX.tLam, tRevLN, rCatN, rInTN, rInLN, flatV, inV, List.all_cons, List.all_nil, List.any_cons, List.any_nil, Bool.and_self, Bool.and_true, if_true, Bool.false_eq_true, if_false, tMt, tFldN, tSto, HO.ins.injEq, lkh, List.drop_zero, List.drop_succ_cons, List.drop_nil, rListS, wipe, L2.start, List.map_cons, List.map_nil, List.length_cons, List.length_nil, List.replicate, List.cons_append, List.nil_append, List.append_nil, Nat.reduceAdd, Nat.reduceSub, Nat.zero_add, List.replicate_succ, List.replicate_zero, List.getElem?_cons_zero, List.getElem?_cons_succ, List.set_cons_zero, List.set_cons_succ, Option.some.injEq, V.int.injEq, V.bl.injEq, V.ref.injEq, V.str.injEq, V.ty.injEq, List.cons.injEq, HO.tup.injEq, HO.lst.injEq, and_true, true_and, and_assoc, exists_eq_left, exists_eq_left', exists_and_left, exists_eq', atI0, atI1, atI2, atI3, Int.cast_ofNat_Int, Int.reduceToNat, scal_ii, scal_in, scal_ni, scal_nn, scal_bb, scal_ss, scal_sn, scal_ns, scal_bn, scal_nb, ite_iff, decide_eq_true_eq, decide_eq_false_iff_not, Bool.not_eq_true', Classical.not_not, ne_eq, not_false_eq_true, not_true_eq_false, forall_const, true_implies, false_implies, imp_self, sizeLine_eq, Nat.reduceLeDiff, reduceCtorEq, decide_true, decide_false]
    rw [te]
    exact k
/-! ### sieves -/
def SvA (K : PySem.W.Frag) (H : Hp) (a : Addr) (ks : List Int) : Prop := ∃ dx q, H a = some (.ins (ga K "Sieve") dx [("ks", .ref q)]) ∧ SqT K H q (ks.map V.int)
theorem SqT.put {H H' : Hp} {p q c d : Addr} {fs : List (Str × V)} {xs : List V} (h : SqT K H q xs) (hp : H p = some (.ins c d fs)) (hh : ∀ b, b ≠ p → H' b = H b) : SqT K H' q xs := by
  rcases h with (h | ⟨o, h⟩) | h
  · exact .inl (.inl (by rw [hh q fun e => by rw [e, hp] at h; cases h]; exact h))
  · exact .inl (.inr ⟨o, by rw [hh q fun e => by rw [e, hp] at h; cases h]; exact h⟩)
  · exact .inr h
theorem SvA.same {H H' : Hp} {a : Addr} {ks : List Int} (h : SvA K H a ks) (s : Same H H') : SvA K H' a ks := let ⟨dx, q, h1, h2⟩ := h; ⟨dx, q, s _ _ h1, SqT.same h2 s⟩
def spSvI (K : PySem.W.Frag) : Sp := fun vs H Q _ => ∃ p b, vs = [.ref p, .ref b] ∧ ∃ dx, ∃ ks : List Int, H p = some (.ins (ga K "Sieve") dx []) ∧ LG K H b (ks.map V.int) ∧ okK ks ∧ ks.length ≤ 5 ∧
  ∀ q H', (∀ b o, H b = some o → b ≠ p → H' b = some o) → SqT K H' q (ks.map V.int) → H' p = some (.ins (ga K "Sieve") dx [("ks", .ref q)]) → Q .non H'
theorem i_Sieve___init__ (T : Txt K mg) {f : Addr} {fd : FuncData} (F : FunD K "__init__" "Sieve.__init__" (defArgs s_Sieve___init__) (defBody s_Sieve___init__) (defScope s_Sieve___init__) [] [] f fd) : FnOk P w K mg base CX0 2 f fd ["self", "ks"] (spSvI K) := by
  have o_is_row := o_is_row (P := P) (w := w) (base := base) T
  have o_is_whole := o_is_whole (P := P) (w := w) (base := base) T
  refine F.ok (CX := CX0) sc_Sieve___init__ (fun vs H Q E h => ?_) (fun cdv A outer s H vs Q E hr h => ?_)
  · first | (obtain ⟨_, rfl, _⟩ := h; rfl) | (obtain ⟨rfl, _⟩ := h; rfl) | (obtain ⟨_, _, rfl, _⟩ := h; rfl) | (obtain ⟨_, _, _, rfl, _⟩ := h; rfl) | (obtain ⟨_, _, _, _, rfl, _⟩ := h; rfl) | (obtain ⟨_, _, _, _, _, rfl, _⟩ := h; rfl) | (obtain ⟨_, _, _, _, _, _, rfl, _⟩ := h; rfl) | (obtain ⟨_, _, _, _, _, _, _, rfl, _⟩ := h; rfl)
  have hu64 := hr.units
  refine ⟨_, PSs.nox (pss_cons (ps_if (PW.pt (pw_or (pt_not (pt_val (pcl o_is_row (hr.mono (by decide)) pass0 (pa_cons (pv 1) pa_nil)))) (pw_or1 (pt_cmpR op_gt (pe_callB call_len_seq (by rfl) T.m_len (by decide +kernel) (pa_cons (pv 1) pa_nil)) ((pe_glI T.k_MOST_STRIKES)) (nomark _))))) (pss_one (ps_never)) (pss_nil))
      (pss_cons (ps_for PassesOwn.never rfl (pi_or (pi_enum rfl T.m_enumerate (pa_cons (pv 1) pa_nil)) (pi_enumG rfl T.m_enumerate (pa_cons (pv 1) pa_nil))) (pg_tupN (n := 2) (by rfl) (pgs_cons (pg_name (i := 2) sc_Sieve___init__.nd rfl (Or.inl rfl)) (pgs_cons (pg_name (i := 3) sc_Sieve___init__.nd rfl (Or.inl rfl)) pgs_nil))) (pss_one (ps_if (PW.pt (pw_or (pt_not (pt_val (pcl o_is_whole (hr.mono (by decide)) pass0 (pa_cons (pv 3) pa_nil)))) (pw_or1 (pt_not (pt_chain op_le op_le (pe_int) (pv 3) (pe_int)))))) (pss_one (ps_never)) (pss_nil))))
      (pss_one (ps_fldN T.c_Sieve T.na_Sieve_ks (pv 0) (pe_callTy call_tupG (by rfl) T.m_tuple (by decide +kernel) (pa_cons (pv 1) pa_nil)))))), ?_⟩
  obtain ⟨p, b, rfl, dx, ks, hp, hb, hk, hl, k⟩ := h
  simp only [spIsRow, spWhole, exists_and_left, tD1, rTupN, rAll, rMax2, rMin2, tSl, tPart, tNoPart, rSlLN, tYes, rLenS, rRepN, unset, tEv2, calmS, tRevG, tRevLN, cx_K, Value.ref.injEq, HO.xd.injEq, lk0, tSeq, tPar3, tPar, tCons, tNil, tVar, tC, tAsg, gName, gCons, gNil, gTupN, gSub, tOp, rI, rI0, rU, tTest, rNe, rEq, rIxTN, rIxLN, rLenL, rLenT, tLstRg, tRg1, tRg2, rIntI, rIntB, rAbs, rSetLN, tTruL, tRaiseX, rIsTy, rIsOw, ixN0, ixN1, tRet, tIf, tIfS, tNext, tBreak, tCont, tDrop, tTupN, tLstN, tUn, tCB, tCall, tNot, tAnd, tOr, tB, tAndV, tOrV, tNotV, tChain, tApp, LamX.tLam, tRevLN, rCatN, rInTN, rInLN, flatV, inV, List.all_cons, List.all_nil, List.any_cons, List.any_nil, Bool.and_self, Bool.and_true, if_true, Bool.false_eq_true, if_false, tMt, tFldN, tSto, HO.ins.injEq, lkh, List.drop_zero, List.drop_succ_cons, List.drop_nil, rListS, wipe, L2.start, List.map_cons, List.map_nil, List.length_cons, List.length_nil, List.replicate, List.cons_append, List.nil_append, List.append_nil, Nat.reduceAdd, Nat.reduceSub, Nat.zero_add, List.replicate_succ, List.replicate_zero, List.getElem?_cons_zero, List.getElem?_cons_succ, List.set_cons_zero, List.set_cons_succ, Option.some.injEq, V.int.injEq, V.bl.injEq, V.ref.injEq, V.str.injEq, V.ty.injEq, List.cons.injEq, HO.tup.injEq, HO.lst.injEq, and_true, true_and, and_assoc, exists_eq_left, exists_eq_left', exists_and_left, exists_eq', atI0, atI1, atI2, atI3, Int.cast_ofNat_Int, Int.reduceToNat, scal_ii, scal_in, scal_ni, scal_nn, scal_bb, scal_ss, scal_sn, scal_ns, scal_bn, scal_nb, ite_iff, decide_eq_true_eq, decide_eq_false_iff_not, Bool.not_eq_true', Classical.not_not, ne_eq, not_false_eq_true, not_true_eq_false, forall_const, true_implies, false_implies, imp_self, sizeLine_eq, Nat.reduceLeDiff, reduceCtorEq, decide_true, decide_false]
  refine ⟨_, hb, fun H1 s1 => ⟨ks.map V.int, (LG.same hb s1).elim (fun h => .inl (SqL.of h)) .inr, fun c => ?_, fun _ => ?_⟩⟩
  · rw [List.length_map] at c; omega
  · refine st_forEG (fun R r => ⟨_, rfl, r⟩) (LG.same hb s1) (fun _ _ h => h) (fun i σ' H' => (∃ x y, σ' = [some (V.ref p), some (V.ref b), x, y]) ∧ Same H1 H') ⟨⟨_, _, rfl⟩, fun _ _ h => h⟩ (fun i σ' H' p => p.2) ?_ ?_
    · rintro i x T σ' H2 H3 hi ⟨⟨x2, x3, rfl⟩, s2⟩ s3 hT
      obtain ⟨j, hj, rfl⟩ := get_int hi
      have jb := hk j (List.mem_of_getElem? hj)
      simp only [hT, spWhole, exists_and_left, tD1, rTupN, rAll, rMax2, rMin2, tSl, tPart, tNoPart, rSlLN, tYes, rLenS, rRepN, unset, tEv2, calmS, tRevG, tRevLN, cx_K, Value.ref.injEq, HO.xd.injEq, lk0, tSeq, tPar3, tPar, tCons, tNil, tVar, tC, tAsg, gName, gCons, gNil, gTupN, gSub, tOp, rI, rI0, rU, tTest, rNe, rEq, rIxTN, rIxLN, rLenL, rLenT, tLstRg, tRg1, tRg2, rIntI, rIntB, rAbs, rSetLN, tTruL, tRaiseX, rIsTy, rIsOw, ixN0, ixN1, tRet, tIf, tIfS, tNext, tBreak, tCont, tDrop, tTupN, tLstN, tUn, tCB, tCall, tNot, tAnd, tOr, tB, tAndV, tOrV, tNotV, tChain, tApp, LamX.tLam, tRevLN, rCatN, rInTN, rInLN, flatV, inV, List.all_cons, List.all_nil, List.any_cons, List.any_nil, Bool.and_self, Bool.and_true, if_true, Bool.false_eq_true, if_false, tMt, tFldN, tSto, HO.ins.injEq, lkh, List.drop_zero, List.drop_succ_cons, List.drop_nil, rListS, wipe, L2.start, List.map_cons, List.map_nil, List.length_cons, List.length_nil, List.replicate, List.cons_append, List.nil_append, List.append_nil, Nat.reduceAdd, Nat.reduceSub, Nat.zero_add, List.replicate_succ, List.replicate_zero, List.getElem?_cons_zero, List.getElem?_cons_succ, List.set_cons_zero, List.set_cons_succ, Option.some.injEq, V.int.injEq, V.bl.injEq, V.ref.injEq, V.str.injEq, V.ty.injEq, List.cons.injEq, HO.tup.injEq, HO.lst.injEq, and_true, true_and, and_assoc, exists_eq_left, exists_eq_left', exists_and_left, exists_eq', atI0, atI1, atI2, atI3, Int.cast_ofNat_Int, Int.reduceToNat, scal_ii, scal_in, scal_ni, scal_nn, scal_bb, scal_ss, scal_sn, scal_ns, scal_bn, scal_nb, ite_iff, decide_eq_true_eq, decide_eq_false_iff_not, Bool.not_eq_true', Classical.not_not, ne_eq, not_false_eq_true, not_true_eq_false, forall_const, true_implies, false_implies, imp_self, sizeLine_eq, Nat.reduceLeDiff, reduceCtorEq, decide_true, decide_false]
      exact ⟨wh_int, fun c => (by cases c), fun _ => ⟨fun _ => ⟨fun c => absurd jb.2 c, fun _ => s2.trans s3⟩, fun c => absurd jb.1 c⟩⟩
    · rintro _ H2 ⟨⟨x2, x3, rfl⟩, s2⟩
      simp only [exists_and_left, tD1, rTupN, rAll, rMax2, rMin2, tSl, tPart, tNoPart, rSlLN, tYes, rLenS, rRepN, unset, tEv2, calmS, tRevG, tRevLN, cx_K, Value.ref.injEq, HO.xd.injEq, lk0, tSeq, tPar3, tPar, tCons, tNil, tVar, tC, tAsg, gName, gCons, gNil, gTupN, gSub, tOp, rI, rI0, rU, tTest, rNe, rEq, rIxTN, rIxLN, rLenL, rLenT, tLstRg, tRg1, tRg2, rIntI, rIntB, rAbs, rSetLN, tTruL, tRaiseX, rIsTy, rIsOw, ixN0, ixN1, tRet, tIf, tIfS, tNext, tBreak, tCont, tDrop, tTupN, tLstN, tUn, tCB, tCall, tNot, tAnd, tOr, tB, tAndV, tOrV, tNotV, tChain, tApp, LamX.tLam, tRevLN, rCatN, rInTN, rInLN, flatV, inV, List.all_cons, List.all_nil, List.any_cons, List.any_nil, Bool.and_self, Bool.and_true, if_true, Bool.false_eq_true, if_false, tMt, tFldN, tSto, HO.ins.injEq, lkh, List.drop_zero, List.drop_succ_cons, List.drop_nil, rListS, wipe, L2.start, List.map_cons, List.map_nil, List.length_cons, List.length_nil, List.replicate, List.cons_append, List.nil_append, List.append_nil, Nat.reduceAdd, Nat.reduceSub, Nat.zero_add, List.replicate_succ, List.replicate_zero, List.getElem?_cons_zero, List.getElem?_cons_succ, List.set_cons_zero, List.set_cons_succ, Option.some.injEq, V.int.injEq, V.bl.injEq, V.ref.injEq, V.str.injEq, V.ty.injEq, List.cons.injEq, HO.tup.injEq, HO.lst.injEq, and_true, true_and, and_assoc, exists_eq_left, exists_eq_left', exists_and_left, exists_eq', atI0, atI1, atI2, atI3, Int.cast_ofNat_Int, Int.reduceToNat, scal_ii, scal_in, scal_ni, scal_nn, scal_bb, scal_ss, scal_sn, scal_ns, scal_bn, scal_nb, ite_iff, decide_eq_true_eq, decide_eq_false_iff_not, Bool.not_eq_true', Classical.not_not, ne_eq, not_false_eq_true, not_true_eq_false, forall_const, true_implies, false_implies, imp_self, sizeLine_eq, Nat.reduceLeDiff, reduceCtorEq, decide_true, decide_false]
      refine ⟨b, _, rfl, LG.same hb (s1.trans s2), fun q H3 s3 hq => ?_⟩
      have s03 := (s1.trans s2).trans s3
      refine ⟨dx, [], s03 _ _ hp, by decide, fun H4 p4 => k q H4 ?_ ?_ ?_⟩
      · exact fun c o e n => by rw [p4.2 c n]; exact s03 _ _ e
      · exact SqT.put hq (s03 _ _ hp) p4.2
      · rw [p4.1, putF_nil]
/-- a call of Sieve -/
def spSv (K : PySem.W.Frag) : Sp := fun vs H Q _ => ∃ b, vs = [.ref b] ∧ ∃ ks : List Int, LG K H b (ks.map V.int) ∧ okK ks ∧ ks.length ≤ 5 ∧ ∀ a H', H a = none → Same H H' → SvA K H' a ks → Q (.ref a) H'
theorem o_Sieve (T : Txt K mg) : OkK P w K mg base CX0 2 "Sieve" ["ks"] [] (spSv K) := by
  obtain ⟨f, fd, M, F⟩ := T.d_Sieve___init__
  refine ⟨f, fd, spSvI K, M, T.g_Sieve, b_Sieve___init__ F, i_Sieve___init__ T F, fun vs H Q E h p dx hp hdx hne => ?_⟩
  have s := same_made (H' := upd (upd H dx (.own p)) p (.ins (ga K "Sieve") dx [])) hp hdx fun b _ => rfl
  obtain ⟨b, rfl, ks, hb, hk, hl, k⟩ := h
  refine ⟨p, b, rfl, dx, ks, upd_same, LG.same hb s, hk, hl, fun q H' hk' hq hp' => ⟨rfl, k p H' hp (fun c o e => hk' c o (s c o e) (ne_of_none e hp)) ⟨dx, q, hp', hq⟩⟩⟩
theorem lkKs {v : V} : List.lookup ("ks" : Str) [(("ks" : Str), v)] = some v := lkh
theorem lkNo {m : Str} {v : V} (h : (m == ("ks" : Str)) = false := by decide +kernel) : List.lookup m [(("ks" : Str), v)] = none := by
  unfold List.lookup; rw [h]; rfl
theorem lkN_bel {v : V} : List.lookup ("left_below" : Str) [(("ks" : Str), v)] = none := lkNo
theorem lkN_nth {v : V} : List.lookup ("nth_left" : Str) [(("ks" : Str), v)] = none := lkNo
theorem lkN_place {v : V} : List.lookup ("place_of" : Str) [(("ks" : Str), v)] = none := lkNo
theorem lkN_many {v : V} : List.lookup ("many" : Str) [(("ks" : Str), v)] = none := lkNo
def spPd (K : PySem.W.Frag) : Sp := fun vs H Q _ => ∃ a, vs = [.ref a] ∧ ∃ ks : List Int, SvA K H a ks ∧ okK ks ∧ ks.length ≤ 5 ∧ Q (.int (prodL ks)) H
theorem o_Sieve_product (T : Txt K mg) : OkM P w K mg base CX0 2 "Sieve" "product" ["self"] [] (spPd K) := by
  have o__product_of := o__product_of (P := P) (w := w) (base := base) T
  obtain ⟨f, fd, M, F⟩ := T.d_Sieve_product
  refine ⟨f, fd, M, b_Sieve_product F, F.ok (CX := CX0) sc_Sieve_product (fun vs H Q E h => ?_) (fun cdv A outer s H vs Q E hr h => ?_)⟩
  · first | (obtain ⟨_, rfl, _⟩ := h; rfl) | (obtain ⟨rfl, _⟩ := h; rfl) | (obtain ⟨_, _, rfl, _⟩ := h; rfl) | (obtain ⟨_, _, _, rfl, _⟩ := h; rfl) | (obtain ⟨_, _, _, _, rfl, _⟩ := h; rfl) | (obtain ⟨_, _, _, _, _, rfl, _⟩ := h; rfl) | (obtain ⟨_, _, _, _, _, _, rfl, _⟩ := h; rfl) | (obtain ⟨_, _, _, _, _, _, _, rfl, _⟩ := h; rfl)
  have hu64 := hr.units
  refine ⟨_, PSs.nox (pss_one (ps_ret (pcl o__product_of (hr.mono (by decide)) pass0 (pa_cons (pe_fldN T.c_Sieve T.na_Sieve_ks (pv 0)) pa_nil)))), ?_⟩
  obtain ⟨a, rfl, ks, ⟨dx, q, ha, hq⟩, hk, hl, k⟩ := h
  simp only [spPrd, exists_and_left, tD1, rTupN, rAll, rMax2, rMin2, tSl, tPart, tNoPart, rSlLN, tYes, rLenS, rRepN, unset, tEv2, calmS, tRevG, tRevLN, cx_K, Value.ref.injEq, HO.xd.injEq, lk0, tSeq, tPar3, tPar, tCons, tNil, tVar, tC, tAsg, gName, gCons, gNil, gTupN, gSub, tOp, rI, rI0, rU, tTest, rNe, rEq, rIxTN, rIxLN, rLenL, rLenT, tLstRg, tRg1, tRg2, rIntI, rIntB, rAbs, rSetLN, tTruL, tRaiseX, rIsTy, rIsOw, ixN0, ixN1, tRet, tIf, tIfS, tNext, tBreak, tCont, tDrop, tTupN, tLstN, tUn, tCB, tCall, tNot, tAnd, tOr, tB, tAndV, tOrV, tNotV, tChain, tApp, LamX.tLam, tRevLN, rCatN, rInTN, rInLN, flatV, inV, List.all_cons, List.all_nil, List.any_cons, List.any_nil, Bool.and_self, Bool.and_true, if_true, Bool.false_eq_true, if_false, tMt, tFldN, tSto, HO.ins.injEq, lkh, List.drop_zero, List.drop_succ_cons, List.drop_nil, rListS, wipe, L2.start, List.map_cons, List.map_nil, List.length_cons, List.length_nil, List.replicate, List.cons_append, List.nil_append, List.append_nil, Nat.reduceAdd, Nat.reduceSub, Nat.zero_add, List.replicate_succ, List.replicate_zero, List.getElem?_cons_zero, List.getElem?_cons_succ, List.set_cons_zero, List.set_cons_succ, Option.some.injEq, V.int.injEq, V.bl.injEq, V.ref.injEq, V.str.injEq, V.ty.injEq, List.cons.injEq, HO.tup.injEq, HO.lst.injEq, and_true, true_and, and_assoc, exists_eq_left, exists_eq_left', exists_and_left, exists_eq', atI0, atI1, atI2, atI3, Int.cast_ofNat_Int, Int.reduceToNat, scal_ii, scal_in, scal_ni, scal_nn, scal_bb, scal_ss, scal_sn, scal_ns, scal_bn, scal_nb, ite_iff, decide_eq_true_eq, decide_eq_false_iff_not, Bool.not_eq_true', Classical.not_not, ne_eq, not_false_eq_true, not_true_eq_false, forall_const, true_implies, false_implies, imp_self, sizeLine_eq, Nat.reduceLeDiff, reduceCtorEq, decide_true, decide_false]
  exact ⟨dx, _, ha, _, lkKs, q, rfl, ks, .inr hq, fun k hk' => by have := hk k hk'; omega, hl, by rw [prL_eq]; exact k⟩
def spMany (K : PySem.W.Frag) : Sp := fun vs H Q _ => ∃ a, vs = [.ref a] ∧ ∃ ks : List Int, SvA K H a ks ∧ okK ks ∧ ks.length ≤ 5 ∧ ∀ H', Same H H' → Q (.int (prodL (decs ks))) H'
theorem o_Sieve_many (T : Txt K mg) : OkM P w K mg base CX0 2 "Sieve" "many" ["self"] [] (spMany K) := by
  have o__product_of := o__product_of (P := P) (w := w) (base := base) T
  obtain ⟨f, fd, M, F⟩ := T.d_Sieve_many
  refine ⟨f, fd, M, b_Sieve_many F, F.ok (CX := CX0) sc_Sieve_many (fun vs H Q E h => ?_) (fun cdv A outer s H vs Q E hr h => ?_)⟩
  · first | (obtain ⟨_, rfl, _⟩ := h; rfl) | (obtain ⟨rfl, _⟩ := h; rfl) | (obtain ⟨_, _, rfl, _⟩ := h; rfl) | (obtain ⟨_, _, _, rfl, _⟩ := h; rfl) | (obtain ⟨_, _, _, _, rfl, _⟩ := h; rfl) | (obtain ⟨_, _, _, _, _, rfl, _⟩ := h; rfl) | (obtain ⟨_, _, _, _, _, _, rfl, _⟩ := h; rfl) | (obtain ⟨_, _, _, _, _, _, _, rfl, _⟩ := h; rfl)
  have hu64 := hr.units
  refine ⟨_, PSs.nox (pss_one (ps_ret (pcl o__product_of (hr.mono (by decide)) pass0 (pa_cons (pe_lc (own := [("k", 1)]) (g := gName 1) (by rfl) sc_Sieve_many.nd (pi_tup (pe_fldN T.c_Sieve T.na_Sieve_ks (pv 0))) (blkOk_by (N := ["self", "k"]) (sc := defScope s_Sieve_many) (own := [("k", 1)]) (by decide +kernel)) (fun _ _ _ _ _ => pg_name (i := 1) sc_Sieve_many.nd rfl (Or.inl rfl)) (fun _ _ _ _ _ => pts_nil) (fun _ _ _ _ _ => pe_op op_sub (pv 1) (pe_int))) pa_nil)))), ?_⟩
  obtain ⟨a, rfl, ks, ⟨dx, q, ha, hq⟩, hk, hl, k⟩ := h
  simp only [spPrd, exists_and_left, tD1, rTupN, rAll, rMax2, rMin2, tSl, tPart, tNoPart, rSlLN, tYes, rLenS, rRepN, unset, tEv2, calmS, tRevG, tRevLN, cx_K, Value.ref.injEq, HO.xd.injEq, lk0, tSeq, tPar3, tPar, tCons, tNil, tVar, tC, tAsg, gName, gCons, gNil, gTupN, gSub, tOp, rI, rI0, rU, tTest, rNe, rEq, rIxTN, rIxLN, rLenL, rLenT, tLstRg, tRg1, tRg2, rIntI, rIntB, rAbs, rSetLN, tTruL, tRaiseX, rIsTy, rIsOw, ixN0, ixN1, tRet, tIf, tIfS, tNext, tBreak, tCont, tDrop, tTupN, tLstN, tUn, tCB, tCall, tNot, tAnd, tOr, tB, tAndV, tOrV, tNotV, tChain, tApp, LamX.tLam, tRevLN, rCatN, rInTN, rInLN, flatV, inV, List.all_cons, List.all_nil, List.any_cons, List.any_nil, Bool.and_self, Bool.and_true, if_true, Bool.false_eq_true, if_false, tMt, tFldN, tSto, HO.ins.injEq, lkh, List.drop_zero, List.drop_succ_cons, List.drop_nil, rListS, wipe, L2.start, List.map_cons, List.map_nil, List.length_cons, List.length_nil, List.replicate, List.cons_append, List.nil_append, List.append_nil, Nat.reduceAdd, Nat.reduceSub, Nat.zero_add, List.replicate_succ, List.replicate_zero, List.getElem?_cons_zero, List.getElem?_cons_succ, List.set_cons_zero, List.set_cons_succ, Option.some.injEq, V.int.injEq, V.bl.injEq, V.ref.injEq, V.str.injEq, V.ty.injEq, List.cons.injEq, HO.tup.injEq, HO.lst.injEq, and_true, true_and, and_assoc, exists_eq_left, exists_eq_left', exists_and_left, exists_eq', atI0, atI1, atI2, atI3, Int.cast_ofNat_Int, Int.reduceToNat, scal_ii, scal_in, scal_ni, scal_nn, scal_bb, scal_ss, scal_sn, scal_ns, scal_bn, scal_nb, ite_iff, decide_eq_true_eq, decide_eq_false_iff_not, Bool.not_eq_true', Classical.not_not, ne_eq, not_false_eq_true, not_true_eq_false, forall_const, true_implies, false_implies, imp_self, sizeLine_eq, Nat.reduceLeDiff, reduceCtorEq, decide_true, decide_false]
  refine lc_inT ?_
  simp only [exists_and_left, ha, lkLow, lkHigh, lkKs, lkN_bel, lkN_place, lkN_nth, lkN_many, tD1, rTupN, rAll, rMax2, rMin2, tSl, tPart, tNoPart, rSlLN, tYes, rLenS, rRepN, unset, tEv2, calmS, tRevG, tRevLN, cx_K, Value.ref.injEq, HO.xd.injEq, lk0, tSeq, tPar3, tPar, tCons, tNil, tVar, tC, tAsg, gName, gCons, gNil, gTupN, gSub, tOp, rI, rI0, rU, tTest, rNe, rEq, rIxTN, rIxLN, rLenL, rLenT, tLstRg, tRg1, tRg2, rIntI, rIntB, rAbs, rSetLN, tTruL, tRaiseX, rIsTy, rIsOw, ixN0, ixN1, tRet, tIf, tIfS, tNext, tBreak, tCont, tDrop, tTupN, tLstN, tUn, tCB, tCall, tNot, tAnd, tOr, tB, tAndV, tOrV, tNotV, tChain, tApp, LamX.tLam, tRevLN, rCatN, rInTN, rInLN, flatV, inV, List.all_cons, List.all_nil, List.any_cons, List.any_nil, Bool.and_self, Bool.and_true, if_true, Bool.false_eq_true, if_false, tMt, tFldN, tSto, HO.ins.injEq, lkh, List.drop_zero, List.drop_succ_cons, List.drop_nil, rListS, wipe, L2.start, List.map_cons, List.map_nil, List.length_cons, List.length_nil, List.replicate, List.cons_append, List.nil_append, List.append_nil, Nat.reduceAdd, Nat.reduceSub, Nat.zero_add, List.replicate_succ, List.replicate_zero, List.getElem?_cons_zero, List.getElem?_cons_succ, List.set_cons_zero, List.set_cons_succ, Option.some.injEq, V.int.injEq, V.bl.injEq, V.ref.injEq, V.str.injEq, V.ty.injEq, List.cons.injEq, HO.tup.injEq, HO.lst.injEq, and_true, true_and, and_assoc, exists_eq_left, exists_eq_left', exists_and_left, exists_eq', atI0, atI1, atI2, atI3, Int.cast_ofNat_Int, Int.reduceToNat, scal_ii, scal_in, scal_ni, scal_nn, scal_bb, scal_ss, scal_sn, scal_ns, scal_bn, scal_nb, ite_iff, decide_eq_true_eq, decide_eq_false_iff_not, Bool.not_eq_true', Classical.not_not, ne_eq, not_false_eq_true, not_true_eq_false, forall_const, true_implies, false_implies, imp_self, sizeLine_eq, Nat.reduceLeDiff, reduceCtorEq, decide_true, decide_false]
  refine st_lcTG (fun R r => r) hq (fun D i H' => H D = none ∧ Same H H' ∧ H' D = some (.lst ((decs (ks.take i)).map V.int))) (fun D H1 n s f => ⟨n, s, f⟩) (fun D i H' p => SqT.same hq p.2.1) ?_ ?_
  · rintro D i x H1 hi ⟨n1, s1, f1⟩
    obtain ⟨j, hj, rfl⟩ := get_int hi
    have il : i < ks.length := (List.getElem?_eq_some_iff.mp hj).1
    simp only [exists_and_left, tD1, rTupN, rAll, rMax2, rMin2, tSl, tPart, tNoPart, rSlLN, tYes, rLenS, rRepN, unset, tEv2, calmS, tRevG, tRevLN, cx_K, Value.ref.injEq, HO.xd.injEq, lk0, tSeq, tPar3, tPar, tCons, tNil, tVar, tC, tAsg, gName, gCons, gNil, gTupN, gSub, tOp, rI, rI0, rU, tTest, rNe, rEq, rIxTN, rIxLN, rLenL, rLenT, tLstRg, tRg1, tRg2, rIntI, rIntB, rAbs, rSetLN, tTruL, tRaiseX, rIsTy, rIsOw, ixN0, ixN1, tRet, tIf, tIfS, tNext, tBreak, tCont, tDrop, tTupN, tLstN, tUn, tCB, tCall, tNot, tAnd, tOr, tB, tAndV, tOrV, tNotV, tChain, tApp, LamX.tLam, tRevLN, rCatN, rInTN, rInLN, flatV, inV, List.all_cons, List.all_nil, List.any_cons, List.any_nil, Bool.and_self, Bool.and_true, if_true, Bool.false_eq_true, if_false, tMt, tFldN, tSto, HO.ins.injEq, lkh, List.drop_zero, List.drop_succ_cons, List.drop_nil, rListS, wipe, L2.start, List.map_cons, List.map_nil, List.length_cons, List.length_nil, List.replicate, List.cons_append, List.nil_append, List.append_nil, Nat.reduceAdd, Nat.reduceSub, Nat.zero_add, List.replicate_succ, List.replicate_zero, List.getElem?_cons_zero, List.getElem?_cons_succ, List.set_cons_zero, List.set_cons_succ, Option.some.injEq, V.int.injEq, V.bl.injEq, V.ref.injEq, V.str.injEq, V.ty.injEq, List.cons.injEq, HO.tup.injEq, HO.lst.injEq, and_true, true_and, and_assoc, exists_eq_left, exists_eq_left', exists_and_left, exists_eq', atI0, atI1, atI2, atI3, Int.cast_ofNat_Int, Int.reduceToNat, scal_ii, scal_in, scal_ni, scal_nn, scal_bb, scal_ss, scal_sn, scal_ns, scal_bn, scal_nb, ite_iff, decide_eq_true_eq, decide_eq_false_iff_not, Bool.not_eq_true', Classical.not_not, ne_eq, not_false_eq_true, not_true_eq_false, forall_const, true_implies, false_implies, imp_self, sizeLine_eq, Nat.reduceLeDiff, reduceCtorEq, decide_true, decide_false]
    refine ⟨_, f1, ?_, n1, fun b o e => by rw [upd_ne (ne_of_none e n1)]; exact s1 _ _ e, ?_⟩
    · rw [List.length_map, decs, List.length_map, List.length_take]; show _ < 16777216; omega
    · rw [upd_same, List.take_succ, hj]
      simp [decs]
  · rintro D H1 ⟨n1, s1, f1⟩
    rw [List.length_map, List.take_length] at f1
    refine ⟨D, rfl, decs ks, .inl f1, fun k hk' => ?_, by rw [decs, List.length_map]; exact hl, by rw [prL_eq]; exact k H1 s1⟩
    obtain ⟨j, hj, rfl⟩ := List.mem_map.mp hk'
    have := hk j hj; omega
def spBel (K : PySem.W.Frag) : Sp := fun vs H Q _ => ∃ a x, vs = [.ref a, .int x] ∧ ∃ ks : List Int, SvA K H a ks ∧ okK ks ∧ Q (.int (belL ks (max 0 x))) H
theorem o_Sieve_left_below (T : Txt K mg) : OkM P w K mg base CX0 3 "Sieve" "left_below" ["self", "x"] [] (spBel K) := by
  have o_require_whole := o_require_whole (P := P) (w := w) (base := base) T
  obtain ⟨f, fd, M, F⟩ := T.d_Sieve_left_below
  refine ⟨f, fd, M, b_Sieve_left_below F, F.ok (CX := CX0) sc_Sieve_left_below (fun vs H Q E h => ?_) (fun cdv A outer s H vs Q E hr h => ?_)⟩
  · first | (obtain ⟨_, rfl, _⟩ := h; rfl) | (obtain ⟨rfl, _⟩ := h; rfl) | (obtain ⟨_, _, rfl, _⟩ := h; rfl) | (obtain ⟨_, _, _, rfl, _⟩ := h; rfl) | (obtain ⟨_, _, _, _, rfl, _⟩ := h; rfl) | (obtain ⟨_, _, _, _, _, rfl, _⟩ := h; rfl) | (obtain ⟨_, _, _, _, _, _, rfl, _⟩ := h; rfl) | (obtain ⟨_, _, _, _, _, _, _, rfl, _⟩ := h; rfl)
  have hu64 := hr.units
  refine ⟨_, PSs.nox (pss_cons (ps_expr (pcl o_require_whole (hr.mono (by decide)) pass0 (pa_cons (pv 1) pa_nil)))
      (pss_cons (ps_set (i := 2) sc_Sieve_left_below.nd rfl (Or.inl rfl) (pe_callB (call_max2N rfl) (by rfl) T.m_max (by decide +kernel) (pa_cons (pe_int) (pa_cons (pe_callTy call_intI (by rfl) T.m_int (by decide +kernel) (pa_cons (pv 1) pa_nil)) pa_nil))))
      (pss_cons (ps_for PassesOwn.never rfl (pi_tup (pe_fldN T.c_Sieve T.na_Sieve_ks (pv 0))) (pg_name (i := 3) sc_Sieve_left_below.nd rfl (Or.inl rfl)) (pss_one (ps_set (i := 2) sc_Sieve_left_below.nd rfl (Or.inl rfl) (pe_op op_sub (pv 2) (pe_op op_fdivW (pv 2) (pv 3))))))
      (pss_one (ps_ret (pv 2)))))), ?_⟩
  obtain ⟨a, x, rfl, ks, ⟨dx, q, ha, hq⟩, hk, k⟩ := h
  simp only [spReqW, exists_and_left, tD1, rTupN, rAll, rMax2, rMin2, tSl, tPart, tNoPart, rSlLN, tYes, rLenS, rRepN, unset, tEv2, calmS, tRevG, tRevLN, cx_K, Value.ref.injEq, HO.xd.injEq, lk0, tSeq, tPar3, tPar, tCons, tNil, tVar, tC, tAsg, gName, gCons, gNil, gTupN, gSub, tOp, rI, rI0, rU, tTest, rNe, rEq, rIxTN, rIxLN, rLenL, rLenT, tLstRg, tRg1, tRg2, rIntI, rIntB, rAbs, rSetLN, tTruL, tRaiseX, rIsTy, rIsOw, ixN0, ixN1, tRet, tIf, tIfS, tNext, tBreak, tCont, tDrop, tTupN, tLstN, tUn, tCB, tCall, tNot, tAnd, tOr, tB, tAndV, tOrV, tNotV, tChain, tApp, LamX.tLam, tRevLN, rCatN, rInTN, rInLN, flatV, inV, List.all_cons, List.all_nil, List.any_cons, List.any_nil, Bool.and_self, Bool.and_true, if_true, Bool.false_eq_true, if_false, tMt, tFldN, tSto, HO.ins.injEq, lkh, List.drop_zero, List.drop_succ_cons, List.drop_nil, rListS, wipe, L2.start, List.map_cons, List.map_nil, List.length_cons, List.length_nil, List.replicate, List.cons_append, List.nil_append, List.append_nil, Nat.reduceAdd, Nat.reduceSub, Nat.zero_add, List.replicate_succ, List.replicate_zero, List.getElem?_cons_zero, List.getElem?_cons_succ, List.set_cons_zero, List.set_cons_succ, Option.some.injEq, V.int.injEq, V.bl.injEq, V.ref.injEq, V.str.injEq, V.ty.injEq, List.cons.injEq, HO.tup.injEq, HO.lst.injEq, and_true, true_and, and_assoc, exists_eq_left, exists_eq_left', exists_and_left, exists_eq', atI0, atI1, atI2, atI3, Int.cast_ofNat_Int, Int.reduceToNat, scal_ii, scal_in, scal_ni, scal_nn, scal_bb, scal_ss, scal_sn, scal_ns, scal_bn, scal_nb, ite_iff, decide_eq_true_eq, decide_eq_false_iff_not, Bool.not_eq_true', Classical.not_not, ne_eq, not_false_eq_true, not_true_eq_false, forall_const, true_implies, false_implies, imp_self, sizeLine_eq, Nat.reduceLeDiff, reduceCtorEq, decide_true, decide_false]
  refine for_inT ?_
  simp only [exists_and_left, ha, lkLow, lkHigh, lkKs, lkN_bel, lkN_place, lkN_nth, lkN_many, tD1, rTupN, rAll, rMax2, rMin2, tSl, tPart, tNoPart, rSlLN, tYes, rLenS, rRepN, unset, tEv2, calmS, tRevG, tRevLN, cx_K, Value.ref.injEq, HO.xd.injEq, lk0, tSeq, tPar3, tPar, tCons, tNil, tVar, tC, tAsg, gName, gCons, gNil, gTupN, gSub, tOp, rI, rI0, rU, tTest, rNe, rEq, rIxTN, rIxLN, rLenL, rLenT, tLstRg, tRg1, tRg2, rIntI, rIntB, rAbs, rSetLN, tTruL, tRaiseX, rIsTy, rIsOw, ixN0, ixN1, tRet, tIf, tIfS, tNext, tBreak, tCont, tDrop, tTupN, tLstN, tUn, tCB, tCall, tNot, tAnd, tOr, tB, tAndV, tOrV, tNotV, tChain, tApp, LamX.tLam, tRevLN, rCatN, rInTN, rInLN, flatV, inV, List.all_cons, List.all_nil, List.any_cons, List.any_nil, Bool.and_self, Bool.and_true, if_true, Bool.false_eq_true, if_false, tMt, tFldN, tSto, HO.ins.injEq, lkh, List.drop_zero, List.drop_succ_cons, List.drop_nil, rListS, wipe, L2.start, List.map_cons, List.map_nil, List.length_cons, List.length_nil, List.replicate, List.cons_append, List.nil_append, List.append_nil, Nat.reduceAdd, Nat.reduceSub, Nat.zero_add, List.replicate_succ, List.replicate_zero, List.getElem?_cons_zero, List.getElem?_cons_succ, List.set_cons_zero, List.set_cons_succ, Option.some.injEq, V.int.injEq, V.bl.injEq, V.ref.injEq, V.str.injEq, V.ty.injEq, List.cons.injEq, HO.tup.injEq, HO.lst.injEq, and_true, true_and, and_assoc, exists_eq_left, exists_eq_left', exists_and_left, exists_eq', atI0, atI1, atI2, atI3, Int.cast_ofNat_Int, Int.reduceToNat, scal_ii, scal_in, scal_ni, scal_nn, scal_bb, scal_ss, scal_sn, scal_ns, scal_bn, scal_nb, ite_iff, decide_eq_true_eq, decide_eq_false_iff_not, Bool.not_eq_true', Classical.not_not, ne_eq, not_false_eq_true, not_true_eq_false, forall_const, true_implies, false_implies, imp_self, sizeLine_eq, Nat.reduceLeDiff, reduceCtorEq, decide_true, decide_false]
  refine st_forSq (fun R r => r) hq (fun i σ' H' => H' = H ∧ ∃ x3, σ' = [some (V.ref a), some (V.int x), some (V.int (belL (ks.take i) (max 0 x))), x3]) ⟨rfl, none, rfl⟩ (fun i σ' H' ⟨e, _⟩ => by rw [e]; exact hq) ?_ ?_
  · rintro i y _ H1 hi ⟨rfl, x3, rfl⟩
    obtain ⟨j, hj, rfl⟩ := get_int hi
    have jb := hk j (List.mem_of_getElem? hj)
    simp only [exists_and_left, tD1, rTupN, rAll, rMax2, rMin2, tSl, tPart, tNoPart, rSlLN, tYes, rLenS, rRepN, unset, tEv2, calmS, tRevG, tRevLN, cx_K, Value.ref.injEq, HO.xd.injEq, lk0, tSeq, tPar3, tPar, tCons, tNil, tVar, tC, tAsg, gName, gCons, gNil, gTupN, gSub, tOp, rI, rI0, rU, tTest, rNe, rEq, rIxTN, rIxLN, rLenL, rLenT, tLstRg, tRg1, tRg2, rIntI, rIntB, rAbs, rSetLN, tTruL, tRaiseX, rIsTy, rIsOw, ixN0, ixN1, tRet, tIf, tIfS, tNext, tBreak, tCont, tDrop, tTupN, tLstN, tUn, tCB, tCall, tNot, tAnd, tOr, tB, tAndV, tOrV, tNotV, tChain, tApp, LamX.tLam, tRevLN, rCatN, rInTN, rInLN, flatV, inV, List.all_cons, List.all_nil, List.any_cons, List.any_nil, Bool.and_self, Bool.and_true, if_true, Bool.false_eq_true, if_false, tMt, tFldN, tSto, HO.ins.injEq, lkh, List.drop_zero, List.drop_succ_cons, List.drop_nil, rListS, wipe, L2.start, List.map_cons, List.map_nil, List.length_cons, List.length_nil, List.replicate, List.cons_append, List.nil_append, List.append_nil, Nat.reduceAdd, Nat.reduceSub, Nat.zero_add, List.replicate_succ, List.replicate_zero, List.getElem?_cons_zero, List.getElem?_cons_succ, List.set_cons_zero, List.set_cons_succ, Option.some.injEq, V.int.injEq, V.bl.injEq, V.ref.injEq, V.str.injEq, V.ty.injEq, List.cons.injEq, HO.tup.injEq, HO.lst.injEq, and_true, true_and, and_assoc, exists_eq_left, exists_eq_left', exists_and_left, exists_eq', atI0, atI1, atI2, atI3, Int.cast_ofNat_Int, Int.reduceToNat, scal_ii, scal_in, scal_ni, scal_nn, scal_bb, scal_ss, scal_sn, scal_ns, scal_bn, scal_nb, ite_iff, decide_eq_true_eq, decide_eq_false_iff_not, Bool.not_eq_true', Classical.not_not, ne_eq, not_false_eq_true, not_true_eq_false, forall_const, true_implies, false_implies, imp_self, sizeLine_eq, Nat.reduceLeDiff, reduceCtorEq, decide_true, decide_false]
    refine ⟨wide_div (show (0 : Int) < j by omega) (b := 4) (by omega) (by decide) (by decide), ?_⟩
    rw [List.take_succ, hj, show (some j).toList = [j] from rfl, belL_snoc]
    rfl
  · rintro _ H1 ⟨rfl, x3, rfl⟩
    simp only [exists_and_left, tD1, rTupN, rAll, rMax2, rMin2, tSl, tPart, tNoPart, rSlLN, tYes, rLenS, rRepN, unset, tEv2, calmS, tRevG, tRevLN, cx_K, Value.ref.injEq, HO.xd.injEq, lk0, tSeq, tPar3, tPar, tCons, tNil, tVar, tC, tAsg, gName, gCons, gNil, gTupN, gSub, tOp, rI, rI0, rU, tTest, rNe, rEq, rIxTN, rIxLN, rLenL, rLenT, tLstRg, tRg1, tRg2, rIntI, rIntB, rAbs, rSetLN, tTruL, tRaiseX, rIsTy, rIsOw, ixN0, ixN1, tRet, tIf, tIfS, tNext, tBreak, tCont, tDrop, tTupN, tLstN, tUn, tCB, tCall, tNot, tAnd, tOr, tB, tAndV, tOrV, tNotV, tChain, tApp, LamX.tLam, tRevLN, rCatN, rInTN, rInLN, flatV, inV, List.all_cons, List.all_nil, List.any_cons, List.any_nil, Bool.and_self, Bool.and_true, if_true, Bool.false_eq_true, if_false, tMt, tFldN, tSto, HO.ins.injEq, lkh, List.drop_zero, List.drop_succ_cons, List.drop_nil, rListS, wipe, L2.start, List.map_cons, List.map_nil, List.length_cons, List.length_nil, List.replicate, List.cons_append, List.nil_append, List.append_nil, Nat.reduceAdd, Nat.reduceSub, Nat.zero_add, List.replicate_succ, List.replicate_zero, List.getElem?_cons_zero, List.getElem?_cons_succ, List.set_cons_zero, List.set_cons_succ, Option.some.injEq, V.int.injEq, V.bl.injEq, V.ref.injEq, V.str.injEq, V.ty.injEq, List.cons.injEq, HO.tup.injEq, HO.lst.injEq, and_true, true_and, and_assoc, exists_eq_left, exists_eq_left', exists_and_left, exists_eq', atI0, atI1, atI2, atI3, Int.cast_ofNat_Int, Int.reduceToNat, scal_ii, scal_in, scal_ni, scal_nn, scal_bb, scal_ss, scal_sn, scal_ns, scal_bn, scal_nb, ite_iff, decide_eq_true_eq, decide_eq_false_iff_not, Bool.not_eq_true', Classical.not_not, ne_eq, not_false_eq_true, not_true_eq_false, forall_const, true_implies, false_implies, imp_self, sizeLine_eq, Nat.reduceLeDiff, reduceCtorEq, decide_true, decide_false]
    rw [List.length_map, List.take_length]
    exact k
def spNth (K : PySem.W.Frag) : Sp := fun vs H Q _ => ∃ a n, vs = [.ref a, .int n] ∧ ∃ ks : List Int, SvA K H a ks ∧ okK ks ∧ 0 ≤ n ∧ ∀ H', Same H H' → Q (.int (nthL ks n)) H'
theorem o_Sieve_nth_left (T : Txt K mg) : OkM P w K mg base CX0 4 "Sieve" "nth_left" ["self", "n"] [] (spNth K) := by
  have o_require_from := o_require_from (P := P) (w := w) (base := base) T
  obtain ⟨f, fd, M, F⟩ := T.d_Sieve_nth_left
  refine ⟨f, fd, M, b_Sieve_nth_left F, F.ok (CX := CX0) sc_Sieve_nth_left (fun vs H Q E h => ?_) (fun cdv A outer s H vs Q E hr h => ?_)⟩
  · first | (obtain ⟨_, rfl, _⟩ := h; rfl) | (obtain ⟨rfl, _⟩ := h; rfl) | (obtain ⟨_, _, rfl, _⟩ := h; rfl) | (obtain ⟨_, _, _, rfl, _⟩ := h; rfl) | (obtain ⟨_, _, _, _, rfl, _⟩ := h; rfl) | (obtain ⟨_, _, _, _, _, rfl, _⟩ := h; rfl) | (obtain ⟨_, _, _, _, _, _, rfl, _⟩ := h; rfl) | (obtain ⟨_, _, _, _, _, _, _, rfl, _⟩ := h; rfl)
  have hu64 := hr.units
  refine ⟨_, PSs.nox (pss_cons (ps_expr (pcl o_require_from (hr.mono (by decide)) pass0 (pa_cons (pv 1) (pa_cons (pe_int) pa_nil))))
      (pss_cons (ps_for PassesOwn.never rfl (pi_tup (pe_revG (pe_fldN T.c_Sieve T.na_Sieve_ks (pv 0)))) (pg_name (i := 2) sc_Sieve_nth_left.nd rfl (Or.inl rfl)) (pss_one (ps_set (i := 1) sc_Sieve_nth_left.nd rfl (Or.inl rfl) (pe_op op_add (pv 1) (pe_op op_fdivW (pv 1) (pe_op op_sub (pv 2) (pe_int)))))))
      (pss_one (ps_ret (pv 1))))), ?_⟩
  obtain ⟨a, n, rfl, ks, ⟨dx, q, ha, hq⟩, hk, hn, k⟩ := h
  simp only [spReqF, exists_and_left, tD1, rTupN, rAll, rMax2, rMin2, tSl, tPart, tNoPart, rSlLN, tYes, rLenS, rRepN, unset, tEv2, calmS, tRevG, tRevLN, cx_K, Value.ref.injEq, HO.xd.injEq, lk0, tSeq, tPar3, tPar, tCons, tNil, tVar, tC, tAsg, gName, gCons, gNil, gTupN, gSub, tOp, rI, rI0, rU, tTest, rNe, rEq, rIxTN, rIxLN, rLenL, rLenT, tLstRg, tRg1, tRg2, rIntI, rIntB, rAbs, rSetLN, tTruL, tRaiseX, rIsTy, rIsOw, ixN0, ixN1, tRet, tIf, tIfS, tNext, tBreak, tCont, tDrop, tTupN, tLstN, tUn, tCB, tCall, tNot, tAnd, tOr, tB, tAndV, tOrV, tNotV, tChain, tApp, LamX.tLam, tRevLN, rCatN, rInTN, rInLN, flatV, inV, List.all_cons, List.all_nil, List.any_cons, List.any_nil, Bool.and_self, Bool.and_true, if_true, Bool.false_eq_true, if_false, tMt, tFldN, tSto, HO.ins.injEq, lkh, List.drop_zero, List.drop_succ_cons, List.drop_nil, rListS, wipe, L2.start, List.map_cons, List.map_nil, List.length_cons, List.length_nil, List.replicate, List.cons_append, List.nil_append, List.append_nil, Nat.reduceAdd, Nat.reduceSub, Nat.zero_add, List.replicate_succ, List.replicate_zero, List.getElem?_cons_zero, List.getElem?_cons_succ, List.set_cons_zero, List.set_cons_succ, Option.some.injEq, V.int.injEq, V.bl.injEq, V.ref.injEq, V.str.injEq, V.ty.injEq, List.cons.injEq, HO.tup.injEq, HO.lst.injEq, and_true, true_and, and_assoc, exists_eq_left, exists_eq_left', exists_and_left, exists_eq', atI0, atI1, atI2, atI3, Int.cast_ofNat_Int, Int.reduceToNat, scal_ii, scal_in, scal_ni, scal_nn, scal_bb, scal_ss, scal_sn, scal_ns, scal_bn, scal_nb, ite_iff, decide_eq_true_eq, decide_eq_false_iff_not, Bool.not_eq_true', Classical.not_not, ne_eq, not_false_eq_true, not_true_eq_false, forall_const, true_implies, false_implies, imp_self, sizeLine_eq, Nat.reduceLeDiff, reduceCtorEq, decide_true, decide_false]
  refine ⟨hn, for_inT ?_⟩
  simp only [exists_and_left, tD1, rTupN, rAll, rMax2, rMin2, tSl, tPart, tNoPart, rSlLN, tYes, rLenS, rRepN, unset, tEv2, calmS, tRevG, tRevLN, cx_K, Value.ref.injEq, HO.xd.injEq, lk0, tSeq, tPar3, tPar, tCons, tNil, tVar, tC, tAsg, gName, gCons, gNil, gTupN, gSub, tOp, rI, rI0, rU, tTest, rNe, rEq, rIxTN, rIxLN, rLenL, rLenT, tLstRg, tRg1, tRg2, rIntI, rIntB, rAbs, rSetLN, tTruL, tRaiseX, rIsTy, rIsOw, ixN0, ixN1, tRet, tIf, tIfS, tNext, tBreak, tCont, tDrop, tTupN, tLstN, tUn, tCB, tCall, tNot, tAnd, tOr, tB, tAndV, tOrV, tNotV, tChain, tApp, LamX.tLam, tRevLN, rCatN, rInTN, rInLN, flatV, inV, List.all_cons, List.all_nil, List.any_cons, List.any_nil, Bool.and_self, Bool.and_true, if_true, Bool.false_eq_true, if_false, tMt, tFldN, tSto, HO.ins.injEq, lkh, List.drop_zero, List.drop_succ_cons, List.drop_nil, rListS, wipe, L2.start, List.map_cons, List.map_nil, List.length_cons, List.length_nil, List.replicate, List.cons_append, List.nil_append, List.append_nil, Nat.reduceAdd, Nat.reduceSub, Nat.zero_add, List.replicate_succ, List.replicate_zero, List.getElem?_cons_zero, List.getElem?_cons_succ, List.set_cons_zero, List.set_cons_succ, Option.some.injEq, V.int.injEq, V.bl.injEq, V.ref.injEq, V.str.injEq, V.ty.injEq, List.cons.injEq, HO.tup.injEq, HO.lst.injEq, and_true, true_and, and_assoc, exists_eq_left, exists_eq_left', exists_and_left, exists_eq', atI0, atI1, atI2, atI3, Int.cast_ofNat_Int, Int.reduceToNat, scal_ii, scal_in, scal_ni, scal_nn, scal_bb, scal_ss, scal_sn, scal_ns, scal_bn, scal_nb, ite_iff, decide_eq_true_eq, decide_eq_false_iff_not, Bool.not_eq_true', Classical.not_not, ne_eq, not_false_eq_true, not_true_eq_false, forall_const, true_implies, false_implies, imp_self, sizeLine_eq, Nat.reduceLeDiff, reduceCtorEq, decide_true, decide_false]
  refine ⟨dx, _, ha, _, lkKs, q, rfl, _, hq, fun r H1 n1 s1 f1 => ?_⟩
  rw [← List.map_reverse] at f1
  refine st_forSq (fun R r => r) (SqT.of f1) (fun i σ' H' => H' = H1 ∧ ∃ x3, σ' = [some (V.ref a), some (V.int ((ks.reverse.take i).foldl (fun m k => fK k m) n)), x3]) ⟨rfl, none, rfl⟩ (fun i σ' H' ⟨e, _⟩ => by rw [e]; exact SqT.of f1) ?_ ?_
  · rintro i y _ H2 hi ⟨rfl, x3, rfl⟩
    obtain ⟨j, hj, rfl⟩ := get_int hi
    have jb := hk j (List.mem_reverse.mp (List.mem_of_getElem? hj))
    simp only [exists_and_left, tD1, rTupN, rAll, rMax2, rMin2, tSl, tPart, tNoPart, rSlLN, tYes, rLenS, rRepN, unset, tEv2, calmS, tRevG, tRevLN, cx_K, Value.ref.injEq, HO.xd.injEq, lk0, tSeq, tPar3, tPar, tCons, tNil, tVar, tC, tAsg, gName, gCons, gNil, gTupN, gSub, tOp, rI, rI0, rU, tTest, rNe, rEq, rIxTN, rIxLN, rLenL, rLenT, tLstRg, tRg1, tRg2, rIntI, rIntB, rAbs, rSetLN, tTruL, tRaiseX, rIsTy, rIsOw, ixN0, ixN1, tRet, tIf, tIfS, tNext, tBreak, tCont, tDrop, tTupN, tLstN, tUn, tCB, tCall, tNot, tAnd, tOr, tB, tAndV, tOrV, tNotV, tChain, tApp, LamX.tLam, tRevLN, rCatN, rInTN, rInLN, flatV, inV, List.all_cons, List.all_nil, List.any_cons, List.any_nil, Bool.and_self, Bool.and_true, if_true, Bool.false_eq_true, if_false, tMt, tFldN, tSto, HO.ins.injEq, lkh, List.drop_zero, List.drop_succ_cons, List.drop_nil, rListS, wipe, L2.start, List.map_cons, List.map_nil, List.length_cons, List.length_nil, List.replicate, List.cons_append, List.nil_append, List.append_nil, Nat.reduceAdd, Nat.reduceSub, Nat.zero_add, List.replicate_succ, List.replicate_zero, List.getElem?_cons_zero, List.getElem?_cons_succ, List.set_cons_zero, List.set_cons_succ, Option.some.injEq, V.int.injEq, V.bl.injEq, V.ref.injEq, V.str.injEq, V.ty.injEq, List.cons.injEq, HO.tup.injEq, HO.lst.injEq, and_true, true_and, and_assoc, exists_eq_left, exists_eq_left', exists_and_left, exists_eq', atI0, atI1, atI2, atI3, Int.cast_ofNat_Int, Int.reduceToNat, scal_ii, scal_in, scal_ni, scal_nn, scal_bb, scal_ss, scal_sn, scal_ns, scal_bn, scal_nb, ite_iff, decide_eq_true_eq, decide_eq_false_iff_not, Bool.not_eq_true', Classical.not_not, ne_eq, not_false_eq_true, not_true_eq_false, forall_const, true_implies, false_implies, imp_self, sizeLine_eq, Nat.reduceLeDiff, reduceCtorEq, decide_true, decide_false]
    refine ⟨wide_div (show (0 : Int) < j - 1 by omega) (b := 4) (by omega) (by decide) (by decide), ?_⟩
    rw [List.take_succ, hj, show (some j).toList = [j] from rfl, List.foldl_append]
    rfl
  · rintro _ H2 ⟨rfl, x3, rfl⟩
    simp only [exists_and_left, tD1, rTupN, rAll, rMax2, rMin2, tSl, tPart, tNoPart, rSlLN, tYes, rLenS, rRepN, unset, tEv2, calmS, tRevG, tRevLN, cx_K, Value.ref.injEq, HO.xd.injEq, lk0, tSeq, tPar3, tPar, tCons, tNil, tVar, tC, tAsg, gName, gCons, gNil, gTupN, gSub, tOp, rI, rI0, rU, tTest, rNe, rEq, rIxTN, rIxLN, rLenL, rLenT, tLstRg, tRg1, tRg2, rIntI, rIntB, rAbs, rSetLN, tTruL, tRaiseX, rIsTy, rIsOw, ixN0, ixN1, tRet, tIf, tIfS, tNext, tBreak, tCont, tDrop, tTupN, tLstN, tUn, tCB, tCall, tNot, tAnd, tOr, tB, tAndV, tOrV, tNotV, tChain, tApp, LamX.tLam, tRevLN, rCatN, rInTN, rInLN, flatV, inV, List.all_cons, List.all_nil, List.any_cons, List.any_nil, Bool.and_self, Bool.and_true, if_true, Bool.false_eq_true, if_false, tMt, tFldN, tSto, HO.ins.injEq, lkh, List.drop_zero, List.drop_succ_cons, List.drop_nil, rListS, wipe, L2.start, List.map_cons, List.map_nil, List.length_cons, List.length_nil, List.replicate, List.cons_append, List.nil_append, List.append_nil, Nat.reduceAdd, Nat.reduceSub, Nat.zero_add, List.replicate_succ, List.replicate_zero, List.getElem?_cons_zero, List.getElem?_cons_succ, List.set_cons_zero, List.set_cons_succ, Option.some.injEq, V.int.injEq, V.bl.injEq, V.ref.injEq, V.str.injEq, V.ty.injEq, List.cons.injEq, HO.tup.injEq, HO.lst.injEq, and_true, true_and, and_assoc, exists_eq_left, exists_eq_left', exists_and_left, exists_eq', atI0, atI1, atI2, atI3, Int.cast_ofNat_Int, Int.reduceToNat, scal_ii, scal_in, scal_ni, scal_nn, scal_bb, scal_ss, scal_sn, scal_ns, scal_bn, scal_nb, ite_iff, decide_eq_true_eq, decide_eq_false_iff_not, Bool.not_eq_true', Classical.not_not, ne_eq, not_false_eq_true, not_true_eq_false, forall_const, true_implies, false_implies, imp_self, sizeLine_eq, Nat.reduceLeDiff, reduceCtorEq, decide_true, decide_false]
    rw [List.length_map, List.take_length, List.foldl_reverse]
    exact k _ s1
def spPlace (K : PySem.W.Frag) : Sp := fun vs H Q _ => ∃ a x, vs = [.ref a, .int x] ∧ ∃ ks : List Int, SvA K H a ks ∧ okK ks ∧ ∀ H', Same H H' → Q (if nthL ks (belL ks (max 0 x)) = x then .int (belL ks (max 0 x)) else .non) H'
theorem o_Sieve_place_of (T : Txt K mg) : OkM P w K mg base CX0 5 "Sieve" "place_of" ["self", "x"] [] (spPlace K) := by
  have o_Sieve_left_below := o_Sieve_left_below (P := P) (w := w) (base := base) T
  have o_Sieve_nth_left := o_Sieve_nth_left (P := P) (w := w) (base := base) T
  obtain ⟨f, fd, M, F⟩ := T.d_Sieve_place_of
  refine ⟨f, fd, M, b_Sieve_place_of F, F.ok (CX := CX0) sc_Sieve_place_of (fun vs H Q E h => ?_) (fun cdv A outer s H vs Q E hr h => ?_)⟩
  · first | (obtain ⟨_, rfl, _⟩ := h; rfl) | (obtain ⟨rfl, _⟩ := h; rfl) | (obtain ⟨_, _, rfl, _⟩ := h; rfl) | (obtain ⟨_, _, _, rfl, _⟩ := h; rfl) | (obtain ⟨_, _, _, _, rfl, _⟩ := h; rfl) | (obtain ⟨_, _, _, _, _, rfl, _⟩ := h; rfl) | (obtain ⟨_, _, _, _, _, _, rfl, _⟩ := h; rfl) | (obtain ⟨_, _, _, _, _, _, _, rfl, _⟩ := h; rfl)
  have hu64 := hr.units
  refine ⟨_, PSs.nox (pss_cons (ps_set (i := 2) sc_Sieve_place_of.nd rfl (Or.inl rfl) (pmt (j := 0) o_Sieve_left_below T.c_Sieve (pv 0) (by decide) (hr.mono (by decide)) pass0 (pa_cons (pv 1) pa_nil)))
      (pss_one (ps_ret (pe_ifExp (pt_cmpR op_eq (pmt (j := 0) o_Sieve_nth_left T.c_Sieve (pv 0) (by decide) (hr.mono (by decide)) pass0 (pa_cons (pv 2) pa_nil)) (pv 1) (nomark _)) (pv 2) (pe_non))))), ?_⟩
  obtain ⟨a, x, rfl, ks, hv, hk, k⟩ := h
  obtain ⟨dx, q, ha, hq⟩ := id hv
  simp only [spBel, spNth, exists_and_left, ha, lkLow, lkHigh, lkKs, lkN_bel, lkN_place, lkN_nth, lkN_many, tD1, rTupN, rAll, rMax2, rMin2, tSl, tPart, tNoPart, rSlLN, tYes, rLenS, rRepN, unset, tEv2, calmS, tRevG, tRevLN, cx_K, Value.ref.injEq, HO.xd.injEq, lk0, tSeq, tPar3, tPar, tCons, tNil, tVar, tC, tAsg, gName, gCons, gNil, gTupN, gSub, tOp, rI, rI0, rU, tTest, rNe, rEq, rIxTN, rIxLN, rLenL, rLenT, tLstRg, tRg1, tRg2, rIntI, rIntB, rAbs, rSetLN, tTruL, tRaiseX, rIsTy, rIsOw, ixN0, ixN1, tRet, tIf, tIfS, tNext, tBreak, tCont, tDrop, tTupN, tLstN, tUn, tCB, tCall, tNot, tAnd, tOr, tB, tAndV, tOrV, tNotV, tChain, tApp, LamX.tLam, tRevLN, rCatN, rInTN, rInLN, flatV, inV, List.all_cons, List.all_nil, List.any_cons, List.any_nil, Bool.and_self, Bool.and_true, if_true, Bool.false_eq_true, if_false, tMt, tFldN, tSto, HO.ins.injEq, lkh, List.drop_zero, List.drop_succ_cons, List.drop_nil, rListS, wipe, L2.start, List.map_cons, List.map_nil, List.length_cons, List.length_nil, List.replicate, List.cons_append, List.nil_append, List.append_nil, Nat.reduceAdd, Nat.reduceSub, Nat.zero_add, List.replicate_succ, List.replicate_zero, List.getElem?_cons_zero, List.getElem?_cons_succ, List.set_cons_zero, List.set_cons_succ, Option.some.injEq, V.int.injEq, V.bl.injEq, V.ref.injEq, V.str.injEq, V.ty.injEq, List.cons.injEq, HO.tup.injEq, HO.lst.injEq, and_true, true_and, and_assoc, exists_eq_left, exists_eq_left', exists_and_left, exists_eq', atI0, atI1, atI2, atI3, Int.cast_ofNat_Int, Int.reduceToNat, scal_ii, scal_in, scal_ni, scal_nn, scal_bb, scal_ss, scal_sn, scal_ns, scal_bn, scal_nb, ite_iff, decide_eq_true_eq, decide_eq_false_iff_not, Bool.not_eq_true', Classical.not_not, ne_eq, not_false_eq_true, not_true_eq_false, forall_const, true_implies, false_implies, imp_self, sizeLine_eq, Nat.reduceLeDiff, reduceCtorEq, decide_true, decide_false]
  refine ⟨ks, hv, hk, ks, hv, hk, belL_pos hk (by omega), fun H' s' => ⟨fun c => ?_, fun c => ?_⟩⟩
  · have := k H' s'; rw [if_pos c] at this; exact this
  · have := k H' s'; rw [if_neg c] at this; exact this
def spIsL (K : PySem.W.Frag) : Sp := fun vs H Q _ => ∃ a v, vs = [.ref a, v] ∧ ∃ ks : List Int, SvA K H a ks ∧ okK ks ∧ Wh K H v ∧ ∀ H', Same H H' → Q (.bl (match v with | .int x => decide (nthL ks (belL ks (max 0 x)) = x) | _ => false)) H'
theorem o_Sieve_is_left (T : Txt K mg) : OkM P w K mg base CX0 6 "Sieve" "is_left" ["self", "value"] [] (spIsL K) := by
  have o_is_whole := o_is_whole (P := P) (w := w) (base := base) T
  have o_Sieve_place_of := o_Sieve_place_of (P := P) (w := w) (base := base) T
  obtain ⟨f, fd, M, F⟩ := T.d_Sieve_is_left
  refine ⟨f, fd, M, b_Sieve_is_left F, F.ok (CX := CX0) sc_Sieve_is_left (fun vs H Q E h => ?_) (fun cdv A outer s H vs Q E hr h => ?_)⟩
  · first | (obtain ⟨_, rfl, _⟩ := h; rfl) | (obtain ⟨rfl, _⟩ := h; rfl) | (obtain ⟨_, _, rfl, _⟩ := h; rfl) | (obtain ⟨_, _, _, rfl, _⟩ := h; rfl) | (obtain ⟨_, _, _, _, rfl, _⟩ := h; rfl) | (obtain ⟨_, _, _, _, _, rfl, _⟩ := h; rfl) | (obtain ⟨_, _, _, _, _, _, rfl, _⟩ := h; rfl) | (obtain ⟨_, _, _, _, _, _, _, rfl, _⟩ := h; rfl)
  have hu64 := hr.units
  refine ⟨_, PSs.nox (pss_one (ps_ret (pe_and (pcl o_is_whole (hr.mono (by decide)) pass0 (pa_cons (pv 1) pa_nil)) (pe_one (pe_cmpR op_notN (pmt (j := 0) o_Sieve_place_of T.c_Sieve (pv 0) (by decide) (hr.mono (by decide)) pass0 (pa_cons (pv 1) pa_nil)) (pe_non) (nomark _)))))), ?_⟩
  obtain ⟨a, v, rfl, ks, hv, hk, W, k⟩ := h
  obtain ⟨dx, q, ha, hq⟩ := id hv
  simp only [spWhole, spPlace, exists_and_left, ha, lkLow, lkHigh, lkKs, lkN_bel, lkN_place, lkN_nth, lkN_many, tD1, rTupN, rAll, rMax2, rMin2, tSl, tPart, tNoPart, rSlLN, tYes, rLenS, rRepN, unset, tEv2, calmS, tRevG, tRevLN, cx_K, Value.ref.injEq, HO.xd.injEq, lk0, tSeq, tPar3, tPar, tCons, tNil, tVar, tC, tAsg, gName, gCons, gNil, gTupN, gSub, tOp, rI, rI0, rU, tTest, rNe, rEq, rIxTN, rIxLN, rLenL, rLenT, tLstRg, tRg1, tRg2, rIntI, rIntB, rAbs, rSetLN, tTruL, tRaiseX, rIsTy, rIsOw, ixN0, ixN1, tRet, tIf, tIfS, tNext, tBreak, tCont, tDrop, tTupN, tLstN, tUn, tCB, tCall, tNot, tAnd, tOr, tB, tAndV, tOrV, tNotV, tChain, tApp, LamX.tLam, tRevLN, rCatN, rInTN, rInLN, flatV, inV, List.all_cons, List.all_nil, List.any_cons, List.any_nil, Bool.and_self, Bool.and_true, if_true, Bool.false_eq_true, if_false, tMt, tFldN, tSto, HO.ins.injEq, lkh, List.drop_zero, List.drop_succ_cons, List.drop_nil, rListS, wipe, L2.start, List.map_cons, List.map_nil, List.length_cons, List.length_nil, List.replicate, List.cons_append, List.nil_append, List.append_nil, Nat.reduceAdd, Nat.reduceSub, Nat.zero_add, List.replicate_succ, List.replicate_zero, List.getElem?_cons_zero, List.getElem?_cons_succ, List.set_cons_zero, List.set_cons_succ, Option.some.injEq, V.int.injEq, V.bl.injEq, V.ref.injEq, V.str.injEq, V.ty.injEq, List.cons.injEq, HO.tup.injEq, HO.lst.injEq, and_true, true_and, and_assoc, exists_eq_left, exists_eq_left', exists_and_left, exists_eq', atI0, atI1, atI2, atI3, Int.cast_ofNat_Int, Int.reduceToNat, scal_ii, scal_in, scal_ni, scal_nn, scal_bb, scal_ss, scal_sn, scal_ns, scal_bn, scal_nb, ite_iff, decide_eq_true_eq, decide_eq_false_iff_not, Bool.not_eq_true', Classical.not_not, ne_eq, not_false_eq_true, not_true_eq_false, forall_const, true_implies, false_implies, imp_self, sizeLine_eq, Nat.reduceLeDiff, reduceCtorEq, decide_true, decide_false]
  refine ⟨W, fun c => ?_, fun c => ?_⟩
  · obtain ⟨x, rfl⟩ := isI_int c
    refine ⟨x, rfl, ks, hv, hk, fun H' s' => ?_⟩
    have : Q (.bl (decide (nthL ks (belL ks (max 0 x)) = x))) H' := k H' s'
    by_cases e : nthL ks (belL ks (max 0 x)) = x
    · rw [if_pos e, decide_eq_false (by intro z; cases z)]
      rw [decide_eq_true e] at this; exact this
    · rw [if_neg e, decide_eq_true rfl]
      rw [decide_eq_false e] at this; exact this
  · have := k H fun _ _ h => h
    cases v <;> first | exact this | exact absurd rfl c
def spNxt (K : PySem.W.Frag) : Sp := fun vs H Q _ => ∃ a x, vs = [.ref a, .int x] ∧ ∃ ks : List Int, SvA K H a ks ∧ okK ks ∧ ∀ H', Same H H' → Q (.int (nthL ks (belL ks (max 0 x)))) H'
theorem o_Sieve_next_left (T : Txt K mg) : OkM P w K mg base CX0 5 "Sieve" "next_left" ["self", "x"] [] (spNxt K) := by
  have o_Sieve_left_below := o_Sieve_left_below (P := P) (w := w) (base := base) T
  have o_Sieve_nth_left := o_Sieve_nth_left (P := P) (w := w) (base := base) T
  obtain ⟨f, fd, M, F⟩ := T.d_Sieve_next_left
  refine ⟨f, fd, M, b_Sieve_next_left F, F.ok (CX := CX0) sc_Sieve_next_left (fun vs H Q E h => ?_) (fun cdv A outer s H vs Q E hr h => ?_)⟩
  · first | (obtain ⟨_, rfl, _⟩ := h; rfl) | (obtain ⟨rfl, _⟩ := h; rfl) | (obtain ⟨_, _, rfl, _⟩ := h; rfl) | (obtain ⟨_, _, _, rfl, _⟩ := h; rfl) | (obtain ⟨_, _, _, _, rfl, _⟩ := h; rfl) | (obtain ⟨_, _, _, _, _, rfl, _⟩ := h; rfl) | (obtain ⟨_, _, _, _, _, _, rfl, _⟩ := h; rfl) | (obtain ⟨_, _, _, _, _, _, _, rfl, _⟩ := h; rfl)
  have hu64 := hr.units
  refine ⟨_, PSs.nox (pss_one (ps_ret (pmt (j := 0) o_Sieve_nth_left T.c_Sieve (pv 0) (by decide) (hr.mono (by decide)) pass0 (pa_cons (pmt (j := 0) o_Sieve_left_below T.c_Sieve (pv 0) (by decide) (hr.mono (by decide)) pass0 (pa_cons (pv 1) pa_nil)) pa_nil)))), ?_⟩
  obtain ⟨a, x, rfl, ks, hv, hk, k⟩ := h
  obtain ⟨dx, q, ha, hq⟩ := id hv
  simp only [spBel, spNth, exists_and_left, ha, lkLow, lkHigh, lkKs, lkN_bel, lkN_place, lkN_nth, lkN_many, tD1, rTupN, rAll, rMax2, rMin2, tSl, tPart, tNoPart, rSlLN, tYes, rLenS, rRepN, unset, tEv2, calmS, tRevG, tRevLN, cx_K, Value.ref.injEq, HO.xd.injEq, lk0, tSeq, tPar3, tPar, tCons, tNil, tVar, tC, tAsg, gName, gCons, gNil, gTupN, gSub, tOp, rI, rI0, rU, tTest, rNe, rEq, rIxTN, rIxLN, rLenL, rLenT, tLstRg, tRg1, tRg2, rIntI, rIntB, rAbs, rSetLN, tTruL, tRaiseX, rIsTy, rIsOw, ixN0, ixN1, tRet, tIf, tIfS, tNext, tBreak, tCont, tDrop, tTupN, tLstN, tUn, tCB, tCall, tNot, tAnd, tOr, tB, tAndV, tOrV, tNotV, tChain, tApp, LamX.tLam, tRevLN, rCatN, rInTN, rInLN, flatV, inV, List.all_cons, List.all_nil, List.any_cons, List.any_nil, Bool.and_self, Bool.and_true, if_true, Bool.false_eq_true, if_false, tMt, tFldN, tSto, HO.ins.injEq, lkh, List.drop_zero, List.drop_succ_cons, List.drop_nil, rListS, wipe, L2.start, List.map_cons, List.map_nil, List.length_cons, List.length_nil, List.replicate, List.cons_append, List.nil_append, List.append_nil, Nat.reduceAdd, Nat.reduceSub, Nat.zero_add, List.replicate_succ, List.replicate_zero, List.getElem?_cons_zero, List.getElem?_cons_succ, List.set_cons_zero, List.set_cons_succ, Option.some.injEq, V.int.injEq, V.bl.injEq, V.ref.injEq, V.str.injEq, V.ty.injEq, List.cons.injEq, HO.tup.injEq, HO.lst.injEq, and_true, true_and, and_assoc, exists_eq_left, exists_eq_left', exists_and_left, exists_eq', atI0, atI1, atI2, atI3, Int.cast_ofNat_Int, Int.reduceToNat, scal_ii, scal_in, scal_ni, scal_nn, scal_bb, scal_ss, scal_sn, scal_ns, scal_bn, scal_nb, ite_iff, decide_eq_true_eq, decide_eq_false_iff_not, Bool.not_eq_true', Classical.not_not, ne_eq, not_false_eq_true, not_true_eq_false, forall_const, true_implies, false_implies, imp_self, sizeLine_eq, Nat.reduceLeDiff, reduceCtorEq, decide_true, decide_false]
  exact ⟨ks, hv, hk, ks, hv, hk, belL_pos hk (by omega), k⟩
/-- the stretch at a -/
abbrev SAt (K : PySem.W.Frag) (H : Hp) (a dx : Addr) (lo hi : Option Int) : Prop := H a = some (.ins (ga K "Stretch") dx [("low", ov lo), ("high", ov hi)])
def leftIn (ks : List Int) : Option Int → Option Int → Option Int
  | _, none => none
  | lo, some h => some (belL ks (max 0 h) - belL ks (max 0 (lo.getD 0)))
def spIn (K : PySem.W.Frag) : Sp := fun vs H Q _ => ∃ a b, vs = [.ref a, .ref b] ∧ ∃ ks : List Int, ∃ dx lo hi, SvA K H a ks ∧ okK ks ∧ SAt K H b dx lo hi ∧ Q (ov (leftIn ks lo hi)) H
theorem o_Sieve_left_in (T : Txt K mg) : OkM P w K mg base CX0 4 "Sieve" "left_in" ["self", "stretch"] [] (spIn K) := by
  have o_Sieve_left_below := o_Sieve_left_below (P := P) (w := w) (base := base) T
  obtain ⟨f, fd, M, F⟩ := T.d_Sieve_left_in
  refine ⟨f, fd, M, b_Sieve_left_in F, F.ok (CX := CX0) sc_Sieve_left_in (fun vs H Q E h => ?_) (fun cdv A outer s H vs Q E hr h => ?_)⟩
  · first | (obtain ⟨_, rfl, _⟩ := h; rfl) | (obtain ⟨rfl, _⟩ := h; rfl) | (obtain ⟨_, _, rfl, _⟩ := h; rfl) | (obtain ⟨_, _, _, rfl, _⟩ := h; rfl) | (obtain ⟨_, _, _, _, rfl, _⟩ := h; rfl) | (obtain ⟨_, _, _, _, _, rfl, _⟩ := h; rfl) | (obtain ⟨_, _, _, _, _, _, rfl, _⟩ := h; rfl) | (obtain ⟨_, _, _, _, _, _, _, rfl, _⟩ := h; rfl)
  have hu64 := hr.units
  refine ⟨_, PSs.nox (pss_cons (ps_if (pt_not (pt_val (pe_callB call_isOw (by rfl) T.m_isinstance (by decide +kernel) (pa_cons (pv 1) (pa_cons ((pe_glob (v := .ref (ga K "Stretch")) (by rfl) T.g_Stretch rfl)) pa_nil))))) (pss_one (ps_never)) (pss_nil))
      (pss_cons (ps_if (pt_cmpR op_isN (pe_fldN T.c_Stretch T.na_Stretch_high (pv 1)) (pe_non) (nomark _)) (pss_one (ps_ret (pe_non))) (pss_nil))
      (pss_one (ps_ret (pe_op op_sub (pmt (j := 0) o_Sieve_left_below T.c_Sieve (pv 0) (by decide) (hr.mono (by decide)) pass0 (pa_cons (pe_fldN T.c_Stretch T.na_Stretch_high (pv 1)) pa_nil)) (pmt (j := 0) o_Sieve_left_below T.c_Sieve (pv 0) (by decide) (hr.mono (by decide)) pass0 (pa_cons (pe_ifExp (pt_cmpR op_isN (pe_fldN T.c_Stretch T.na_Stretch_low (pv 1)) (pe_non) (nomark _)) (pe_int) (pe_fldN T.c_Stretch T.na_Stretch_low (pv 1))) pa_nil))))))), ?_⟩
  obtain ⟨a, b, rfl, ks, dx, lo, hi, hv, hk, hs, k⟩ := h
  obtain ⟨dx2, q, ha, hq⟩ := id hv
  cases lo <;> cases hi <;> simp only [spBel, ov, exists_and_left, hs, ha, lkLow, lkHigh, lkKs, lkN_bel, lkN_place, lkN_nth, lkN_many, tD1, rTupN, rAll, rMax2, rMin2, tSl, tPart, tNoPart, rSlLN, tYes, rLenS, rRepN, unset, tEv2, calmS, tRevG, tRevLN, cx_K, Value.ref.injEq, HO.xd.injEq, lk0, tSeq, tPar3, tPar, tCons, tNil, tVar, tC, tAsg, gName, gCons, gNil, gTupN, gSub, tOp, rI, rI0, rU, tTest, rNe, rEq, rIxTN, rIxLN, rLenL, rLenT, tLstRg, tRg1, tRg2, rIntI, rIntB, rAbs, rSetLN, tTruL, tRaiseX, rIsTy, rIsOw, ixN0, ixN1, tRet, tIf, tIfS, tNext, tBreak, tCont, tDrop, tTupN, tLstN, tUn, tCB, tCall, tNot, tAnd, tOr, tB, tAndV, tOrV, tNotV, tChain, tApp, LamX.tLam, tRevLN, rCatN, rInTN, rInLN, flatV, inV, List.all_cons, List.all_nil, List.any_cons, List.any_nil, Bool.and_self, Bool.and_true, if_true, Bool.false_eq_true, if_false, tMt, tFldN, tSto, HO.ins.injEq, lkh, List.drop_zero, List.drop_succ_cons, List.drop_nil, rListS, wipe, L2.start, List.map_cons, List.map_nil, List.length_cons, List.length_nil, List.replicate, List.cons_append, List.nil_append, List.append_nil, Nat.reduceAdd, Nat.reduceSub, Nat.zero_add, List.replicate_succ, List.replicate_zero, List.getElem?_cons_zero, List.getElem?_cons_succ, List.set_cons_zero, List.set_cons_succ, Option.some.injEq, V.int.injEq, V.bl.injEq, V.ref.injEq, V.str.injEq, V.ty.injEq, List.cons.injEq, HO.tup.injEq, HO.lst.injEq, and_true, true_and, and_assoc, exists_eq_left, exists_eq_left', exists_and_left, exists_eq', atI0, atI1, atI2, atI3, Int.cast_ofNat_Int, Int.reduceToNat, scal_ii, scal_in, scal_ni, scal_nn, scal_bb, scal_ss, scal_sn, scal_ns, scal_bn, scal_nb, ite_iff, decide_eq_true_eq, decide_eq_false_iff_not, Bool.not_eq_true', Classical.not_not, ne_eq, not_false_eq_true, not_true_eq_false, forall_const, true_implies, false_implies, imp_self, sizeLine_eq, Nat.reduceLeDiff, reduceCtorEq, decide_true, decide_false]
  all_goals refine ⟨_, T.ci_Stretch.ty hs, true, kit_self, fun c => (by cases c), fun _ => ?_⟩
  · exact k
  · exact ⟨ks, hv, hk, ks, hv, hk, k⟩
  · exact k
  · exact ⟨ks, hv, hk, ks, hv, hk, k⟩
def spRqS (K : PySem.W.Frag) : Sp := fun vs H Q _ => ∃ a, vs = [.ref a] ∧ ∃ ks : List Int, SvA K H a ks ∧ Q .non H
theorem o_require_sieve (T : Txt K mg) : OkF P w K mg base CX0 1 "require_sieve" ["value"] (spRqS K) := by
  obtain ⟨f, fd, g, F⟩ := T.d_require_sieve
  refine ⟨f, fd, g, F.kp, F.binds (fun _ _ _ _ _ _ us hl => match us, hl with | [_], _ => rfl), F.ok sc_require_sieve (fun vs H Q E h => ?_) (fun cdv A outer s H vs Q E hr h => ?_)⟩
  · first | (obtain ⟨_, rfl, _⟩ := h; rfl) | (obtain ⟨rfl, _⟩ := h; rfl) | (obtain ⟨_, _, rfl, _⟩ := h; rfl) | (obtain ⟨_, _, _, rfl, _⟩ := h; rfl) | (obtain ⟨_, _, _, _, rfl, _⟩ := h; rfl) | (obtain ⟨_, _, _, _, _, rfl, _⟩ := h; rfl) | (obtain ⟨_, _, _, _, _, _, rfl, _⟩ := h; rfl) | (obtain ⟨_, _, _, _, _, _, _, rfl, _⟩ := h; rfl)
  have hu64 := hr.units
  refine ⟨_, pss_one (ps_if (pt_not (pt_val (pe_callB call_isOw (by rfl) T.m_isinstance (by decide +kernel) (pa_cons (pv 0) (pa_cons ((pe_glob (v := .ref (ga K "Sieve")) (by rfl) T.g_Sieve rfl)) pa_nil))))) (pss_one (ps_never)) (pss_nil)), ?_⟩
  obtain ⟨a, rfl, ks, ⟨dx, q, ha, hq⟩, k⟩ := h
  simp only [exists_and_left, tD1, rTupN, rAll, rMax2, rMin2, tSl, tPart, tNoPart, rSlLN, tYes, rLenS, rRepN, unset, tEv2, calmS, tRevG, tRevLN, cx_K, Value.ref.injEq, HO.xd.injEq, lk0, tSeq, tPar3, tPar, tCons, tNil, tVar, tC, tAsg, gName, gCons, gNil, gTupN, gSub, tOp, rI, rI0, rU, tTest, rNe, rEq, rIxTN, rIxLN, rLenL, rLenT, tLstRg, tRg1, tRg2, rIntI, rIntB, rAbs, rSetLN, tTruL, tRaiseX, rIsTy, rIsOw, ixN0, ixN1, tRet, tIf, tIfS, tNext, tBreak, tCont, tDrop, tTupN, tLstN, tUn, tCB, tCall, tNot, tAnd, tOr, tB, tAndV, tOrV, tNotV, tChain, tApp, LamX.tLam, tRevLN, rCatN, rInTN, rInLN, flatV, inV, List.all_cons, List.all_nil, List.any_cons, List.any_nil, Bool.and_self, Bool.and_true, if_true, Bool.false_eq_true, if_false, tMt, tFldN, tSto, HO.ins.injEq, lkh, List.drop_zero, List.drop_succ_cons, List.drop_nil, rListS, wipe, L2.start, List.map_cons, List.map_nil, List.length_cons, List.length_nil, List.replicate, List.cons_append, List.nil_append, List.append_nil, Nat.reduceAdd, Nat.reduceSub, Nat.zero_add, List.replicate_succ, List.replicate_zero, List.getElem?_cons_zero, List.getElem?_cons_succ, List.set_cons_zero, List.set_cons_succ, Option.some.injEq, V.int.injEq, V.bl.injEq, V.ref.injEq, V.str.injEq, V.ty.injEq, List.cons.injEq, HO.tup.injEq, HO.lst.injEq, and_true, true_and, and_assoc, exists_eq_left, exists_eq_left', exists_and_left, exists_eq', atI0, atI1, atI2, atI3, Int.cast_ofNat_Int, Int.reduceToNat, scal_ii, scal_in, scal_ni, scal_nn, scal_bb, scal_ss, scal_sn, scal_ns, scal_bn, scal_nb, ite_iff, decide_eq_true_eq, decide_eq_false_iff_not, Bool.not_eq_true', Classical.not_not, ne_eq, not_false_eq_true, not_true_eq_false, forall_const, true_implies, false_implies, imp_self, sizeLine_eq, Nat.reduceLeDiff, reduceCtorEq, decide_true, decide_false]
  exact ⟨_, T.ci_Sieve.ty ha, true, kit_self, fun c => (by cases c), fun _ => k⟩
theorem lc_in1 {ta : TA} {g : L2.TG} {tt : TT} {te : TE} {vs : List Nat} {σ : L2.St} {H : Hp} {Q : VK} (h : ta σ H fun us H1 => ∃ n : Int, us = [.int n] ∧ -(2 ^ 62) ≤ n ∧ n < 2 ^ 62 ∧ tLc (fun _ H R => R (L2.Itr 0 n.toNat) H) g tt te vs σ H1 Q) : tLc (iRng1 ta) g tt te vs σ H Q := h
theorem st_lcI {g : L2.TG} {tt : TT} {te : TE} {vs : List Nat} {σ : L2.St} {H : Hp} {Q : VK} {n : Nat} (Pv : Addr → Nat → Hp → Prop) (h0 : ∀ D H1, H D = none → Same H H1 → H1 D = some (.lst []) → Pv D 0 H1)
    (hs : ∀ D i H, i < n → Pv D i H → g (.int i) (wipe σ vs) H fun σ2 H2 => wipe σ2 vs = wipe σ vs ∧ tt σ2 H2 fun b H3 => if b = true then te σ2 H3 fun y H4 => ∃ acc, H4 D = some (.lst acc) ∧ acc.length < sizeLine ∧ Pv D (i + 1) (upd H4 D (.lst (acc ++ [y]))) else Pv D (i + 1) H3)
    (hd : ∀ D H, Pv D n H → Q (.ref D) H) : tLc (fun _ H R => R (L2.Itr 0 n) H) g tt te vs σ H Q :=
  fun D hD => lc_range (Pv D) (h0 D _ hD (Same.upd hD) upd_same) (fun i H hi p => by rw [Int.zero_add]; exact hs D i H hi p) (hd D)
theorem dpA_i {H : Hp} : ∀ ns : List Int, DpAll K H (ns.map V.int) (ns.map PyData.int)
  | [] => .nil
  | n :: ns => .cons (.int n) (dpA_i ns)
theorem sh_it {n : Nat} {ns : List Int} : ShN (n + 1) (.tuple (ns.map PyData.int)) := (ShN.tuple (n := 0) fun d hd => by
  obtain ⟨i, _, rfl⟩ := List.mem_map.mp hd
  exact ShN.int).up (by omega)
theorem eqv_it {ns ms : List Int} : PyData.eqv (.tuple (ns.map PyData.int)) (.tuple (ms.map PyData.int)) = decide (ns = ms) := by
  have e := eqv_ints (ns := ns) (ms := ms)
  unfold PyData.eqv at e ⊢
  exact e
theorem prodL_le : ∀ {ks : List Int}, (∀ k ∈ ks, 0 ≤ k ∧ k ≤ 9) → 0 ≤ prodL ks ∧ prodL ks ≤ 9 ^ ks.length
  | [], _ => ⟨by decide, by decide⟩
  | k :: ks, h => by
    obtain ⟨a, b⟩ := h k (by simp)
    obtain ⟨c, d⟩ := prodL_le (ks := ks) fun j hj => h j (by simp [hj])
    show 0 ≤ k * prodL ks ∧ k * prodL ks ≤ 9 ^ (ks.length + 1)
    refine ⟨Int.mul_nonneg a c, ?_⟩
    rw [Int.pow_succ, Int.mul_comm]
    exact Int.mul_le_mul d b a (Int.le_trans c d)
theorem prodL_5 {ks : List Int} (h : ∀ k ∈ ks, 0 ≤ k ∧ k ≤ 9) (l : ks.length ≤ 5) : 0 ≤ prodL ks ∧ prodL ks ≤ 59049 := by
  obtain ⟨a, b⟩ := prodL_le h
  refine ⟨a, Int.le_trans b ?_⟩
  have : ks.length = 0 ∨ ks.length = 1 ∨ ks.length = 2 ∨ ks.length = 3 ∨ ks.length = 4 ∨ ks.length = 5 := by omega
  rcases this with e | e | e | e | e | e <;> rw [e] <;> decide
theorem okK.nine {ks : List Int} (h : okK ks) : ∀ k ∈ ks, 0 ≤ k ∧ k ≤ 9 := fun k hk => by have := h k hk; omega
theorem okK.decs {ks : List Int} (h : okK ks) : ∀ k ∈ decs ks, 0 ≤ k ∧ k ≤ 9 := fun k hk => by
  obtain ⟨j, hj, rfl⟩ := List.mem_map.mp hk
  have := h j hj; omega
theorem decs_len {ks : List Int} : (decs ks).length = ks.length := List.length_map _
def alikeL (ks js : List Int) : Bool := (List.range (prodL (decs ks) + prodL (decs js) + 1).toNat).all fun (n : Nat) => decide (nthL ks (n : Int) = nthL js (n : Int))
def spAli (K : PySem.W.Frag) : Sp := fun vs H Q _ => ∃ a b, vs = [.ref a, .ref b] ∧ ∃ ks js : List Int, SvA K H a ks ∧ SvA K H b js ∧ okK ks ∧ okK js ∧ ks.length ≤ 5 ∧ js.length ≤ 5 ∧ ∀ H', Same H H' → Q (.bl (alikeL ks js)) H'
theorem o_Sieve_leaves_alike (T : Txt K mg) : OkM P w K mg base CX0 5 "Sieve" "leaves_alike" ["self", "other"] [] (spAli K) := by
  have o_require_sieve := o_require_sieve (P := P) (w := w) (base := base) T
  have o_Sieve_nth_left := o_Sieve_nth_left (P := P) (w := w) (base := base) T
  have o_Sieve_many := o_Sieve_many (P := P) (w := w) (base := base) T
  obtain ⟨f, fd, M, F⟩ := T.d_Sieve_leaves_alike
  refine ⟨f, fd, M, b_Sieve_leaves_alike F, F.ok (CX := CX0) sc_Sieve_leaves_alike (fun vs H Q E h => ?_) (fun cdv A outer s H vs Q E hr h => ?_)⟩
  · first | (obtain ⟨_, rfl, _⟩ := h; rfl) | (obtain ⟨rfl, _⟩ := h; rfl) | (obtain ⟨_, _, rfl, _⟩ := h; rfl) | (obtain ⟨_, _, _, rfl, _⟩ := h; rfl) | (obtain ⟨_, _, _, _, rfl, _⟩ := h; rfl) | (obtain ⟨_, _, _, _, _, rfl, _⟩ := h; rfl) | (obtain ⟨_, _, _, _, _, _, rfl, _⟩ := h; rfl) | (obtain ⟨_, _, _, _, _, _, _, rfl, _⟩ := h; rfl)
  have hu64 := hr.units
  refine ⟨_, PSs.nox (pss_cons (ps_expr (pcl o_require_sieve (hr.mono (by decide)) pass0 (pa_cons (pv 1) pa_nil)))
      (pss_one (ps_ret (pe_callB (cr_all rfl) (by rfl) T.m_all (by decide +kernel) (pa_cons (pe_lc (own := [("n", 2)]) (g := gName 2) (by rfl) sc_Sieve_leaves_alike.nd (pi_range1 (by rfl) T.m_range (pa_cons (pe_op op_add (pe_op op_add (pmt0 (j := 0) o_Sieve_many T.c_Sieve (pv 0) (by decide) (hr.mono (by decide)) pass0) (pmt0 (j := 0) o_Sieve_many T.c_Sieve (pv 1) (by decide) (hr.mono (by decide)) pass0)) (pe_int)) pa_nil)) (blkOk_by (N := ["self", "other", "n"]) (sc := defScope s_Sieve_leaves_alike) (own := [("n", 2)]) (by decide +kernel)) (fun _ _ _ _ _ => pg_name (i := 2) sc_Sieve_leaves_alike.nd rfl (Or.inl rfl)) (fun _ _ _ _ _ => pts_nil) (fun _ _ _ _ _ => pe_cmpR op_eq (pmtK (K := K) rfl (j := 0) o_Sieve_nth_left T.c_Sieve (pv 0) (by decide) (hr.mono (by decide)) pass0 (pa_cons (pv 2) pa_nil)) (pmtK (K := K) rfl (j := 0) o_Sieve_nth_left T.c_Sieve (pv 1) (by decide) (hr.mono (by decide)) pass0 (pa_cons (pv 2) pa_nil)) (nomark _))) pa_nil))))), ?_⟩
  obtain ⟨a, b, rfl, ks, js, hv, hw, hk, hj, lk, lj, k⟩ := h
  obtain ⟨dx, q, ha, hq⟩ := id hv
  obtain ⟨dx2, q2, hb, hq2⟩ := id hw
  simp only [spRqS, spNth, spMany, exists_and_left, ha, lkLow, lkHigh, lkKs, lkN_bel, lkN_place, lkN_nth, lkN_many, tD1, rTupN, rAll, rMax2, rMin2, tSl, tPart, tNoPart, rSlLN, tYes, rLenS, rRepN, unset, tEv2, calmS, tRevG, tRevLN, cx_K, Value.ref.injEq, HO.xd.injEq, lk0, tSeq, tPar3, tPar, tCons, tNil, tVar, tC, tAsg, gName, gCons, gNil, gTupN, gSub, tOp, rI, rI0, rU, tTest, rNe, rEq, rIxTN, rIxLN, rLenL, rLenT, tLstRg, tRg1, tRg2, rIntI, rIntB, rAbs, rSetLN, tTruL, tRaiseX, rIsTy, rIsOw, ixN0, ixN1, tRet, tIf, tIfS, tNext, tBreak, tCont, tDrop, tTupN, tLstN, tUn, tCB, tCall, tNot, tAnd, tOr, tB, tAndV, tOrV, tNotV, tChain, tApp, LamX.tLam, tRevLN, rCatN, rInTN, rInLN, flatV, inV, List.all_cons, List.all_nil, List.any_cons, List.any_nil, Bool.and_self, Bool.and_true, if_true, Bool.false_eq_true, if_false, tMt, tFldN, tSto, HO.ins.injEq, lkh, List.drop_zero, List.drop_succ_cons, List.drop_nil, rListS, wipe, L2.start, List.map_cons, List.map_nil, List.length_cons, List.length_nil, List.replicate, List.cons_append, List.nil_append, List.append_nil, Nat.reduceAdd, Nat.reduceSub, Nat.zero_add, List.replicate_succ, List.replicate_zero, List.getElem?_cons_zero, List.getElem?_cons_succ, List.set_cons_zero, List.set_cons_succ, Option.some.injEq, V.int.injEq, V.bl.injEq, V.ref.injEq, V.str.injEq, V.ty.injEq, List.cons.injEq, HO.tup.injEq, HO.lst.injEq, and_true, true_and, and_assoc, exists_eq_left, exists_eq_left', exists_and_left, exists_eq', atI0, atI1, atI2, atI3, Int.cast_ofNat_Int, Int.reduceToNat, scal_ii, scal_in, scal_ni, scal_nn, scal_bb, scal_ss, scal_sn, scal_ns, scal_bn, scal_nb, ite_iff, decide_eq_true_eq, decide_eq_false_iff_not, Bool.not_eq_true', Classical.not_not, ne_eq, not_false_eq_true, not_true_eq_false, forall_const, true_implies, false_implies, imp_self, sizeLine_eq, Nat.reduceLeDiff, reduceCtorEq, decide_true, decide_false]
  refine ⟨js, hw, lc_in1 ?_⟩
  simp only [spMany, exists_and_left, ha, lkLow, lkHigh, lkKs, lkN_bel, lkN_place, lkN_nth, lkN_many, tD1, rTupN, rAll, rMax2, rMin2, tSl, tPart, tNoPart, rSlLN, tYes, rLenS, rRepN, unset, tEv2, calmS, tRevG, tRevLN, cx_K, Value.ref.injEq, HO.xd.injEq, lk0, tSeq, tPar3, tPar, tCons, tNil, tVar, tC, tAsg, gName, gCons, gNil, gTupN, gSub, tOp, rI, rI0, rU, tTest, rNe, rEq, rIxTN, rIxLN, rLenL, rLenT, tLstRg, tRg1, tRg2, rIntI, rIntB, rAbs, rSetLN, tTruL, tRaiseX, rIsTy, rIsOw, ixN0, ixN1, tRet, tIf, tIfS, tNext, tBreak, tCont, tDrop, tTupN, tLstN, tUn, tCB, tCall, tNot, tAnd, tOr, tB, tAndV, tOrV, tNotV, tChain, tApp, LamX.tLam, tRevLN, rCatN, rInTN, rInLN, flatV, inV, List.all_cons, List.all_nil, List.any_cons, List.any_nil, Bool.and_self, Bool.and_true, if_true, Bool.false_eq_true, if_false, tMt, tFldN, tSto, HO.ins.injEq, lkh, List.drop_zero, List.drop_succ_cons, List.drop_nil, rListS, wipe, L2.start, List.map_cons, List.map_nil, List.length_cons, List.length_nil, List.replicate, List.cons_append, List.nil_append, List.append_nil, Nat.reduceAdd, Nat.reduceSub, Nat.zero_add, List.replicate_succ, List.replicate_zero, List.getElem?_cons_zero, List.getElem?_cons_succ, List.set_cons_zero, List.set_cons_succ, Option.some.injEq, V.int.injEq, V.bl.injEq, V.ref.injEq, V.str.injEq, V.ty.injEq, List.cons.injEq, HO.tup.injEq, HO.lst.injEq, and_true, true_and, and_assoc, exists_eq_left, exists_eq_left', exists_and_left, exists_eq', atI0, atI1, atI2, atI3, Int.cast_ofNat_Int, Int.reduceToNat, scal_ii, scal_in, scal_ni, scal_nn, scal_bb, scal_ss, scal_sn, scal_ns, scal_bn, scal_nb, ite_iff, decide_eq_true_eq, decide_eq_false_iff_not, Bool.not_eq_true', Classical.not_not, ne_eq, not_false_eq_true, not_true_eq_false, forall_const, true_implies, false_implies, imp_self, sizeLine_eq, Nat.reduceLeDiff, reduceCtorEq, decide_true, decide_false]
  refine ⟨ks, hv, hk, lk, fun H1 s1 => ⟨dx2, _, s1 _ _ hb, lkN_many, js, hw.same s1, hj, lj, fun H2 s2 => ?_⟩⟩
  have b1 := prodL_5 hk.decs (by rw [decs_len]; exact lk)
  have b2 := prodL_5 hj.decs (by rw [decs_len]; exact lj)
  have s12 := s1.trans s2
  refine ⟨by omega, by omega, st_lcI (fun D i H' => H2 D = none ∧ Same H2 H' ∧ H' D = some (.lst (((List.range i).map fun (n : Nat) => decide (nthL ks (n : Int) = nthL js (n : Int))).map V.bl))) (fun D H3 n s f => ⟨n, s, f⟩) ?_ ?_⟩
  · rintro D i H3 hi ⟨n3, s3, f3⟩
    have s13 := s12.trans s3
    simp only [spNth, exists_and_left, tD1, rTupN, rAll, rMax2, rMin2, tSl, tPart, tNoPart, rSlLN, tYes, rLenS, rRepN, unset, tEv2, calmS, tRevG, tRevLN, cx_K, Value.ref.injEq, HO.xd.injEq, lk0, tSeq, tPar3, tPar, tCons, tNil, tVar, tC, tAsg, gName, gCons, gNil, gTupN, gSub, tOp, rI, rI0, rU, tTest, rNe, rEq, rIxTN, rIxLN, rLenL, rLenT, tLstRg, tRg1, tRg2, rIntI, rIntB, rAbs, rSetLN, tTruL, tRaiseX, rIsTy, rIsOw, ixN0, ixN1, tRet, tIf, tIfS, tNext, tBreak, tCont, tDrop, tTupN, tLstN, tUn, tCB, tCall, tNot, tAnd, tOr, tB, tAndV, tOrV, tNotV, tChain, tApp, LamX.tLam, tRevLN, rCatN, rInTN, rInLN, flatV, inV, List.all_cons, List.all_nil, List.any_cons, List.any_nil, Bool.and_self, Bool.and_true, if_true, Bool.false_eq_true, if_false, tMt, tFldN, tSto, HO.ins.injEq, lkh, List.drop_zero, List.drop_succ_cons, List.drop_nil, rListS, wipe, L2.start, List.map_cons, List.map_nil, List.length_cons, List.length_nil, List.replicate, List.cons_append, List.nil_append, List.append_nil, Nat.reduceAdd, Nat.reduceSub, Nat.zero_add, List.replicate_succ, List.replicate_zero, List.getElem?_cons_zero, List.getElem?_cons_succ, List.set_cons_zero, List.set_cons_succ, Option.some.injEq, V.int.injEq, V.bl.injEq, V.ref.injEq, V.str.injEq, V.ty.injEq, List.cons.injEq, HO.tup.injEq, HO.lst.injEq, and_true, true_and, and_assoc, exists_eq_left, exists_eq_left', exists_and_left, exists_eq', atI0, atI1, atI2, atI3, Int.cast_ofNat_Int, Int.reduceToNat, scal_ii, scal_in, scal_ni, scal_nn, scal_bb, scal_ss, scal_sn, scal_ns, scal_bn, scal_nb, ite_iff, decide_eq_true_eq, decide_eq_false_iff_not, Bool.not_eq_true', Classical.not_not, ne_eq, not_false_eq_true, not_true_eq_false, forall_const, true_implies, false_implies, imp_self, sizeLine_eq, Nat.reduceLeDiff, reduceCtorEq, decide_true, decide_false]
    refine ⟨dx, _, s13 _ _ ha, lkN_nth, ks, hv.same s13, hk, by omega, fun H4 s4 => ⟨dx2, _, (s13.trans s4) _ _ hb, lkN_nth, js, hw.same (s13.trans s4), hj, by omega, fun H5 s5 => ?_⟩⟩
    refine ⟨_, (s4.trans s5) _ _ f3, ?_, n3, fun b o e => by rw [upd_ne (ne_of_none e n3)]; exact ((s3.trans s4).trans s5) _ _ e, ?_⟩
    · rw [List.length_map, List.length_map, List.length_range]; show _ < 16777216; omega
    · rw [upd_same, List.range_succ]
      simp
  · rintro D H3 ⟨n3, s3, f3⟩
    refine ⟨D, rfl, _, SqL.of f3, ?_⟩
    have := k H3 (s12.trans s3)
    unfold alikeL at this
    rw [List.all_map]
    exact this
def spSEq (K : PySem.W.Frag) : Sp := fun vs H Q _ => ∃ a b, vs = [.ref a, .ref b] ∧ ∃ ks js : List Int, SvA K H a ks ∧ SvA K H b js ∧ Q (.bl (decide (ks = js))) H
theorem o_Sieve___eq__ (T : Txt K mg) : OkM P w K mg base CX0 1 "Sieve" "__eq__" ["self", "other"] [] (spSEq K) := by
  obtain ⟨f, fd, M, F⟩ := T.d_Sieve___eq__
  refine ⟨f, fd, M, b_Sieve___eq__ F, F.ok (CX := CX0) sc_Sieve___eq__ (fun vs H Q E h => ?_) (fun cdv A outer s H vs Q E hr h => ?_)⟩
  · first | (obtain ⟨_, rfl, _⟩ := h; rfl) | (obtain ⟨rfl, _⟩ := h; rfl) | (obtain ⟨_, _, rfl, _⟩ := h; rfl) | (obtain ⟨_, _, _, rfl, _⟩ := h; rfl) | (obtain ⟨_, _, _, _, rfl, _⟩ := h; rfl) | (obtain ⟨_, _, _, _, _, rfl, _⟩ := h; rfl) | (obtain ⟨_, _, _, _, _, _, rfl, _⟩ := h; rfl) | (obtain ⟨_, _, _, _, _, _, _, rfl, _⟩ := h; rfl)
  have hu64 := hr.units
  refine ⟨_, PSs.nox (pss_one (ps_ret (pe_and (pe_callB call_isOw (by rfl) T.m_isinstance (by decide +kernel) (pa_cons (pv 1) (pa_cons ((pe_glob (v := .ref (ga K "Sieve")) (by rfl) T.g_Sieve rfl)) pa_nil))) (pe_one (pe_cmpR (op_eqDk (K := K) rfl hu64) (pe_fldN T.c_Sieve T.na_Sieve_ks (pv 0)) (pe_fldN T.c_Sieve T.na_Sieve_ks (pv 1)) (nomark _)))))), ?_⟩
  obtain ⟨a, b, rfl, ks, js, ⟨dx, q, ha, hq⟩, ⟨dx2, q2, hb, hq2⟩, k⟩ := h
  simp only [exists_and_left, tD1, rTupN, rAll, rMax2, rMin2, tSl, tPart, tNoPart, rSlLN, tYes, rLenS, rRepN, unset, tEv2, calmS, tRevG, tRevLN, cx_K, Value.ref.injEq, HO.xd.injEq, lk0, tSeq, tPar3, tPar, tCons, tNil, tVar, tC, tAsg, gName, gCons, gNil, gTupN, gSub, tOp, rI, rI0, rU, tTest, rNe, rEq, rIxTN, rIxLN, rLenL, rLenT, tLstRg, tRg1, tRg2, rIntI, rIntB, rAbs, rSetLN, tTruL, tRaiseX, rIsTy, rIsOw, ixN0, ixN1, tRet, tIf, tIfS, tNext, tBreak, tCont, tDrop, tTupN, tLstN, tUn, tCB, tCall, tNot, tAnd, tOr, tB, tAndV, tOrV, tNotV, tChain, tApp, LamX.tLam, tRevLN, rCatN, rInTN, rInLN, flatV, inV, List.all_cons, List.all_nil, List.any_cons, List.any_nil, Bool.and_self, Bool.and_true, if_true, Bool.false_eq_true, if_false, tMt, tFldN, tSto, HO.ins.injEq, lkh, List.drop_zero, List.drop_succ_cons, List.drop_nil, rListS, wipe, L2.start, List.map_cons, List.map_nil, List.length_cons, List.length_nil, List.replicate, List.cons_append, List.nil_append, List.append_nil, Nat.reduceAdd, Nat.reduceSub, Nat.zero_add, List.replicate_succ, List.replicate_zero, List.getElem?_cons_zero, List.getElem?_cons_succ, List.set_cons_zero, List.set_cons_succ, Option.some.injEq, V.int.injEq, V.bl.injEq, V.ref.injEq, V.str.injEq, V.ty.injEq, List.cons.injEq, HO.tup.injEq, HO.lst.injEq, and_true, true_and, and_assoc, exists_eq_left, exists_eq_left', exists_and_left, exists_eq', atI0, atI1, atI2, atI3, Int.cast_ofNat_Int, Int.reduceToNat, scal_ii, scal_in, scal_ni, scal_nn, scal_bb, scal_ss, scal_sn, scal_ns, scal_bn, scal_nb, ite_iff, decide_eq_true_eq, decide_eq_false_iff_not, Bool.not_eq_true', Classical.not_not, ne_eq, not_false_eq_true, not_true_eq_false, forall_const, true_implies, false_implies, imp_self, sizeLine_eq, Nat.reduceLeDiff, reduceCtorEq, decide_true, decide_false]
  refine ⟨_, T.ci_Sieve.ty hb, true, kit_self, fun _ => ⟨dx, _, ha, _, lkKs, dx2, _, hb, _, lkKs, ?_⟩, fun c => absurd rfl c⟩
  exact ⟨_, _, .tup hq (dpA_i ks), .tup hq2 (dpA_i js), (sh_it (n := 0)).ok, (sh_it (n := 0)).ok, by rw [eqv_it]; exact k⟩

end
end Iz
/-! k85_b -/
set_option Elab.async false
set_option linter.all false
set_option maxRecDepth 100000
set_option maxHeartbeats 4000000
namespace Iz
open PySem PySem.Spec PyProof.Rows L2
open He (ga)
open SX (S S_len)
local macro_rules | `(tactic| walk_at "wp") => `(tactic| simp only [tD1, rTupN, rAll, rMax2, rMin2, tSl, tPart, tNoPart, rSlLN, tYes, rLenS, rRepN, unset, tEv2, calmS, tRevG, tRevLN, cx_K, Value.ref.injEq, HO.xd.injEq, lk0, tSeq, tPar3, tPar, tCons, tNil, tVar, tC, tAsg, gName, gCons, gNil, gTupN, gSub, tOp, rI, rI0, rU, tTest, rNe, rEq, rIxTN, rIxLN, rLenL, rLenT, tLstRg, tRg1, tRg2, rIntI, rIntB, rAbs, rSetLN, tTruL, tRaiseX, rIsTy, rIsOw, ixN0, ixN1, tRet, tIf, tIfS, tNext, tBreak, tCont, tDrop, tTupN, tLstN, tUn, tCB, tCall, tNot, tAnd, tOr, tB, tAndV, tOrV, tNotV, tChain, tApp, LamX.tLam, tRevLN, rCatN, rInTN, rInLN, flatV, inV, List.all_cons, List.all_nil, List.any_cons, List.any_nil, Bool.and_self, Bool.and_true, if_true, Bool.false_eq_true, if_false, tMt, tFldN, tSto, HO.ins.injEq, lkh, List.drop_zero, List.drop_succ_cons, List.drop_nil, rListS, wipe, L2.start, List.map_cons, List.map_nil, List.length_cons, List.length_nil, List.replicate, List.cons_append, List.nil_append, List.append_nil, Nat.reduceAdd, Nat.reduceSub, Nat.zero_add, List.replicate_succ, List.replicate_zero, List.getElem?_cons_zero, List.getElem?_cons_succ, List.set_cons_zero, List.set_cons_succ, Option.some.injEq, V.int.injEq, V.bl.injEq, V.ref.injEq, V.str.injEq, V.ty.injEq, List.cons.injEq, HO.tup.injEq, HO.lst.injEq, and_true, true_and, and_assoc, exists_eq_left, exists_eq_left', exists_and_left, exists_eq', atI0, atI1, atI2, atI3, Int.cast_ofNat_Int, Int.reduceToNat, scal_ii, scal_in, scal_ni, scal_nn, scal_bb, scal_ss, scal_sn, scal_ns, scal_bn, scal_nb, ite_iff, decide_eq_true_eq, decide_eq_false_iff_not, Bool.not_eq_true', Classical.not_not, ne_eq, not_false_eq_true, not_true_eq_false, forall_const, true_implies, false_implies, imp_self, sizeLine_eq, Nat.reduceLeDiff, reduceCtorEq, decide_true, decide_false])
section
variable {P : Program} {w : World} {K : PySem.W.Frag} {mg : Str → Option Value} {base : Heap}
def Po (H : Hp) (a : Addr) : Prop := ∃ g s : Int, H a = some (.lst [.int g, .int s])
def StpP (a : Addr) (H H' : Hp) : Prop := ∀ b o, H b = some o → b ≠ a → H' b = some o
theorem StpP.trans {a : Addr} {H H1 H2 : Hp} (x : StpP a H H1) (y : StpP a H1 H2) : StpP a H H2 := fun b o h n => y b o (x b o h n) n
theorem StpP.refl {a : Addr} {H : Hp} : StpP a H H := fun _ _ h _ => h
theorem StpP.of {a : Addr} {H H1 : Hp} (x : Same H H1) : StpP a H H1 := fun b o h _ => x b o h
theorem Po.same {H H1 : Hp} {a : Addr} (x : Po H a) (s : Same H H1) : Po H1 a := let ⟨g, n, h⟩ := x; ⟨g, n, s _ _ h⟩
/-- what is no list of two ints stays -/
theorem StpP.at {a b : Addr} {H H' : Hp} {o : HO} (t : StpP a H H') (p : Po H a) (h : H b = some o) (n : ∀ g s : Int, o ≠ .lst [.int g, .int s]) : H' b = some o := t b o h fun e => by
  obtain ⟨g, s, e2⟩ := p
  subst e
  exact n g s (Option.some.inj (h.symm.trans e2))
theorem cutV_to2 {ws : List V} {i : Int} (h0 : 0 ≤ i) : cutV ws none (some i) = ws.take i.toNat := by
  simp only [cutV, HT.sIx]
  rw [if_neg (by omega), List.drop_zero, Nat.sub_zero]
  by_cases c : i.toNat ≤ ws.length
  · rw [Nat.min_eq_left c]
  · rw [Nat.min_eq_right (by omega), List.take_length, List.take_of_length_le (by omega)]
def spPool (K : PySem.W.Frag) : Sp := fun vs H Q _ => ∃ sc k, vs = [.ref sc, .int k] ∧ ∃ ns : List Int, SqL K H sc (ns.map V.int) ∧ ns.length ≤ 63 ∧ 0 ≤ k ∧ k < 1000 ∧ ∀ p H', H p = none → Same H H' → Po H' p → Q (.ref p) H'
theorem o__law_pool (T : Txt K mg) : OkF P w K mg base CX0 1 "_law_pool" ["_law_script", "_law_k"] (spPool K) := by
  obtain ⟨f, fd, g, F⟩ := T.d__law_pool
  refine ⟨f, fd, g, F.kp, F.binds (fun _ _ _ _ _ _ us hl => match us, hl with | [_, _], _ => rfl), F.ok sc__law_pool (fun vs H Q E h => ?_) (fun cdv A outer s H vs Q E hr h => ?_)⟩
  · first | (obtain ⟨_, rfl, _⟩ := h; rfl) | (obtain ⟨rfl, _⟩ := h; rfl) | (obtain ⟨_, _, rfl, _⟩ := h; rfl) | (obtain ⟨_, _, _, rfl, _⟩ := h; rfl) | (obtain ⟨_, _, _, _, rfl, _⟩ := h; rfl) | (obtain ⟨_, _, _, _, _, rfl, _⟩ := h; rfl) | (obtain ⟨_, _, _, _, _, _, rfl, _⟩ := h; rfl) | (obtain ⟨_, _, _, _, _, _, _, rfl, _⟩ := h; rfl)
  have hu64 := hr.units
  refine ⟨_, pss_cons (ps_cut (ps_set (i := 2) sc__law_pool.nd rfl (Or.inl rfl) (pe_ifExp (pt_cmpR op_lt (pv 1) (pe_callB call_lenS (by rfl) T.m_len (by decide +kernel) (pa_cons (pv 0) pa_nil)) (nomark _)) (pe_ix ix_list (pv 0) (pv 1) (fun _ _ => rfl)) (pe_op op_add (pe_op op_mul (pe_int) (pe_callB (cr_sum rfl) (by rfl) T.m_sum (by decide +kernel) (pa_cons (pe_slice sl_listN (pv 0) (po_none) (po_some (pe_int))) pa_nil))) (pv 1)))))
      (pss_cons (ps_set (i := 3) sc__law_pool.nd rfl (Or.inl rfl) (pe_callB call_absN (by rfl) T.m_abs (by decide +kernel) (pa_cons (pv 2) pa_nil)))
      (pss_cons (ps_set (i := 4) sc__law_pool.nd rfl (Or.inl rfl) (pe_op op_mod (pe_callTy call_intI (by rfl) T.m_int (by decide +kernel) (pa_cons (pe_op op_mul (pe_callTy call_intI (by rfl) T.m_int (by decide +kernel) (pa_cons (pe_op op_add (pe_op op_add (pe_op op_add (pe_op op_mod (pe_callTy call_intI (by rfl) T.m_int (by decide +kernel) (pa_cons (pv 3) pa_nil)) (pe_int)) (pe_op op_mulW (pe_op op_mul (pe_int) (pv 1)) (pv 1))) (pe_op op_mul (pe_int) (pv 1))) (pe_int)) pa_nil)) (pe_int)) pa_nil)) (pe_int)))
      (pss_one (ps_ret (pe_lstN (pa_cons (pe_op op_mul (pv 3) (pe_callTy call_intB (by rfl) T.m_int (by decide +kernel) (pa_cons (pe_cmpR op_ge (pv 3) (pe_op op_pow (pe_int) (pe_int)) (nomark _)) pa_nil))) (pa_cons (pe_op op_mod (pe_callTy call_intI (by rfl) T.m_int (by decide +kernel) (pa_cons (pe_op op_mulW (pv 4) (pv 4)) pa_nil)) (pe_int)) pa_nil))))))), ?_⟩
  obtain ⟨sc, k, rfl, ns, hsc, hns, k0, k1, kk⟩ := h
  simp only [rIxL, rLenS, exists_and_left, tD1, rTupN, rAll, rMax2, rMin2, tSl, tPart, tNoPart, rSlLN, tYes, rLenS, rRepN, unset, tEv2, calmS, tRevG, tRevLN, cx_K, Value.ref.injEq, HO.xd.injEq, lk0, tSeq, tPar3, tPar, tCons, tNil, tVar, tC, tAsg, gName, gCons, gNil, gTupN, gSub, tOp, rI, rI0, rU, tTest, rNe, rEq, rIxTN, rIxLN, rLenL, rLenT, tLstRg, tRg1, tRg2, rIntI, rIntB, rAbs, rSetLN, tTruL, tRaiseX, rIsTy, rIsOw, ixN0, ixN1, tRet, tIf, tIfS, tNext, tBreak, tCont, tDrop, tTupN, tLstN, tUn, tCB, tCall, tNot, tAnd, tOr, tB, tAndV, tOrV, tNotV, tChain, tApp, LamX.tLam, tRevLN, rCatN, rInTN, rInLN, flatV, inV, List.all_cons, List.all_nil, List.any_cons, List.any_nil, Bool.and_self, Bool.and_true, if_true, Bool.false_eq_true, if_false, tMt, tFldN, tSto, HO.ins.injEq, lkh, List.drop_zero, List.drop_succ_cons, List.drop_nil, rListS, wipe, L2.start, List.map_cons, List.map_nil, List.length_cons, List.length_nil, List.replicate, List.cons_append, List.nil_append, List.append_nil, Nat.reduceAdd, Nat.reduceSub, Nat.zero_add, List.replicate_succ, List.replicate_zero, List.getElem?_cons_zero, List.getElem?_cons_succ, List.set_cons_zero, List.set_cons_succ, Option.some.injEq, V.int.injEq, V.bl.injEq, V.ref.injEq, V.str.injEq, V.ty.injEq, List.cons.injEq, HO.tup.injEq, HO.lst.injEq, and_true, true_and, and_assoc, exists_eq_left, exists_eq_left', exists_and_left, exists_eq', atI0, atI1, atI2, atI3, Int.cast_ofNat_Int, Int.reduceToNat, scal_ii, scal_in, scal_ni, scal_nn, scal_bb, scal_ss, scal_sn, scal_ns, scal_bn, scal_nb, ite_iff, decide_eq_true_eq, decide_eq_false_iff_not, Bool.not_eq_true', Classical.not_not, ne_eq, not_false_eq_true, not_true_eq_false, forall_const, true_implies, false_implies, imp_self, sizeLine_eq, Nat.reduceLeDiff, reduceCtorEq, decide_true, decide_false]
  refine ⟨fun σ' H' => ∃ z : Int, σ' = [some (V.ref sc), some (V.int k), some (V.int z), none, none] ∧ Same H H', ?_, ?_⟩
  · simp only [rIxL, rLenS, exists_and_left, tD1, rTupN, rAll, rMax2, rMin2, tSl, tPart, tNoPart, rSlLN, tYes, rLenS, rRepN, unset, tEv2, calmS, tRevG, tRevLN, cx_K, Value.ref.injEq, HO.xd.injEq, lk0, tSeq, tPar3, tPar, tCons, tNil, tVar, tC, tAsg, gName, gCons, gNil, gTupN, gSub, tOp, rI, rI0, rU, tTest, rNe, rEq, rIxTN, rIxLN, rLenL, rLenT, tLstRg, tRg1, tRg2, rIntI, rIntB, rAbs, rSetLN, tTruL, tRaiseX, rIsTy, rIsOw, ixN0, ixN1, tRet, tIf, tIfS, tNext, tBreak, tCont, tDrop, tTupN, tLstN, tUn, tCB, tCall, tNot, tAnd, tOr, tB, tAndV, tOrV, tNotV, tChain, tApp, LamX.tLam, tRevLN, rCatN, rInTN, rInLN, flatV, inV, List.all_cons, List.all_nil, List.any_cons, List.any_nil, Bool.and_self, Bool.and_true, if_true, Bool.false_eq_true, if_false, tMt, tFldN, tSto, HO.ins.injEq, lkh, List.drop_zero, List.drop_succ_cons, List.drop_nil, rListS, wipe, L2.start, List.map_cons, List.map_nil, List.length_cons, List.length_nil, List.replicate, List.cons_append, List.nil_append, List.append_nil, Nat.reduceAdd, Nat.reduceSub, Nat.zero_add, List.replicate_succ, List.replicate_zero, List.getElem?_cons_zero, List.getElem?_cons_succ, List.set_cons_zero, List.set_cons_succ, Option.some.injEq, V.int.injEq, V.bl.injEq, V.ref.injEq, V.str.injEq, V.ty.injEq, List.cons.injEq, HO.tup.injEq, HO.lst.injEq, and_true, true_and, and_assoc, exists_eq_left, exists_eq_left', exists_and_left, exists_eq', atI0, atI1, atI2, atI3, Int.cast_ofNat_Int, Int.reduceToNat, scal_ii, scal_in, scal_ni, scal_nn, scal_bb, scal_ss, scal_sn, scal_ns, scal_bn, scal_nb, ite_iff, decide_eq_true_eq, decide_eq_false_iff_not, Bool.not_eq_true', Classical.not_not, ne_eq, not_false_eq_true, not_true_eq_false, forall_const, true_implies, false_implies, imp_self, sizeLine_eq, Nat.reduceLeDiff, reduceCtorEq, decide_true, decide_false]
    refine ⟨_, hsc, fun h => ?_, fun _ => ⟨_, hsc, ?_⟩⟩
    · rw [List.length_map] at h
      have hd : k.toNat < ns.length := by omega
      exact ⟨_, hsc, _, atI_ok k0 (by rw [List.getElem?_map, List.getElem?_eq_getElem hd]; rfl), _, rfl, fun _ _ h => h⟩
    · intro p1 H1 n1 s1 f1
      rw [cutV_to2 (by decide), ← List.map_take] at f1
      exact ⟨p1, _, rfl, SqL.of f1, _, rfl, .inl ⟨by decide, by decide⟩, s1⟩
  · rintro _ H1 ⟨z, rfl, s1⟩
    simp only [rIxL, rLenS, exists_and_left, tD1, rTupN, rAll, rMax2, rMin2, tSl, tPart, tNoPart, rSlLN, tYes, rLenS, rRepN, unset, tEv2, calmS, tRevG, tRevLN, cx_K, Value.ref.injEq, HO.xd.injEq, lk0, tSeq, tPar3, tPar, tCons, tNil, tVar, tC, tAsg, gName, gCons, gNil, gTupN, gSub, tOp, rI, rI0, rU, tTest, rNe, rEq, rIxTN, rIxLN, rLenL, rLenT, tLstRg, tRg1, tRg2, rIntI, rIntB, rAbs, rSetLN, tTruL, tRaiseX, rIsTy, rIsOw, ixN0, ixN1, tRet, tIf, tIfS, tNext, tBreak, tCont, tDrop, tTupN, tLstN, tUn, tCB, tCall, tNot, tAnd, tOr, tB, tAndV, tOrV, tNotV, tChain, tApp, LamX.tLam, tRevLN, rCatN, rInTN, rInLN, flatV, inV, List.all_cons, List.all_nil, List.any_cons, List.any_nil, Bool.and_self, Bool.and_true, if_true, Bool.false_eq_true, if_false, tMt, tFldN, tSto, HO.ins.injEq, lkh, List.drop_zero, List.drop_succ_cons, List.drop_nil, rListS, wipe, L2.start, List.map_cons, List.map_nil, List.length_cons, List.length_nil, List.replicate, List.cons_append, List.nil_append, List.append_nil, Nat.reduceAdd, Nat.reduceSub, Nat.zero_add, List.replicate_succ, List.replicate_zero, List.getElem?_cons_zero, List.getElem?_cons_succ, List.set_cons_zero, List.set_cons_succ, Option.some.injEq, V.int.injEq, V.bl.injEq, V.ref.injEq, V.str.injEq, V.ty.injEq, List.cons.injEq, HO.tup.injEq, HO.lst.injEq, and_true, true_and, and_assoc, exists_eq_left, exists_eq_left', exists_and_left, exists_eq', atI0, atI1, atI2, atI3, Int.cast_ofNat_Int, Int.reduceToNat, scal_ii, scal_in, scal_ni, scal_nn, scal_bb, scal_ss, scal_sn, scal_ns, scal_bn, scal_nb, ite_iff, decide_eq_true_eq, decide_eq_false_iff_not, Bool.not_eq_true', Classical.not_not, ne_eq, not_false_eq_true, not_true_eq_false, forall_const, true_implies, false_implies, imp_self, sizeLine_eq, Nat.reduceLeDiff, reduceCtorEq, decide_true, decide_false]
    have b0 := Int.emod_nonneg ((↑z.natAbs % 2147483629 + 7919 * k * k + 31 * k + 17) * 48271) (b := 2147483647) (by decide)
    have b1 := Int.emod_lt_of_pos ((↑z.natAbs % 2147483629 + 7919 * k * k + 31 * k + 17) * 48271) (b := 2147483647) (by decide)
    refine ⟨by decide, .inl ⟨by decide, by decide⟩, wide_mul (a := 30) (b := 12) (by omega) (by omega) (by decide) (by decide) (by decide), .inl ⟨by decide, by decide⟩, .inr ⟨by decide, by decide⟩, by decide, ⟨by decide, by decide, by decide⟩, .inr (by split <;> decide), wide_mul (a := 31) (b := 31) (by omega) (by omega) (by decide) (by decide) (by decide), by decide, ?_⟩
    intro p H2 n2 s2 h2
    exact kk p H2 (none_of s1 n2) (s1.trans s2) ⟨_, _, h2⟩
def spDraw : Sp := fun vs H Q _ => ∃ a lim, vs = [.ref a, .int lim] ∧ Po H a ∧ 1 ≤ lim ∧ lim.natAbs < 2 ^ 250 ∧ ∀ d H', 0 ≤ d → d < lim → Po H' a → StpP a H H' → Q (.int d) H'
theorem o__law_draw (T : Txt K mg) : OkF P w K mg base CX0 1 "_law_draw" ["_law_pool_here", "_law_many"] spDraw := by
  obtain ⟨f, fd, g, F⟩ := T.d__law_draw
  refine ⟨f, fd, g, F.kp, F.binds (fun _ _ _ _ _ _ us hl => match us, hl with | [_, _], _ => rfl), F.ok sc__law_draw (fun vs H Q E h => ?_) (fun cdv A outer s H vs Q E hr h => ?_)⟩
  · first | (obtain ⟨_, rfl, _⟩ := h; rfl) | (obtain ⟨rfl, _⟩ := h; rfl) | (obtain ⟨_, _, rfl, _⟩ := h; rfl) | (obtain ⟨_, _, _, rfl, _⟩ := h; rfl) | (obtain ⟨_, _, _, _, rfl, _⟩ := h; rfl) | (obtain ⟨_, _, _, _, _, rfl, _⟩ := h; rfl) | (obtain ⟨_, _, _, _, _, _, rfl, _⟩ := h; rfl) | (obtain ⟨_, _, _, _, _, _, _, rfl, _⟩ := h; rfl)
  have hu64 := hr.units
  refine ⟨_, pss_cons (ps_if (pt_cmpR op_gt (pe_ix ix_listN (pv 0) (pe_int) (fun _ _ => rfl)) (pe_int) (nomark _)) (pss_cons (ps_set (i := 2) sc__law_draw.nd rfl (Or.inl rfl) (pe_op op_mod (pe_callTy call_intI (by rfl) T.m_int (by decide +kernel) (pa_cons (pe_ix ix_listN (pv 0) (pe_int) (fun _ _ => rfl)) pa_nil)) (pv 1)))
      (pss_cons (ps_asg (pe_op op_fdivW (pe_ix ix_listN (pv 0) (pe_int) (fun _ _ => rfl)) (pv 1)) (pg_sub (pv 0) (pe_int) set_listN))
      (pss_one (ps_ret (pv 2))))) (pss_nil))
      (pss_cons (ps_asg (pe_op op_mod (pe_callTy call_intI (by rfl) T.m_int (by decide +kernel) (pa_cons (pe_op op_add (pe_op op_mul (pe_ix ix_listN (pv 0) (pe_int) (fun _ _ => rfl)) (pe_int)) (pe_int)) pa_nil)) (pe_int)) (pg_sub (pv 0) (pe_int) set_listN))
      (pss_one (ps_ret (pe_op op_mod (pe_callTy call_intI (by rfl) T.m_int (by decide +kernel) (pa_cons (pe_op op_fdivW (pe_op op_mod (pe_callTy call_intI (by rfl) T.m_int (by decide +kernel) (pa_cons (pe_op op_mulW (pe_ix ix_listN (pv 0) (pe_int) (fun _ _ => rfl)) (pe_ix ix_listN (pv 0) (pe_int) (fun _ _ => rfl))) pa_nil)) (pe_int)) (pe_int)) pa_nil)) (pv 1))))), ?_⟩
  obtain ⟨a, lim, rfl, ⟨g, s, ha⟩, l1, l2, kk⟩ := h
  simp only [ha, exists_and_left, tD1, rTupN, rAll, rMax2, rMin2, tSl, tPart, tNoPart, rSlLN, tYes, rLenS, rRepN, unset, tEv2, calmS, tRevG, tRevLN, cx_K, Value.ref.injEq, HO.xd.injEq, lk0, tSeq, tPar3, tPar, tCons, tNil, tVar, tC, tAsg, gName, gCons, gNil, gTupN, gSub, tOp, rI, rI0, rU, tTest, rNe, rEq, rIxTN, rIxLN, rLenL, rLenT, tLstRg, tRg1, tRg2, rIntI, rIntB, rAbs, rSetLN, tTruL, tRaiseX, rIsTy, rIsOw, ixN0, ixN1, tRet, tIf, tIfS, tNext, tBreak, tCont, tDrop, tTupN, tLstN, tUn, tCB, tCall, tNot, tAnd, tOr, tB, tAndV, tOrV, tNotV, tChain, tApp, LamX.tLam, tRevLN, rCatN, rInTN, rInLN, flatV, inV, List.all_cons, List.all_nil, List.any_cons, List.any_nil, Bool.and_self, Bool.and_true, if_true, Bool.false_eq_true, if_false, tMt, tFldN, tSto, HO.ins.injEq, lkh, List.drop_zero, List.drop_succ_cons, List.drop_nil, rListS, wipe, L2.start, List.map_cons, List.map_nil, List.length_cons, List.length_nil, List.replicate, List.cons_append, List.nil_append, List.append_nil, Nat.reduceAdd, Nat.reduceSub, Nat.zero_add, List.replicate_succ, List.replicate_zero, List.getElem?_cons_zero, List.getElem?_cons_succ, List.set_cons_zero, List.set_cons_succ, Option.some.injEq, V.int.injEq, V.bl.injEq, V.ref.injEq, V.str.injEq, V.ty.injEq, List.cons.injEq, HO.tup.injEq, HO.lst.injEq, and_true, true_and, and_assoc, exists_eq_left, exists_eq_left', exists_and_left, exists_eq', atI0, atI1, atI2, atI3, Int.cast_ofNat_Int, Int.reduceToNat, scal_ii, scal_in, scal_ni, scal_nn, scal_bb, scal_ss, scal_sn, scal_ns, scal_bn, scal_nb, ite_iff, decide_eq_true_eq, decide_eq_false_iff_not, Bool.not_eq_true', Classical.not_not, ne_eq, not_false_eq_true, not_true_eq_false, forall_const, true_implies, false_implies, imp_self, sizeLine_eq, Nat.reduceLeDiff, reduceCtorEq, decide_true, decide_false]
  refine ⟨fun h0 => ?_, fun h0 => ?_⟩
  · exact ⟨by omega, wide_div (by omega) l2 (by decide) (by decide), fun H2 p => kk _ H2 (Int.emod_nonneg _ (by omega)) (Int.emod_lt_of_pos _ (by omega)) ⟨_, _, p.1⟩ fun b o e nb => by rw [p.2 b nb]; exact e⟩
  · refine ⟨.inr ⟨by decide, by decide⟩, by decide, fun H2 p => ?_⟩
    have h2 := p.1
    have b0 := Int.emod_nonneg (s * 48271 + 11) (b := 2147483647) (by decide)
    have b1 := Int.emod_lt_of_pos (s * 48271 + 11) (b := 2147483647) (by decide)
    exact ⟨_, h2, _, atI1, _, h2, _, atI1, _, rfl, _, rfl, wide_mul (a := 31) (b := 31) (by omega) (by omega) (by decide) (by decide) (by decide), by decide, wide_div (show (0 : Int) < 16 by decide) (b := 6) (by decide) (by decide) (by decide), by omega, kk _ H2 (Int.emod_nonneg _ (by omega)) (Int.emod_lt_of_pos _ (by omega)) ⟨_, _, h2⟩ fun b o e nb => by rw [p.2 b nb]; exact e⟩
def spPick : Sp := fun vs H Q _ => ∃ a L, vs = [.ref a, .ref L] ∧ ∃ xs, Po H a ∧ L ≠ a ∧ H L = some (.lst xs) ∧ 1 ≤ xs.length ∧ xs.length ≤ 1000 ∧ ∀ x H', x ∈ xs → Po H' a → StpP a H H' → Q x H'
theorem o__law_pick (T : Txt K mg) : OkF P w K mg base CX0 2 "_law_pick" ["_law_pool_here", "_law_some"] spPick := by
  have o__law_draw := o__law_draw (P := P) (w := w) (base := base) T
  obtain ⟨f, fd, g, F⟩ := T.d__law_pick
  refine ⟨f, fd, g, F.kp, F.binds (fun _ _ _ _ _ _ us hl => match us, hl with | [_, _], _ => rfl), F.ok sc__law_pick (fun vs H Q E h => ?_) (fun cdv A outer s H vs Q E hr h => ?_)⟩
  · first | (obtain ⟨_, rfl, _⟩ := h; rfl) | (obtain ⟨rfl, _⟩ := h; rfl) | (obtain ⟨_, _, rfl, _⟩ := h; rfl) | (obtain ⟨_, _, _, rfl, _⟩ := h; rfl) | (obtain ⟨_, _, _, _, rfl, _⟩ := h; rfl) | (obtain ⟨_, _, _, _, _, rfl, _⟩ := h; rfl) | (obtain ⟨_, _, _, _, _, _, rfl, _⟩ := h; rfl) | (obtain ⟨_, _, _, _, _, _, _, rfl, _⟩ := h; rfl)
  have hu64 := hr.units
  refine ⟨_, pss_one (ps_ret (pe_ix ix_listN (pv 1) (pcl o__law_draw (hr.mono (by decide)) pass0 (pa_cons (pv 0) (pa_cons (pe_callB call_lenL (by rfl) T.m_len (by decide +kernel) (pa_cons (pv 1) pa_nil)) pa_nil))) (fun _ _ => rfl))), ?_⟩
  obtain ⟨a, L, rfl, xs, hP, La, hL, l1, l2, k⟩ := h
  simp only [hL, spDraw, exists_and_left, tD1, rTupN, rAll, rMax2, rMin2, tSl, tPart, tNoPart, rSlLN, tYes, rLenS, rRepN, unset, tEv2, calmS, tRevG, tRevLN, cx_K, Value.ref.injEq, HO.xd.injEq, lk0, tSeq, tPar3, tPar, tCons, tNil, tVar, tC, tAsg, gName, gCons, gNil, gTupN, gSub, tOp, rI, rI0, rU, tTest, rNe, rEq, rIxTN, rIxLN, rLenL, rLenT, tLstRg, tRg1, tRg2, rIntI, rIntB, rAbs, rSetLN, tTruL, tRaiseX, rIsTy, rIsOw, ixN0, ixN1, tRet, tIf, tIfS, tNext, tBreak, tCont, tDrop, tTupN, tLstN, tUn, tCB, tCall, tNot, tAnd, tOr, tB, tAndV, tOrV, tNotV, tChain, tApp, LamX.tLam, tRevLN, rCatN, rInTN, rInLN, flatV, inV, List.all_cons, List.all_nil, List.any_cons, List.any_nil, Bool.and_self, Bool.and_true, if_true, Bool.false_eq_true, if_false, tMt, tFldN, tSto, HO.ins.injEq, lkh, List.drop_zero, List.drop_succ_cons, List.drop_nil, rListS, wipe, L2.start, List.map_cons, List.map_nil, List.length_cons, List.length_nil, List.replicate, List.cons_append, List.nil_append, List.append_nil, Nat.reduceAdd, Nat.reduceSub, Nat.zero_add, List.replicate_succ, List.replicate_zero, List.getElem?_cons_zero, List.getElem?_cons_succ, List.set_cons_zero, List.set_cons_succ, Option.some.injEq, V.int.injEq, V.bl.injEq, V.ref.injEq, V.str.injEq, V.ty.injEq, List.cons.injEq, HO.tup.injEq, HO.lst.injEq, and_true, true_and, and_assoc, exists_eq_left, exists_eq_left', exists_and_left, exists_eq', atI0, atI1, atI2, atI3, Int.cast_ofNat_Int, Int.reduceToNat, scal_ii, scal_in, scal_ni, scal_nn, scal_bb, scal_ss, scal_sn, scal_ns, scal_bn, scal_nb, ite_iff, decide_eq_true_eq, decide_eq_false_iff_not, Bool.not_eq_true', Classical.not_not, ne_eq, not_false_eq_true, not_true_eq_false, forall_const, true_implies, false_implies, imp_self, sizeLine_eq, Nat.reduceLeDiff, reduceCtorEq, decide_true, decide_false]
  refine ⟨hP, by omega, by have : ((xs.length : Int)).natAbs = xs.length := rfl; rw [this]; exact Nat.lt_of_le_of_lt l2 (by decide), fun d H1 d0 d1 P1 t1 => ?_⟩
  have hd : d.toNat < xs.length := by omega
  exact ⟨_, t1 _ _ hL La, _, atI_ok d0 (List.getElem?_eq_getElem hd), k _ H1 (List.getElem_mem _) P1 t1⟩
theorem Po.ne {H : Hp} {a L : Addr} (P : Po H a) (n : H L = none) : L ≠ a := let ⟨_, _, e⟩ := P; (ne_of_none e n).symm

/-! ### the law's own row -/
theorem strL_nil {N : Int} (h : 0 ≤ N) : (strL [] N).map V.int = rgV 0 N := by
  unfold strL rgV belL nthL
  rw [List.map_map]
  simp
def spLPrd : Sp := fun vs H Q _ => ∃ a l, vs = [.ref a, .int l] ∧ ∃ ks : List Int, H a = some (.lst (ks.map V.int)) ∧ okK ks ∧ ks.length ≤ 5 ∧ 0 ≤ l ∧ l ≤ 1 ∧ Q (.int (prodL (ks.map fun k => k - l))) H
theorem o__law_product (T : Txt K mg) : OkF P w K mg base CX0 1 "_law_product" ["_law_ks", "_law_less"] spLPrd := by
  obtain ⟨f, fd, g, F⟩ := T.d__law_product
  refine ⟨f, fd, g, F.kp, F.binds (fun _ _ _ _ _ _ us hl => match us, hl with | [_, _], _ => rfl), F.ok sc__law_product (fun vs H Q E h => ?_) (fun cdv A outer s H vs Q E hr h => ?_)⟩
  · first | (obtain ⟨_, rfl, _⟩ := h; rfl) | (obtain ⟨rfl, _⟩ := h; rfl) | (obtain ⟨_, _, rfl, _⟩ := h; rfl) | (obtain ⟨_, _, _, rfl, _⟩ := h; rfl) | (obtain ⟨_, _, _, _, rfl, _⟩ := h; rfl) | (obtain ⟨_, _, _, _, _, rfl, _⟩ := h; rfl) | (obtain ⟨_, _, _, _, _, _, rfl, _⟩ := h; rfl) | (obtain ⟨_, _, _, _, _, _, _, rfl, _⟩ := h; rfl)
  have hu64 := hr.units
  refine ⟨_, pss_cons (ps_set (i := 2) sc__law_product.nd rfl (Or.inl rfl) (pe_int))
      (pss_cons (ps_for PassesOwn.never rfl (pi_list (pv 0)) (pg_name (i := 3) sc__law_product.nd rfl (Or.inl rfl)) (pss_one (ps_set (i := 2) sc__law_product.nd rfl (Or.inl rfl) (pe_op op_mulW (pv 2) (pe_op op_sub (pv 3) (pv 1))))))
      (pss_one (ps_ret (pv 2)))), ?_⟩
  obtain ⟨a, l, rfl, ks, ha, hk, hl, l0, l1, k⟩ := h
  simp only [exists_and_left, tD1, rTupN, rAll, rMax2, rMin2, tSl, tPart, tNoPart, rSlLN, tYes, rLenS, rRepN, unset, tEv2, calmS, tRevG, tRevLN, cx_K, Value.ref.injEq, HO.xd.injEq, lk0, tSeq, tPar3, tPar, tCons, tNil, tVar, tC, tAsg, gName, gCons, gNil, gTupN, gSub, tOp, rI, rI0, rU, tTest, rNe, rEq, rIxTN, rIxLN, rLenL, rLenT, tLstRg, tRg1, tRg2, rIntI, rIntB, rAbs, rSetLN, tTruL, tRaiseX, rIsTy, rIsOw, ixN0, ixN1, tRet, tIf, tIfS, tNext, tBreak, tCont, tDrop, tTupN, tLstN, tUn, tCB, tCall, tNot, tAnd, tOr, tB, tAndV, tOrV, tNotV, tChain, tApp, LamX.tLam, tRevLN, rCatN, rInTN, rInLN, flatV, inV, List.all_cons, List.all_nil, List.any_cons, List.any_nil, Bool.and_self, Bool.and_true, if_true, Bool.false_eq_true, if_false, tMt, tFldN, tSto, HO.ins.injEq, lkh, List.drop_zero, List.drop_succ_cons, List.drop_nil, rListS, wipe, L2.start, List.map_cons, List.map_nil, List.length_cons, List.length_nil, List.replicate, List.cons_append, List.nil_append, List.append_nil, Nat.reduceAdd, Nat.reduceSub, Nat.zero_add, List.replicate_succ, List.replicate_zero, List.getElem?_cons_zero, List.getElem?_cons_succ, List.set_cons_zero, List.set_cons_succ, Option.some.injEq, V.int.injEq, V.bl.injEq, V.ref.injEq, V.str.injEq, V.ty.injEq, List.cons.injEq, HO.tup.injEq, HO.lst.injEq, and_true, true_and, and_assoc, exists_eq_left, exists_eq_left', exists_and_left, exists_eq', atI0, atI1, atI2, atI3, Int.cast_ofNat_Int, Int.reduceToNat, scal_ii, scal_in, scal_ni, scal_nn, scal_bb, scal_ss, scal_sn, scal_ns, scal_bn, scal_nb, ite_iff, decide_eq_true_eq, decide_eq_false_iff_not, Bool.not_eq_true', Classical.not_not, ne_eq, not_false_eq_true, not_true_eq_false, forall_const, true_implies, false_implies, imp_self, sizeLine_eq, Nat.reduceLeDiff, reduceCtorEq, decide_true, decide_false]
  refine st_forL (fun R r => ⟨_, rfl, r⟩) ha (fun i σ' H' => H' = H ∧ ∃ t x3, σ' = [some (V.ref a), some (V.int l), some (V.int t), x3] ∧ 0 ≤ t ∧ t ≤ 9 ^ i ∧ t = ((ks.take i).map fun k => k - l).foldl (fun a k => a * k) 1) ⟨rfl, 1, none, rfl, by decide, by decide, rfl⟩ (fun i σ' H' ⟨e, _⟩ => by rw [e]; exact ha) ?_ ?_
  · rintro i x _ H' hi ⟨rfl, t, x2, rfl, t0, t9, te⟩
    obtain ⟨j, hj, rfl⟩ := get_int hi
    have jb := hk j (List.mem_of_getElem? hj)
    have il : i < 5 := by have := (List.getElem?_eq_some_iff.mp hj).1; omega
    have t16 : t < 2 ^ 16 := Int.lt_of_le_of_lt t9 (by
      have : i = 0 ∨ i = 1 ∨ i = 2 ∨ i = 3 ∨ i = 4 := by omega
      rcases this with rfl | rfl | rfl | rfl | rfl <;> decide)
    simp only [exists_and_left, tD1, rTupN, rAll, rMax2, rMin2, tSl, tPart, tNoPart, rSlLN, tYes, rLenS, rRepN, unset, tEv2, calmS, tRevG, tRevLN, cx_K, Value.ref.injEq, HO.xd.injEq, lk0, tSeq, tPar3, tPar, tCons, tNil, tVar, tC, tAsg, gName, gCons, gNil, gTupN, gSub, tOp, rI, rI0, rU, tTest, rNe, rEq, rIxTN, rIxLN, rLenL, rLenT, tLstRg, tRg1, tRg2, rIntI, rIntB, rAbs, rSetLN, tTruL, tRaiseX, rIsTy, rIsOw, ixN0, ixN1, tRet, tIf, tIfS, tNext, tBreak, tCont, tDrop, tTupN, tLstN, tUn, tCB, tCall, tNot, tAnd, tOr, tB, tAndV, tOrV, tNotV, tChain, tApp, LamX.tLam, tRevLN, rCatN, rInTN, rInLN, flatV, inV, List.all_cons, List.all_nil, List.any_cons, List.any_nil, Bool.and_self, Bool.and_true, if_true, Bool.false_eq_true, if_false, tMt, tFldN, tSto, HO.ins.injEq, lkh, List.drop_zero, List.drop_succ_cons, List.drop_nil, rListS, wipe, L2.start, List.map_cons, List.map_nil, List.length_cons, List.length_nil, List.replicate, List.cons_append, List.nil_append, List.append_nil, Nat.reduceAdd, Nat.reduceSub, Nat.zero_add, List.replicate_succ, List.replicate_zero, List.getElem?_cons_zero, List.getElem?_cons_succ, List.set_cons_zero, List.set_cons_succ, Option.some.injEq, V.int.injEq, V.bl.injEq, V.ref.injEq, V.str.injEq, V.ty.injEq, List.cons.injEq, HO.tup.injEq, HO.lst.injEq, and_true, true_and, and_assoc, exists_eq_left, exists_eq_left', exists_and_left, exists_eq', atI0, atI1, atI2, atI3, Int.cast_ofNat_Int, Int.reduceToNat, scal_ii, scal_in, scal_ni, scal_nn, scal_bb, scal_ss, scal_sn, scal_ns, scal_bn, scal_nb, ite_iff, decide_eq_true_eq, decide_eq_false_iff_not, Bool.not_eq_true', Classical.not_not, ne_eq, not_false_eq_true, not_true_eq_false, forall_const, true_implies, false_implies, imp_self, sizeLine_eq, Nat.reduceLeDiff, reduceCtorEq, decide_true, decide_false]
    refine ⟨wide_mul (a := 16) (b := 4) (by omega) (by omega) (by decide) (by decide) (by decide), Int.mul_nonneg t0 (by omega), ?_, ?_⟩
    · rw [Int.pow_succ]
      exact Int.mul_le_mul t9 (by omega) (by omega) (Int.le_trans t0 t9)
    · rw [List.take_succ, hj, List.map_append, List.foldl_append, ← te]; rfl
  · rintro _ H' ⟨rfl, t, x2, rfl, t0, t9, te⟩
    rw [List.length_map, List.take_length] at te
    simp only [exists_and_left, tD1, rTupN, rAll, rMax2, rMin2, tSl, tPart, tNoPart, rSlLN, tYes, rLenS, rRepN, unset, tEv2, calmS, tRevG, tRevLN, cx_K, Value.ref.injEq, HO.xd.injEq, lk0, tSeq, tPar3, tPar, tCons, tNil, tVar, tC, tAsg, gName, gCons, gNil, gTupN, gSub, tOp, rI, rI0, rU, tTest, rNe, rEq, rIxTN, rIxLN, rLenL, rLenT, tLstRg, tRg1, tRg2, rIntI, rIntB, rAbs, rSetLN, tTruL, tRaiseX, rIsTy, rIsOw, ixN0, ixN1, tRet, tIf, tIfS, tNext, tBreak, tCont, tDrop, tTupN, tLstN, tUn, tCB, tCall, tNot, tAnd, tOr, tB, tAndV, tOrV, tNotV, tChain, tApp, LamX.tLam, tRevLN, rCatN, rInTN, rInLN, flatV, inV, List.all_cons, List.all_nil, List.any_cons, List.any_nil, Bool.and_self, Bool.and_true, if_true, Bool.false_eq_true, if_false, tMt, tFldN, tSto, HO.ins.injEq, lkh, List.drop_zero, List.drop_succ_cons, List.drop_nil, rListS, wipe, L2.start, List.map_cons, List.map_nil, List.length_cons, List.length_nil, List.replicate, List.cons_append, List.nil_append, List.append_nil, Nat.reduceAdd, Nat.reduceSub, Nat.zero_add, List.replicate_succ, List.replicate_zero, List.getElem?_cons_zero, List.getElem?_cons_succ, List.set_cons_zero, List.set_cons_succ, Option.some.injEq, V.int.injEq, V.bl.injEq, V.ref.injEq, V.str.injEq, V.ty.injEq, List.cons.injEq, HO.tup.injEq, HO.lst.injEq, and_true, true_and, and_assoc, exists_eq_left, exists_eq_left', exists_and_left, exists_eq', atI0, atI1, atI2, atI3, Int.cast_ofNat_Int, Int.reduceToNat, scal_ii, scal_in, scal_ni, scal_nn, scal_bb, scal_ss, scal_sn, scal_ns, scal_bn, scal_nb, ite_iff, decide_eq_true_eq, decide_eq_false_iff_not, Bool.not_eq_true', Classical.not_not, ne_eq, not_false_eq_true, not_true_eq_false, forall_const, true_implies, false_implies, imp_self, sizeLine_eq, Nat.reduceLeDiff, reduceCtorEq, decide_true, decide_false]
    rw [te]
    rw [← prL_eq] at k
    exact k
def spStr : Sp := fun vs H Q _ => ∃ a N, vs = [.ref a, .int N] ∧ ∃ ks : List Int, H a = some (.lst (ks.map V.int)) ∧ okK ks ∧ 0 ≤ N ∧ N ≤ 100000 ∧ ∀ L H', H L = none → Same H H' → H' L = some (.lst ((strL ks N).map V.int)) → Q (.ref L) H'
theorem o__law_struck (T : Txt K mg) : OkF P w K mg base CX0 1 "_law_struck" ["_law_ks", "_law_many"] spStr := by
  obtain ⟨f, fd, g, F⟩ := T.d__law_struck
  refine ⟨f, fd, g, F.kp, F.binds (fun _ _ _ _ _ _ us hl => match us, hl with | [_, _], _ => rfl), F.ok sc__law_struck (fun vs H Q E h => ?_) (fun cdv A outer s H vs Q E hr h => ?_)⟩
  · first | (obtain ⟨_, rfl, _⟩ := h; rfl) | (obtain ⟨rfl, _⟩ := h; rfl) | (obtain ⟨_, _, rfl, _⟩ := h; rfl) | (obtain ⟨_, _, _, rfl, _⟩ := h; rfl) | (obtain ⟨_, _, _, _, rfl, _⟩ := h; rfl) | (obtain ⟨_, _, _, _, _, rfl, _⟩ := h; rfl) | (obtain ⟨_, _, _, _, _, _, rfl, _⟩ := h; rfl) | (obtain ⟨_, _, _, _, _, _, _, rfl, _⟩ := h; rfl)
  have hu64 := hr.units
  refine ⟨_, pss_cons (ps_set (i := 2) sc__law_struck.nd rfl (Or.inr rfl) (L2.pe_listRg rfl (by rfl) T.m_list (L2.prg_1 (by rfl) T.m_range (pv 1))))
      (pss_cons (ps_for PassesOwn.never rfl (pi_list (pv 0)) (pg_name (i := 3) sc__law_struck.nd rfl (Or.inr rfl)) (pss_one (ps_set (i := 2) sc__law_struck.nd rfl (Or.inr rfl) (pe_lc (own := [("_law_at", 4)]) (g := gName 4) (by rfl) sc__law_struck.nd (pi_range1 (by rfl) T.m_range (pa_cons (pe_callB call_lenL (by rfl) T.m_len (by decide +kernel) (pa_cons (pv 2) pa_nil)) pa_nil)) (blkOk_by (N := ["_law_ks", "_law_many", "_law_left", "_law_k", "_law_at"]) (sc := defScope s__law_struck) (own := [("_law_at", 4)]) (by decide +kernel)) (fun _ _ _ _ _ => pg_name (i := 4) sc__law_struck.nd rfl (Or.inl rfl)) (fun _ _ _ _ _ => pts_one (pt_cmpR op_ne (pe_op op_mod (pe_callTy call_intI (by rfl) T.m_int (by decide +kernel) (pa_cons (pv 4) pa_nil)) (pe_callTy call_intI (by rfl) T.m_int (by decide +kernel) (pa_cons (pv 3) pa_nil))) (pe_op op_sub (pv 3) (pe_int)) (nomark _))) (fun _ _ _ _ _ => pe_ix ix_listN (pv 2) (pv 4) (fun _ _ => rfl))))))
      (pss_one (ps_ret (pv 2)))), ?_⟩
  obtain ⟨a, N, rfl, ks, ha, hk, n0, n1, k⟩ := h
  simp only [exists_and_left, tD1, rTupN, rAll, rMax2, rMin2, tSl, tPart, tNoPart, rSlLN, tYes, rLenS, rRepN, unset, tEv2, calmS, tRevG, tRevLN, cx_K, Value.ref.injEq, HO.xd.injEq, lk0, tSeq, tPar3, tPar, tCons, tNil, tVar, tC, tAsg, gName, gCons, gNil, gTupN, gSub, tOp, rI, rI0, rU, tTest, rNe, rEq, rIxTN, rIxLN, rLenL, rLenT, tLstRg, tRg1, tRg2, rIntI, rIntB, rAbs, rSetLN, tTruL, tRaiseX, rIsTy, rIsOw, ixN0, ixN1, tRet, tIf, tIfS, tNext, tBreak, tCont, tDrop, tTupN, tLstN, tUn, tCB, tCall, tNot, tAnd, tOr, tB, tAndV, tOrV, tNotV, tChain, tApp, LamX.tLam, tRevLN, rCatN, rInTN, rInLN, flatV, inV, List.all_cons, List.all_nil, List.any_cons, List.any_nil, Bool.and_self, Bool.and_true, if_true, Bool.false_eq_true, if_false, tMt, tFldN, tSto, HO.ins.injEq, lkh, List.drop_zero, List.drop_succ_cons, List.drop_nil, rListS, wipe, L2.start, List.map_cons, List.map_nil, List.length_cons, List.length_nil, List.replicate, List.cons_append, List.nil_append, List.append_nil, Nat.reduceAdd, Nat.reduceSub, Nat.zero_add, List.replicate_succ, List.replicate_zero, List.getElem?_cons_zero, List.getElem?_cons_succ, List.set_cons_zero, List.set_cons_succ, Option.some.injEq, V.int.injEq, V.bl.injEq, V.ref.injEq, V.str.injEq, V.ty.injEq, List.cons.injEq, HO.tup.injEq, HO.lst.injEq, and_true, true_and, and_assoc, exists_eq_left, exists_eq_left', exists_and_left, exists_eq', atI0, atI1, atI2, atI3, Int.cast_ofNat_Int, Int.reduceToNat, scal_ii, scal_in, scal_ni, scal_nn, scal_bb, scal_ss, scal_sn, scal_ns, scal_bn, scal_nb, ite_iff, decide_eq_true_eq, decide_eq_false_iff_not, Bool.not_eq_true', Classical.not_not, ne_eq, not_false_eq_true, not_true_eq_false, forall_const, true_implies, false_implies, imp_self, sizeLine_eq, Nat.reduceLeDiff, reduceCtorEq, decide_true, decide_false]
  refine ⟨by unfold RgOk; omega, fun q hq => ?_⟩
  refine st_forL (fun R r => ⟨_, rfl, r⟩) (Same.upd hq _ _ ha) (fun i σ' H' => Same H H' ∧ ∃ L x4 x5, σ' = [some (V.ref a), some (V.int N), some (V.ref L), x4, x5] ∧ H L = none ∧ H' L = some (.lst ((strL (ks.take i) N).map V.int))) ⟨Same.upd hq, q, none, none, rfl, hq, by rw [upd_same, List.take_zero, strL_nil n0]⟩ (fun i σ' H' p => p.1 _ _ ha) ?_ ?_
  · rintro i x _ H1 hi ⟨s1, L, x4, x5, rfl, hL, fL⟩
    obtain ⟨j, hj, rfl⟩ := get_int hi
    have jb := hk j (List.mem_of_getElem? hj)
    have hk' : okK (ks.take i) := fun z hz => hk z (List.mem_of_mem_take hz)
    have ln : (strL (ks.take i) N).length ≤ 100000 := by
      rw [strL_len]
      have := belL_le hk' n0
      omega
    simp only [exists_and_left, tD1, rTupN, rAll, rMax2, rMin2, tSl, tPart, tNoPart, rSlLN, tYes, rLenS, rRepN, unset, tEv2, calmS, tRevG, tRevLN, cx_K, Value.ref.injEq, HO.xd.injEq, lk0, tSeq, tPar3, tPar, tCons, tNil, tVar, tC, tAsg, gName, gCons, gNil, gTupN, gSub, tOp, rI, rI0, rU, tTest, rNe, rEq, rIxTN, rIxLN, rLenL, rLenT, tLstRg, tRg1, tRg2, rIntI, rIntB, rAbs, rSetLN, tTruL, tRaiseX, rIsTy, rIsOw, ixN0, ixN1, tRet, tIf, tIfS, tNext, tBreak, tCont, tDrop, tTupN, tLstN, tUn, tCB, tCall, tNot, tAnd, tOr, tB, tAndV, tOrV, tNotV, tChain, tApp, LamX.tLam, tRevLN, rCatN, rInTN, rInLN, flatV, inV, List.all_cons, List.all_nil, List.any_cons, List.any_nil, Bool.and_self, Bool.and_true, if_true, Bool.false_eq_true, if_false, tMt, tFldN, tSto, HO.ins.injEq, lkh, List.drop_zero, List.drop_succ_cons, List.drop_nil, rListS, wipe, L2.start, List.map_cons, List.map_nil, List.length_cons, List.length_nil, List.replicate, List.cons_append, List.nil_append, List.append_nil, Nat.reduceAdd, Nat.reduceSub, Nat.zero_add, List.replicate_succ, List.replicate_zero, List.getElem?_cons_zero, List.getElem?_cons_succ, List.set_cons_zero, List.set_cons_succ, Option.some.injEq, V.int.injEq, V.bl.injEq, V.ref.injEq, V.str.injEq, V.ty.injEq, List.cons.injEq, HO.tup.injEq, HO.lst.injEq, and_true, true_and, and_assoc, exists_eq_left, exists_eq_left', exists_and_left, exists_eq', atI0, atI1, atI2, atI3, Int.cast_ofNat_Int, Int.reduceToNat, scal_ii, scal_in, scal_ni, scal_nn, scal_bb, scal_ss, scal_sn, scal_ns, scal_bn, scal_nb, ite_iff, decide_eq_true_eq, decide_eq_false_iff_not, Bool.not_eq_true', Classical.not_not, ne_eq, not_false_eq_true, not_true_eq_false, forall_const, true_implies, false_implies, imp_self, sizeLine_eq, Nat.reduceLeDiff, reduceCtorEq, decide_true, decide_false]
    refine st_lcR1F ((strL (ks.take i) N).length : Int) (by omega) (fun R r => ?_) ?_ (fun z => decide (z % j ≠ j - 1)) (fun z => V.int (nthL (ks.take i) z)) ?_ ?_
    · simp only [exists_and_left, tD1, rTupN, rAll, rMax2, rMin2, tSl, tPart, tNoPart, rSlLN, tYes, rLenS, rRepN, unset, tEv2, calmS, tRevG, tRevLN, cx_K, Value.ref.injEq, HO.xd.injEq, lk0, tSeq, tPar3, tPar, tCons, tNil, tVar, tC, tAsg, gName, gCons, gNil, gTupN, gSub, tOp, rI, rI0, rU, tTest, rNe, rEq, rIxTN, rIxLN, rLenL, rLenT, tLstRg, tRg1, tRg2, rIntI, rIntB, rAbs, rSetLN, tTruL, tRaiseX, rIsTy, rIsOw, ixN0, ixN1, tRet, tIf, tIfS, tNext, tBreak, tCont, tDrop, tTupN, tLstN, tUn, tCB, tCall, tNot, tAnd, tOr, tB, tAndV, tOrV, tNotV, tChain, tApp, LamX.tLam, tRevLN, rCatN, rInTN, rInLN, flatV, inV, List.all_cons, List.all_nil, List.any_cons, List.any_nil, Bool.and_self, Bool.and_true, if_true, Bool.false_eq_true, if_false, tMt, tFldN, tSto, HO.ins.injEq, lkh, List.drop_zero, List.drop_succ_cons, List.drop_nil, rListS, wipe, L2.start, List.map_cons, List.map_nil, List.length_cons, List.length_nil, List.replicate, List.cons_append, List.nil_append, List.append_nil, Nat.reduceAdd, Nat.reduceSub, Nat.zero_add, List.replicate_succ, List.replicate_zero, List.getElem?_cons_zero, List.getElem?_cons_succ, List.set_cons_zero, List.set_cons_succ, Option.some.injEq, V.int.injEq, V.bl.injEq, V.ref.injEq, V.str.injEq, V.ty.injEq, List.cons.injEq, HO.tup.injEq, HO.lst.injEq, and_true, true_and, and_assoc, exists_eq_left, exists_eq_left', exists_and_left, exists_eq', atI0, atI1, atI2, atI3, Int.cast_ofNat_Int, Int.reduceToNat, scal_ii, scal_in, scal_ni, scal_nn, scal_bb, scal_ss, scal_sn, scal_ns, scal_bn, scal_nb, ite_iff, decide_eq_true_eq, decide_eq_false_iff_not, Bool.not_eq_true', Classical.not_not, ne_eq, not_false_eq_true, not_true_eq_false, forall_const, true_implies, false_implies, imp_self, sizeLine_eq, Nat.reduceLeDiff, reduceCtorEq, decide_true, decide_false]
      refine ⟨_, fL, ?_⟩
      rw [List.length_map]; exact r
    · show _ ≤ 16777216; omega
    · intro z H2 A B z0 z1 s2 hA hB
      simp only [exists_and_left, tD1, rTupN, rAll, rMax2, rMin2, tSl, tPart, tNoPart, rSlLN, tYes, rLenS, rRepN, unset, tEv2, calmS, tRevG, tRevLN, cx_K, Value.ref.injEq, HO.xd.injEq, lk0, tSeq, tPar3, tPar, tCons, tNil, tVar, tC, tAsg, gName, gCons, gNil, gTupN, gSub, tOp, rI, rI0, rU, tTest, rNe, rEq, rIxTN, rIxLN, rLenL, rLenT, tLstRg, tRg1, tRg2, rIntI, rIntB, rAbs, rSetLN, tTruL, tRaiseX, rIsTy, rIsOw, ixN0, ixN1, tRet, tIf, tIfS, tNext, tBreak, tCont, tDrop, tTupN, tLstN, tUn, tCB, tCall, tNot, tAnd, tOr, tB, tAndV, tOrV, tNotV, tChain, tApp, LamX.tLam, tRevLN, rCatN, rInTN, rInLN, flatV, inV, List.all_cons, List.all_nil, List.any_cons, List.any_nil, Bool.and_self, Bool.and_true, if_true, Bool.false_eq_true, if_false, tMt, tFldN, tSto, HO.ins.injEq, lkh, List.drop_zero, List.drop_succ_cons, List.drop_nil, rListS, wipe, L2.start, List.map_cons, List.map_nil, List.length_cons, List.length_nil, List.replicate, List.cons_append, List.nil_append, List.append_nil, Nat.reduceAdd, Nat.reduceSub, Nat.zero_add, List.replicate_succ, List.replicate_zero, List.getElem?_cons_zero, List.getElem?_cons_succ, List.set_cons_zero, List.set_cons_succ, Option.some.injEq, V.int.injEq, V.bl.injEq, V.ref.injEq, V.str.injEq, V.ty.injEq, List.cons.injEq, HO.tup.injEq, HO.lst.injEq, and_true, true_and, and_assoc, exists_eq_left, exists_eq_left', exists_and_left, exists_eq', atI0, atI1, atI2, atI3, Int.cast_ofNat_Int, Int.reduceToNat, scal_ii, scal_in, scal_ni, scal_nn, scal_bb, scal_ss, scal_sn, scal_ns, scal_bn, scal_nb, ite_iff, decide_eq_true_eq, decide_eq_false_iff_not, Bool.not_eq_true', Classical.not_not, ne_eq, not_false_eq_true, not_true_eq_false, forall_const, true_implies, false_implies, imp_self, sizeLine_eq, Nat.reduceLeDiff, reduceCtorEq, decide_true, decide_false]
      rw [strL_len] at z1
      refine ⟨by omega, fun c => ⟨_, s2 _ _ fL, _, atI_ok z0 ?_, hB (decide_eq_true c) H2 fun _ _ h => h⟩, fun c => hA (decide_eq_false fun e => e c) H2 fun _ _ h => h⟩
      rw [List.getElem?_map, strL_get (by omega), show ((z.toNat : Nat) : Int) = z by omega]
      rfl
    · intro D H2 hD s2 f2
      simp only [exists_and_left, tD1, rTupN, rAll, rMax2, rMin2, tSl, tPart, tNoPart, rSlLN, tYes, rLenS, rRepN, unset, tEv2, calmS, tRevG, tRevLN, cx_K, Value.ref.injEq, HO.xd.injEq, lk0, tSeq, tPar3, tPar, tCons, tNil, tVar, tC, tAsg, gName, gCons, gNil, gTupN, gSub, tOp, rI, rI0, rU, tTest, rNe, rEq, rIxTN, rIxLN, rLenL, rLenT, tLstRg, tRg1, tRg2, rIntI, rIntB, rAbs, rSetLN, tTruL, tRaiseX, rIsTy, rIsOw, ixN0, ixN1, tRet, tIf, tIfS, tNext, tBreak, tCont, tDrop, tTupN, tLstN, tUn, tCB, tCall, tNot, tAnd, tOr, tB, tAndV, tOrV, tNotV, tChain, tApp, LamX.tLam, tRevLN, rCatN, rInTN, rInLN, flatV, inV, List.all_cons, List.all_nil, List.any_cons, List.any_nil, Bool.and_self, Bool.and_true, if_true, Bool.false_eq_true, if_false, tMt, tFldN, tSto, HO.ins.injEq, lkh, List.drop_zero, List.drop_succ_cons, List.drop_nil, rListS, wipe, L2.start, List.map_cons, List.map_nil, List.length_cons, List.length_nil, List.replicate, List.cons_append, List.nil_append, List.append_nil, Nat.reduceAdd, Nat.reduceSub, Nat.zero_add, List.replicate_succ, List.replicate_zero, List.getElem?_cons_zero, List.getElem?_cons_succ, List.set_cons_zero, List.set_cons_succ, Option.some.injEq, V.int.injEq, V.bl.injEq, V.ref.injEq, V.str.injEq, V.ty.injEq, List.cons.injEq, HO.tup.injEq, HO.lst.injEq, and_true, true_and, and_assoc, exists_eq_left, exists_eq_left', exists_and_left, exists_eq', atI0, atI1, atI2, atI3, Int.cast_ofNat_Int, Int.reduceToNat, scal_ii, scal_in, scal_ni, scal_nn, scal_bb, scal_ss, scal_sn, scal_ns, scal_bn, scal_nb, ite_iff, decide_eq_true_eq, decide_eq_false_iff_not, Bool.not_eq_true', Classical.not_not, ne_eq, not_false_eq_true, not_true_eq_false, forall_const, true_implies, false_implies, imp_self, sizeLine_eq, Nat.reduceLeDiff, reduceCtorEq, decide_true, decide_false]
      refine ⟨s1.trans s2, none_of s1 hD, ?_⟩
      rw [f2, List.take_succ, hj, show (some j).toList = [j] from rfl, ← map_idx hk' jb n0]
      congr 2
      unfold intsB
      rw [List.filter_map, List.map_map, List.map_map]
      simp [Function.comp_def]
  · rintro _ H1 ⟨s1, L, x4, x5, rfl, hL, fL⟩
    rw [List.length_map, List.take_length] at fL
    simp only [exists_and_left, tD1, rTupN, rAll, rMax2, rMin2, tSl, tPart, tNoPart, rSlLN, tYes, rLenS, rRepN, unset, tEv2, calmS, tRevG, tRevLN, cx_K, Value.ref.injEq, HO.xd.injEq, lk0, tSeq, tPar3, tPar, tCons, tNil, tVar, tC, tAsg, gName, gCons, gNil, gTupN, gSub, tOp, rI, rI0, rU, tTest, rNe, rEq, rIxTN, rIxLN, rLenL, rLenT, tLstRg, tRg1, tRg2, rIntI, rIntB, rAbs, rSetLN, tTruL, tRaiseX, rIsTy, rIsOw, ixN0, ixN1, tRet, tIf, tIfS, tNext, tBreak, tCont, tDrop, tTupN, tLstN, tUn, tCB, tCall, tNot, tAnd, tOr, tB, tAndV, tOrV, tNotV, tChain, tApp, LamX.tLam, tRevLN, rCatN, rInTN, rInLN, flatV, inV, List.all_cons, List.all_nil, List.any_cons, List.any_nil, Bool.and_self, Bool.and_true, if_true, Bool.false_eq_true, if_false, tMt, tFldN, tSto, HO.ins.injEq, lkh, List.drop_zero, List.drop_succ_cons, List.drop_nil, rListS, wipe, L2.start, List.map_cons, List.map_nil, List.length_cons, List.length_nil, List.replicate, List.cons_append, List.nil_append, List.append_nil, Nat.reduceAdd, Nat.reduceSub, Nat.zero_add, List.replicate_succ, List.replicate_zero, List.getElem?_cons_zero, List.getElem?_cons_succ, List.set_cons_zero, List.set_cons_succ, Option.some.injEq, V.int.injEq, V.bl.injEq, V.ref.injEq, V.str.injEq, V.ty.injEq, List.cons.injEq, HO.tup.injEq, HO.lst.injEq, and_true, true_and, and_assoc, exists_eq_left, exists_eq_left', exists_and_left, exists_eq', atI0, atI1, atI2, atI3, Int.cast_ofNat_Int, Int.reduceToNat, scal_ii, scal_in, scal_ni, scal_nn, scal_bb, scal_ss, scal_sn, scal_ns, scal_bn, scal_nb, ite_iff, decide_eq_true_eq, decide_eq_false_iff_not, Bool.not_eq_true', Classical.not_not, ne_eq, not_false_eq_true, not_true_eq_false, forall_const, true_implies, false_implies, imp_self, sizeLine_eq, Nat.reduceLeDiff, reduceCtorEq, decide_true, decide_false]
    exact k L H1 hL s1 fL
theorem alike_eq {ks js : List Int} (h : okK ks) (g : okK js) : alikeL ks js = decide (strL ks (prodL ks + prodL js) = strL js (prodL ks + prodL js)) := by
  have pp : ∀ {ks : List Int}, okK ks → 1 ≤ prodL ks := fun h => prodL_pos fun k hk => by have := h k hk; omega
  have p1 := pp h
  have p2 := pp g
  rw [Bool.eq_iff_iff, decide_eq_true_iff]
  unfold alikeL
  rw [List.all_eq_true]
  constructor
  · intro q
    have e := same_nth h g fun n hn => of_decide_eq_true (q n (List.mem_range.mpr (by omega)))
    unfold strL
    rw [bel_of_nth h g e (by omega)]
    exact List.map_congr_left fun n _ => e n
  · intro q n _
    exact decide_eq_true (same_str h g q n)
def spAR (K : PySem.W.Frag) : Sp := fun vs H Q _ => ∃ a b, vs = [.ref a, .ref b] ∧ ∃ ks js : List Int, H a = some (.lst (ks.map V.int)) ∧ H b = some (.lst (js.map V.int)) ∧ okK ks ∧ okK js ∧ ks.length ≤ 5 ∧ js.length ≤ 5 ∧ ∀ H', Same H H' → Q (.bl true) H'
theorem o__law_alike_right (T : Txt K mg) : OkF P w K mg base CX0 6 "_law_alike_right" ["_law_ks", "_law_others"] (spAR K) := by
  have o__law_product := o__law_product (P := P) (w := w) (base := base) T
  have o_Sieve := o_Sieve (P := P) (w := w) (base := base) T
  have o_Sieve_leaves_alike := o_Sieve_leaves_alike (P := P) (w := w) (base := base) T
  have o__law_struck := o__law_struck (P := P) (w := w) (base := base) T
  obtain ⟨f, fd, g, F⟩ := T.d__law_alike_right
  refine ⟨f, fd, g, F.kp, F.binds (fun _ _ _ _ _ _ us hl => match us, hl with | [_, _], _ => rfl), F.ok sc__law_alike_right (fun vs H Q E h => ?_) (fun cdv A outer s H vs Q E hr h => ?_)⟩
  · first | (obtain ⟨_, rfl, _⟩ := h; rfl) | (obtain ⟨rfl, _⟩ := h; rfl) | (obtain ⟨_, _, rfl, _⟩ := h; rfl) | (obtain ⟨_, _, _, rfl, _⟩ := h; rfl) | (obtain ⟨_, _, _, _, rfl, _⟩ := h; rfl) | (obtain ⟨_, _, _, _, _, rfl, _⟩ := h; rfl) | (obtain ⟨_, _, _, _, _, _, rfl, _⟩ := h; rfl) | (obtain ⟨_, _, _, _, _, _, _, rfl, _⟩ := h; rfl)
  have hu64 := hr.units
  refine ⟨_, pss_cons (ps_set (i := 2) sc__law_alike_right.nd rfl (Or.inl rfl) (pe_op op_add (pcl o__law_product (hr.mono (by decide)) pass0 (pa_cons (pv 0) (pa_cons (pe_int) pa_nil))) (pcl o__law_product (hr.mono (by decide)) pass0 (pa_cons (pv 1) (pa_cons (pe_int) pa_nil)))))
      (pss_cons (ps_if (pt_cmpR op_gt (pv 2) (pe_int) (nomark _)) (pss_one (ps_ret (pe_bl))) (pss_nil))
      (pss_one (ps_ret (pe_cmpR op_eq (pmt (j := 0) o_Sieve_leaves_alike T.c_Sieve (pmk (j := 0) o_Sieve (by decide) (hr.mono (by decide)) pass0 (pa_cons (pv 0) pa_nil)) (by decide) (hr.mono (by decide)) pass0 (pa_cons (pmk (j := 0) o_Sieve (by decide) (hr.mono (by decide)) pass0 (pa_cons (pv 1) pa_nil)) pa_nil)) (pe_cmpR (op_eqDk (K := K) rfl hu64) (pcl o__law_struck (hr.mono (by decide)) pass0 (pa_cons (pv 0) (pa_cons (pv 2) pa_nil))) (pcl o__law_struck (hr.mono (by decide)) pass0 (pa_cons (pv 1) (pa_cons (pv 2) pa_nil))) (nomark _)) (nomark _))))), ?_⟩
  obtain ⟨a, b, rfl, ks, js, ha, hb, hk, hj, lk, lj, k⟩ := h
  simp only [spLPrd, spSv, spAli, spStr, exists_and_left, tD1, rTupN, rAll, rMax2, rMin2, tSl, tPart, tNoPart, rSlLN, tYes, rLenS, rRepN, unset, tEv2, calmS, tRevG, tRevLN, cx_K, Value.ref.injEq, HO.xd.injEq, lk0, tSeq, tPar3, tPar, tCons, tNil, tVar, tC, tAsg, gName, gCons, gNil, gTupN, gSub, tOp, rI, rI0, rU, tTest, rNe, rEq, rIxTN, rIxLN, rLenL, rLenT, tLstRg, tRg1, tRg2, rIntI, rIntB, rAbs, rSetLN, tTruL, tRaiseX, rIsTy, rIsOw, ixN0, ixN1, tRet, tIf, tIfS, tNext, tBreak, tCont, tDrop, tTupN, tLstN, tUn, tCB, tCall, tNot, tAnd, tOr, tB, tAndV, tOrV, tNotV, tChain, tApp, LamX.tLam, tRevLN, rCatN, rInTN, rInLN, flatV, inV, List.all_cons, List.all_nil, List.any_cons, List.any_nil, Bool.and_self, Bool.and_true, if_true, Bool.false_eq_true, if_false, tMt, tFldN, tSto, HO.ins.injEq, lkh, List.drop_zero, List.drop_succ_cons, List.drop_nil, rListS, wipe, L2.start, List.map_cons, List.map_nil, List.length_cons, List.length_nil, List.replicate, List.cons_append, List.nil_append, List.append_nil, Nat.reduceAdd, Nat.reduceSub, Nat.zero_add, List.replicate_succ, List.replicate_zero, List.getElem?_cons_zero, List.getElem?_cons_succ, List.set_cons_zero, List.set_cons_succ, Option.some.injEq, V.int.injEq, V.bl.injEq, V.ref.injEq, V.str.injEq, V.ty.injEq, List.cons.injEq, HO.tup.injEq, HO.lst.injEq, and_true, true_and, and_assoc, exists_eq_left, exists_eq_left', exists_and_left, exists_eq', atI0, atI1, atI2, atI3, Int.cast_ofNat_Int, Int.reduceToNat, scal_ii, scal_in, scal_ni, scal_nn, scal_bb, scal_ss, scal_sn, scal_ns, scal_bn, scal_nb, ite_iff, decide_eq_true_eq, decide_eq_false_iff_not, Bool.not_eq_true', Classical.not_not, ne_eq, not_false_eq_true, not_true_eq_false, forall_const, true_implies, false_implies, imp_self, sizeLine_eq, Nat.reduceLeDiff, reduceCtorEq, decide_true, decide_false]
  have m0 : ∀ ks : List Int, ks.map (fun k => k - 0) = ks := fun ks => by simp
  refine ⟨ks, ha, hk, lk, by decide, by decide, js, hb, hj, lj, by decide, by decide, fun _ => k H fun _ _ h => h, fun c => ?_⟩
  rw [m0, m0] at c ⊢
  have b1 := prodL_5 hk.nine lk
  have b2 := prodL_5 hj.nine lj
  refine ⟨ks, .inl ha, hk, lk, fun x1 H1 n1 s1 v1 => ?_⟩
  obtain ⟨dx, q, h1, hq⟩ := id v1
  refine ⟨dx, _, h1, lkNo, js, .inl (s1 _ _ hb), hj, lj, fun x2 H2 n2 s2 v2 => ⟨ks, v1.same s2, js, v2, hk, hj, lk, lj, fun H3 s3 => ?_⟩⟩
  have s03 := (s1.trans s2).trans s3
  refine ⟨ks, s03 _ _ ha, hk, by omega, by omega, fun L1 H4 n4 s4 f4 => ⟨js, (s03.trans s4) _ _ hb, hj, by omega, by omega, fun L2 H5 n5 s5 f5 => eq_ints (s5 _ _ f4) f5 ⟨rfl, ?_⟩⟩⟩
  rw [alike_eq hk hj, decide_eq_true rfl]
  exact k H5 ((s03.trans s4).trans s5)

end
end Iz
/-! k85_c -/
set_option Elab.async false
set_option linter.all false
set_option maxRecDepth 100000
set_option maxHeartbeats 4000000
namespace Iz
open PySem PySem.Spec PyProof.Rows L2
open He (ga)
open SX (S S_len)
local macro_rules | `(tactic| walk_at "wp") => `(tactic| simp only [tD1, rTupN, rAll, rMax2, rMin2, tSl, tPart, tNoPart, rSlLN, tYes, rLenS, rRepN, unset, tEv2, calmS, tRevG, tRevLN, cx_K, Value.ref.injEq, HO.xd.injEq, lk0, tSeq, tPar3, tPar, tCons, tNil, tVar, tC, tAsg, gName, gCons, gNil, gTupN, gSub, tOp, rI, rI0, rU, tTest, rNe, rEq, rIxTN, rIxLN, rLenL, rLenT, tLstRg, tRg1, tRg2, rIntI, rIntB, rAbs, rSetLN, tTruL, tRaiseX, rIsTy, rIsOw, ixN0, ixN1, tRet, tIf, tIfS, tNext, tBreak, tCont, tDrop, tTupN, tLstN, tUn, tCB, tCall, tNot, tAnd, tOr, tB, tAndV, tOrV, tNotV, tChain, tApp, LamX.tLam, tRevLN, rCatN, rInTN, rInLN, flatV, inV, List.all_cons, List.all_nil, List.any_cons, List.any_nil, Bool.and_self, Bool.and_true, if_true, Bool.false_eq_true, if_false, tMt, tFldN, tSto, HO.ins.injEq, lkh, List.drop_zero, List.drop_succ_cons, List.drop_nil, rListS, wipe, L2.start, List.map_cons, List.map_nil, List.length_cons, List.length_nil, List.replicate, List.cons_append, List.nil_append, List.append_nil, Nat.reduceAdd, Nat.reduceSub, Nat.zero_add, List.replicate_succ, List.replicate_zero, List.getElem?_cons_zero, List.getElem?_cons_succ, List.set_cons_zero, List.set_cons_succ, Option.some.injEq, V.int.injEq, V.bl.injEq, V.ref.injEq, V.str.injEq, V.ty.injEq, List.cons.injEq, HO.tup.injEq, HO.lst.injEq, and_true, true_and, and_assoc, exists_eq_left, exists_eq_left', exists_and_left, exists_eq', atI0, atI1, atI2, atI3, Int.cast_ofNat_Int, Int.reduceToNat, scal_ii, scal_in, scal_ni, scal_nn, scal_bb, scal_ss, scal_sn, scal_ns, scal_bn, scal_nb, ite_iff, decide_eq_true_eq, decide_eq_false_iff_not, Bool.not_eq_true', Classical.not_not, ne_eq, not_false_eq_true, not_true_eq_false, forall_const, true_implies, false_implies, imp_self, sizeLine_eq, Nat.reduceLeDiff, reduceCtorEq, decide_true, decide_false])
section
variable {P : Program} {w : World} {K : PySem.W.Frag} {mg : Str → Option Value} {base : Heap}
theorem inV_i {x : Int} : ∀ {xs : List Int}, inV (.int x) (xs.map V.int) = decide (x ∈ xs)
  | [] => by simp [inV]
  | y :: ys => by
    have ih := inV_i (x := x) (xs := ys)
    unfold inV at ih ⊢
    rw [List.map_cons, List.any_cons, ih]
    by_cases h : y = x
    · subst h; simp [eqV]
    · have h2 : x ≠ y := fun e => h e.symm
      simp [eqV, h, h2]
theorem any_i {x : Int} {xs : List Int} : ((xs.map V.int).any fun y => eqV y (.int x)) = decide (x ∈ xs) := inV_i
theorem flat_i : ∀ {xs : List Int}, (xs.map V.int).all flatV = true
  | [] => rfl
  | y :: ys => by rw [List.map_cons, List.all_cons, flat_i]; rfl
theorem bel_0 {ks : List Int} (h : okK ks) : belL ks 0 = 0 := by
  have a := belL_pos h (show (0 : Int) ≤ 0 by omega)
  have b := belL_le h (show (0 : Int) ≤ 0 by omega)
  omega
def pLt (x : Int) : V → Bool
  | .int y => decide (y < x)
  | _ => false
def pGe (x : Int) : V → Bool
  | .int y => decide (x ≤ y)
  | _ => false
theorem filt_lt {x : Int} {zs : List Int} : ((zs.map V.int).filter (pLt x)).map id = (zs.filter fun y => decide (y < x)).map V.int := by
  rw [List.filter_map, List.map_id]; rfl
theorem filt_ge {x : Int} {zs : List Int} : ((zs.map V.int).filter (pGe x)).map id = (zs.filter fun y => decide (x ≤ y)).map V.int := by
  rw [List.filter_map, List.map_id]; rfl
theorem len_lt {ks : List Int} {N x : Int} (h : okK ks) (hN : 0 ≤ N) (hx : x ≤ N) : (((strL ks N).filter fun y => decide (y < x)).length : Int) = belL ks (max 0 x) := by
  rw [strL_below h hN, List.length_map, List.length_range]
  have a := belL_mono h (show 0 ≤ max 0 x by omega) (show max 0 x ≤ N by omega)
  have b := belL_pos h (show 0 ≤ max 0 x by omega)
  omega
theorem range_ge (c : Nat) : ∀ B : Nat, (List.range B).filter (fun n => decide (c ≤ n)) = (List.range (B - c)).map fun n => c + n
  | 0 => by simp
  | B + 1 => by
    rw [List.range_succ, List.filter_append, range_ge c B]
    by_cases h : c ≤ B
    · simp only [List.filter_cons, h, decide_true, if_true, List.filter_nil]
      rw [show B + 1 - c = (B - c) + 1 by omega, List.range_succ, List.map_append, List.map_singleton, show c + (B - c) = B by omega]
    · simp only [List.filter_cons, h, decide_false, List.filter_nil]
      rw [show B + 1 - c = 0 by omega, show B - c = 0 by omega]; simp
theorem strL_ge {ks : List Int} {N x : Int} (h : okK ks) : (strL ks N).filter (fun y => decide (x ≤ y)) = (List.range ((belL ks N).toNat - (belL ks (max 0 x)).toNat)).map fun (n : Nat) => nthL ks (((belL ks (max 0 x)).toNat + n : Nat) : Int) := by
  have e := range_ge (belL ks (max 0 x)).toNat (belL ks N).toNat
  have e2 := congrArg (List.map fun (n : Nat) => nthL ks (n : Int)) e
  rw [List.map_map] at e2
  unfold strL
  rw [List.filter_map]
  refine Eq.trans ?_ e2
  congr 1
  refine List.filter_congr fun n _ => ?_
  show decide (x ≤ nthL ks (n : Int)) = decide ((belL ks (max 0 x)).toNat ≤ n)
  have p := nthL_pos h (show (0 : Int) ≤ n by omega)
  have g := gal h (show (0 : Int) ≤ n by omega) (show 0 ≤ max 0 x by omega)
  have pb := belL_pos h (show 0 ≤ max 0 x by omega)
  rw [Bool.eq_iff_iff, decide_eq_true_iff, decide_eq_true_iff]
  constructor
  · intro q
    have : ¬ (n : Int) < belL ks (max 0 x) := fun z => by have := g.mpr z; omega
    omega
  · intro q
    have : ¬ nthL ks (n : Int) < max 0 x := fun z => by have := g.mp z; omega
    omega
theorem len_ge {ks : List Int} {N x y : Int} (h : okK ks) (hN : 0 ≤ N) (hx : x ≤ y) (hy : y ≤ N) : ((((strL ks N).filter fun z => decide (x ≤ z)).filter fun z => decide (z < y)).length : Int) = belL ks (max 0 y) - belL ks (max 0 x) := by
  have b0 := belL_pos h (show 0 ≤ max 0 x by omega)
  have b1 := belL_mono h (show 0 ≤ max 0 x by omega) (show max 0 x ≤ max 0 y by omega)
  have b2 := belL_mono h (show 0 ≤ max 0 y by omega) (show max 0 y ≤ N by omega)
  rw [strL_ge h, List.filter_map, List.length_map]
  have e : (List.range ((belL ks N).toNat - (belL ks (max 0 x)).toNat)).filter ((fun z => decide (z < y)) ∘ fun (n : Nat) => nthL ks (((belL ks (max 0 x)).toNat + n : Nat) : Int)) = (List.range ((belL ks N).toNat - (belL ks (max 0 x)).toNat)).filter fun n => decide (n < (belL ks (max 0 y)).toNat - (belL ks (max 0 x)).toNat) := by
    refine List.filter_congr fun n _ => ?_
    show decide (nthL ks (((belL ks (max 0 x)).toNat + n : Nat) : Int) < y) = _
    have p := nthL_pos h (show (0 : Int) ≤ (((belL ks (max 0 x)).toNat + n : Nat) : Int) by omega)
    have g := gal h (show (0 : Int) ≤ (((belL ks (max 0 x)).toNat + n : Nat) : Int) by omega) (show 0 ≤ max 0 y by omega)
    rw [Bool.eq_iff_iff, decide_eq_true_iff, decide_eq_true_iff]
    constructor
    · intro q
      have := g.mp (by omega)
      omega
    · intro q
      have := g.mpr (by omega)
      omega
  rw [e, range_lt, List.length_range]
  omega
theorem head_ge {ks : List Int} {N x z : Int} {r : List Int} (h : okK ks) (e : (strL ks N).filter (fun y => decide (x ≤ y)) = z :: r) : z = nthL ks (belL ks (max 0 x)) := by
  have pb := belL_pos h (show 0 ≤ max 0 x by omega)
  rw [strL_ge h] at e
  cases c : (belL ks N).toNat - (belL ks (max 0 x)).toNat with
  | zero => rw [c] at e; cases e
  | succ m =>
    rw [c, List.range_succ_eq_map, List.map_cons] at e
    have := (List.cons.inj e).1
    rw [← this, Nat.add_zero, show (((belL ks (max 0 x)).toNat : Nat) : Int) = belL ks (max 0 x) by omega]
theorem isL_in {ks : List Int} {N x : Int} (h : okK ks) (hN : 0 ≤ N) (hx : x < N) : decide (nthL ks (belL ks (max 0 x)) = x) = decide (x ∈ strL ks N) := by
  rw [Bool.eq_iff_iff, decide_eq_true_iff, decide_eq_true_iff, strL_mem h hN]
  have p := nthL_pos h (belL_pos h (show 0 ≤ max 0 x by omega))
  constructor
  · intro e
    have x0 : 0 ≤ x := by omega
    rw [show max 0 x = x by omega] at e
    exact ⟨x0, hx, e⟩
  · rintro ⟨x0, _, e⟩
    rw [show max 0 x = x by omega]
    exact e
theorem SqT.stp {H H' : Hp} {a q : Addr} {xs : List V} (h : SqT K H q xs) (t : StpP a H H') (P : Po H a) : SqT K H' q xs := by
  rcases h with (h | ⟨o, h⟩) | h
  · exact .inl (.inl (t.at P h fun g s q => by cases q))
  · exact .inl (.inr ⟨o, t.at P h fun g s q => by cases q⟩)
  · exact .inr h
theorem SvA.stp {H H' : Hp} {a s : Addr} {ks : List Int} (h : SvA K H s ks) (t : StpP a H H') (P : Po H a) : SvA K H' s ks := let ⟨dx, q, h1, h2⟩ := h; ⟨dx, q, t.at P h1 (fun g s q => by cases q), SqT.stp h2 t P⟩
def spNR (K : PySem.W.Frag) : Sp := fun vs H Q _ => ∃ a s L, vs = [.ref a, .ref s, .ref L, .int 160] ∧ ∃ ks : List Int, Po H a ∧ SvA K H s ks ∧ okK ks ∧ ks.length ≤ 5 ∧ H L = some (.lst ((strL ks 160).map V.int)) ∧ L ≠ a ∧ ∀ H', Po H' a → StpP a H H' → Q (.bl true) H'
theorem o__law_near_right (T : Txt K mg) : OkF P w K mg base CX0 7 "_law_near_right" ["_law_pool_here", "_law_sieve", "_law_left", "_law_many"] (spNR K) := by
  have o__law_draw := o__law_draw (P := P) (w := w) (base := base) T
  have o_Sieve_is_left := o_Sieve_is_left (P := P) (w := w) (base := base) T
  have o_Sieve_left_below := o_Sieve_left_below (P := P) (w := w) (base := base) T
  have o_Sieve_place_of := o_Sieve_place_of (P := P) (w := w) (base := base) T
  have o_Sieve_next_left := o_Sieve_next_left (P := P) (w := w) (base := base) T
  have o_Sieve_left_in := o_Sieve_left_in (P := P) (w := w) (base := base) T
  have o_Stretch := o_Stretch (P := P) (w := w) (base := base) T
  obtain ⟨f, fd, g, F⟩ := T.d__law_near_right
  refine ⟨f, fd, g, F.kp, F.binds (fun _ _ _ _ _ _ us hl => match us, hl with | [_, _, _, _], _ => rfl), F.ok sc__law_near_right (fun vs H Q E h => ?_) (fun cdv A outer s H vs Q E hr h => ?_)⟩
  · first | (obtain ⟨_, rfl, _⟩ := h; rfl) | (obtain ⟨rfl, _⟩ := h; rfl) | (obtain ⟨_, _, rfl, _⟩ := h; rfl) | (obtain ⟨_, _, _, rfl, _⟩ := h; rfl) | (obtain ⟨_, _, _, _, rfl, _⟩ := h; rfl) | (obtain ⟨_, _, _, _, _, rfl, _⟩ := h; rfl) | (obtain ⟨_, _, _, _, _, _, rfl, _⟩ := h; rfl) | (obtain ⟨_, _, _, _, _, _, _, rfl, _⟩ := h; rfl)
  have hu64 := hr.units
  refine ⟨_, pss_cons (ps_for PassesOwn.never rfl (pi_range1 rfl T.m_range (pa_cons (pe_int) pa_nil)) (pg_name (i := 4) sc__law_near_right.nd rfl (Or.inl rfl)) (pss_cons (ps_set (i := 5) sc__law_near_right.nd rfl (Or.inr rfl) (pe_op op_sub (pcl o__law_draw (hr.mono (by decide)) pass0 (pa_cons (pv 0) (pa_cons (pe_op op_sub (pv 3) (pe_int)) pa_nil))) (pe_int)))
      (pss_cons (ps_setLc (i := 6) (own := [("_law_one", 9)]) (g := gName 9) (by rfl) sc__law_near_right.nd rfl rfl (sw_true rfl rfl rfl (by decide +kernel)) (pi_list (pv 2)) (blkOk_by (N := ["_law_pool_here", "_law_sieve", "_law_left", "_law_many", "_law_turn", "_law_x", "_law_below", "_law_behind", "_law_high", "_law_one"]) (sc := defScope s__law_near_right) (own := [("_law_one", 9)]) (by decide +kernel)) (fun _ _ _ _ _ => pg_name (i := 9) sc__law_near_right.nd rfl (Or.inl rfl)) (fun _ _ _ _ _ => pts_one (pt_cmpR op_lt (pv 9) (pv 5) (nomark _))) (fun _ _ _ _ _ => pv 9))
      (pss_cons (ps_cut (ps_if (PW.pt (pw_or (pt_cmpR op_ne (pmt (j := 0) o_Sieve_is_left T.c_Sieve (pv 1) (by decide) (hr.mono (by decide)) pass0 (pa_cons (pv 5) pa_nil)) (pe_cmpR op_inLN (pv 5) (pv 2) (by rfl)) (nomark _)) (pw_or1 (pt_cmpR op_ne (pmt (j := 0) o_Sieve_left_below T.c_Sieve (pv 1) (by decide) (hr.mono (by decide)) pass0 (pa_cons (pv 5) pa_nil)) (pe_callB call_lenL (by rfl) T.m_len (by decide +kernel) (pa_cons (pv 6) pa_nil)) (nomark _))))) (pss_one (ps_ret (pe_bl))) (pss_nil)))
      (pss_cons (ps_cut (ps_if (pt_cmpR op_ne (pmt (j := 0) o_Sieve_place_of T.c_Sieve (pv 1) (by decide) (hr.mono (by decide)) pass0 (pa_cons (pv 5) pa_nil)) (pe_ifExp (pt_cmpR op_inLN (pv 5) (pv 2) (by rfl)) (pe_callB call_lenL (by rfl) T.m_len (by decide +kernel) (pa_cons (pv 6) pa_nil)) (pe_non)) (nomark _)) (pss_one (ps_ret (pe_bl))) (pss_nil)))
      (pss_cons (ps_setLc (i := 7) (own := [("_law_one", 9)]) (g := gName 9) (by rfl) sc__law_near_right.nd rfl rfl (sw_true rfl rfl rfl (by decide +kernel)) (pi_list (pv 2)) (blkOk_by (N := ["_law_pool_here", "_law_sieve", "_law_left", "_law_many", "_law_turn", "_law_x", "_law_below", "_law_behind", "_law_high", "_law_one"]) (sc := defScope s__law_near_right) (own := [("_law_one", 9)]) (by decide +kernel)) (fun _ _ _ _ _ => pg_name (i := 9) sc__law_near_right.nd rfl (Or.inl rfl)) (fun _ _ _ _ _ => pts_one (pt_cmpR op_ge (pv 9) (pv 5) (nomark _))) (fun _ _ _ _ _ => pv 9))
      (pss_cons (ps_cut (ps_if (PW.pt (pw_and (pt_cmpR (op_neDk (K := K) rfl hu64) (pv 7) (pe_lstN (pa_nil)) (nomark _)) (pw_and1 (pt_cmpR op_ne (pmt (j := 0) o_Sieve_next_left T.c_Sieve (pv 1) (by decide) (hr.mono (by decide)) pass0 (pa_cons (pv 5) pa_nil)) (pe_ix ix_listN (pv 7) (pe_int) (fun _ _ => rfl)) (nomark _))))) (pss_one (ps_ret (pe_bl))) (pss_nil)))
      (pss_cons (ps_set (i := 8) sc__law_near_right.nd rfl (Or.inr rfl) (pe_op op_add (pe_op op_add (pv 5) (pe_int)) (pcl o__law_draw (hr.mono (by decide)) pass0 (pa_cons (pv 0) (pa_cons (pe_int) pa_nil)))))
      (pss_cons (ps_cut (ps_if (pt_cmpR op_ne (pmt (j := 0) o_Sieve_left_in T.c_Sieve (pv 1) (by decide) (hr.mono (by decide)) pass0 (pa_cons (pmk (j := 2) o_Stretch (by decide) (hr.mono (by decide)) pass0 (pa_cons (pv 5) (pa_cons (pv 8) pa_nil))) pa_nil)) (pe_callB call_lenL (by rfl) T.m_len (by decide +kernel) (pa_cons (pe_lc (own := [("_law_one", 9)]) (g := gName 9) (by rfl) sc__law_near_right.nd (pi_list (pv 7)) (blkOk_by (N := ["_law_pool_here", "_law_sieve", "_law_left", "_law_many", "_law_turn", "_law_x", "_law_below", "_law_behind", "_law_high", "_law_one"]) (sc := defScope s__law_near_right) (own := [("_law_one", 9)]) (by decide +kernel)) (fun _ _ _ _ _ => pg_name (i := 9) sc__law_near_right.nd rfl (Or.inl rfl)) (fun _ _ _ _ _ => pts_one (pt_cmpR op_lt (pv 9) (pv 8) (nomark _))) (fun _ _ _ _ _ => pv 9)) pa_nil)) (nomark _)) (pss_one (ps_ret (pe_bl))) (pss_nil)))
      (pss_one (ps_if (pt_cmpR op_ne (pmt (j := 0) o_Sieve_left_in T.c_Sieve (pv 1) (by decide) (hr.mono (by decide)) pass0 (pa_cons (pmk (j := 2) o_Stretch (by decide) (hr.mono (by decide)) pass0 (pa_cons (pe_non) (pa_cons (pv 8) pa_nil))) pa_nil)) (pe_callB call_lenL (by rfl) T.m_len (by decide +kernel) (pa_cons (pe_lc (own := [("_law_one", 9)]) (g := gName 9) (by rfl) sc__law_near_right.nd (pi_list (pv 2)) (blkOk_by (N := ["_law_pool_here", "_law_sieve", "_law_left", "_law_many", "_law_turn", "_law_x", "_law_below", "_law_behind", "_law_high", "_law_one"]) (sc := defScope s__law_near_right) (own := [("_law_one", 9)]) (by decide +kernel)) (fun _ _ _ _ _ => pg_name (i := 9) sc__law_near_right.nd rfl (Or.inl rfl)) (fun _ _ _ _ _ => pts_one (pt_cmpR op_lt (pv 9) (pv 8) (nomark _))) (fun _ _ _ _ _ => pv 9)) pa_nil)) (nomark _)) (pss_one (ps_ret (pe_bl))) (pss_nil))))))))))))
      (pss_one (ps_ret (pe_and (pe_cmpR op_isN (pmt (j := 0) o_Sieve_left_in T.c_Sieve (pv 1) (by decide) (hr.mono (by decide)) pass0 (pa_cons (pmk (j := 2) o_Stretch (by decide) (hr.mono (by decide)) pass0 (pa_cons (pe_int) (pa_cons (pe_non) pa_nil))) pa_nil)) (pe_non) (nomark _)) (pe_one (pe_cmpR op_isN (pmt (j := 0) o_Sieve_left_in T.c_Sieve (pv 1) (by decide) (hr.mono (by decide)) pass0 (pa_cons (pmk0 (j := 0) o_Stretch (by decide) (hr.mono (by decide)) pass0) pa_nil)) (pe_non) (nomark _)))))), ?_⟩
  obtain ⟨a, s, L, rfl, ks, hP, hv, hk, lk, hL, La, k⟩ := h
  simp only [exists_and_left, tD1, rTupN, rAll, rMax2, rMin2, tSl, tPart, tNoPart, rSlLN, tYes, rLenS, rRepN, unset, tEv2, calmS, tRevG, tRevLN, cx_K, Value.ref.injEq, HO.xd.injEq, lk0, tSeq, tPar3, tPar, tCons, tNil, tVar, tC, tAsg, gName, gCons, gNil, gTupN, gSub, tOp, rI, rI0, rU, tTest, rNe, rEq, rIxTN, rIxLN, rLenL, rLenT, tLstRg, tRg1, tRg2, rIntI, rIntB, rAbs, rSetLN, tTruL, tRaiseX, rIsTy, rIsOw, ixN0, ixN1, tRet, tIf, tIfS, tNext, tBreak, tCont, tDrop, tTupN, tLstN, tUn, tCB, tCall, tNot, tAnd, tOr, tB, tAndV, tOrV, tNotV, tChain, tApp, LamX.tLam, tRevLN, rCatN, rInTN, rInLN, flatV, inV, List.all_cons, List.all_nil, List.any_cons, List.any_nil, Bool.and_self, Bool.and_true, if_true, Bool.false_eq_true, if_false, tMt, tFldN, tSto, HO.ins.injEq, lkh, List.drop_zero, List.drop_succ_cons, List.drop_nil, rListS, wipe, L2.start, List.map_cons, List.map_nil, List.length_cons, List.length_nil, List.replicate, List.cons_append, List.nil_append, List.append_nil, Nat.reduceAdd, Nat.reduceSub, Nat.zero_add, List.replicate_succ, List.replicate_zero, List.getElem?_cons_zero, List.getElem?_cons_succ, List.set_cons_zero, List.set_cons_succ, Option.some.injEq, V.int.injEq, V.bl.injEq, V.ref.injEq, V.str.injEq, V.ty.injEq, List.cons.injEq, HO.tup.injEq, HO.lst.injEq, and_true, true_and, and_assoc, exists_eq_left, exists_eq_left', exists_and_left, exists_eq', atI0, atI1, atI2, atI3, Int.cast_ofNat_Int, Int.reduceToNat, scal_ii, scal_in, scal_ni, scal_nn, scal_bb, scal_ss, scal_sn, scal_ns, scal_bn, scal_nb, ite_iff, decide_eq_true_eq, decide_eq_false_iff_not, Bool.not_eq_true', Classical.not_not, ne_eq, not_false_eq_true, not_true_eq_false, forall_const, true_implies, false_implies, imp_self, sizeLine_eq, Nat.reduceLeDiff, reduceCtorEq, decide_true, decide_false]
  refine st_forR1 12 (by decide) (fun R r => r) (fun i σ' H' => (∃ x4 x5 x6 x7 x8 x9, σ' = [some (V.ref a), some (V.ref s), some (V.ref L), some (V.int 160), x4, x5, x6, x7, x8, x9]) ∧ Po H' a ∧ StpP a H H') ⟨⟨_, _, _, _, _, _, rfl⟩, hP, StpP.refl⟩ ?_ ?_
  · rintro i _ H1 hi ⟨⟨x4, x5, x6, x7, x8, x9, rfl⟩, P1, t1⟩
    simp only [spDraw, exists_and_left, tD1, rTupN, rAll, rMax2, rMin2, tSl, tPart, tNoPart, rSlLN, tYes, rLenS, rRepN, unset, tEv2, calmS, tRevG, tRevLN, cx_K, Value.ref.injEq, HO.xd.injEq, lk0, tSeq, tPar3, tPar, tCons, tNil, tVar, tC, tAsg, gName, gCons, gNil, gTupN, gSub, tOp, rI, rI0, rU, tTest, rNe, rEq, rIxTN, rIxLN, rLenL, rLenT, tLstRg, tRg1, tRg2, rIntI, rIntB, rAbs, rSetLN, tTruL, tRaiseX, rIsTy, rIsOw, ixN0, ixN1, tRet, tIf, tIfS, tNext, tBreak, tCont, tDrop, tTupN, tLstN, tUn, tCB, tCall, tNot, tAnd, tOr, tB, tAndV, tOrV, tNotV, tChain, tApp, LamX.tLam, tRevLN, rCatN, rInTN, rInLN, flatV, inV, List.all_cons, List.all_nil, List.any_cons, List.any_nil, Bool.and_self, Bool.and_true, if_true, Bool.false_eq_true, if_false, tMt, tFldN, tSto, HO.ins.injEq, lkh, List.drop_zero, List.drop_succ_cons, List.drop_nil, rListS, wipe, L2.start, List.map_cons, List.map_nil, List.length_cons, List.length_nil, List.replicate, List.cons_append, List.nil_append, List.append_nil, Nat.reduceAdd, Nat.reduceSub, Nat.zero_add, List.replicate_succ, List.replicate_zero, List.getElem?_cons_zero, List.getElem?_cons_succ, List.set_cons_zero, List.set_cons_succ, Option.some.injEq, V.int.injEq, V.bl.injEq, V.ref.injEq, V.str.injEq, V.ty.injEq, List.cons.injEq, HO.tup.injEq, HO.lst.injEq, and_true, true_and, and_assoc, exists_eq_left, exists_eq_left', exists_and_left, exists_eq', atI0, atI1, atI2, atI3, Int.cast_ofNat_Int, Int.reduceToNat, scal_ii, scal_in, scal_ni, scal_nn, scal_bb, scal_ss, scal_sn, scal_ns, scal_bn, scal_nb, ite_iff, decide_eq_true_eq, decide_eq_false_iff_not, Bool.not_eq_true', Classical.not_not, ne_eq, not_false_eq_true, not_true_eq_false, forall_const, true_implies, false_implies, imp_self, sizeLine_eq, Nat.reduceLeDiff, reduceCtorEq, decide_true, decide_false]
    refine ⟨P1, by decide, by decide, fun d H2 d0 d1 P2 t2 => ?_⟩
    have t02 := t1.trans t2
    have hL2 := t02 _ _ hL La
    have hv2 := hv.stp t02 hP
    generalize hx : d - 6 = x
    have xb : -6 ≤ x ∧ x ≤ 133 := by omega
    have ln : ((strL ks 160).map V.int).length ≤ sizeLine := by
      rw [List.length_map, strL_len]
      have := belL_le hk (show (0 : Int) ≤ 160 by decide)
      show _ ≤ 16777216; omega
    refine st_lcLF (fun R r => ⟨_, rfl, r⟩) hL2 ln (pLt x) id ?_ ?_
    · intro z H3 A B hz s3 hA hB
      obtain ⟨y, hy, rfl⟩ := List.mem_map.mp hz
      simp only [exists_and_left, tD1, rTupN, rAll, rMax2, rMin2, tSl, tPart, tNoPart, rSlLN, tYes, rLenS, rRepN, unset, tEv2, calmS, tRevG, tRevLN, cx_K, Value.ref.injEq, HO.xd.injEq, lk0, tSeq, tPar3, tPar, tCons, tNil, tVar, tC, tAsg, gName, gCons, gNil, gTupN, gSub, tOp, rI, rI0, rU, tTest, rNe, rEq, rIxTN, rIxLN, rLenL, rLenT, tLstRg, tRg1, tRg2, rIntI, rIntB, rAbs, rSetLN, tTruL, tRaiseX, rIsTy, rIsOw, ixN0, ixN1, tRet, tIf, tIfS, tNext, tBreak, tCont, tDrop, tTupN, tLstN, tUn, tCB, tCall, tNot, tAnd, tOr, tB, tAndV, tOrV, tNotV, tChain, tApp, LamX.tLam, tRevLN, rCatN, rInTN, rInLN, flatV, inV, List.all_cons, List.all_nil, List.any_cons, List.any_nil, Bool.and_self, Bool.and_true, if_true, Bool.false_eq_true, if_false, tMt, tFldN, tSto, HO.ins.injEq, lkh, List.drop_zero, List.drop_succ_cons, List.drop_nil, rListS, wipe, L2.start, List.map_cons, List.map_nil, List.length_cons, List.length_nil, List.replicate, List.cons_append, List.nil_append, List.append_nil, Nat.reduceAdd, Nat.reduceSub, Nat.zero_add, List.replicate_succ, List.replicate_zero, List.getElem?_cons_zero, List.getElem?_cons_succ, List.set_cons_zero, List.set_cons_succ, Option.some.injEq, V.int.injEq, V.bl.injEq, V.ref.injEq, V.str.injEq, V.ty.injEq, List.cons.injEq, HO.tup.injEq, HO.lst.injEq, and_true, true_and, and_assoc, exists_eq_left, exists_eq_left', exists_and_left, exists_eq', atI0, atI1, atI2, atI3, Int.cast_ofNat_Int, Int.reduceToNat, scal_ii, scal_in, scal_ni, scal_nn, scal_bb, scal_ss, scal_sn, scal_ns, scal_bn, scal_nb, ite_iff, decide_eq_true_eq, decide_eq_false_iff_not, Bool.not_eq_true', Classical.not_not, ne_eq, not_false_eq_true, not_true_eq_false, forall_const, true_implies, false_implies, imp_self, sizeLine_eq, Nat.reduceLeDiff, reduceCtorEq, decide_true, decide_false]
      exact ⟨fun c => hB (decide_eq_true c) _ fun _ _ h => h, fun c => hA (decide_eq_false c) _ fun _ _ h => h⟩
    · intro Bl H3 n3 s3 f3
      rw [filt_lt] at f3
      have hv3 := hv2.same s3
      obtain ⟨dx, q, hs3, hq3⟩ := id hv3
      refine ⟨fun σ' H' => σ' = [some (V.ref a), some (V.ref s), some (V.ref L), some (V.int 160), some (V.int i), some (V.int x), some (V.ref Bl), x7, x8, x9] ∧ Same H3 H', ?_, ?_⟩
      · simp only [spIsL, spBel, exists_and_left, tD1, rTupN, rAll, rMax2, rMin2, tSl, tPart, tNoPart, rSlLN, tYes, rLenS, rRepN, unset, tEv2, calmS, tRevG, tRevLN, cx_K, Value.ref.injEq, HO.xd.injEq, lk0, tSeq, tPar3, tPar, tCons, tNil, tVar, tC, tAsg, gName, gCons, gNil, gTupN, gSub, tOp, rI, rI0, rU, tTest, rNe, rEq, rIxTN, rIxLN, rLenL, rLenT, tLstRg, tRg1, tRg2, rIntI, rIntB, rAbs, rSetLN, tTruL, tRaiseX, rIsTy, rIsOw, ixN0, ixN1, tRet, tIf, tIfS, tNext, tBreak, tCont, tDrop, tTupN, tLstN, tUn, tCB, tCall, tNot, tAnd, tOr, tB, tAndV, tOrV, tNotV, tChain, tApp, LamX.tLam, tRevLN, rCatN, rInTN, rInLN, flatV, inV, List.all_cons, List.all_nil, List.any_cons, List.any_nil, Bool.and_self, Bool.and_true, if_true, Bool.false_eq_true, if_false, tMt, tFldN, tSto, HO.ins.injEq, lkh, List.drop_zero, List.drop_succ_cons, List.drop_nil, rListS, wipe, L2.start, List.map_cons, List.map_nil, List.length_cons, List.length_nil, List.replicate, List.cons_append, List.nil_append, List.append_nil, Nat.reduceAdd, Nat.reduceSub, Nat.zero_add, List.replicate_succ, List.replicate_zero, List.getElem?_cons_zero, List.getElem?_cons_succ, List.set_cons_zero, List.set_cons_succ, Option.some.injEq, V.int.injEq, V.bl.injEq, V.ref.injEq, V.str.injEq, V.ty.injEq, List.cons.injEq, HO.tup.injEq, HO.lst.injEq, and_true, true_and, and_assoc, exists_eq_left, exists_eq_left', exists_and_left, exists_eq', atI0, atI1, atI2, atI3, Int.cast_ofNat_Int, Int.reduceToNat, scal_ii, scal_in, scal_ni, scal_nn, scal_bb, scal_ss, scal_sn, scal_ns, scal_bn, scal_nb, ite_iff, decide_eq_true_eq, decide_eq_false_iff_not, Bool.not_eq_true', Classical.not_not, ne_eq, not_false_eq_true, not_true_eq_false, forall_const, true_implies, false_implies, imp_self, sizeLine_eq, Nat.reduceLeDiff, reduceCtorEq, decide_true, decide_false]
        refine ⟨dx, _, hs3, lkNo, ks, hv3, hk, wh_int, fun H' s' => ⟨_, (s3.trans s') _ _ hL2, flat_i, fun c => absurd ?_ c, fun _ => ⟨dx, _, s' _ _ hs3, lkNo, ks, hv3.same s', hk, _, s' _ _ f3, fun c => absurd ?_ c, fun _ => s'⟩⟩⟩
        · rw [any_i]; exact isL_in hk (by decide) (by omega)
        · rw [List.length_map]; exact (len_lt hk (by decide) (by omega)).symm
      · rintro _ H4 ⟨rfl, s4⟩
        have hv4 := hv3.same s4
        simp only [exists_and_left, tD1, rTupN, rAll, rMax2, rMin2, tSl, tPart, tNoPart, rSlLN, tYes, rLenS, rRepN, unset, tEv2, calmS, tRevG, tRevLN, cx_K, Value.ref.injEq, HO.xd.injEq, lk0, tSeq, tPar3, tPar, tCons, tNil, tVar, tC, tAsg, gName, gCons, gNil, gTupN, gSub, tOp, rI, rI0, rU, tTest, rNe, rEq, rIxTN, rIxLN, rLenL, rLenT, tLstRg, tRg1, tRg2, rIntI, rIntB, rAbs, rSetLN, tTruL, tRaiseX, rIsTy, rIsOw, ixN0, ixN1, tRet, tIf, tIfS, tNext, tBreak, tCont, tDrop, tTupN, tLstN, tUn, tCB, tCall, tNot, tAnd, tOr, tB, tAndV, tOrV, tNotV, tChain, tApp, LamX.tLam, tRevLN, rCatN, rInTN, rInLN, flatV, inV, List.all_cons, List.all_nil, List.any_cons, List.any_nil, Bool.and_self, Bool.and_true, if_true, Bool.false_eq_true, if_false, tMt, tFldN, tSto, HO.ins.injEq, lkh, List.drop_zero, List.drop_succ_cons, List.drop_nil, rListS, wipe, L2.start, List.map_cons, List.map_nil, List.length_cons, List.length_nil, List.replicate, List.cons_append, List.nil_append, List.append_nil, Nat.reduceAdd, Nat.reduceSub, Nat.zero_add, List.replicate_succ, List.replicate_zero, List.getElem?_cons_zero, List.getElem?_cons_succ, List.set_cons_zero, List.set_cons_succ, Option.some.injEq, V.int.injEq, V.bl.injEq, V.ref.injEq, V.str.injEq, V.ty.injEq, List.cons.injEq, HO.tup.injEq, HO.lst.injEq, and_true, true_and, and_assoc, exists_eq_left, exists_eq_left', exists_and_left, exists_eq', atI0, atI1, atI2, atI3, Int.cast_ofNat_Int, Int.reduceToNat, scal_ii, scal_in, scal_ni, scal_nn, scal_bb, scal_ss, scal_sn, scal_ns, scal_bn, scal_nb, ite_iff, decide_eq_true_eq, decide_eq_false_iff_not, Bool.not_eq_true', Classical.not_not, ne_eq, not_false_eq_true, not_true_eq_false, forall_const, true_implies, false_implies, imp_self, sizeLine_eq, Nat.reduceLeDiff, reduceCtorEq, decide_true, decide_false]
        refine ⟨fun σ' H' => σ' = [some (V.ref a), some (V.ref s), some (V.ref L), some (V.int 160), some (V.int i), some (V.int x), some (V.ref Bl), x7, x8, x9] ∧ Same H4 H', ?_, ?_⟩
        · simp only [spPlace, exists_and_left, tD1, rTupN, rAll, rMax2, rMin2, tSl, tPart, tNoPart, rSlLN, tYes, rLenS, rRepN, unset, tEv2, calmS, tRevG, tRevLN, cx_K, Value.ref.injEq, HO.xd.injEq, lk0, tSeq, tPar3, tPar, tCons, tNil, tVar, tC, tAsg, gName, gCons, gNil, gTupN, gSub, tOp, rI, rI0, rU, tTest, rNe, rEq, rIxTN, rIxLN, rLenL, rLenT, tLstRg, tRg1, tRg2, rIntI, rIntB, rAbs, rSetLN, tTruL, tRaiseX, rIsTy, rIsOw, ixN0, ixN1, tRet, tIf, tIfS, tNext, tBreak, tCont, tDrop, tTupN, tLstN, tUn, tCB, tCall, tNot, tAnd, tOr, tB, tAndV, tOrV, tNotV, tChain, tApp, LamX.tLam, tRevLN, rCatN, rInTN, rInLN, flatV, inV, List.all_cons, List.all_nil, List.any_cons, List.any_nil, Bool.and_self, Bool.and_true, if_true, Bool.false_eq_true, if_false, tMt, tFldN, tSto, HO.ins.injEq, lkh, List.drop_zero, List.drop_succ_cons, List.drop_nil, rListS, wipe, L2.start, List.map_cons, List.map_nil, List.length_cons, List.length_nil, List.replicate, List.cons_append, List.nil_append, List.append_nil, Nat.reduceAdd, Nat.reduceSub, Nat.zero_add, List.replicate_succ, List.replicate_zero, List.getElem?_cons_zero, List.getElem?_cons_succ, List.set_cons_zero, List.set_cons_succ, Option.some.injEq, V.int.injEq, V.bl.injEq, V.ref.injEq, V.str.injEq, V.ty.injEq, List.cons.injEq, HO.tup.injEq, HO.lst.injEq, and_true, true_and, and_assoc, exists_eq_left, exists_eq_left', exists_and_left, exists_eq', atI0, atI1, atI2, atI3, Int.cast_ofNat_Int, Int.reduceToNat, scal_ii, scal_in, scal_ni, scal_nn, scal_bb, scal_ss, scal_sn, scal_ns, scal_bn, scal_nb, ite_iff, decide_eq_true_eq, decide_eq_false_iff_not, Bool.not_eq_true', Classical.not_not, ne_eq, not_false_eq_true, not_true_eq_false, forall_const, true_implies, false_implies, imp_self, sizeLine_eq, Nat.reduceLeDiff, reduceCtorEq, decide_true, decide_false]
          refine ⟨dx, _, s4 _ _ hs3, lkNo, ks, hv4, hk, fun H' s' => ⟨_, ((s3.trans s4).trans s') _ _ hL2, flat_i, fun c => ?_, fun c => ?_⟩⟩
          · rw [any_i] at c
            have e : nthL ks (belL ks (max 0 x)) = x := of_decide_eq_true ((isL_in hk (by decide) (by omega)).trans c)
            rw [if_pos e]
            refine ⟨_, s' _ _ (s4 _ _ f3), rfl, fun c => absurd ?_ c, fun _ => s'⟩
            rw [List.length_map, len_lt hk (by decide) (by omega)]
          · rw [any_i] at c
            have e : ¬ nthL ks (belL ks (max 0 x)) = x := fun e => c ((isL_in hk (by decide) (by omega)).symm.trans (decide_eq_true e))
            rw [if_neg e]
            exact ⟨rfl, fun c => absurd rfl c, fun _ => s'⟩
        · rintro _ H5 ⟨rfl, s5⟩
          have s25 := (s3.trans s4).trans s5
          have hv5 := hv4.same s5
          simp only [exists_and_left, tD1, rTupN, rAll, rMax2, rMin2, tSl, tPart, tNoPart, rSlLN, tYes, rLenS, rRepN, unset, tEv2, calmS, tRevG, tRevLN, cx_K, Value.ref.injEq, HO.xd.injEq, lk0, tSeq, tPar3, tPar, tCons, tNil, tVar, tC, tAsg, gName, gCons, gNil, gTupN, gSub, tOp, rI, rI0, rU, tTest, rNe, rEq, rIxTN, rIxLN, rLenL, rLenT, tLstRg, tRg1, tRg2, rIntI, rIntB, rAbs, rSetLN, tTruL, tRaiseX, rIsTy, rIsOw, ixN0, ixN1, tRet, tIf, tIfS, tNext, tBreak, tCont, tDrop, tTupN, tLstN, tUn, tCB, tCall, tNot, tAnd, tOr, tB, tAndV, tOrV, tNotV, tChain, tApp, LamX.tLam, tRevLN, rCatN, rInTN, rInLN, flatV, inV, List.all_cons, List.all_nil, List.any_cons, List.any_nil, Bool.and_self, Bool.and_true, if_true, Bool.false_eq_true, if_false, tMt, tFldN, tSto, HO.ins.injEq, lkh, List.drop_zero, List.drop_succ_cons, List.drop_nil, rListS, wipe, L2.start, List.map_cons, List.map_nil, List.length_cons, List.length_nil, List.replicate, List.cons_append, List.nil_append, List.append_nil, Nat.reduceAdd, Nat.reduceSub, Nat.zero_add, List.replicate_succ, List.replicate_zero, List.getElem?_cons_zero, List.getElem?_cons_succ, List.set_cons_zero, List.set_cons_succ, Option.some.injEq, V.int.injEq, V.bl.injEq, V.ref.injEq, V.str.injEq, V.ty.injEq, List.cons.injEq, HO.tup.injEq, HO.lst.injEq, and_true, true_and, and_assoc, exists_eq_left, exists_eq_left', exists_and_left, exists_eq', atI0, atI1, atI2, atI3, Int.cast_ofNat_Int, Int.reduceToNat, scal_ii, scal_in, scal_ni, scal_nn, scal_bb, scal_ss, scal_sn, scal_ns, scal_bn, scal_nb, ite_iff, decide_eq_true_eq, decide_eq_false_iff_not, Bool.not_eq_true', Classical.not_not, ne_eq, not_false_eq_true, not_true_eq_false, forall_const, true_implies, false_implies, imp_self, sizeLine_eq, Nat.reduceLeDiff, reduceCtorEq, decide_true, decide_false]
          refine st_lcLF (fun R r => ⟨_, rfl, r⟩) (s25 _ _ hL2) ln (pGe x) id ?_ ?_
          · intro z H3 A B hz s3 hA hB
            obtain ⟨y, hy, rfl⟩ := List.mem_map.mp hz
            simp only [exists_and_left, tD1, rTupN, rAll, rMax2, rMin2, tSl, tPart, tNoPart, rSlLN, tYes, rLenS, rRepN, unset, tEv2, calmS, tRevG, tRevLN, cx_K, Value.ref.injEq, HO.xd.injEq, lk0, tSeq, tPar3, tPar, tCons, tNil, tVar, tC, tAsg, gName, gCons, gNil, gTupN, gSub, tOp, rI, rI0, rU, tTest, rNe, rEq, rIxTN, rIxLN, rLenL, rLenT, tLstRg, tRg1, tRg2, rIntI, rIntB, rAbs, rSetLN, tTruL, tRaiseX, rIsTy, rIsOw, ixN0, ixN1, tRet, tIf, tIfS, tNext, tBreak, tCont, tDrop, tTupN, tLstN, tUn, tCB, tCall, tNot, tAnd, tOr, tB, tAndV, tOrV, tNotV, tChain, tApp, LamX.tLam, tRevLN, rCatN, rInTN, rInLN, flatV, inV, List.all_cons, List.all_nil, List.any_cons, List.any_nil, Bool.and_self, Bool.and_true, if_true, Bool.false_eq_true, if_false, tMt, tFldN, tSto, HO.ins.injEq, lkh, List.drop_zero, List.drop_succ_cons, List.drop_nil, rListS, wipe, L2.start, List.map_cons, List.map_nil, List.length_cons, List.length_nil, List.replicate, List.cons_append, List.nil_append, List.append_nil, Nat.reduceAdd, Nat.reduceSub, Nat.zero_add, List.replicate_succ, List.replicate_zero, List.getElem?_cons_zero, List.getElem?_cons_succ, List.set_cons_zero, List.set_cons_succ, Option.some.injEq, V.int.injEq, V.bl.injEq, V.ref.injEq, V.str.injEq, V.ty.injEq, List.cons.injEq, HO.tup.injEq, HO.lst.injEq, and_true, true_and, and_assoc, exists_eq_left, exists_eq_left', exists_and_left, exists_eq', atI0, atI1, atI2, atI3, Int.cast_ofNat_Int, Int.reduceToNat, scal_ii, scal_in, scal_ni, scal_nn, scal_bb, scal_ss, scal_sn, scal_ns, scal_bn, scal_nb, ite_iff, decide_eq_true_eq, decide_eq_false_iff_not, Bool.not_eq_true', Classical.not_not, ne_eq, not_false_eq_true, not_true_eq_false, forall_const, true_implies, false_implies, imp_self, sizeLine_eq, Nat.reduceLeDiff, reduceCtorEq, decide_true, decide_false]
            exact ⟨fun c => hB (decide_eq_true c) _ fun _ _ h => h, fun c => hA (decide_eq_false c) _ fun _ _ h => h⟩
          · intro Be H6 n6 s6 f6
            rw [filt_ge] at f6
            have hv6 := hv5.same s6
            refine ⟨fun σ' H' => σ' = [some (V.ref a), some (V.ref s), some (V.ref L), some (V.int 160), some (V.int i), some (V.int x), some (V.ref Bl), some (V.ref Be), x8, x9] ∧ Same H6 H', ?_, ?_⟩
            · simp only [spNxt, exists_and_left, tD1, rTupN, rAll, rMax2, rMin2, tSl, tPart, tNoPart, rSlLN, tYes, rLenS, rRepN, unset, tEv2, calmS, tRevG, tRevLN, cx_K, Value.ref.injEq, HO.xd.injEq, lk0, tSeq, tPar3, tPar, tCons, tNil, tVar, tC, tAsg, gName, gCons, gNil, gTupN, gSub, tOp, rI, rI0, rU, tTest, rNe, rEq, rIxTN, rIxLN, rLenL, rLenT, tLstRg, tRg1, tRg2, rIntI, rIntB, rAbs, rSetLN, tTruL, tRaiseX, rIsTy, rIsOw, ixN0, ixN1, tRet, tIf, tIfS, tNext, tBreak, tCont, tDrop, tTupN, tLstN, tUn, tCB, tCall, tNot, tAnd, tOr, tB, tAndV, tOrV, tNotV, tChain, tApp, LamX.tLam, tRevLN, rCatN, rInTN, rInLN, flatV, inV, List.all_cons, List.all_nil, List.any_cons, List.any_nil, Bool.and_self, Bool.and_true, if_true, Bool.false_eq_true, if_false, tMt, tFldN, tSto, HO.ins.injEq, lkh, List.drop_zero, List.drop_succ_cons, List.drop_nil, rListS, wipe, L2.start, List.map_cons, List.map_nil, List.length_cons, List.length_nil, List.replicate, List.cons_append, List.nil_append, List.append_nil, Nat.reduceAdd, Nat.reduceSub, Nat.zero_add, List.replicate_succ, List.replicate_zero, List.getElem?_cons_zero, List.getElem?_cons_succ, List.set_cons_zero, List.set_cons_succ, Option.some.injEq, V.int.injEq, V.bl.injEq, V.ref.injEq, V.str.injEq, V.ty.injEq, List.cons.injEq, HO.tup.injEq, HO.lst.injEq, and_true, true_and, and_assoc, exists_eq_left, exists_eq_left', exists_and_left, exists_eq', atI0, atI1, atI2, atI3, Int.cast_ofNat_Int, Int.reduceToNat, scal_ii, scal_in, scal_ni, scal_nn, scal_bb, scal_ss, scal_sn, scal_ns, scal_bn, scal_nb, ite_iff, decide_eq_true_eq, decide_eq_false_iff_not, Bool.not_eq_true', Classical.not_not, ne_eq, not_false_eq_true, not_true_eq_false, forall_const, true_implies, false_implies, imp_self, sizeLine_eq, Nat.reduceLeDiff, reduceCtorEq, decide_true, decide_false]
              intro b0 H10 n10 s10 f10
              refine ne_ints (ms := []) (s10 _ _ f6) f10 ⟨_, rfl, fun c => ?_, fun _ => s10⟩
              cases e : (strL ks 160).filter (fun y => decide (x ≤ y)) with
              | nil => rw [e] at c; simp at c
              | cons z r =>
                refine ⟨dx, _, (((s4.trans s5).trans s6).trans s10) _ _ hs3, lkNo, ks, hv6.same s10, hk, fun H11 s11 => ⟨_, (s10.trans s11) _ _ f6, .int z, ?_, rfl, fun q => absurd ?_ q, fun _ => s10.trans s11⟩⟩
                · rw [e]; exact atI0
                · rw [head_ge hk e]
            · rintro _ H7 ⟨rfl, s7⟩
              have hv7 := hv6.same s7
              have s27 := (s25.trans s6).trans s7
              simp only [spDraw, exists_and_left, tD1, rTupN, rAll, rMax2, rMin2, tSl, tPart, tNoPart, rSlLN, tYes, rLenS, rRepN, unset, tEv2, calmS, tRevG, tRevLN, cx_K, Value.ref.injEq, HO.xd.injEq, lk0, tSeq, tPar3, tPar, tCons, tNil, tVar, tC, tAsg, gName, gCons, gNil, gTupN, gSub, tOp, rI, rI0, rU, tTest, rNe, rEq, rIxTN, rIxLN, rLenL, rLenT, tLstRg, tRg1, tRg2, rIntI, rIntB, rAbs, rSetLN, tTruL, tRaiseX, rIsTy, rIsOw, ixN0, ixN1, tRet, tIf, tIfS, tNext, tBreak, tCont, tDrop, tTupN, tLstN, tUn, tCB, tCall, tNot, tAnd, tOr, tB, tAndV, tOrV, tNotV, tChain, tApp, LamX.tLam, tRevLN, rCatN, rInTN, rInLN, flatV, inV, List.all_cons, List.all_nil, List.any_cons, List.any_nil, Bool.and_self, Bool.and_true, if_true, Bool.false_eq_true, if_false, tMt, tFldN, tSto, HO.ins.injEq, lkh, List.drop_zero, List.drop_succ_cons, List.drop_nil, rListS, wipe, L2.start, List.map_cons, List.map_nil, List.length_cons, List.length_nil, List.replicate, List.cons_append, List.nil_append, List.append_nil, Nat.reduceAdd, Nat.reduceSub, Nat.zero_add, List.replicate_succ, List.replicate_zero, List.getElem?_cons_zero, List.getElem?_cons_succ, List.set_cons_zero, List.set_cons_succ, Option.some.injEq, V.int.injEq, V.bl.injEq, V.ref.injEq, V.str.injEq, V.ty.injEq, List.cons.injEq, HO.tup.injEq, HO.lst.injEq, and_true, true_and, and_assoc, exists_eq_left, exists_eq_left', exists_and_left, exists_eq', atI0, atI1, atI2, atI3, Int.cast_ofNat_Int, Int.reduceToNat, scal_ii, scal_in, scal_ni, scal_nn, scal_bb, scal_ss, scal_sn, scal_ns, scal_bn, scal_nb, ite_iff, decide_eq_true_eq, decide_eq_false_iff_not, Bool.not_eq_true', Classical.not_not, ne_eq, not_false_eq_true, not_true_eq_false, forall_const, true_implies, false_implies, imp_self, sizeLine_eq, Nat.reduceLeDiff, reduceCtorEq, decide_true, decide_false]
              refine ⟨P2.same s27, by decide, by decide, fun e H8 e0 e1 P8 t8 => ?_⟩
              generalize hy : x + 1 + e = y
              have yb : x < y ∧ y ≤ 153 := by omega
              have hv8 := hv7.stp t8 (P2.same s27)
              have hL8 := t8 _ _ (s27 _ _ hL2) La
              have hB8 := t8 _ _ (s7 _ _ f6) ((P2.same s25).ne n6)
              refine ⟨fun σ' H' => σ' = [some (V.ref a), some (V.ref s), some (V.ref L), some (V.int 160), some (V.int i), some (V.int x), some (V.ref Bl), some (V.ref Be), some (V.int y), x9] ∧ Same H8 H', ?_, ?_⟩
              · simp only [spSt, spIn, exists_and_left, tD1, rTupN, rAll, rMax2, rMin2, tSl, tPart, tNoPart, rSlLN, tYes, rLenS, rRepN, unset, tEv2, calmS, tRevG, tRevLN, cx_K, Value.ref.injEq, HO.xd.injEq, lk0, tSeq, tPar3, tPar, tCons, tNil, tVar, tC, tAsg, gName, gCons, gNil, gTupN, gSub, tOp, rI, rI0, rU, tTest, rNe, rEq, rIxTN, rIxLN, rLenL, rLenT, tLstRg, tRg1, tRg2, rIntI, rIntB, rAbs, rSetLN, tTruL, tRaiseX, rIsTy, rIsOw, ixN0, ixN1, tRet, tIf, tIfS, tNext, tBreak, tCont, tDrop, tTupN, tLstN, tUn, tCB, tCall, tNot, tAnd, tOr, tB, tAndV, tOrV, tNotV, tChain, tApp, LamX.tLam, tRevLN, rCatN, rInTN, rInLN, flatV, inV, List.all_cons, List.all_nil, List.any_cons, List.any_nil, Bool.and_self, Bool.and_true, if_true, Bool.false_eq_true, if_false, tMt, tFldN, tSto, HO.ins.injEq, lkh, List.drop_zero, List.drop_succ_cons, List.drop_nil, rListS, wipe, L2.start, List.map_cons, List.map_nil, List.length_cons, List.length_nil, List.replicate, List.cons_append, List.nil_append, List.append_nil, Nat.reduceAdd, Nat.reduceSub, Nat.zero_add, List.replicate_succ, List.replicate_zero, List.getElem?_cons_zero, List.getElem?_cons_succ, List.set_cons_zero, List.set_cons_succ, Option.some.injEq, V.int.injEq, V.bl.injEq, V.ref.injEq, V.str.injEq, V.ty.injEq, List.cons.injEq, HO.tup.injEq, HO.lst.injEq, and_true, true_and, and_assoc, exists_eq_left, exists_eq_left', exists_and_left, exists_eq', atI0, atI1, atI2, atI3, Int.cast_ofNat_Int, Int.reduceToNat, scal_ii, scal_in, scal_ni, scal_nn, scal_bb, scal_ss, scal_sn, scal_ns, scal_bn, scal_nb, ite_iff, decide_eq_true_eq, decide_eq_false_iff_not, Bool.not_eq_true', Classical.not_not, ne_eq, not_false_eq_true, not_true_eq_false, forall_const, true_implies, false_implies, imp_self, sizeLine_eq, Nat.reduceLeDiff, reduceCtorEq, decide_true, decide_false]
                obtain ⟨dx8, q8, hs8, _⟩ := id hv8
                refine ⟨dx8, _, hs8, lkNo, wh_int, wh_int, decide_eq_true yb.1, fun st dxs H10 n10 s10 f10 => ⟨ks, hv8.same s10, hk, dxs, some x, some y, f10, ?_⟩⟩
                refine st_lcLF (fun R r => ⟨_, rfl, r⟩) (s10 _ _ hB8) ?_ (pLt y) id ?_ ?_
                · rw [List.length_map]
                  rw [List.length_map] at ln
                  exact Nat.le_trans (List.length_filter_le _ _) ln
                · intro z H3 A B hz s3 hA hB
                  obtain ⟨y, hy, rfl⟩ := List.mem_map.mp hz
                  simp only [exists_and_left, tD1, rTupN, rAll, rMax2, rMin2, tSl, tPart, tNoPart, rSlLN, tYes, rLenS, rRepN, unset, tEv2, calmS, tRevG, tRevLN, cx_K, Value.ref.injEq, HO.xd.injEq, lk0, tSeq, tPar3, tPar, tCons, tNil, tVar, tC, tAsg, gName, gCons, gNil, gTupN, gSub, tOp, rI, rI0, rU, tTest, rNe, rEq, rIxTN, rIxLN, rLenL, rLenT, tLstRg, tRg1, tRg2, rIntI, rIntB, rAbs, rSetLN, tTruL, tRaiseX, rIsTy, rIsOw, ixN0, ixN1, tRet, tIf, tIfS, tNext, tBreak, tCont, tDrop, tTupN, tLstN, tUn, tCB, tCall, tNot, tAnd, tOr, tB, tAndV, tOrV, tNotV, tChain, tApp, LamX.tLam, tRevLN, rCatN, rInTN, rInLN, flatV, inV, List.all_cons, List.all_nil, List.any_cons, List.any_nil, Bool.and_self, Bool.and_true, if_true, Bool.false_eq_true, if_false, tMt, tFldN, tSto, HO.ins.injEq, lkh, List.drop_zero, List.drop_succ_cons, List.drop_nil, rListS, wipe, L2.start, List.map_cons, List.map_nil, List.length_cons, List.length_nil, List.replicate, List.cons_append, List.nil_append, List.append_nil, Nat.reduceAdd, Nat.reduceSub, Nat.zero_add, List.replicate_succ, List.replicate_zero, List.getElem?_cons_zero, List.getElem?_cons_succ, List.set_cons_zero, List.set_cons_succ, Option.some.injEq, V.int.injEq, V.bl.injEq, V.ref.injEq, V.str.injEq, V.ty.injEq, List.cons.injEq, HO.tup.injEq, HO.lst.injEq, and_true, true_and, and_assoc, exists_eq_left, exists_eq_left', exists_and_left, exists_eq', atI0, atI1, atI2, atI3, Int.cast_ofNat_Int, Int.reduceToNat, scal_ii, scal_in, scal_ni, scal_nn, scal_bb, scal_ss, scal_sn, scal_ns, scal_bn, scal_nb, ite_iff, decide_eq_true_eq, decide_eq_false_iff_not, Bool.not_eq_true', Classical.not_not, ne_eq, not_false_eq_true, not_true_eq_false, forall_const, true_implies, false_implies, imp_self, sizeLine_eq, Nat.reduceLeDiff, reduceCtorEq, decide_true, decide_false]
                  exact ⟨fun c => hB (decide_eq_true c) _ fun _ _ h => h, fun c => hA (decide_eq_false c) _ fun _ _ h => h⟩
                · intro D H11 n11 s11 f11
                  rw [filt_lt] at f11
                  refine ⟨D, rfl, _, f11, rfl, fun c => absurd ?_ c, fun _ => s10.trans s11⟩
                  rw [List.length_map, len_ge hk (by decide) (by omega) (by omega)]
                  rfl
              · rintro _ H9 ⟨rfl, s9⟩
                have hv9 := hv8.same s9
                simp only [spSt, spIn, exists_and_left, tD1, rTupN, rAll, rMax2, rMin2, tSl, tPart, tNoPart, rSlLN, tYes, rLenS, rRepN, unset, tEv2, calmS, tRevG, tRevLN, cx_K, Value.ref.injEq, HO.xd.injEq, lk0, tSeq, tPar3, tPar, tCons, tNil, tVar, tC, tAsg, gName, gCons, gNil, gTupN, gSub, tOp, rI, rI0, rU, tTest, rNe, rEq, rIxTN, rIxLN, rLenL, rLenT, tLstRg, tRg1, tRg2, rIntI, rIntB, rAbs, rSetLN, tTruL, tRaiseX, rIsTy, rIsOw, ixN0, ixN1, tRet, tIf, tIfS, tNext, tBreak, tCont, tDrop, tTupN, tLstN, tUn, tCB, tCall, tNot, tAnd, tOr, tB, tAndV, tOrV, tNotV, tChain, tApp, LamX.tLam, tRevLN, rCatN, rInTN, rInLN, flatV, inV, List.all_cons, List.all_nil, List.any_cons, List.any_nil, Bool.and_self, Bool.and_true, if_true, Bool.false_eq_true, if_false, tMt, tFldN, tSto, HO.ins.injEq, lkh, List.drop_zero, List.drop_succ_cons, List.drop_nil, rListS, wipe, L2.start, List.map_cons, List.map_nil, List.length_cons, List.length_nil, List.replicate, List.cons_append, List.nil_append, List.append_nil, Nat.reduceAdd, Nat.reduceSub, Nat.zero_add, List.replicate_succ, List.replicate_zero, List.getElem?_cons_zero, List.getElem?_cons_succ, List.set_cons_zero, List.set_cons_succ, Option.some.injEq, V.int.injEq, V.bl.injEq, V.ref.injEq, V.str.injEq, V.ty.injEq, List.cons.injEq, HO.tup.injEq, HO.lst.injEq, and_true, true_and, and_assoc, exists_eq_left, exists_eq_left', exists_and_left, exists_eq', atI0, atI1, atI2, atI3, Int.cast_ofNat_Int, Int.reduceToNat, scal_ii, scal_in, scal_ni, scal_nn, scal_bb, scal_ss, scal_sn, scal_ns, scal_bn, scal_nb, ite_iff, decide_eq_true_eq, decide_eq_false_iff_not, Bool.not_eq_true', Classical.not_not, ne_eq, not_false_eq_true, not_true_eq_false, forall_const, true_implies, false_implies, imp_self, sizeLine_eq, Nat.reduceLeDiff, reduceCtorEq, decide_true, decide_false]
                obtain ⟨dx9, q9, hs9, _⟩ := id hv9
                refine ⟨dx9, _, hs9, lkNo, wh_non, wh_int, rfl, fun st dxs H10 n10 s10 f10 => ⟨ks, hv9.same s10, hk, dxs, none, some y, f10, ?_⟩⟩
                refine st_lcLF (fun R r => ⟨_, rfl, r⟩) ((s9.trans s10) _ _ hL8) ln (pLt y) id ?_ ?_
                · intro z H3 A B hz s3 hA hB
                  obtain ⟨y, hy, rfl⟩ := List.mem_map.mp hz
                  simp only [exists_and_left, tD1, rTupN, rAll, rMax2, rMin2, tSl, tPart, tNoPart, rSlLN, tYes, rLenS, rRepN, unset, tEv2, calmS, tRevG, tRevLN, cx_K, Value.ref.injEq, HO.xd.injEq, lk0, tSeq, tPar3, tPar, tCons, tNil, tVar, tC, tAsg, gName, gCons, gNil, gTupN, gSub, tOp, rI, rI0, rU, tTest, rNe, rEq, rIxTN, rIxLN, rLenL, rLenT, tLstRg, tRg1, tRg2, rIntI, rIntB, rAbs, rSetLN, tTruL, tRaiseX, rIsTy, rIsOw, ixN0, ixN1, tRet, tIf, tIfS, tNext, tBreak, tCont, tDrop, tTupN, tLstN, tUn, tCB, tCall, tNot, tAnd, tOr, tB, tAndV, tOrV, tNotV, tChain, tApp, LamX.tLam, tRevLN, rCatN, rInTN, rInLN, flatV, inV, List.all_cons, List.all_nil, List.any_cons, List.any_nil, Bool.and_self, Bool.and_true, if_true, Bool.false_eq_true, if_false, tMt, tFldN, tSto, HO.ins.injEq, lkh, List.drop_zero, List.drop_succ_cons, List.drop_nil, rListS, wipe, L2.start, List.map_cons, List.map_nil, List.length_cons, List.length_nil, List.replicate, List.cons_append, List.nil_append, List.append_nil, Nat.reduceAdd, Nat.reduceSub, Nat.zero_add, List.replicate_succ, List.replicate_zero, List.getElem?_cons_zero, List.getElem?_cons_succ, List.set_cons_zero, List.set_cons_succ, Option.some.injEq, V.int.injEq, V.bl.injEq, V.ref.injEq, V.str.injEq, V.ty.injEq, List.cons.injEq, HO.tup.injEq, HO.lst.injEq, and_true, true_and, and_assoc, exists_eq_left, exists_eq_left', exists_and_left, exists_eq', atI0, atI1, atI2, atI3, Int.cast_ofNat_Int, Int.reduceToNat, scal_ii, scal_in, scal_ni, scal_nn, scal_bb, scal_ss, scal_sn, scal_ns, scal_bn, scal_nb, ite_iff, decide_eq_true_eq, decide_eq_false_iff_not, Bool.not_eq_true', Classical.not_not, ne_eq, not_false_eq_true, not_true_eq_false, forall_const, true_implies, false_implies, imp_self, sizeLine_eq, Nat.reduceLeDiff, reduceCtorEq, decide_true, decide_false]
                  exact ⟨fun c => hB (decide_eq_true c) _ fun _ _ h => h, fun c => hA (decide_eq_false c) _ fun _ _ h => h⟩
                · intro D H11 n11 s11 f11
                  rw [filt_lt] at f11
                  have s811 := (s9.trans s10).trans s11
                  refine ⟨D, rfl, _, f11, rfl, fun c => absurd ?_ c, fun _ => ⟨P8.same s811, ((t02.trans (StpP.of s27)).trans t8).trans (StpP.of s811)⟩⟩
                  rw [List.length_map, len_lt hk (by decide) (by omega)]
                  show V.int (belL ks (max 0 y) - belL ks 0) = _
                  rw [bel_0 hk, Int.sub_zero]
  · rintro _ H1 ⟨⟨x4, x5, x6, x7, x8, x9, rfl⟩, P1, t1⟩
    simp only [spSt, spIn, exists_and_left, tD1, rTupN, rAll, rMax2, rMin2, tSl, tPart, tNoPart, rSlLN, tYes, rLenS, rRepN, unset, tEv2, calmS, tRevG, tRevLN, cx_K, Value.ref.injEq, HO.xd.injEq, lk0, tSeq, tPar3, tPar, tCons, tNil, tVar, tC, tAsg, gName, gCons, gNil, gTupN, gSub, tOp, rI, rI0, rU, tTest, rNe, rEq, rIxTN, rIxLN, rLenL, rLenT, tLstRg, tRg1, tRg2, rIntI, rIntB, rAbs, rSetLN, tTruL, tRaiseX, rIsTy, rIsOw, ixN0, ixN1, tRet, tIf, tIfS, tNext, tBreak, tCont, tDrop, tTupN, tLstN, tUn, tCB, tCall, tNot, tAnd, tOr, tB, tAndV, tOrV, tNotV, tChain, tApp, LamX.tLam, tRevLN, rCatN, rInTN, rInLN, flatV, inV, List.all_cons, List.all_nil, List.any_cons, List.any_nil, Bool.and_self, Bool.and_true, if_true, Bool.false_eq_true, if_false, tMt, tFldN, tSto, HO.ins.injEq, lkh, List.drop_zero, List.drop_succ_cons, List.drop_nil, rListS, wipe, L2.start, List.map_cons, List.map_nil, List.length_cons, List.length_nil, List.replicate, List.cons_append, List.nil_append, List.append_nil, Nat.reduceAdd, Nat.reduceSub, Nat.zero_add, List.replicate_succ, List.replicate_zero, List.getElem?_cons_zero, List.getElem?_cons_succ, List.set_cons_zero, List.set_cons_succ, Option.some.injEq, V.int.injEq, V.bl.injEq, V.ref.injEq, V.str.injEq, V.ty.injEq, List.cons.injEq, HO.tup.injEq, HO.lst.injEq, and_true, true_and, and_assoc, exists_eq_left, exists_eq_left', exists_and_left, exists_eq', atI0, atI1, atI2, atI3, Int.cast_ofNat_Int, Int.reduceToNat, scal_ii, scal_in, scal_ni, scal_nn, scal_bb, scal_ss, scal_sn, scal_ns, scal_bn, scal_nb, ite_iff, decide_eq_true_eq, decide_eq_false_iff_not, Bool.not_eq_true', Classical.not_not, ne_eq, not_false_eq_true, not_true_eq_false, forall_const, true_implies, false_implies, imp_self, sizeLine_eq, Nat.reduceLeDiff, reduceCtorEq, decide_true, decide_false]
    have hv1 := hv.stp t1 hP
    obtain ⟨dx, q, hs1, _⟩ := id hv1
    refine ⟨dx, _, hs1, lkNo, wh_int, wh_non, rfl, fun st dxs H2 n2 s2 f2 => ⟨ks, hv1.same s2, hk, dxs, some 3, none, f2, fun _ => ⟨dx, _, s2 _ _ hs1, lkNo, wh_non, wh_non, rfl, fun st2 dxs2 H3 n3 s3 f3 => ⟨ks, (hv1.same s2).same s3, hk, dxs2, none, none, f3, ?_⟩⟩, fun c => absurd rfl c⟩⟩
    rw [show ov (leftIn ks none none) = V.non from rfl, decide_eq_true rfl]
    exact k H3 ((P1.same s2).same s3) (t1.trans (StpP.of (s2.trans s3)))
def spFR (K : PySem.W.Frag) : Sp := fun vs H Q _ => ∃ a s L, vs = [.ref a, .ref s, .ref L] ∧ ∃ ks : List Int, Po H a ∧ SvA K H s ks ∧ okK ks ∧ ks.length ≤ 5 ∧ H L = some (.lst ((strL ks 160).map V.int)) ∧ L ≠ a ∧ ∀ H', Po H' a → StpP a H H' → Q (.bl true) H'
theorem o__law_far_right (T : Txt K mg) : OkF P w K mg base CX0 7 "_law_far_right" ["_law_pool_here", "_law_sieve", "_law_left"] (spFR K) := by
  have o__law_draw := o__law_draw (P := P) (w := w) (base := base) T
  have o__law_pick := o__law_pick (P := P) (w := w) (base := base) T
  have o_Sieve_product := o_Sieve_product (P := P) (w := w) (base := base) T
  have o_Sieve_many := o_Sieve_many (P := P) (w := w) (base := base) T
  have o_Sieve_nth_left := o_Sieve_nth_left (P := P) (w := w) (base := base) T
  have o_Sieve_is_left := o_Sieve_is_left (P := P) (w := w) (base := base) T
  have o_Sieve_left_below := o_Sieve_left_below (P := P) (w := w) (base := base) T
  obtain ⟨f, fd, g, F⟩ := T.d__law_far_right
  refine ⟨f, fd, g, F.kp, F.binds (fun _ _ _ _ _ _ us hl => match us, hl with | [_, _, _], _ => rfl), F.ok sc__law_far_right (fun vs H Q E h => ?_) (fun cdv A outer s H vs Q E hr h => ?_)⟩
  · first | (obtain ⟨_, rfl, _⟩ := h; rfl) | (obtain ⟨rfl, _⟩ := h; rfl) | (obtain ⟨_, _, rfl, _⟩ := h; rfl) | (obtain ⟨_, _, _, rfl, _⟩ := h; rfl) | (obtain ⟨_, _, _, _, rfl, _⟩ := h; rfl) | (obtain ⟨_, _, _, _, _, rfl, _⟩ := h; rfl) | (obtain ⟨_, _, _, _, _, _, rfl, _⟩ := h; rfl) | (obtain ⟨_, _, _, _, _, _, _, rfl, _⟩ := h; rfl)
  have hu64 := hr.units
  refine ⟨_, pss_cons (ps_set (i := 3) sc__law_far_right.nd rfl (Or.inl rfl) (pcl o__law_pick (hr.mono (by decide)) pass0 (pa_cons (pv 0) (pa_cons (pe_lstN (pa_cons (pe_int) (pa_cons (pe_int) (pa_cons (pe_op op_add (pe_op op_pow (pe_int) (pe_int)) (pe_int)) pa_nil)))) pa_nil))))
      (pss_cons (ps_par (i := 4) (j := 5) (by rfl) sc__law_far_right.nd rfl rfl (by decide) rfl rfl (pa_cons (pe_op op_mulW (pmt0 (j := 0) o_Sieve_product T.c_Sieve (pv 1) (by decide) (hr.mono (by decide)) pass0) (pv 3)) (pa_cons (pe_op op_mulW (pmt0 (j := 0) o_Sieve_many T.c_Sieve (pv 1) (by decide) (hr.mono (by decide)) pass0) (pv 3)) pa_nil)) (by rfl))
      (pss_cons (ps_for PassesOwn.never rfl (pi_range1 rfl T.m_range (pa_cons (pe_int) pa_nil)) (pg_name (i := 6) sc__law_far_right.nd rfl (Or.inl rfl)) (pss_cons (ps_set (i := 7) sc__law_far_right.nd rfl (Or.inl rfl) (pcl o__law_draw (hr.mono (by decide)) pass0 (pa_cons (pv 0) (pa_cons (pe_callB call_lenL (by rfl) T.m_len (by decide +kernel) (pa_cons (pv 2) pa_nil)) pa_nil))))
      (pss_cons (ps_cut (ps_if (PW.pt (pw_or (pt_cmpR op_ne (pmt (j := 0) o_Sieve_nth_left T.c_Sieve (pv 1) (by decide) (hr.mono (by decide)) pass0 (pa_cons (pv 7) pa_nil)) (pe_ix ix_listN (pv 2) (pv 7) (fun _ _ => rfl)) (nomark _)) (pw_or1 (pt_cmpR op_ne (pmt (j := 0) o_Sieve_nth_left T.c_Sieve (pv 1) (by decide) (hr.mono (by decide)) pass0 (pa_cons (pe_op op_add (pv 7) (pv 5)) pa_nil)) (pe_op op_add (pe_ix ix_listN (pv 2) (pv 7) (fun _ _ => rfl)) (pv 4)) (nomark _))))) (pss_one (ps_ret (pe_bl))) (pss_nil)))
      (pss_cons (ps_set (i := 8) sc__law_far_right.nd rfl (Or.inl rfl) (pcl o__law_draw (hr.mono (by decide)) pass0 (pa_cons (pv 0) (pa_cons (pe_int) pa_nil))))
      (pss_one (ps_if (PW.pt (pw_or (pt_cmpR op_ne (pmt (j := 0) o_Sieve_is_left T.c_Sieve (pv 1) (by decide) (hr.mono (by decide)) pass0 (pa_cons (pe_op op_add (pv 8) (pv 4)) pa_nil)) (pmt (j := 0) o_Sieve_is_left T.c_Sieve (pv 1) (by decide) (hr.mono (by decide)) pass0 (pa_cons (pv 8) pa_nil)) (nomark _)) (pw_or1 (pt_cmpR op_ne (pmt (j := 0) o_Sieve_left_below T.c_Sieve (pv 1) (by decide) (hr.mono (by decide)) pass0 (pa_cons (pe_op op_add (pv 8) (pv 4)) pa_nil)) (pe_op op_add (pmt (j := 0) o_Sieve_left_below T.c_Sieve (pv 1) (by decide) (hr.mono (by decide)) pass0 (pa_cons (pv 8) pa_nil)) (pv 5)) (nomark _))))) (pss_one (ps_ret (pe_bl))) (pss_nil)))))))
      (pss_one (ps_ret (pe_bl))))), ?_⟩
  obtain ⟨a, s, L, rfl, ks, hP, hv, hk, lk, hL, La, k⟩ := h
  simp only [spPick, spPd, spMany, exists_and_left, tD1, rTupN, rAll, rMax2, rMin2, tSl, tPart, tNoPart, rSlLN, tYes, rLenS, rRepN, unset, tEv2, calmS, tRevG, tRevLN, cx_K, Value.ref.injEq, HO.xd.injEq, lk0, tSeq, tPar3, tPar, tCons, tNil, tVar, tC, tAsg, gName, gCons, gNil, gTupN, gSub, tOp, rI, rI0, rU, tTest, rNe, rEq, rIxTN, rIxLN, rLenL, rLenT, tLstRg, tRg1, tRg2, rIntI, rIntB, rAbs, rSetLN, tTruL, tRaiseX, rIsTy, rIsOw, ixN0, ixN1, tRet, tIf, tIfS, tNext, tBreak, tCont, tDrop, tTupN, tLstN, tUn, tCB, tCall, tNot, tAnd, tOr, tB, tAndV, tOrV, tNotV, tChain, tApp, LamX.tLam, tRevLN, rCatN, rInTN, rInLN, flatV, inV, List.all_cons, List.all_nil, List.any_cons, List.any_nil, Bool.and_self, Bool.and_true, if_true, Bool.false_eq_true, if_false, tMt, tFldN, tSto, HO.ins.injEq, lkh, List.drop_zero, List.drop_succ_cons, List.drop_nil, rListS, wipe, L2.start, List.map_cons, List.map_nil, List.length_cons, List.length_nil, List.replicate, List.cons_append, List.nil_append, List.append_nil, Nat.reduceAdd, Nat.reduceSub, Nat.zero_add, List.replicate_succ, List.replicate_zero, List.getElem?_cons_zero, List.getElem?_cons_succ, List.set_cons_zero, List.set_cons_succ, Option.some.injEq, V.int.injEq, V.bl.injEq, V.ref.injEq, V.str.injEq, V.ty.injEq, List.cons.injEq, HO.tup.injEq, HO.lst.injEq, and_true, true_and, and_assoc, exists_eq_left, exists_eq_left', exists_and_left, exists_eq', atI0, atI1, atI2, atI3, Int.cast_ofNat_Int, Int.reduceToNat, scal_ii, scal_in, scal_ni, scal_nn, scal_bb, scal_ss, scal_sn, scal_ns, scal_bn, scal_nb, ite_iff, decide_eq_true_eq, decide_eq_false_iff_not, Bool.not_eq_true', Classical.not_not, ne_eq, not_false_eq_true, not_true_eq_false, forall_const, true_implies, false_implies, imp_self, sizeLine_eq, Nat.reduceLeDiff, reduceCtorEq, decide_true, decide_false]
  refine ⟨⟨by decide, by decide, by decide⟩, ?_⟩
  intro l0 H1 n1 s1 f1
  refine ⟨l0, rfl, hP.same s1, hP.ne n1, _, f1, by decide, by decide, fun v H2 hv' P2 t2 => ?_⟩
  obtain ⟨t, rfl, t0, tb⟩ : ∃ t : Int, v = .int t ∧ 0 ≤ t ∧ t.natAbs < 2 ^ 110 := by
    simp only [List.mem_cons, List.not_mem_nil, or_false] at hv'
    rcases hv' with rfl | rfl | rfl
    · exact ⟨1, rfl, by decide, by decide⟩
    · exact ⟨2, rfl, by decide, by decide⟩
    · exact ⟨_, rfl, by decide, by decide⟩
  have t02 := (StpP.of s1).trans t2
  have hv2 := hv.stp t02 hP
  obtain ⟨dx, q, hs2, _⟩ := id hv2
  have b1 := prodL_5 hk.nine lk
  have b2 := prodL_5 hk.decs (by rw [decs_len]; exact lk)
  refine ⟨dx, _, hs2, lkNo, ks, hv2, hk, lk, t, rfl, wide_mul (a := 17) (b := 110) (by omega) tb (by decide) (by decide) (by decide), dx, _, hs2, lkNo, ks, hv2, hk, lk, fun H3 s3 => ⟨t, rfl, wide_mul (a := 17) (b := 110) (by omega) tb (by decide) (by decide) (by decide), ?_⟩⟩
  have t03 := t02.trans (StpP.of s3)
  have n1 : 1 ≤ belL ks 160 := by
    have := (gal hk (show (0 : Int) ≤ 0 by omega) (show (0 : Int) ≤ 160 by omega)).mp (by rw [nthL_0 hk]; decide)
    omega
  have n2 := belL_le hk (show (0 : Int) ≤ 160 by decide)
  refine st_forR1 6 (by decide) (fun R r => r) (fun i σ' H' => (∃ x6 x7 x8, σ' = [some (V.ref a), some (V.ref s), some (V.ref L), some (V.int t), some (V.int (prodL ks * t)), some (V.int (prodL (decs ks) * t)), x6, x7, x8]) ∧ Po H' a ∧ StpP a H H') ⟨⟨_, _, _, rfl⟩, P2.same s3, t03⟩ ?_ ?_
  · rintro i _ H4 hi ⟨⟨x6, x7, x8, rfl⟩, P4, t4⟩
    have hL4 := t4 _ _ hL La
    simp only [spDraw, exists_and_left, tD1, rTupN, rAll, rMax2, rMin2, tSl, tPart, tNoPart, rSlLN, tYes, rLenS, rRepN, unset, tEv2, calmS, tRevG, tRevLN, cx_K, Value.ref.injEq, HO.xd.injEq, lk0, tSeq, tPar3, tPar, tCons, tNil, tVar, tC, tAsg, gName, gCons, gNil, gTupN, gSub, tOp, rI, rI0, rU, tTest, rNe, rEq, rIxTN, rIxLN, rLenL, rLenT, tLstRg, tRg1, tRg2, rIntI, rIntB, rAbs, rSetLN, tTruL, tRaiseX, rIsTy, rIsOw, ixN0, ixN1, tRet, tIf, tIfS, tNext, tBreak, tCont, tDrop, tTupN, tLstN, tUn, tCB, tCall, tNot, tAnd, tOr, tB, tAndV, tOrV, tNotV, tChain, tApp, LamX.tLam, tRevLN, rCatN, rInTN, rInLN, flatV, inV, List.all_cons, List.all_nil, List.any_cons, List.any_nil, Bool.and_self, Bool.and_true, if_true, Bool.false_eq_true, if_false, tMt, tFldN, tSto, HO.ins.injEq, lkh, List.drop_zero, List.drop_succ_cons, List.drop_nil, rListS, wipe, L2.start, List.map_cons, List.map_nil, List.length_cons, List.length_nil, List.replicate, List.cons_append, List.nil_append, List.append_nil, Nat.reduceAdd, Nat.reduceSub, Nat.zero_add, List.replicate_succ, List.replicate_zero, List.getElem?_cons_zero, List.getElem?_cons_succ, List.set_cons_zero, List.set_cons_succ, Option.some.injEq, V.int.injEq, V.bl.injEq, V.ref.injEq, V.str.injEq, V.ty.injEq, List.cons.injEq, HO.tup.injEq, HO.lst.injEq, and_true, true_and, and_assoc, exists_eq_left, exists_eq_left', exists_and_left, exists_eq', atI0, atI1, atI2, atI3, Int.cast_ofNat_Int, Int.reduceToNat, scal_ii, scal_in, scal_ni, scal_nn, scal_bb, scal_ss, scal_sn, scal_ns, scal_bn, scal_nb, ite_iff, decide_eq_true_eq, decide_eq_false_iff_not, Bool.not_eq_true', Classical.not_not, ne_eq, not_false_eq_true, not_true_eq_false, forall_const, true_implies, false_implies, imp_self, sizeLine_eq, Nat.reduceLeDiff, reduceCtorEq, decide_true, decide_false]
    refine ⟨_, hL4, P4, by rw [List.length_map, strL_len]; omega, by rw [List.length_map, strL_len]; exact Nat.lt_of_le_of_lt (show _ ≤ 160 by omega) (by decide), fun d H5 d0 d1 P5 t5 => ?_⟩
    rw [List.length_map, strL_len] at d1
    have t45 := t4.trans t5
    have hL5 := t45 _ _ hL La
    have hv5 := hv.stp t45 hP
    obtain ⟨dx5, q5, hs5, _⟩ := id hv5
    have hd : (strL ks 160)[d.toNat]? = some (nthL ks d) := by
      rw [strL_get (by omega), show ((d.toNat : Nat) : Int) = d by omega]
    have hat : atI ((strL ks 160).map V.int) d = some (.int (nthL ks d)) := atI_ok d0 (by rw [List.getElem?_map, hd]; rfl)
    have ns : 0 ≤ prodL (decs ks) * t := Int.mul_nonneg b2.1 t0
    have nf : 0 ≤ prodL ks * t := Int.mul_nonneg b1.1 t0
    refine ⟨fun σ' H' => σ' = [some (V.ref a), some (V.ref s), some (V.ref L), some (V.int t), some (V.int (prodL ks * t)), some (V.int (prodL (decs ks) * t)), some (V.int i), some (V.int d), x8] ∧ Same H5 H', ?_, ?_⟩
    · simp only [spNth, exists_and_left, tD1, rTupN, rAll, rMax2, rMin2, tSl, tPart, tNoPart, rSlLN, tYes, rLenS, rRepN, unset, tEv2, calmS, tRevG, tRevLN, cx_K, Value.ref.injEq, HO.xd.injEq, lk0, tSeq, tPar3, tPar, tCons, tNil, tVar, tC, tAsg, gName, gCons, gNil, gTupN, gSub, tOp, rI, rI0, rU, tTest, rNe, rEq, rIxTN, rIxLN, rLenL, rLenT, tLstRg, tRg1, tRg2, rIntI, rIntB, rAbs, rSetLN, tTruL, tRaiseX, rIsTy, rIsOw, ixN0, ixN1, tRet, tIf, tIfS, tNext, tBreak, tCont, tDrop, tTupN, tLstN, tUn, tCB, tCall, tNot, tAnd, tOr, tB, tAndV, tOrV, tNotV, tChain, tApp, LamX.tLam, tRevLN, rCatN, rInTN, rInLN, flatV, inV, List.all_cons, List.all_nil, List.any_cons, List.any_nil, Bool.and_self, Bool.and_true, if_true, Bool.false_eq_true, if_false, tMt, tFldN, tSto, HO.ins.injEq, lkh, List.drop_zero, List.drop_succ_cons, List.drop_nil, rListS, wipe, L2.start, List.map_cons, List.map_nil, List.length_cons, List.length_nil, List.replicate, List.cons_append, List.nil_append, List.append_nil, Nat.reduceAdd, Nat.reduceSub, Nat.zero_add, List.replicate_succ, List.replicate_zero, List.getElem?_cons_zero, List.getElem?_cons_succ, List.set_cons_zero, List.set_cons_succ, Option.some.injEq, V.int.injEq, V.bl.injEq, V.ref.injEq, V.str.injEq, V.ty.injEq, List.cons.injEq, HO.tup.injEq, HO.lst.injEq, and_true, true_and, and_assoc, exists_eq_left, exists_eq_left', exists_and_left, exists_eq', atI0, atI1, atI2, atI3, Int.cast_ofNat_Int, Int.reduceToNat, scal_ii, scal_in, scal_ni, scal_nn, scal_bb, scal_ss, scal_sn, scal_ns, scal_bn, scal_nb, ite_iff, decide_eq_true_eq, decide_eq_false_iff_not, Bool.not_eq_true', Classical.not_not, ne_eq, not_false_eq_true, not_true_eq_false, forall_const, true_implies, false_implies, imp_self, sizeLine_eq, Nat.reduceLeDiff, reduceCtorEq, decide_true, decide_false]
      refine ⟨dx5, _, hs5, lkNo, ks, hv5, hk, d0, fun H6 s6 => ⟨_, s6 _ _ hL5, _, hat, ?_⟩⟩
      refine ⟨rfl, fun c => absurd rfl c, fun _ => ⟨dx5, _, s6 _ _ hs5, lkNo, ks, hv5.same s6, hk, by omega, fun H7 s7 => ⟨_, (s6.trans s7) _ _ hL5, _, hat, _, rfl, fun c => absurd (nthL_add hk) c, fun _ => s6.trans s7⟩⟩⟩
    · rintro _ H6 ⟨rfl, s6⟩
      have hv6 := hv5.same s6
      simp only [spDraw, spIsL, spBel, exists_and_left, tD1, rTupN, rAll, rMax2, rMin2, tSl, tPart, tNoPart, rSlLN, tYes, rLenS, rRepN, unset, tEv2, calmS, tRevG, tRevLN, cx_K, Value.ref.injEq, HO.xd.injEq, lk0, tSeq, tPar3, tPar, tCons, tNil, tVar, tC, tAsg, gName, gCons, gNil, gTupN, gSub, tOp, rI, rI0, rU, tTest, rNe, rEq, rIxTN, rIxLN, rLenL, rLenT, tLstRg, tRg1, tRg2, rIntI, rIntB, rAbs, rSetLN, tTruL, tRaiseX, rIsTy, rIsOw, ixN0, ixN1, tRet, tIf, tIfS, tNext, tBreak, tCont, tDrop, tTupN, tLstN, tUn, tCB, tCall, tNot, tAnd, tOr, tB, tAndV, tOrV, tNotV, tChain, tApp, LamX.tLam, tRevLN, rCatN, rInTN, rInLN, flatV, inV, List.all_cons, List.all_nil, List.any_cons, List.any_nil, Bool.and_self, Bool.and_true, if_true, Bool.false_eq_true, if_false, tMt, tFldN, tSto, HO.ins.injEq, lkh, List.drop_zero, List.drop_succ_cons, List.drop_nil, rListS, wipe, L2.start, List.map_cons, List.map_nil, List.length_cons, List.length_nil, List.replicate, List.cons_append, List.nil_append, List.append_nil, Nat.reduceAdd, Nat.reduceSub, Nat.zero_add, List.replicate_succ, List.replicate_zero, List.getElem?_cons_zero, List.getElem?_cons_succ, List.set_cons_zero, List.set_cons_succ, Option.some.injEq, V.int.injEq, V.bl.injEq, V.ref.injEq, V.str.injEq, V.ty.injEq, List.cons.injEq, HO.tup.injEq, HO.lst.injEq, and_true, true_and, and_assoc, exists_eq_left, exists_eq_left', exists_and_left, exists_eq', atI0, atI1, atI2, atI3, Int.cast_ofNat_Int, Int.reduceToNat, scal_ii, scal_in, scal_ni, scal_nn, scal_bb, scal_ss, scal_sn, scal_ns, scal_bn, scal_nb, ite_iff, decide_eq_true_eq, decide_eq_false_iff_not, Bool.not_eq_true', Classical.not_not, ne_eq, not_false_eq_true, not_true_eq_false, forall_const, true_implies, false_implies, imp_self, sizeLine_eq, Nat.reduceLeDiff, reduceCtorEq, decide_true, decide_false]
      refine ⟨P5.same s6, by decide, by decide, fun x H7 x0 x1 P7 t7 => ?_⟩
      have hv7 := hv6.stp t7 (P5.same s6)
      obtain ⟨dx7, q7, hs7, _⟩ := id hv7
      have m1 : max 0 (x + prodL ks * t) = x + prodL ks * t := by omega
      have m2 : max 0 x = x := by omega
      rw [m1, m2]
      refine ⟨dx7, _, hs7, lkNo, ks, hv7, hk, wh_int, fun H8 s8 => ⟨dx7, _, s8 _ _ hs7, lkNo, ks, hv7.same s8, hk, wh_int, fun H9 s9 => ⟨fun c => absurd ?_ c, fun _ => ?_⟩⟩⟩
      · rw [belL_add hk, nthL_add hk]
        exact decide_eq_decide.mpr ⟨fun e => by omega, fun e => by omega⟩
      · have s89 := s8.trans s9
        refine ⟨dx7, _, s89 _ _ hs7, lkNo, ks, hv7.same s89, hk, dx7, _, s89 _ _ hs7, lkNo, ks, hv7.same s89, hk, fun c => absurd (belL_add hk) c, fun _ => ⟨P7.same s89, ((t45.trans (StpP.of s6)).trans t7).trans (StpP.of s89)⟩⟩
  · rintro _ H4 ⟨⟨x6, x7, x8, rfl⟩, P4, t4⟩
    simp only [exists_and_left, tD1, rTupN, rAll, rMax2, rMin2, tSl, tPart, tNoPart, rSlLN, tYes, rLenS, rRepN, unset, tEv2, calmS, tRevG, tRevLN, cx_K, Value.ref.injEq, HO.xd.injEq, lk0, tSeq, tPar3, tPar, tCons, tNil, tVar, tC, tAsg, gName, gCons, gNil, gTupN, gSub, tOp, rI, rI0, rU, tTest, rNe, rEq, rIxTN, rIxLN, rLenL, rLenT, tLstRg, tRg1, tRg2, rIntI, rIntB, rAbs, rSetLN, tTruL, tRaiseX, rIsTy, rIsOw, ixN0, ixN1, tRet, tIf, tIfS, tNext, tBreak, tCont, tDrop, tTupN, tLstN, tUn, tCB, tCall, tNot, tAnd, tOr, tB, tAndV, tOrV, tNotV, tChain, tApp, LamX.tLam, tRevLN, rCatN, rInTN, rInLN, flatV, inV, List.all_cons, List.all_nil, List.any_cons, List.any_nil, Bool.and_self, Bool.and_true, if_true, Bool.false_eq_true, if_false, tMt, tFldN, tSto, HO.ins.injEq, lkh, List.drop_zero, List.drop_succ_cons, List.drop_nil, rListS, wipe, L2.start, List.map_cons, List.map_nil, List.length_cons, List.length_nil, List.replicate, List.cons_append, List.nil_append, List.append_nil, Nat.reduceAdd, Nat.reduceSub, Nat.zero_add, List.replicate_succ, List.replicate_zero, List.getElem?_cons_zero, List.getElem?_cons_succ, List.set_cons_zero, List.set_cons_succ, Option.some.injEq, V.int.injEq, V.bl.injEq, V.ref.injEq, V.str.injEq, V.ty.injEq, List.cons.injEq, HO.tup.injEq, HO.lst.injEq, and_true, true_and, and_assoc, exists_eq_left, exists_eq_left', exists_and_left, exists_eq', atI0, atI1, atI2, atI3, Int.cast_ofNat_Int, Int.reduceToNat, scal_ii, scal_in, scal_ni, scal_nn, scal_bb, scal_ss, scal_sn, scal_ns, scal_bn, scal_nb, ite_iff, decide_eq_true_eq, decide_eq_false_iff_not, Bool.not_eq_true', Classical.not_not, ne_eq, not_false_eq_true, not_true_eq_false, forall_const, true_implies, false_implies, imp_self, sizeLine_eq, Nat.reduceLeDiff, reduceCtorEq, decide_true, decide_false]
    exact k H4 P4 t4

end
end Iz
/-! k85_d -/
set_option Elab.async false
set_option linter.all false
set_option maxRecDepth 100000
set_option maxHeartbeats 4000000
namespace Iz
open PySem PySem.Spec PyProof.Rows L2
open He (ga)
open SX (S S_len)
local macro_rules | `(tactic| walk_at "wp") => `(tactic| simp only [tD1, rTupN, rAll, rMax2, rMin2, tSl, tPart, tNoPart, rSlLN, tYes, rLenS, rRepN, unset, tEv2, calmS, tRevG, tRevLN, cx_K, Value.ref.injEq, HO.xd.injEq, lk0, tSeq, tPar3, tPar, tCons, tNil, tVar, tC, tAsg, gName, gCons, gNil, gTupN, gSub, tOp, rI, rI0, rU, tTest, rNe, rEq, rIxTN, rIxLN, rLenL, rLenT, tLstRg, tRg1, tRg2, rIntI, rIntB, rAbs, rSetLN, tTruL, tRaiseX, rIsTy, rIsOw, ixN0, ixN1, tRet, tIf, tIfS, tNext, tBreak, tCont, tDrop, tTupN, tLstN, tUn, tCB, tCall, tNot, tAnd, tOr, tB, tAndV, tOrV, tNotV, tChain, tApp, LamX.tLam, tRevLN, rCatN, rInTN, rInLN, flatV, inV, List.all_cons, List.all_nil, List.any_cons, List.any_nil, Bool.and_self, Bool.and_true, if_true, Bool.false_eq_true, if_false, tMt, tFldN, tSto, HO.ins.injEq, lkh, List.drop_zero, List.drop_succ_cons, List.drop_nil, rListS, wipe, L2.start, List.map_cons, List.map_nil, List.length_cons, List.length_nil, List.replicate, List.cons_append, List.nil_append, List.append_nil, Nat.reduceAdd, Nat.reduceSub, Nat.zero_add, List.replicate_succ, List.replicate_zero, List.getElem?_cons_zero, List.getElem?_cons_succ, List.set_cons_zero, List.set_cons_succ, Option.some.injEq, V.int.injEq, V.bl.injEq, V.ref.injEq, V.str.injEq, V.ty.injEq, List.cons.injEq, HO.tup.injEq, HO.lst.injEq, and_true, true_and, and_assoc, exists_eq_left, exists_eq_left', exists_and_left, exists_eq', atI0, atI1, atI2, atI3, Int.cast_ofNat_Int, Int.reduceToNat, scal_ii, scal_in, scal_ni, scal_nn, scal_bb, scal_ss, scal_sn, scal_ns, scal_bn, scal_nb, ite_iff, decide_eq_true_eq, decide_eq_false_iff_not, Bool.not_eq_true', Classical.not_not, ne_eq, not_false_eq_true, not_true_eq_false, forall_const, true_implies, false_implies, imp_self, sizeLine_eq, Nat.reduceLeDiff, reduceCtorEq, decide_true, decide_false])
section
variable {P : Program} {w : World} {K : PySem.W.Frag} {mg : Str → Option Value} {base : Heap}
/-- a pair of lists of numbers of a sieve -/
def RwA (H : Hp) (x : V) : Prop := ∃ p a b, ∃ ks js : List Int, x = .ref p ∧ H p = some (.tup [.ref a, .ref b]) ∧ H a = some (.lst (ks.map V.int)) ∧ H b = some (.lst (js.map V.int)) ∧ okK ks ∧ okK js ∧ ks.length ≤ 5 ∧ js.length ≤ 5
theorem RwA.same {H H' : Hp} {x : V} (h : RwA H x) (s : Same H H') : RwA H' x := let ⟨p, a, b, ks, js, e, h1, h2, h3, r⟩ := h; ⟨p, a, b, ks, js, e, s _ _ h1, s _ _ h2, s _ _ h3, r⟩
theorem Po.upd {H : Hp} {a D : Addr} {o : HO} (P : Po H a) (n : D ≠ a) : Po (upd H D o) a := let ⟨g, s, e⟩ := P; ⟨g, s, by rw [upd_ne n.symm]; exact e⟩
def leftV (ks : List Int) : V → Bool
  | .int x => decide (nthL ks (belL ks (max 0 x)) = x)
  | _ => false
def spLaw (K : PySem.W.Frag) : Sp := fun vs H Q _ => ∃ sc, vs = [.ref sc] ∧ ∃ ns : List Int, SqL K H sc (ns.map V.int) ∧ ns.length ≤ 63 ∧ ∀ H', Q (.bl true) H'
theorem o_law (T : Txt K mg) {f : Addr} {fd : FuncData} (F : Fun K "law" "law" s_law f fd) : FnOk P w K mg base (L2.CX P w) 14 f fd ["_law_script"] (spLaw K) := by
  have o__law_alike_right := o__law_alike_right (P := P) (w := w) (base := base) T
  have o__law_pool := o__law_pool (P := P) (w := w) (base := base) T
  have o__law_pick := o__law_pick (P := P) (w := w) (base := base) T
  have o__law_draw := o__law_draw (P := P) (w := w) (base := base) T
  have o_Sieve := o_Sieve (P := P) (w := w) (base := base) T
  have o__law_struck := o__law_struck (P := P) (w := w) (base := base) T
  have o_Sieve_product := o_Sieve_product (P := P) (w := w) (base := base) T
  have o_Sieve_many := o_Sieve_many (P := P) (w := w) (base := base) T
  have o__law_product := o__law_product (P := P) (w := w) (base := base) T
  have o__law_near_right := o__law_near_right (P := P) (w := w) (base := base) T
  have o__law_far_right := o__law_far_right (P := P) (w := w) (base := base) T
  have o_Sieve_is_left := o_Sieve_is_left (P := P) (w := w) (base := base) T
  have o_Sieve___eq__ := o_Sieve___eq__ (P := P) (w := w) (base := base) T
  refine F.okX sc_law (fun vs H Q E h => ?_) (fun cdv A outer s H vs Q E hr h => ?_)
  · first | (obtain ⟨_, rfl, _⟩ := h; rfl) | (obtain ⟨rfl, _⟩ := h; rfl) | (obtain ⟨_, _, rfl, _⟩ := h; rfl) | (obtain ⟨_, _, _, rfl, _⟩ := h; rfl) | (obtain ⟨_, _, _, _, rfl, _⟩ := h; rfl) | (obtain ⟨_, _, _, _, _, rfl, _⟩ := h; rfl) | (obtain ⟨_, _, _, _, _, _, rfl, _⟩ := h; rfl) | (obtain ⟨_, _, _, _, _, _, _, rfl, _⟩ := h; rfl)
  have hu64 := hr.units
  refine ⟨_, pss_cons (ps_set (i := 1) sc_law.nd rfl (Or.inl rfl) (pe_lstN (pa_cons (pe_tupN (pa_cons (pe_lstN (pa_cons (pe_int) (pa_cons (pe_int) (pa_cons (pe_int) pa_nil)))) (pa_cons (pe_lstN (pa_cons (pe_int) (pa_cons (pe_int) pa_nil))) pa_nil))) (pa_cons (pe_tupN (pa_cons (pe_lstN (pa_cons (pe_int) (pa_cons (pe_int) pa_nil))) (pa_cons (pe_lstN (pa_cons (pe_int) (pa_cons (pe_int) pa_nil))) pa_nil))) (pa_cons (pe_tupN (pa_cons (pe_lstN (pa_nil)) (pa_cons (pe_lstN (pa_nil)) pa_nil))) (pa_cons (pe_tupN (pa_cons (pe_lstN (pa_cons (pe_int) pa_nil)) (pa_cons (pe_lstN (pa_cons (pe_int) (pa_cons (pe_int) pa_nil))) pa_nil))) (pa_cons (pe_tupN (pa_cons (pe_lstN (pa_cons (pe_int) (pa_cons (pe_int) (pa_cons (pe_int) pa_nil)))) (pa_cons (pe_lstN (pa_cons (pe_int) (pa_cons (pe_int) pa_nil))) pa_nil))) pa_nil)))))))
      (pss_cons (ps_for (passes_of rfl) rfl (pi_list (pe_op op_catN (pv 1) (pe_lstN (pa_cons (pe_tupN (pa_cons (pe_lstN (pa_cons (pe_int) (pa_cons (pe_int) (pa_cons (pe_int) pa_nil)))) (pa_cons (pe_lstN (pa_cons (pe_int) (pa_cons (pe_int) (pa_cons (pe_int) pa_nil)))) pa_nil))) (pa_cons (pe_tupN (pa_cons (pe_lstN (pa_cons (pe_int) (pa_cons (pe_int) (pa_cons (pe_int) pa_nil)))) (pa_cons (pe_lstN (pa_cons (pe_int) (pa_cons (pe_int) (pa_cons (pe_int) pa_nil)))) pa_nil))) (pa_cons (pe_tupN (pa_cons (pe_lstN (pa_cons (pe_int) (pa_cons (pe_int) (pa_cons (pe_int) pa_nil)))) (pa_cons (pe_lstN (pa_cons (pe_int) (pa_cons (pe_int) (pa_cons (pe_int) pa_nil)))) pa_nil))) pa_nil)))))) (pg_tupN (n := 2) (by rfl) (pgs_cons (pg_name (i := 2) sc_law.nd rfl (Or.inl rfl)) (pgs_cons (pg_name (i := 3) sc_law.nd rfl (Or.inl rfl)) pgs_nil))) (pss_one (ps_if (pt_not (pt_val (pcl o__law_alike_right (hr.mono (by decide)) pass0 (pa_cons (pv 2) (pa_cons (pv 3) pa_nil))))) (pss_one (ps_ret (pe_bl))) (pss_nil))))
      (pss_cons (ps_for (passes_of rfl) rfl (pi_range1 rfl T.m_range (pa_cons (pe_callB (call_max2N rfl) (by rfl) T.m_max (by decide +kernel) (pa_cons (pe_int) (pa_cons (pe_callB (call_min2N rfl) (by rfl) T.m_min (by decide +kernel) (pa_cons (pe_callB call_lenS (by rfl) T.m_len (by decide +kernel) (pa_cons (pv 0) pa_nil)) (pa_cons (pe_int) pa_nil))) pa_nil))) pa_nil)) (pg_name (i := 4) sc_law.nd rfl (Or.inl rfl)) (pss_cons (ps_set (i := 5) sc_law.nd rfl (Or.inr rfl) (pcl o__law_pool (hr.mono (by decide)) pass0 (pa_cons (pv 0) (pa_cons (pv 4) pa_nil))))
      (pss_cons (ps_setLc (i := 6) (own := [("_law_at", 11)]) (g := gName 11) (by rfl) sc_law.nd rfl rfl (sw_true rfl rfl rfl (by decide +kernel)) (pi_range1 (by rfl) T.m_range (pa_cons (pcl o__law_draw (hr.mono (by decide)) pass0 (pa_cons (pv 5) (pa_cons (pe_int) pa_nil))) pa_nil)) (blkOk_by (N := ["_law_script", "_law_rows", "_law_one", "_law_other", "_law_k", "_law_pool_here", "_law_ks", "_law_sieve", "_law_left", "_law_others", "_law_odd", "_law_at"]) (sc := defScope s_law) (own := [("_law_at", 11)]) (by decide +kernel)) (fun _ _ _ _ _ => pg_name (i := 11) sc_law.nd rfl (Or.inl rfl)) (fun _ _ _ _ _ => pts_nil) (fun _ _ _ _ _ => pe_op op_add (pe_int) (pcl o__law_draw (hr.mono (by decide)) pass0 (pa_cons (pv 5) (pa_cons (pcl o__law_pick (hr.mono (by decide)) pass0 (pa_cons (pv 5) (pa_cons (pe_lstN (pa_cons (pe_int) (pa_cons (pe_int) (pa_cons (pe_int) pa_nil)))) pa_nil))) pa_nil)))))
      (pss_cons (ps_par (i := 7) (j := 8) (by rfl) sc_law.nd rfl rfl (by decide) rfl rfl (pa_cons (pmk (j := 0) o_Sieve (by decide) (hr.mono (by decide)) pass0 (pa_cons (pv 6) pa_nil)) (pa_cons (pcl o__law_struck (hr.mono (by decide)) pass0 (pa_cons (pv 6) (pa_cons (pe_int) pa_nil))) pa_nil)) (by rfl))
      (pss_cons (ps_cut (ps_if (PW.pt (pw_or (pt_cmpR op_ne (pmt0 (j := 0) o_Sieve_product T.c_Sieve (pv 7) (by decide) (hr.mono (by decide)) pass0) (pcl o__law_product (hr.mono (by decide)) pass0 (pa_cons (pv 6) (pa_cons (pe_int) pa_nil))) (nomark _)) (pw_or (pt_cmpR op_ne (pmt0 (j := 0) o_Sieve_many T.c_Sieve (pv 7) (by decide) (hr.mono (by decide)) pass0) (pcl o__law_product (hr.mono (by decide)) pass0 (pa_cons (pv 6) (pa_cons (pe_int) pa_nil))) (nomark _)) (pw_or1 (pt_cmpR (op_neDk (K := K) rfl hu64) (pe_fldN T.c_Sieve T.na_Sieve_ks (pv 7)) (pe_callTy call_tuple_of (by rfl) T.m_tuple (by decide +kernel) (pa_cons (pv 6) pa_nil)) (nomark _)))))) (pss_one (ps_ret (pe_bl))) (pss_nil)))
      (pss_cons (ps_cut (ps_if (PW.pt (pw_or (pt_not (pt_val (pcl o__law_near_right (hr.mono (by decide)) pass0 (pa_cons (pv 5) (pa_cons (pv 7) (pa_cons (pv 8) (pa_cons (pe_int) pa_nil))))))) (pw_or1 (pt_not (pt_val (pcl o__law_far_right (hr.mono (by decide)) pass0 (pa_cons (pv 5) (pa_cons (pv 7) (pa_cons (pv 8) pa_nil))))))))) (pss_one (ps_ret (pe_bl))) (pss_nil)))
      (pss_cons (ps_cut (ps_set (i := 9) sc_law.nd rfl (Or.inl rfl) (pe_ifExp (pt_cmpR op_eq (pcl o__law_draw (hr.mono (by decide)) pass0 (pa_cons (pv 5) (pa_cons (pe_int) pa_nil))) (pe_int) (nomark _)) (pe_revLN (pv 6)) (pe_lc (own := [("_law_at", 11)]) (g := gName 11) (by rfl) sc_law.nd (pi_range1 (by rfl) T.m_range (pa_cons (pcl o__law_draw (hr.mono (by decide)) pass0 (pa_cons (pv 5) (pa_cons (pe_int) pa_nil))) pa_nil)) (blkOk_by (N := ["_law_script", "_law_rows", "_law_one", "_law_other", "_law_k", "_law_pool_here", "_law_ks", "_law_sieve", "_law_left", "_law_others", "_law_odd", "_law_at"]) (sc := defScope s_law) (own := [("_law_at", 11)]) (by decide +kernel)) (fun _ _ _ _ _ => pg_name (i := 11) sc_law.nd rfl (Or.inl rfl)) (fun _ _ _ _ _ => pts_nil) (fun _ _ _ _ _ => pe_op op_add (pe_int) (pcl o__law_draw (hr.mono (by decide)) pass0 (pa_cons (pv 5) (pa_cons (pe_int) pa_nil))))))))
      (pss_cons (ps_cut (ps_if (PW.pt (pw_or (pt_not (pt_val (pcl o__law_alike_right (hr.mono (by decide)) pass0 (pa_cons (pv 6) (pa_cons (pv 9) pa_nil))))) (pw_or1 (pt_cmpR op_ne (pe_cmpR (op_own (fun _ _ => rfl) o_Sieve___eq__ rfl (hr.mono (by decide)) pass0) (pv 7) (pmk (j := 0) o_Sieve (by decide) (hr.mono (by decide)) pass0 (pa_cons (pe_callTy call_tuple_of (by rfl) T.m_tuple (by decide +kernel) (pa_cons (pv 9) pa_nil)) pa_nil)) (nomark _)) (pe_cmpR (op_eqDk (K := K) rfl hu64) (pv 6) (pv 9) (nomark _)) (nomark _))))) (pss_one (ps_ret (pe_bl))) (pss_nil)))
      (pss_one (ps_for (passes_of rfl) rfl (pi_list (pe_lstN (pa_cons (pe_non) (pa_cons (pe_bl) (pa_cons (pe_str) (pa_cons (pe_tupN (pa_cons (pe_int) pa_nil)) (pa_cons (pe_un un_neg (pe_int)) pa_nil))))))) (pg_name (i := 10) sc_law.nd rfl (Or.inl rfl)) (pss_one (ps_if (pt_cmpR op_notBl (pmt (j := 0) o_Sieve_is_left T.c_Sieve (pv 7) (by decide) (hr.mono (by decide)) pass0 (pa_cons (pv 10) pa_nil)) (pe_bl) (nomark _)) (pss_one (ps_ret (pe_bl))) (pss_nil)))))))))))))
      (pss_one (ps_ret (pe_bl))))), ?_⟩
  obtain ⟨sc, rfl, ns, hsc, hns, k⟩ := h
  simp only [exists_and_left, tD1, rTupN, rAll, rMax2, rMin2, tSl, tPart, tNoPart, rSlLN, tYes, rLenS, rRepN, unset, tEv2, calmS, tRevG, tRevLN, cx_K, Value.ref.injEq, HO.xd.injEq, lk0, tSeq, tPar3, tPar, tCons, tNil, tVar, tC, tAsg, gName, gCons, gNil, gTupN, gSub, tOp, rI, rI0, rU, tTest, rNe, rEq, rIxTN, rIxLN, rLenL, rLenT, tLstRg, tRg1, tRg2, rIntI, rIntB, rAbs, rSetLN, tTruL, tRaiseX, rIsTy, rIsOw, ixN0, ixN1, tRet, tIf, tIfS, tNext, tBreak, tCont, tDrop, tTupN, tLstN, tUn, tCB, tCall, tNot, tAnd, tOr, tB, tAndV, tOrV, tNotV, tChain, tApp, LamX.tLam, tRevLN, rCatN, rInTN, rInLN, flatV, inV, List.all_cons, List.all_nil, List.any_cons, List.any_nil, Bool.and_self, Bool.and_true, if_true, Bool.false_eq_true, if_false, tMt, tFldN, tSto, HO.ins.injEq, lkh, List.drop_zero, List.drop_succ_cons, List.drop_nil, rListS, wipe, L2.start, List.map_cons, List.map_nil, List.length_cons, List.length_nil, List.replicate, List.cons_append, List.nil_append, List.append_nil, Nat.reduceAdd, Nat.reduceSub, Nat.zero_add, List.replicate_succ, List.replicate_zero, List.getElem?_cons_zero, List.getElem?_cons_succ, List.set_cons_zero, List.set_cons_succ, Option.some.injEq, V.int.injEq, V.bl.injEq, V.ref.injEq, V.str.injEq, V.ty.injEq, List.cons.injEq, HO.tup.injEq, HO.lst.injEq, and_true, true_and, and_assoc, exists_eq_left, exists_eq_left', exists_and_left, exists_eq', atI0, atI1, atI2, atI3, Int.cast_ofNat_Int, Int.reduceToNat, scal_ii, scal_in, scal_ni, scal_nn, scal_bb, scal_ss, scal_sn, scal_ns, scal_bn, scal_nb, ite_iff, decide_eq_true_eq, decide_eq_false_iff_not, Bool.not_eq_true', Classical.not_not, ne_eq, not_false_eq_true, not_true_eq_false, forall_const, true_implies, false_implies, imp_self, sizeLine_eq, Nat.reduceLeDiff, reduceCtorEq, decide_true, decide_false]
  intro a1 H1 _ s1 f1 b1 H2 _ s2 f2 p1 H3 _ s3 f3 a2 H4 _ s4 f4 b2 H5 _ s5 f5 p2 H6 _ s6 f6 a3 H7 _ s7 f7 b3 H8 _ s8 f8 p3 H9 _ s9 f9 a4 H10 _ s10 f10 b4 H11 _ s11 f11 p4 H12 _ s12 f12 a5 H13 _ s13 f13 b5 H14 _ s14 f14 p5 H15 _ s15 f15 rw H16 _ s16 f16
  have r1 : RwA H16 (.ref p1) := RwA.same ⟨p1, a1, b1, [4, 3, 2], [2, 2], rfl, f3, (s2.trans s3) _ _ f1, s3 _ _ f2, by unfold okK; decide, by unfold okK; decide, by decide, by decide⟩ (((((((((((((s4).trans s5).trans s6).trans s7).trans s8).trans s9).trans s10).trans s11).trans s12).trans s13).trans s14).trans s15).trans s16)
  have r2 : RwA H16 (.ref p2) := RwA.same ⟨p2, a2, b2, [2, 3], [3, 2], rfl, f6, (s5.trans s6) _ _ f4, s6 _ _ f5, by unfold okK; decide, by unfold okK; decide, by decide, by decide⟩ ((((((((((s7).trans s8).trans s9).trans s10).trans s11).trans s12).trans s13).trans s14).trans s15).trans s16)
  have r3 : RwA H16 (.ref p3) := RwA.same ⟨p3, a3, b3, [], [], rfl, f9, (s8.trans s9) _ _ f7, s9 _ _ f8, by unfold okK; decide, by unfold okK; decide, by decide, by decide⟩ (((((((s10).trans s11).trans s12).trans s13).trans s14).trans s15).trans s16)
  have r4 : RwA H16 (.ref p4) := RwA.same ⟨p4, a4, b4, [2], [3, 2], rfl, f12, (s11.trans s12) _ _ f10, s12 _ _ f11, by unfold okK; decide, by unfold okK; decide, by decide, by decide⟩ ((((s13).trans s14).trans s15).trans s16)
  have r5 : RwA H16 (.ref p5) := RwA.same ⟨p5, a5, b5, [3, 2, 2], [2, 3], rfl, f15, (s14.trans s15) _ _ f13, s15 _ _ f14, by unfold okK; decide, by unfold okK; decide, by decide, by decide⟩ (s16)
  refine for_inL ?_
  simp only [exists_and_left, tD1, rTupN, rAll, rMax2, rMin2, tSl, tPart, tNoPart, rSlLN, tYes, rLenS, rRepN, unset, tEv2, calmS, tRevG, tRevLN, cx_K, Value.ref.injEq, HO.xd.injEq, lk0, tSeq, tPar3, tPar, tCons, tNil, tVar, tC, tAsg, gName, gCons, gNil, gTupN, gSub, tOp, rI, rI0, rU, tTest, rNe, rEq, rIxTN, rIxLN, rLenL, rLenT, tLstRg, tRg1, tRg2, rIntI, rIntB, rAbs, rSetLN, tTruL, tRaiseX, rIsTy, rIsOw, ixN0, ixN1, tRet, tIf, tIfS, tNext, tBreak, tCont, tDrop, tTupN, tLstN, tUn, tCB, tCall, tNot, tAnd, tOr, tB, tAndV, tOrV, tNotV, tChain, tApp, LamX.tLam, tRevLN, rCatN, rInTN, rInLN, flatV, inV, List.all_cons, List.all_nil, List.any_cons, List.any_nil, Bool.and_self, Bool.and_true, if_true, Bool.false_eq_true, if_false, tMt, tFldN, tSto, HO.ins.injEq, lkh, List.drop_zero, List.drop_succ_cons, List.drop_nil, rListS, wipe, L2.start, List.map_cons, List.map_nil, List.length_cons, List.length_nil, List.replicate, List.cons_append, List.nil_append, List.append_nil, Nat.reduceAdd, Nat.reduceSub, Nat.zero_add, List.replicate_succ, List.replicate_zero, List.getElem?_cons_zero, List.getElem?_cons_succ, List.set_cons_zero, List.set_cons_succ, Option.some.injEq, V.int.injEq, V.bl.injEq, V.ref.injEq, V.str.injEq, V.ty.injEq, List.cons.injEq, HO.tup.injEq, HO.lst.injEq, and_true, true_and, and_assoc, exists_eq_left, exists_eq_left', exists_and_left, exists_eq', atI0, atI1, atI2, atI3, Int.cast_ofNat_Int, Int.reduceToNat, scal_ii, scal_in, scal_ni, scal_nn, scal_bb, scal_ss, scal_sn, scal_ns, scal_bn, scal_nb, ite_iff, decide_eq_true_eq, decide_eq_false_iff_not, Bool.not_eq_true', Classical.not_not, ne_eq, not_false_eq_true, not_true_eq_false, forall_const, true_implies, false_implies, imp_self, sizeLine_eq, Nat.reduceLeDiff, reduceCtorEq, decide_true, decide_false]
  intro a6 H17 _ s17 f17 b6 H18 _ s18 f18 p6 H19 _ s19 f19 a7 H20 _ s20 f20 b7 H21 _ s21 f21 p7 H22 _ s22 f22 a8 H23 _ s23 f23 b8 H24 _ s24 f24 p8 H25 _ s25 f25 rw2 H26 _ s26 f26
  have r6 : RwA H26 (.ref p6) := RwA.same ⟨p6, a6, b6, [9, 9, 9], [9, 9, 9], rfl, f19, (s18.trans s19) _ _ f17, s19 _ _ f18, by unfold okK; decide, by unfold okK; decide, by decide, by decide⟩ (((((((s20).trans s21).trans s22).trans s23).trans s24).trans s25).trans s26)
  have r7 : RwA H26 (.ref p7) := RwA.same ⟨p7, a7, b7, [9, 8, 7], [7, 8, 9], rfl, f22, (s21.trans s22) _ _ f20, s22 _ _ f21, by unfold okK; decide, by unfold okK; decide, by decide, by decide⟩ ((((s23).trans s24).trans s25).trans s26)
  have r8 : RwA H26 (.ref p8) := RwA.same ⟨p8, a8, b8, [5, 9, 6], [5, 9, 6], rfl, f25, (s24.trans s25) _ _ f23, s25 _ _ f24, by unfold okK; decide, by unfold okK; decide, by decide, by decide⟩ (s26)
  have s1726 : Same H16 H26 := (((((((((s17).trans s18).trans s19).trans s20).trans s21).trans s22).trans s23).trans s24).trans s25).trans s26
  have s126 : Same H H26 := ((((((((((((((((s1).trans s2).trans s3).trans s4).trans s5).trans s6).trans s7).trans s8).trans s9).trans s10).trans s11).trans s12).trans s13).trans s14).trans s15).trans s16).trans s1726
  refine ⟨rw2, rfl, _, s1726 _ _ f16, _, f26, (by show 8 ≤ 16777216; decide), fun W H27 _ s27 f27 => ?_⟩
  have s127 := s126.trans s27
  refine st_forL (fun R r => r) f27 (fun i σ' H' => (∃ o1 o2, σ' = [some (V.ref sc), some (V.ref rw), o1, o2, none, none, none, none, none, none, none, none]) ∧ Same H27 H') ⟨⟨_, _, rfl⟩, fun _ _ h => h⟩ (fun i σ' H' p => p.2 _ _ f27) ?_ ?_
  · rintro i x _ H28 hi ⟨⟨o1, o2, rfl⟩, s28⟩
    have hr : RwA H28 x := by
      have hm := List.mem_of_getElem? hi
      have s' := s27.trans s28
      simp only [List.cons_append, List.nil_append, List.mem_cons, List.not_mem_nil, or_false] at hm
      rcases hm with rfl | rfl | rfl | rfl | rfl | rfl | rfl | rfl
      · exact (r1.same s1726).same s'
      · exact (r2.same s1726).same s'
      · exact (r3.same s1726).same s'
      · exact (r4.same s1726).same s'
      · exact (r5.same s1726).same s'
      · exact r6.same s'
      · exact r7.same s'
      · exact r8.same s'
    obtain ⟨p, a, b, ks, js, rfl, h1, h2, h3, hk, hj, lk, lj⟩ := hr
    simp only [h1, spAR, exists_and_left, tD1, rTupN, rAll, rMax2, rMin2, tSl, tPart, tNoPart, rSlLN, tYes, rLenS, rRepN, unset, tEv2, calmS, tRevG, tRevLN, cx_K, Value.ref.injEq, HO.xd.injEq, lk0, tSeq, tPar3, tPar, tCons, tNil, tVar, tC, tAsg, gName, gCons, gNil, gTupN, gSub, tOp, rI, rI0, rU, tTest, rNe, rEq, rIxTN, rIxLN, rLenL, rLenT, tLstRg, tRg1, tRg2, rIntI, rIntB, rAbs, rSetLN, tTruL, tRaiseX, rIsTy, rIsOw, ixN0, ixN1, tRet, tIf, tIfS, tNext, tBreak, tCont, tDrop, tTupN, tLstN, tUn, tCB, tCall, tNot, tAnd, tOr, tB, tAndV, tOrV, tNotV, tChain, tApp, LamX.tLam, tRevLN, rCatN, rInTN, rInLN, flatV, inV, List.all_cons, List.all_nil, List.any_cons, List.any_nil, Bool.and_self, Bool.and_true, if_true, Bool.false_eq_true, if_false, tMt, tFldN, tSto, HO.ins.injEq, lkh, List.drop_zero, List.drop_succ_cons, List.drop_nil, rListS, wipe, L2.start, List.map_cons, List.map_nil, List.length_cons, List.length_nil, List.replicate, List.cons_append, List.nil_append, List.append_nil, Nat.reduceAdd, Nat.reduceSub, Nat.zero_add, List.replicate_succ, List.replicate_zero, List.getElem?_cons_zero, List.getElem?_cons_succ, List.set_cons_zero, List.set_cons_succ, Option.some.injEq, V.int.injEq, V.bl.injEq, V.ref.injEq, V.str.injEq, V.ty.injEq, List.cons.injEq, HO.tup.injEq, HO.lst.injEq, and_true, true_and, and_assoc, exists_eq_left, exists_eq_left', exists_and_left, exists_eq', atI0, atI1, atI2, atI3, Int.cast_ofNat_Int, Int.reduceToNat, scal_ii, scal_in, scal_ni, scal_nn, scal_bb, scal_ss, scal_sn, scal_ns, scal_bn, scal_nb, ite_iff, decide_eq_true_eq, decide_eq_false_iff_not, Bool.not_eq_true', Classical.not_not, ne_eq, not_false_eq_true, not_true_eq_false, forall_const, true_implies, false_implies, imp_self, sizeLine_eq, Nat.reduceLeDiff, reduceCtorEq, decide_true, decide_false]
    exact ⟨ks, h2, js, h3, hk, hj, lk, lj, fun H' s' => s28.trans s'⟩
  · rintro _ H28 ⟨⟨o1, o2, rfl⟩, s28⟩
    have s1 := s127.trans s28
    clear r1 r2 r3 r4 r5 r6 r7 r8 f1 f2 f3 f4 f5 f6 f7 f8 f9 f10 f11 f12 f13 f14 f15 f16 f17 f18 f19 f20 f21 f22 f23 f24 f25 f26 f27
    simp only [exists_and_left, tD1, rTupN, rAll, rMax2, rMin2, tSl, tPart, tNoPart, rSlLN, tYes, rLenS, rRepN, unset, tEv2, calmS, tRevG, tRevLN, cx_K, Value.ref.injEq, HO.xd.injEq, lk0, tSeq, tPar3, tPar, tCons, tNil, tVar, tC, tAsg, gName, gCons, gNil, gTupN, gSub, tOp, rI, rI0, rU, tTest, rNe, rEq, rIxTN, rIxLN, rLenL, rLenT, tLstRg, tRg1, tRg2, rIntI, rIntB, rAbs, rSetLN, tTruL, tRaiseX, rIsTy, rIsOw, ixN0, ixN1, tRet, tIf, tIfS, tNext, tBreak, tCont, tDrop, tTupN, tLstN, tUn, tCB, tCall, tNot, tAnd, tOr, tB, tAndV, tOrV, tNotV, tChain, tApp, LamX.tLam, tRevLN, rCatN, rInTN, rInLN, flatV, inV, List.all_cons, List.all_nil, List.any_cons, List.any_nil, Bool.and_self, Bool.and_true, if_true, Bool.false_eq_true, if_false, tMt, tFldN, tSto, HO.ins.injEq, lkh, List.drop_zero, List.drop_succ_cons, List.drop_nil, rListS, wipe, L2.start, List.map_cons, List.map_nil, List.length_cons, List.length_nil, List.replicate, List.cons_append, List.nil_append, List.append_nil, Nat.reduceAdd, Nat.reduceSub, Nat.zero_add, List.replicate_succ, List.replicate_zero, List.getElem?_cons_zero, List.getElem?_cons_succ, List.set_cons_zero, List.set_cons_succ, Option.some.injEq, V.int.injEq, V.bl.injEq, V.ref.injEq, V.str.injEq, V.ty.injEq, List.cons.injEq, HO.tup.injEq, HO.lst.injEq, and_true, true_and, and_assoc, exists_eq_left, exists_eq_left', exists_and_left, exists_eq', atI0, atI1, atI2, atI3, Int.cast_ofNat_Int, Int.reduceToNat, scal_ii, scal_in, scal_ni, scal_nn, scal_bb, scal_ss, scal_sn, scal_ns, scal_bn, scal_nb, ite_iff, decide_eq_true_eq, decide_eq_false_iff_not, Bool.not_eq_true', Classical.not_not, ne_eq, not_false_eq_true, not_true_eq_false, forall_const, true_implies, false_implies, imp_self, sizeLine_eq, Nat.reduceLeDiff, reduceCtorEq, decide_true, decide_false]
    refine st_forR1 (max 1 (min (ns.length : Int) 3)) (by omega) (fun R r => ?_) (fun i σ' H' => (∃ x1 x2 x3 x4 x5 x6 x7 x8 x9 x10 x11, σ' = [some (V.ref sc), x1, x2, x3, x4, x5, x6, x7, x8, x9, x10, x11]) ∧ Same H H') ⟨⟨_, _, _, _, _, _, _, _, _, _, _, rfl⟩, s1⟩ ?_ ?_
    · simp only [rLenS, exists_and_left, tD1, rTupN, rAll, rMax2, rMin2, tSl, tPart, tNoPart, rSlLN, tYes, rLenS, rRepN, unset, tEv2, calmS, tRevG, tRevLN, cx_K, Value.ref.injEq, HO.xd.injEq, lk0, tSeq, tPar3, tPar, tCons, tNil, tVar, tC, tAsg, gName, gCons, gNil, gTupN, gSub, tOp, rI, rI0, rU, tTest, rNe, rEq, rIxTN, rIxLN, rLenL, rLenT, tLstRg, tRg1, tRg2, rIntI, rIntB, rAbs, rSetLN, tTruL, tRaiseX, rIsTy, rIsOw, ixN0, ixN1, tRet, tIf, tIfS, tNext, tBreak, tCont, tDrop, tTupN, tLstN, tUn, tCB, tCall, tNot, tAnd, tOr, tB, tAndV, tOrV, tNotV, tChain, tApp, LamX.tLam, tRevLN, rCatN, rInTN, rInLN, flatV, inV, List.all_cons, List.all_nil, List.any_cons, List.any_nil, Bool.and_self, Bool.and_true, if_true, Bool.false_eq_true, if_false, tMt, tFldN, tSto, HO.ins.injEq, lkh, List.drop_zero, List.drop_succ_cons, List.drop_nil, rListS, wipe, L2.start, List.map_cons, List.map_nil, List.length_cons, List.length_nil, List.replicate, List.cons_append, List.nil_append, List.append_nil, Nat.reduceAdd, Nat.reduceSub, Nat.zero_add, List.replicate_succ, List.replicate_zero, List.getElem?_cons_zero, List.getElem?_cons_succ, List.set_cons_zero, List.set_cons_succ, Option.some.injEq, V.int.injEq, V.bl.injEq, V.ref.injEq, V.str.injEq, V.ty.injEq, List.cons.injEq, HO.tup.injEq, HO.lst.injEq, and_true, true_and, and_assoc, exists_eq_left, exists_eq_left', exists_and_left, exists_eq', atI0, atI1, atI2, atI3, Int.cast_ofNat_Int, Int.reduceToNat, scal_ii, scal_in, scal_ni, scal_nn, scal_bb, scal_ss, scal_sn, scal_ns, scal_bn, scal_nb, ite_iff, decide_eq_true_eq, decide_eq_false_iff_not, Bool.not_eq_true', Classical.not_not, ne_eq, not_false_eq_true, not_true_eq_false, forall_const, true_implies, false_implies, imp_self, sizeLine_eq, Nat.reduceLeDiff, reduceCtorEq, decide_true, decide_false]
      refine ⟨_, sqL_ext hsc (extS s1), ?_⟩
      rw [List.length_map]
      exact r
    · rintro i _ H1 hi ⟨⟨x1, x2, x3, x4, x5, x6, x7, x8, x9, x10, x11, rfl⟩, s1⟩
      simp only [spPool, exists_and_left, tD1, rTupN, rAll, rMax2, rMin2, tSl, tPart, tNoPart, rSlLN, tYes, rLenS, rRepN, unset, tEv2, calmS, tRevG, tRevLN, cx_K, Value.ref.injEq, HO.xd.injEq, lk0, tSeq, tPar3, tPar, tCons, tNil, tVar, tC, tAsg, gName, gCons, gNil, gTupN, gSub, tOp, rI, rI0, rU, tTest, rNe, rEq, rIxTN, rIxLN, rLenL, rLenT, tLstRg, tRg1, tRg2, rIntI, rIntB, rAbs, rSetLN, tTruL, tRaiseX, rIsTy, rIsOw, ixN0, ixN1, tRet, tIf, tIfS, tNext, tBreak, tCont, tDrop, tTupN, tLstN, tUn, tCB, tCall, tNot, tAnd, tOr, tB, tAndV, tOrV, tNotV, tChain, tApp, LamX.tLam, tRevLN, rCatN, rInTN, rInLN, flatV, inV, List.all_cons, List.all_nil, List.any_cons, List.any_nil, Bool.and_self, Bool.and_true, if_true, Bool.false_eq_true, if_false, tMt, tFldN, tSto, HO.ins.injEq, lkh, List.drop_zero, List.drop_succ_cons, List.drop_nil, rListS, wipe, L2.start, List.map_cons, List.map_nil, List.length_cons, List.length_nil, List.replicate, List.cons_append, List.nil_append, List.append_nil, Nat.reduceAdd, Nat.reduceSub, Nat.zero_add, List.replicate_succ, List.replicate_zero, List.getElem?_cons_zero, List.getElem?_cons_succ, List.set_cons_zero, List.set_cons_succ, Option.some.injEq, V.int.injEq, V.bl.injEq, V.ref.injEq, V.str.injEq, V.ty.injEq, List.cons.injEq, HO.tup.injEq, HO.lst.injEq, and_true, true_and, and_assoc, exists_eq_left, exists_eq_left', exists_and_left, exists_eq', atI0, atI1, atI2, atI3, Int.cast_ofNat_Int, Int.reduceToNat, scal_ii, scal_in, scal_ni, scal_nn, scal_bb, scal_ss, scal_sn, scal_ns, scal_bn, scal_nb, ite_iff, decide_eq_true_eq, decide_eq_false_iff_not, Bool.not_eq_true', Classical.not_not, ne_eq, not_false_eq_true, not_true_eq_false, forall_const, true_implies, false_implies, imp_self, sizeLine_eq, Nat.reduceLeDiff, reduceCtorEq, decide_true, decide_false]
      refine ⟨ns, sqL_ext hsc (extS s1), hns, by omega, by omega, fun p H2 n2 s2 P2 => lc_in1 ?_⟩
      simp only [spDraw, exists_and_left, tD1, rTupN, rAll, rMax2, rMin2, tSl, tPart, tNoPart, rSlLN, tYes, rLenS, rRepN, unset, tEv2, calmS, tRevG, tRevLN, cx_K, Value.ref.injEq, HO.xd.injEq, lk0, tSeq, tPar3, tPar, tCons, tNil, tVar, tC, tAsg, gName, gCons, gNil, gTupN, gSub, tOp, rI, rI0, rU, tTest, rNe, rEq, rIxTN, rIxLN, rLenL, rLenT, tLstRg, tRg1, tRg2, rIntI, rIntB, rAbs, rSetLN, tTruL, tRaiseX, rIsTy, rIsOw, ixN0, ixN1, tRet, tIf, tIfS, tNext, tBreak, tCont, tDrop, tTupN, tLstN, tUn, tCB, tCall, tNot, tAnd, tOr, tB, tAndV, tOrV, tNotV, tChain, tApp, LamX.tLam, tRevLN, rCatN, rInTN, rInLN, flatV, inV, List.all_cons, List.all_nil, List.any_cons, List.any_nil, Bool.and_self, Bool.and_true, if_true, Bool.false_eq_true, if_false, tMt, tFldN, tSto, HO.ins.injEq, lkh, List.drop_zero, List.drop_succ_cons, List.drop_nil, rListS, wipe, L2.start, List.map_cons, List.map_nil, List.length_cons, List.length_nil, List.replicate, List.cons_append, List.nil_append, List.append_nil, Nat.reduceAdd, Nat.reduceSub, Nat.zero_add, List.replicate_succ, List.replicate_zero, List.getElem?_cons_zero, List.getElem?_cons_succ, List.set_cons_zero, List.set_cons_succ, Option.some.injEq, V.int.injEq, V.bl.injEq, V.ref.injEq, V.str.injEq, V.ty.injEq, List.cons.injEq, HO.tup.injEq, HO.lst.injEq, and_true, true_and, and_assoc, exists_eq_left, exists_eq_left', exists_and_left, exists_eq', atI0, atI1, atI2, atI3, Int.cast_ofNat_Int, Int.reduceToNat, scal_ii, scal_in, scal_ni, scal_nn, scal_bb, scal_ss, scal_sn, scal_ns, scal_bn, scal_nb, ite_iff, decide_eq_true_eq, decide_eq_false_iff_not, Bool.not_eq_true', Classical.not_not, ne_eq, not_false_eq_true, not_true_eq_false, forall_const, true_implies, false_implies, imp_self, sizeLine_eq, Nat.reduceLeDiff, reduceCtorEq, decide_true, decide_false]
      refine ⟨P2, by decide, by decide, fun n H3 n0 n1 P3 t3 => ⟨by omega, by omega, ?_⟩⟩
      refine st_lcI (fun D j H' => H3 D = none ∧ Po H' p ∧ StpP p H3 H' ∧ ∃ ks : List Int, ks.length = j ∧ okK ks ∧ H' D = some (.lst (ks.map V.int))) (fun D H4 n4 s4 f4 => ⟨n4, P3.same s4, StpP.of s4, [], rfl, fun k hk => (by cases hk), f4⟩) ?_ ?_
      · rintro D j H4 hj ⟨n4, P4, t4, ks, lk, hk, f4⟩
        simp only [spPick, spDraw, exists_and_left, tD1, rTupN, rAll, rMax2, rMin2, tSl, tPart, tNoPart, rSlLN, tYes, rLenS, rRepN, unset, tEv2, calmS, tRevG, tRevLN, cx_K, Value.ref.injEq, HO.xd.injEq, lk0, tSeq, tPar3, tPar, tCons, tNil, tVar, tC, tAsg, gName, gCons, gNil, gTupN, gSub, tOp, rI, rI0, rU, tTest, rNe, rEq, rIxTN, rIxLN, rLenL, rLenT, tLstRg, tRg1, tRg2, rIntI, rIntB, rAbs, rSetLN, tTruL, tRaiseX, rIsTy, rIsOw, ixN0, ixN1, tRet, tIf, tIfS, tNext, tBreak, tCont, tDrop, tTupN, tLstN, tUn, tCB, tCall, tNot, tAnd, tOr, tB, tAndV, tOrV, tNotV, tChain, tApp, LamX.tLam, tRevLN, rCatN, rInTN, rInLN, flatV, inV, List.all_cons, List.all_nil, List.any_cons, List.any_nil, Bool.and_self, Bool.and_true, if_true, Bool.false_eq_true, if_false, tMt, tFldN, tSto, HO.ins.injEq, lkh, List.drop_zero, List.drop_succ_cons, List.drop_nil, rListS, wipe, L2.start, List.map_cons, List.map_nil, List.length_cons, List.length_nil, List.replicate, List.cons_append, List.nil_append, List.append_nil, Nat.reduceAdd, Nat.reduceSub, Nat.zero_add, List.replicate_succ, List.replicate_zero, List.getElem?_cons_zero, List.getElem?_cons_succ, List.set_cons_zero, List.set_cons_succ, Option.some.injEq, V.int.injEq, V.bl.injEq, V.ref.injEq, V.str.injEq, V.ty.injEq, List.cons.injEq, HO.tup.injEq, HO.lst.injEq, and_true, true_and, and_assoc, exists_eq_left, exists_eq_left', exists_and_left, exists_eq', atI0, atI1, atI2, atI3, Int.cast_ofNat_Int, Int.reduceToNat, scal_ii, scal_in, scal_ni, scal_nn, scal_bb, scal_ss, scal_sn, scal_ns, scal_bn, scal_nb, ite_iff, decide_eq_true_eq, decide_eq_false_iff_not, Bool.not_eq_true', Classical.not_not, ne_eq, not_false_eq_true, not_true_eq_false, forall_const, true_implies, false_implies, imp_self, sizeLine_eq, Nat.reduceLeDiff, reduceCtorEq, decide_true, decide_false]
        intro l0 H5 n5 s5 f5
        refine ⟨l0, rfl, P4.same s5, P4.ne n5, _, f5, by decide, by decide, fun v H6 hv P6 t6 => ?_⟩
        obtain ⟨m, rfl, m2, m8⟩ : ∃ m : Int, v = .int m ∧ 2 ≤ m ∧ m ≤ 8 := by
          simp only [List.mem_cons, List.not_mem_nil, or_false] at hv
          rcases hv with rfl | rfl | rfl
          · exact ⟨2, rfl, by decide, by decide⟩
          · exact ⟨4, rfl, by decide, by decide⟩
          · exact ⟨8, rfl, by decide, by decide⟩
        refine ⟨m, rfl, P6, by omega, Nat.lt_of_le_of_lt (show m.natAbs ≤ 8 by omega) (by decide), fun d H7 d0 d1 P7 t7 => ?_⟩
        have Dp : D ≠ p := P3.ne n4
        have f7 := t7 _ _ (t6 _ _ (s5 _ _ f4) Dp) Dp
        refine ⟨_, f7, ?_, n4, P7.upd Dp, fun b o e n => by rw [upd_ne (ne_of_none e n4)]; exact t7 _ _ (t6 _ _ (s5 _ _ (t4 b o e n)) n) n, ks ++ [2 + d], by rw [List.length_append, lk]; rfl, hk.app (by omega), ?_⟩
        · rw [List.length_map, lk]; show _ < 16777216; omega
        · rw [upd_same, List.map_append]; rfl
      · rintro K1 H4 ⟨n4, P4, t4, ks, lk, hk, f4⟩
        have Kp : K1 ≠ p := P3.ne n4
        have l5 : ks.length ≤ 5 := by omega
        simp only [spSv, spStr, exists_and_left, tD1, rTupN, rAll, rMax2, rMin2, tSl, tPart, tNoPart, rSlLN, tYes, rLenS, rRepN, unset, tEv2, calmS, tRevG, tRevLN, cx_K, Value.ref.injEq, HO.xd.injEq, lk0, tSeq, tPar3, tPar, tCons, tNil, tVar, tC, tAsg, gName, gCons, gNil, gTupN, gSub, tOp, rI, rI0, rU, tTest, rNe, rEq, rIxTN, rIxLN, rLenL, rLenT, tLstRg, tRg1, tRg2, rIntI, rIntB, rAbs, rSetLN, tTruL, tRaiseX, rIsTy, rIsOw, ixN0, ixN1, tRet, tIf, tIfS, tNext, tBreak, tCont, tDrop, tTupN, tLstN, tUn, tCB, tCall, tNot, tAnd, tOr, tB, tAndV, tOrV, tNotV, tChain, tApp, LamX.tLam, tRevLN, rCatN, rInTN, rInLN, flatV, inV, List.all_cons, List.all_nil, List.any_cons, List.any_nil, Bool.and_self, Bool.and_true, if_true, Bool.false_eq_true, if_false, tMt, tFldN, tSto, HO.ins.injEq, lkh, List.drop_zero, List.drop_succ_cons, List.drop_nil, rListS, wipe, L2.start, List.map_cons, List.map_nil, List.length_cons, List.length_nil, List.replicate, List.cons_append, List.nil_append, List.append_nil, Nat.reduceAdd, Nat.reduceSub, Nat.zero_add, List.replicate_succ, List.replicate_zero, List.getElem?_cons_zero, List.getElem?_cons_succ, List.set_cons_zero, List.set_cons_succ, Option.some.injEq, V.int.injEq, V.bl.injEq, V.ref.injEq, V.str.injEq, V.ty.injEq, List.cons.injEq, HO.tup.injEq, HO.lst.injEq, and_true, true_and, and_assoc, exists_eq_left, exists_eq_left', exists_and_left, exists_eq', atI0, atI1, atI2, atI3, Int.cast_ofNat_Int, Int.reduceToNat, scal_ii, scal_in, scal_ni, scal_nn, scal_bb, scal_ss, scal_sn, scal_ns, scal_bn, scal_nb, ite_iff, decide_eq_true_eq, decide_eq_false_iff_not, Bool.not_eq_true', Classical.not_not, ne_eq, not_false_eq_true, not_true_eq_false, forall_const, true_implies, false_implies, imp_self, sizeLine_eq, Nat.reduceLeDiff, reduceCtorEq, decide_true, decide_false]
        refine ⟨ks, .inl f4, hk, l5, fun sv H5 n5 s5 v5 => ⟨ks, s5 _ _ f4, hk, by decide, by decide, fun L H6 n6 s6 f6 => ?_⟩⟩
        have v6 := v5.same s6
        have P6 := (P4.same s5).same s6
        have Lp : L ≠ p := (P4.same s5).ne n6
        have K6 := (s5.trans s6) _ _ f4
        have t06 : ∀ b o, H1 b = some o → H6 b = some o := fun b o e => (s5.trans s6) _ _ (t4 _ _ (t3 _ _ (s2 _ _ e) (ne_of_none e n2)) (ne_of_none e n2))
        refine ⟨fun σ' H' => σ' = [some (V.ref sc), x1, x2, x3, some (V.int i), some (V.ref p), some (V.ref K1), some (V.ref sv), some (V.ref L), x9, x10, x11] ∧ Same H6 H', ?_, ?_⟩
        · obtain ⟨dx, q, h6, hq6⟩ := id v6
          simp only [spPd, spMany, spLPrd, exists_and_left, tD1, rTupN, rAll, rMax2, rMin2, tSl, tPart, tNoPart, rSlLN, tYes, rLenS, rRepN, unset, tEv2, calmS, tRevG, tRevLN, cx_K, Value.ref.injEq, HO.xd.injEq, lk0, tSeq, tPar3, tPar, tCons, tNil, tVar, tC, tAsg, gName, gCons, gNil, gTupN, gSub, tOp, rI, rI0, rU, tTest, rNe, rEq, rIxTN, rIxLN, rLenL, rLenT, tLstRg, tRg1, tRg2, rIntI, rIntB, rAbs, rSetLN, tTruL, tRaiseX, rIsTy, rIsOw, ixN0, ixN1, tRet, tIf, tIfS, tNext, tBreak, tCont, tDrop, tTupN, tLstN, tUn, tCB, tCall, tNot, tAnd, tOr, tB, tAndV, tOrV, tNotV, tChain, tApp, LamX.tLam, tRevLN, rCatN, rInTN, rInLN, flatV, inV, List.all_cons, List.all_nil, List.any_cons, List.any_nil, Bool.and_self, Bool.and_true, if_true, Bool.false_eq_true, if_false, tMt, tFldN, tSto, HO.ins.injEq, lkh, List.drop_zero, List.drop_succ_cons, List.drop_nil, rListS, wipe, L2.start, List.map_cons, List.map_nil, List.length_cons, List.length_nil, List.replicate, List.cons_append, List.nil_append, List.append_nil, Nat.reduceAdd, Nat.reduceSub, Nat.zero_add, List.replicate_succ, List.replicate_zero, List.getElem?_cons_zero, List.getElem?_cons_succ, List.set_cons_zero, List.set_cons_succ, Option.some.injEq, V.int.injEq, V.bl.injEq, V.ref.injEq, V.str.injEq, V.ty.injEq, List.cons.injEq, HO.tup.injEq, HO.lst.injEq, and_true, true_and, and_assoc, exists_eq_left, exists_eq_left', exists_and_left, exists_eq', atI0, atI1, atI2, atI3, Int.cast_ofNat_Int, Int.reduceToNat, scal_ii, scal_in, scal_ni, scal_nn, scal_bb, scal_ss, scal_sn, scal_ns, scal_bn, scal_nb, ite_iff, decide_eq_true_eq, decide_eq_false_iff_not, Bool.not_eq_true', Classical.not_not, ne_eq, not_false_eq_true, not_true_eq_false, forall_const, true_implies, false_implies, imp_self, sizeLine_eq, Nat.reduceLeDiff, reduceCtorEq, decide_true, decide_false]
          refine ⟨dx, _, h6, lkNo, ks, v6, hk, l5, ks, K6, hk, l5, by decide, by decide, fun c => absurd (by simp) c, fun _ => ⟨dx, _, h6, lkNo, ks, v6, hk, l5, fun H7 s7 => ⟨ks, s7 _ _ K6, hk, l5, by decide, by decide, fun c => absurd rfl c, fun _ => ⟨dx, _, s7 _ _ h6, _, lkKs, ?_⟩⟩⟩⟩
          refine ⟨_, .inl ⟨SqL.of (s7 _ _ K6), fun l hl => ?_⟩⟩
          have s78 := s7.trans (Same.upd (o := .tup (ks.map V.int)) hl)
          refine ⟨_, _, .tup (SqT.same hq6 s78) (dpA_i ks), .tup (SqT.of upd_same) (dpA_i ks), (sh_it (n := 0)).ok, (sh_it (n := 0)).ok, ?_⟩
          rw [eqv_it, decide_eq_true rfl]
          exact ⟨false, rfl, fun c => (by cases c), fun _ => s78⟩
        · rintro _ H7 ⟨rfl, s7⟩
          have v7 := v6.same s7
          have K7 := s7 _ _ K6
          simp only [exists_and_left, tD1, rTupN, rAll, rMax2, rMin2, tSl, tPart, tNoPart, rSlLN, tYes, rLenS, rRepN, unset, tEv2, calmS, tRevG, tRevLN, cx_K, Value.ref.injEq, HO.xd.injEq, lk0, tSeq, tPar3, tPar, tCons, tNil, tVar, tC, tAsg, gName, gCons, gNil, gTupN, gSub, tOp, rI, rI0, rU, tTest, rNe, rEq, rIxTN, rIxLN, rLenL, rLenT, tLstRg, tRg1, tRg2, rIntI, rIntB, rAbs, rSetLN, tTruL, tRaiseX, rIsTy, rIsOw, ixN0, ixN1, tRet, tIf, tIfS, tNext, tBreak, tCont, tDrop, tTupN, tLstN, tUn, tCB, tCall, tNot, tAnd, tOr, tB, tAndV, tOrV, tNotV, tChain, tApp, LamX.tLam, tRevLN, rCatN, rInTN, rInLN, flatV, inV, List.all_cons, List.all_nil, List.any_cons, List.any_nil, Bool.and_self, Bool.and_true, if_true, Bool.false_eq_true, if_false, tMt, tFldN, tSto, HO.ins.injEq, lkh, List.drop_zero, List.drop_succ_cons, List.drop_nil, rListS, wipe, L2.start, List.map_cons, List.map_nil, List.length_cons, List.length_nil, List.replicate, List.cons_append, List.nil_append, List.append_nil, Nat.reduceAdd, Nat.reduceSub, Nat.zero_add, List.replicate_succ, List.replicate_zero, List.getElem?_cons_zero, List.getElem?_cons_succ, List.set_cons_zero, List.set_cons_succ, Option.some.injEq, V.int.injEq, V.bl.injEq, V.ref.injEq, V.str.injEq, V.ty.injEq, List.cons.injEq, HO.tup.injEq, HO.lst.injEq, and_true, true_and, and_assoc, exists_eq_left, exists_eq_left', exists_and_left, exists_eq', atI0, atI1, atI2, atI3, Int.cast_ofNat_Int, Int.reduceToNat, scal_ii, scal_in, scal_ni, scal_nn, scal_bb, scal_ss, scal_sn, scal_ns, scal_bn, scal_nb, ite_iff, decide_eq_true_eq, decide_eq_false_iff_not, Bool.not_eq_true', Classical.not_not, ne_eq, not_false_eq_true, not_true_eq_false, forall_const, true_implies, false_implies, imp_self, sizeLine_eq, Nat.reduceLeDiff, reduceCtorEq, decide_true, decide_false]
          refine ⟨fun σ' H' => σ' = [some (V.ref sc), x1, x2, x3, some (V.int i), some (V.ref p), some (V.ref K1), some (V.ref sv), some (V.ref L), x9, x10, x11] ∧ Po H' p ∧ StpP p H7 H', ?_, ?_⟩
          · simp only [spNR, spFR, exists_and_left, tD1, rTupN, rAll, rMax2, rMin2, tSl, tPart, tNoPart, rSlLN, tYes, rLenS, rRepN, unset, tEv2, calmS, tRevG, tRevLN, cx_K, Value.ref.injEq, HO.xd.injEq, lk0, tSeq, tPar3, tPar, tCons, tNil, tVar, tC, tAsg, gName, gCons, gNil, gTupN, gSub, tOp, rI, rI0, rU, tTest, rNe, rEq, rIxTN, rIxLN, rLenL, rLenT, tLstRg, tRg1, tRg2, rIntI, rIntB, rAbs, rSetLN, tTruL, tRaiseX, rIsTy, rIsOw, ixN0, ixN1, tRet, tIf, tIfS, tNext, tBreak, tCont, tDrop, tTupN, tLstN, tUn, tCB, tCall, tNot, tAnd, tOr, tB, tAndV, tOrV, tNotV, tChain, tApp, LamX.tLam, tRevLN, rCatN, rInTN, rInLN, flatV, inV, List.all_cons, List.all_nil, List.any_cons, List.any_nil, Bool.and_self, Bool.and_true, if_true, Bool.false_eq_true, if_false, tMt, tFldN, tSto, HO.ins.injEq, lkh, List.drop_zero, List.drop_succ_cons, List.drop_nil, rListS, wipe, L2.start, List.map_cons, List.map_nil, List.length_cons, List.length_nil, List.replicate, List.cons_append, List.nil_append, List.append_nil, Nat.reduceAdd, Nat.reduceSub, Nat.zero_add, List.replicate_succ, List.replicate_zero, List.getElem?_cons_zero, List.getElem?_cons_succ, List.set_cons_zero, List.set_cons_succ, Option.some.injEq, V.int.injEq, V.bl.injEq, V.ref.injEq, V.str.injEq, V.ty.injEq, List.cons.injEq, HO.tup.injEq, HO.lst.injEq, and_true, true_and, and_assoc, exists_eq_left, exists_eq_left', exists_and_left, exists_eq', atI0, atI1, atI2, atI3, Int.cast_ofNat_Int, Int.reduceToNat, scal_ii, scal_in, scal_ni, scal_nn, scal_bb, scal_ss, scal_sn, scal_ns, scal_bn, scal_nb, ite_iff, decide_eq_true_eq, decide_eq_false_iff_not, Bool.not_eq_true', Classical.not_not, ne_eq, not_false_eq_true, not_true_eq_false, forall_const, true_implies, false_implies, imp_self, sizeLine_eq, Nat.reduceLeDiff, reduceCtorEq, decide_true, decide_false]
            have L7 := s7 _ _ f6
            exact ⟨P6.same s7, ks, v7, hk, l5, L7, Lp, fun H' P' t' => ⟨P', ks, v7.stp t' (P6.same s7), hk, l5, t' _ _ L7 Lp, Lp, fun H'' P'' t'' => ⟨P'', t'.trans t''⟩⟩⟩
          · rintro _ H8 ⟨rfl, P8, t8⟩
            have v8 := v7.stp t8 (P6.same s7)
            have K8 := t8 _ _ K7 Kp
            simp only [exists_and_left, tD1, rTupN, rAll, rMax2, rMin2, tSl, tPart, tNoPart, rSlLN, tYes, rLenS, rRepN, unset, tEv2, calmS, tRevG, tRevLN, cx_K, Value.ref.injEq, HO.xd.injEq, lk0, tSeq, tPar3, tPar, tCons, tNil, tVar, tC, tAsg, gName, gCons, gNil, gTupN, gSub, tOp, rI, rI0, rU, tTest, rNe, rEq, rIxTN, rIxLN, rLenL, rLenT, tLstRg, tRg1, tRg2, rIntI, rIntB, rAbs, rSetLN, tTruL, tRaiseX, rIsTy, rIsOw, ixN0, ixN1, tRet, tIf, tIfS, tNext, tBreak, tCont, tDrop, tTupN, tLstN, tUn, tCB, tCall, tNot, tAnd, tOr, tB, tAndV, tOrV, tNotV, tChain, tApp, LamX.tLam, tRevLN, rCatN, rInTN, rInLN, flatV, inV, List.all_cons, List.all_nil, List.any_cons, List.any_nil, Bool.and_self, Bool.and_true, if_true, Bool.false_eq_true, if_false, tMt, tFldN, tSto, HO.ins.injEq, lkh, List.drop_zero, List.drop_succ_cons, List.drop_nil, rListS, wipe, L2.start, List.map_cons, List.map_nil, List.length_cons, List.length_nil, List.replicate, List.cons_append, List.nil_append, List.append_nil, Nat.reduceAdd, Nat.reduceSub, Nat.zero_add, List.replicate_succ, List.replicate_zero, List.getElem?_cons_zero, List.getElem?_cons_succ, List.set_cons_zero, List.set_cons_succ, Option.some.injEq, V.int.injEq, V.bl.injEq, V.ref.injEq, V.str.injEq, V.ty.injEq, List.cons.injEq, HO.tup.injEq, HO.lst.injEq, and_true, true_and, and_assoc, exists_eq_left, exists_eq_left', exists_and_left, exists_eq', atI0, atI1, atI2, atI3, Int.cast_ofNat_Int, Int.reduceToNat, scal_ii, scal_in, scal_ni, scal_nn, scal_bb, scal_ss, scal_sn, scal_ns, scal_bn, scal_nb, ite_iff, decide_eq_true_eq, decide_eq_false_iff_not, Bool.not_eq_true', Classical.not_not, ne_eq, not_false_eq_true, not_true_eq_false, forall_const, true_implies, false_implies, imp_self, sizeLine_eq, Nat.reduceLeDiff, reduceCtorEq, decide_true, decide_false]
            refine ⟨fun σ' H' => ∃ J, ∃ js : List Int, σ' = [some (V.ref sc), x1, x2, x3, some (V.int i), some (V.ref p), some (V.ref K1), some (V.ref sv), some (V.ref L), some (V.ref J), x10, x11] ∧ Po H' p ∧ StpP p H8 H' ∧ okK js ∧ js.length ≤ 5 ∧ H' J = some (.lst (js.map V.int)), ?_, ?_⟩
            · simp only [spDraw, exists_and_left, tD1, rTupN, rAll, rMax2, rMin2, tSl, tPart, tNoPart, rSlLN, tYes, rLenS, rRepN, unset, tEv2, calmS, tRevG, tRevLN, cx_K, Value.ref.injEq, HO.xd.injEq, lk0, tSeq, tPar3, tPar, tCons, tNil, tVar, tC, tAsg, gName, gCons, gNil, gTupN, gSub, tOp, rI, rI0, rU, tTest, rNe, rEq, rIxTN, rIxLN, rLenL, rLenT, tLstRg, tRg1, tRg2, rIntI, rIntB, rAbs, rSetLN, tTruL, tRaiseX, rIsTy, rIsOw, ixN0, ixN1, tRet, tIf, tIfS, tNext, tBreak, tCont, tDrop, tTupN, tLstN, tUn, tCB, tCall, tNot, tAnd, tOr, tB, tAndV, tOrV, tNotV, tChain, tApp, LamX.tLam, tRevLN, rCatN, rInTN, rInLN, flatV, inV, List.all_cons, List.all_nil, List.any_cons, List.any_nil, Bool.and_self, Bool.and_true, if_true, Bool.false_eq_true, if_false, tMt, tFldN, tSto, HO.ins.injEq, lkh, List.drop_zero, List.drop_succ_cons, List.drop_nil, rListS, wipe, L2.start, List.map_cons, List.map_nil, List.length_cons, List.length_nil, List.replicate, List.cons_append, List.nil_append, List.append_nil, Nat.reduceAdd, Nat.reduceSub, Nat.zero_add, List.replicate_succ, List.replicate_zero, List.getElem?_cons_zero, List.getElem?_cons_succ, List.set_cons_zero, List.set_cons_succ, Option.some.injEq, V.int.injEq, V.bl.injEq, V.ref.injEq, V.str.injEq, V.ty.injEq, List.cons.injEq, HO.tup.injEq, HO.lst.injEq, and_true, true_and, and_assoc, exists_eq_left, exists_eq_left', exists_and_left, exists_eq', atI0, atI1, atI2, atI3, Int.cast_ofNat_Int, Int.reduceToNat, scal_ii, scal_in, scal_ni, scal_nn, scal_bb, scal_ss, scal_sn, scal_ns, scal_bn, scal_nb, ite_iff, decide_eq_true_eq, decide_eq_false_iff_not, Bool.not_eq_true', Classical.not_not, ne_eq, not_false_eq_true, not_true_eq_false, forall_const, true_implies, false_implies, imp_self, sizeLine_eq, Nat.reduceLeDiff, reduceCtorEq, decide_true, decide_false]
              refine ⟨P8, by decide, by decide, fun d H9 d0 d1 P9 t9 => ⟨fun _ => ⟨_, t9 _ _ K8 Kp, ?_⟩, fun _ => lc_in1 ?_⟩⟩
              · intro J H10 n10 s10 f10
                exact ⟨J, rfl, P9.same s10, t9.trans (StpP.of s10), ks.reverse, fun z hz => hk z (List.mem_reverse.mp hz), by rw [List.length_reverse]; exact l5, by rw [f10, List.map_reverse]⟩
              · simp only [spDraw, exists_and_left, tD1, rTupN, rAll, rMax2, rMin2, tSl, tPart, tNoPart, rSlLN, tYes, rLenS, rRepN, unset, tEv2, calmS, tRevG, tRevLN, cx_K, Value.ref.injEq, HO.xd.injEq, lk0, tSeq, tPar3, tPar, tCons, tNil, tVar, tC, tAsg, gName, gCons, gNil, gTupN, gSub, tOp, rI, rI0, rU, tTest, rNe, rEq, rIxTN, rIxLN, rLenL, rLenT, tLstRg, tRg1, tRg2, rIntI, rIntB, rAbs, rSetLN, tTruL, tRaiseX, rIsTy, rIsOw, ixN0, ixN1, tRet, tIf, tIfS, tNext, tBreak, tCont, tDrop, tTupN, tLstN, tUn, tCB, tCall, tNot, tAnd, tOr, tB, tAndV, tOrV, tNotV, tChain, tApp, LamX.tLam, tRevLN, rCatN, rInTN, rInLN, flatV, inV, List.all_cons, List.all_nil, List.any_cons, List.any_nil, Bool.and_self, Bool.and_true, if_true, Bool.false_eq_true, if_false, tMt, tFldN, tSto, HO.ins.injEq, lkh, List.drop_zero, List.drop_succ_cons, List.drop_nil, rListS, wipe, L2.start, List.map_cons, List.map_nil, List.length_cons, List.length_nil, List.replicate, List.cons_append, List.nil_append, List.append_nil, Nat.reduceAdd, Nat.reduceSub, Nat.zero_add, List.replicate_succ, List.replicate_zero, List.getElem?_cons_zero, List.getElem?_cons_succ, List.set_cons_zero, List.set_cons_succ, Option.some.injEq, V.int.injEq, V.bl.injEq, V.ref.injEq, V.str.injEq, V.ty.injEq, List.cons.injEq, HO.tup.injEq, HO.lst.injEq, and_true, true_and, and_assoc, exists_eq_left, exists_eq_left', exists_and_left, exists_eq', atI0, atI1, atI2, atI3, Int.cast_ofNat_Int, Int.reduceToNat, scal_ii, scal_in, scal_ni, scal_nn, scal_bb, scal_ss, scal_sn, scal_ns, scal_bn, scal_nb, ite_iff, decide_eq_true_eq, decide_eq_false_iff_not, Bool.not_eq_true', Classical.not_not, ne_eq, not_false_eq_true, not_true_eq_false, forall_const, true_implies, false_implies, imp_self, sizeLine_eq, Nat.reduceLeDiff, reduceCtorEq, decide_true, decide_false]
                refine ⟨P9, by decide, by decide, fun n H10 n0 n1 P10 t10 => ⟨by omega, by omega, ?_⟩⟩
                refine st_lcI (fun D j H' => H10 D = none ∧ Po H' p ∧ StpP p H10 H' ∧ ∃ ks : List Int, ks.length = j ∧ okK ks ∧ H' D = some (.lst (ks.map V.int))) (fun D H4 n4 s4 f4 => ⟨n4, P10.same s4, StpP.of s4, [], rfl, fun k hk => (by cases hk), f4⟩) ?_ ?_
                · rintro D j H4 hj ⟨n4, P4, t4, ks, lk, hk, f4⟩
                  simp only [spDraw, exists_and_left, tD1, rTupN, rAll, rMax2, rMin2, tSl, tPart, tNoPart, rSlLN, tYes, rLenS, rRepN, unset, tEv2, calmS, tRevG, tRevLN, cx_K, Value.ref.injEq, HO.xd.injEq, lk0, tSeq, tPar3, tPar, tCons, tNil, tVar, tC, tAsg, gName, gCons, gNil, gTupN, gSub, tOp, rI, rI0, rU, tTest, rNe, rEq, rIxTN, rIxLN, rLenL, rLenT, tLstRg, tRg1, tRg2, rIntI, rIntB, rAbs, rSetLN, tTruL, tRaiseX, rIsTy, rIsOw, ixN0, ixN1, tRet, tIf, tIfS, tNext, tBreak, tCont, tDrop, tTupN, tLstN, tUn, tCB, tCall, tNot, tAnd, tOr, tB, tAndV, tOrV, tNotV, tChain, tApp, LamX.tLam, tRevLN, rCatN, rInTN, rInLN, flatV, inV, List.all_cons, List.all_nil, List.any_cons, List.any_nil, Bool.and_self, Bool.and_true, if_true, Bool.false_eq_true, if_false, tMt, tFldN, tSto, HO.ins.injEq, lkh, List.drop_zero, List.drop_succ_cons, List.drop_nil, rListS, wipe, L2.start, List.map_cons, List.map_nil, List.length_cons, List.length_nil, List.replicate, List.cons_append, List.nil_append, List.append_nil, Nat.reduceAdd, Nat.reduceSub, Nat.zero_add, List.replicate_succ, List.replicate_zero, List.getElem?_cons_zero, List.getElem?_cons_succ, List.set_cons_zero, List.set_cons_succ, Option.some.injEq, V.int.injEq, V.bl.injEq, V.ref.injEq, V.str.injEq, V.ty.injEq, List.cons.injEq, HO.tup.injEq, HO.lst.injEq, and_true, true_and, and_assoc, exists_eq_left, exists_eq_left', exists_and_left, exists_eq', atI0, atI1, atI2, atI3, Int.cast_ofNat_Int, Int.reduceToNat, scal_ii, scal_in, scal_ni, scal_nn, scal_bb, scal_ss, scal_sn, scal_ns, scal_bn, scal_nb, ite_iff, decide_eq_true_eq, decide_eq_false_iff_not, Bool.not_eq_true', Classical.not_not, ne_eq, not_false_eq_true, not_true_eq_false, forall_const, true_implies, false_implies, imp_self, sizeLine_eq, Nat.reduceLeDiff, reduceCtorEq, decide_true, decide_false]
                  refine ⟨P4, by decide, by decide, fun d H7 d0 d1 P7 t7 => ?_⟩
                  have Dp : D ≠ p := P10.ne n4
                  have f7 := t7 _ _ f4 Dp
                  refine ⟨_, f7, ?_, n4, P7.upd Dp, fun b o e n => by rw [upd_ne (ne_of_none e n4)]; exact t7 _ _ (t4 b o e n) n, ks ++ [2 + d], by rw [List.length_append, lk]; rfl, hk.app (by omega), ?_⟩
                  · rw [List.length_map, lk]; show _ < 16777216; omega
                  · rw [upd_same, List.map_append]; rfl
                · rintro J H4 ⟨n4, P4, t4, js, lj, hj, f4⟩
                  exact ⟨J, rfl, P4, (t9.trans t10).trans t4, js, hj, by omega, f4⟩
            · rintro _ H9 ⟨J, js, rfl, P9, t9, hj, lj, J9⟩
              have v9 := v8.stp t9 P8
              have K9 := t9 _ _ K8 Kp
              simp only [exists_and_left, tD1, rTupN, rAll, rMax2, rMin2, tSl, tPart, tNoPart, rSlLN, tYes, rLenS, rRepN, unset, tEv2, calmS, tRevG, tRevLN, cx_K, Value.ref.injEq, HO.xd.injEq, lk0, tSeq, tPar3, tPar, tCons, tNil, tVar, tC, tAsg, gName, gCons, gNil, gTupN, gSub, tOp, rI, rI0, rU, tTest, rNe, rEq, rIxTN, rIxLN, rLenL, rLenT, tLstRg, tRg1, tRg2, rIntI, rIntB, rAbs, rSetLN, tTruL, tRaiseX, rIsTy, rIsOw, ixN0, ixN1, tRet, tIf, tIfS, tNext, tBreak, tCont, tDrop, tTupN, tLstN, tUn, tCB, tCall, tNot, tAnd, tOr, tB, tAndV, tOrV, tNotV, tChain, tApp, LamX.tLam, tRevLN, rCatN, rInTN, rInLN, flatV, inV, List.all_cons, List.all_nil, List.any_cons, List.any_nil, Bool.and_self, Bool.and_true, if_true, Bool.false_eq_true, if_false, tMt, tFldN, tSto, HO.ins.injEq, lkh, List.drop_zero, List.drop_succ_cons, List.drop_nil, rListS, wipe, L2.start, List.map_cons, List.map_nil, List.length_cons, List.length_nil, List.replicate, List.cons_append, List.nil_append, List.append_nil, Nat.reduceAdd, Nat.reduceSub, Nat.zero_add, List.replicate_succ, List.replicate_zero, List.getElem?_cons_zero, List.getElem?_cons_succ, List.set_cons_zero, List.set_cons_succ, Option.some.injEq, V.int.injEq, V.bl.injEq, V.ref.injEq, V.str.injEq, V.ty.injEq, List.cons.injEq, HO.tup.injEq, HO.lst.injEq, and_true, true_and, and_assoc, exists_eq_left, exists_eq_left', exists_and_left, exists_eq', atI0, atI1, atI2, atI3, Int.cast_ofNat_Int, Int.reduceToNat, scal_ii, scal_in, scal_ni, scal_nn, scal_bb, scal_ss, scal_sn, scal_ns, scal_bn, scal_nb, ite_iff, decide_eq_true_eq, decide_eq_false_iff_not, Bool.not_eq_true', Classical.not_not, ne_eq, not_false_eq_true, not_true_eq_false, forall_const, true_implies, false_implies, imp_self, sizeLine_eq, Nat.reduceLeDiff, reduceCtorEq, decide_true, decide_false]
              refine ⟨fun σ' H' => σ' = [some (V.ref sc), x1, x2, x3, some (V.int i), some (V.ref p), some (V.ref K1), some (V.ref sv), some (V.ref L), some (V.ref J), x10, x11] ∧ Same H9 H', ?_, ?_⟩
              · obtain ⟨dx, q, h9, hq9⟩ := id v9
                simp only [spAR, spSv, spSEq, exists_and_left, tD1, rTupN, rAll, rMax2, rMin2, tSl, tPart, tNoPart, rSlLN, tYes, rLenS, rRepN, unset, tEv2, calmS, tRevG, tRevLN, cx_K, Value.ref.injEq, HO.xd.injEq, lk0, tSeq, tPar3, tPar, tCons, tNil, tVar, tC, tAsg, gName, gCons, gNil, gTupN, gSub, tOp, rI, rI0, rU, tTest, rNe, rEq, rIxTN, rIxLN, rLenL, rLenT, tLstRg, tRg1, tRg2, rIntI, rIntB, rAbs, rSetLN, tTruL, tRaiseX, rIsTy, rIsOw, ixN0, ixN1, tRet, tIf, tIfS, tNext, tBreak, tCont, tDrop, tTupN, tLstN, tUn, tCB, tCall, tNot, tAnd, tOr, tB, tAndV, tOrV, tNotV, tChain, tApp, LamX.tLam, tRevLN, rCatN, rInTN, rInLN, flatV, inV, List.all_cons, List.all_nil, List.any_cons, List.any_nil, Bool.and_self, Bool.and_true, if_true, Bool.false_eq_true, if_false, tMt, tFldN, tSto, HO.ins.injEq, lkh, List.drop_zero, List.drop_succ_cons, List.drop_nil, rListS, wipe, L2.start, List.map_cons, List.map_nil, List.length_cons, List.length_nil, List.replicate, List.cons_append, List.nil_append, List.append_nil, Nat.reduceAdd, Nat.reduceSub, Nat.zero_add, List.replicate_succ, List.replicate_zero, List.getElem?_cons_zero, List.getElem?_cons_succ, List.set_cons_zero, List.set_cons_succ, Option.some.injEq, V.int.injEq, V.bl.injEq, V.ref.injEq, V.str.injEq, V.ty.injEq, List.cons.injEq, HO.tup.injEq, HO.lst.injEq, and_true, true_and, and_assoc, exists_eq_left, exists_eq_left', exists_and_left, exists_eq', atI0, atI1, atI2, atI3, Int.cast_ofNat_Int, Int.reduceToNat, scal_ii, scal_in, scal_ni, scal_nn, scal_bb, scal_ss, scal_sn, scal_ns, scal_bn, scal_nb, ite_iff, decide_eq_true_eq, decide_eq_false_iff_not, Bool.not_eq_true', Classical.not_not, ne_eq, not_false_eq_true, not_true_eq_false, forall_const, true_implies, false_implies, imp_self, sizeLine_eq, Nat.reduceLeDiff, reduceCtorEq, decide_true, decide_false]
                refine ⟨ks, K9, js, J9, hk, hj, l5, lj, fun H10 s10 => ⟨_, .inl ⟨SqL.of (s10 _ _ J9), fun l hl => ⟨js, .inr (SqT.of upd_same), hj, lj, fun b H11 n11 s11 v11 => ?_⟩⟩⟩⟩
                have s91 := (s10.trans (Same.upd (o := .tup (js.map V.int)) hl)).trans s11
                obtain ⟨dx2, q2, hb, _⟩ := id v11
                refine ⟨sv, dx, _, rfl, s91 _ _ h9, ⟨_, T.ci_Sieve.ty hb, notFirst_self⟩, sv, b, rfl, ks, js, v9.same s91, v11, ?_⟩
                exact ⟨_, rfl, eq_ints (s91 _ _ K9) (s91 _ _ J9) ⟨rfl, fun c => absurd rfl c, fun _ => s91⟩⟩
              · rintro _ H10 ⟨rfl, s10⟩
                have v10 := v9.same s10
                simp only [exists_and_left, tD1, rTupN, rAll, rMax2, rMin2, tSl, tPart, tNoPart, rSlLN, tYes, rLenS, rRepN, unset, tEv2, calmS, tRevG, tRevLN, cx_K, Value.ref.injEq, HO.xd.injEq, lk0, tSeq, tPar3, tPar, tCons, tNil, tVar, tC, tAsg, gName, gCons, gNil, gTupN, gSub, tOp, rI, rI0, rU, tTest, rNe, rEq, rIxTN, rIxLN, rLenL, rLenT, tLstRg, tRg1, tRg2, rIntI, rIntB, rAbs, rSetLN, tTruL, tRaiseX, rIsTy, rIsOw, ixN0, ixN1, tRet, tIf, tIfS, tNext, tBreak, tCont, tDrop, tTupN, tLstN, tUn, tCB, tCall, tNot, tAnd, tOr, tB, tAndV, tOrV, tNotV, tChain, tApp, LamX.tLam, tRevLN, rCatN, rInTN, rInLN, flatV, inV, List.all_cons, List.all_nil, List.any_cons, List.any_nil, Bool.and_self, Bool.and_true, if_true, Bool.false_eq_true, if_false, tMt, tFldN, tSto, HO.ins.injEq, lkh, List.drop_zero, List.drop_succ_cons, List.drop_nil, rListS, wipe, L2.start, List.map_cons, List.map_nil, List.length_cons, List.length_nil, List.replicate, List.cons_append, List.nil_append, List.append_nil, Nat.reduceAdd, Nat.reduceSub, Nat.zero_add, List.replicate_succ, List.replicate_zero, List.getElem?_cons_zero, List.getElem?_cons_succ, List.set_cons_zero, List.set_cons_succ, Option.some.injEq, V.int.injEq, V.bl.injEq, V.ref.injEq, V.str.injEq, V.ty.injEq, List.cons.injEq, HO.tup.injEq, HO.lst.injEq, and_true, true_and, and_assoc, exists_eq_left, exists_eq_left', exists_and_left, exists_eq', atI0, atI1, atI2, atI3, Int.cast_ofNat_Int, Int.reduceToNat, scal_ii, scal_in, scal_ni, scal_nn, scal_bb, scal_ss, scal_sn, scal_ns, scal_bn, scal_nb, ite_iff, decide_eq_true_eq, decide_eq_false_iff_not, Bool.not_eq_true', Classical.not_not, ne_eq, not_false_eq_true, not_true_eq_false, forall_const, true_implies, false_implies, imp_self, sizeLine_eq, Nat.reduceLeDiff, reduceCtorEq, decide_true, decide_false]
                refine for_inL ?_
                simp only [exists_and_left, tD1, rTupN, rAll, rMax2, rMin2, tSl, tPart, tNoPart, rSlLN, tYes, rLenS, rRepN, unset, tEv2, calmS, tRevG, tRevLN, cx_K, Value.ref.injEq, HO.xd.injEq, lk0, tSeq, tPar3, tPar, tCons, tNil, tVar, tC, tAsg, gName, gCons, gNil, gTupN, gSub, tOp, rI, rI0, rU, tTest, rNe, rEq, rIxTN, rIxLN, rLenL, rLenT, tLstRg, tRg1, tRg2, rIntI, rIntB, rAbs, rSetLN, tTruL, tRaiseX, rIsTy, rIsOw, ixN0, ixN1, tRet, tIf, tIfS, tNext, tBreak, tCont, tDrop, tTupN, tLstN, tUn, tCB, tCall, tNot, tAnd, tOr, tB, tAndV, tOrV, tNotV, tChain, tApp, LamX.tLam, tRevLN, rCatN, rInTN, rInLN, flatV, inV, List.all_cons, List.all_nil, List.any_cons, List.any_nil, Bool.and_self, Bool.and_true, if_true, Bool.false_eq_true, if_false, tMt, tFldN, tSto, HO.ins.injEq, lkh, List.drop_zero, List.drop_succ_cons, List.drop_nil, rListS, wipe, L2.start, List.map_cons, List.map_nil, List.length_cons, List.length_nil, List.replicate, List.cons_append, List.nil_append, List.append_nil, Nat.reduceAdd, Nat.reduceSub, Nat.zero_add, List.replicate_succ, List.replicate_zero, List.getElem?_cons_zero, List.getElem?_cons_succ, List.set_cons_zero, List.set_cons_succ, Option.some.injEq, V.int.injEq, V.bl.injEq, V.ref.injEq, V.str.injEq, V.ty.injEq, List.cons.injEq, HO.tup.injEq, HO.lst.injEq, and_true, true_and, and_assoc, exists_eq_left, exists_eq_left', exists_and_left, exists_eq', atI0, atI1, atI2, atI3, Int.cast_ofNat_Int, Int.reduceToNat, scal_ii, scal_in, scal_ni, scal_nn, scal_bb, scal_ss, scal_sn, scal_ns, scal_bn, scal_nb, ite_iff, decide_eq_true_eq, decide_eq_false_iff_not, Bool.not_eq_true', Classical.not_not, ne_eq, not_false_eq_true, not_true_eq_false, forall_const, true_implies, false_implies, imp_self, sizeLine_eq, Nat.reduceLeDiff, reduceCtorEq, decide_true, decide_false]
                intro t0 H11 n11 s11 f11 W2 H12 n12 s12 f12
                refine st_forL (fun R r => r) f12 (fun i' σ' H' => (∃ x10, σ' = [some (V.ref sc), x1, x2, x3, some (V.int i), some (V.ref p), some (V.ref K1), some (V.ref sv), some (V.ref L), some (V.ref J), x10, x11]) ∧ Same H12 H') ⟨⟨_, rfl⟩, fun _ _ h => h⟩ (fun i' σ' H' p => p.2 _ _ f12) ?_ ?_
                · rintro i' x _ H13 hi' ⟨⟨x10, rfl⟩, s13⟩
                  have v13 := ((v10.same s11).same s12).same s13
                  obtain ⟨dx, q, h13, _⟩ := id v13
                  have hw : Wh K H13 x ∧ leftV ks x = false := by
                    have hm := List.mem_of_getElem? hi'
                    simp only [List.mem_cons, List.not_mem_nil, or_false] at hm
                    rcases hm with rfl | rfl | rfl | rfl | rfl
                    · exact ⟨wh_non, rfl⟩
                    · exact ⟨wh_bl, rfl⟩
                    · exact ⟨wh_str, rfl⟩
                    · exact ⟨wh_tup ((s12.trans s13) _ _ f11), rfl⟩
                    · refine ⟨wh_int, decide_eq_false fun e => ?_⟩
                      have := nthL_pos hk (belL_pos hk (show 0 ≤ max 0 (-1 : Int) by decide))
                      omega
                  simp only [spIsL, exists_and_left, tD1, rTupN, rAll, rMax2, rMin2, tSl, tPart, tNoPart, rSlLN, tYes, rLenS, rRepN, unset, tEv2, calmS, tRevG, tRevLN, cx_K, Value.ref.injEq, HO.xd.injEq, lk0, tSeq, tPar3, tPar, tCons, tNil, tVar, tC, tAsg, gName, gCons, gNil, gTupN, gSub, tOp, rI, rI0, rU, tTest, rNe, rEq, rIxTN, rIxLN, rLenL, rLenT, tLstRg, tRg1, tRg2, rIntI, rIntB, rAbs, rSetLN, tTruL, tRaiseX, rIsTy, rIsOw, ixN0, ixN1, tRet, tIf, tIfS, tNext, tBreak, tCont, tDrop, tTupN, tLstN, tUn, tCB, tCall, tNot, tAnd, tOr, tB, tAndV, tOrV, tNotV, tChain, tApp, LamX.tLam, tRevLN, rCatN, rInTN, rInLN, flatV, inV, List.all_cons, List.all_nil, List.any_cons, List.any_nil, Bool.and_self, Bool.and_true, if_true, Bool.false_eq_true, if_false, tMt, tFldN, tSto, HO.ins.injEq, lkh, List.drop_zero, List.drop_succ_cons, List.drop_nil, rListS, wipe, L2.start, List.map_cons, List.map_nil, List.length_cons, List.length_nil, List.replicate, List.cons_append, List.nil_append, List.append_nil, Nat.reduceAdd, Nat.reduceSub, Nat.zero_add, List.replicate_succ, List.replicate_zero, List.getElem?_cons_zero, List.getElem?_cons_succ, List.set_cons_zero, List.set_cons_succ, Option.some.injEq, V.int.injEq, V.bl.injEq, V.ref.injEq, V.str.injEq, V.ty.injEq, List.cons.injEq, HO.tup.injEq, HO.lst.injEq, and_true, true_and, and_assoc, exists_eq_left, exists_eq_left', exists_and_left, exists_eq', atI0, atI1, atI2, atI3, Int.cast_ofNat_Int, Int.reduceToNat, scal_ii, scal_in, scal_ni, scal_nn, scal_bb, scal_ss, scal_sn, scal_ns, scal_bn, scal_nb, ite_iff, decide_eq_true_eq, decide_eq_false_iff_not, Bool.not_eq_true', Classical.not_not, ne_eq, not_false_eq_true, not_true_eq_false, forall_const, true_implies, false_implies, imp_self, sizeLine_eq, Nat.reduceLeDiff, reduceCtorEq, decide_true, decide_false]
                  refine ⟨dx, _, h13, lkNo, ks, v13, hk, hw.1, fun H14 s14 => ?_⟩
                  refine ⟨leftV ks x, false, rfl, rfl, ?_⟩
                  rw [hw.2]
                  exact ⟨_, rfl, fun c => (by cases c), fun _ => s13.trans s14⟩
                · rintro _ H13 ⟨⟨x10, rfl⟩, s13⟩
                  refine ⟨⟨_, _, _, _, _, _, _, _, _, _, _, rfl⟩, fun b o e => ?_⟩
                  have e0 := ne_of_none (s1 _ _ e) n2
                  have e6 := s7 _ _ (t06 _ _ (s1 _ _ e))
                  exact (((s10.trans s11).trans s12).trans s13) _ _ (t9 _ _ (t8 _ _ e6 e0) e0)
    · rintro _ H1 ⟨⟨x1, x2, x3, x4, x5, x6, x7, x8, x9, x10, x11, rfl⟩, s1⟩
      simp only [exists_and_left, tD1, rTupN, rAll, rMax2, rMin2, tSl, tPart, tNoPart, rSlLN, tYes, rLenS, rRepN, unset, tEv2, calmS, tRevG, tRevLN, cx_K, Value.ref.injEq, HO.xd.injEq, lk0, tSeq, tPar3, tPar, tCons, tNil, tVar, tC, tAsg, gName, gCons, gNil, gTupN, gSub, tOp, rI, rI0, rU, tTest, rNe, rEq, rIxTN, rIxLN, rLenL, rLenT, tLstRg, tRg1, tRg2, rIntI, rIntB, rAbs, rSetLN, tTruL, tRaiseX, rIsTy, rIsOw, ixN0, ixN1, tRet, tIf, tIfS, tNext, tBreak, tCont, tDrop, tTupN, tLstN, tUn, tCB, tCall, tNot, tAnd, tOr, tB, tAndV, tOrV, tNotV, tChain, tApp, LamX.tLam, tRevLN, rCatN, rInTN, rInLN, flatV, inV, List.all_cons, List.all_nil, List.any_cons, List.any_nil, Bool.and_self, Bool.and_true, if_true, Bool.false_eq_true, if_false, tMt, tFldN, tSto, HO.ins.injEq, lkh, List.drop_zero, List.drop_succ_cons, List.drop_nil, rListS, wipe, L2.start, List.map_cons, List.map_nil, List.length_cons, List.length_nil, List.replicate, List.cons_append, List.nil_append, List.append_nil, Nat.reduceAdd, Nat.reduceSub, Nat.zero_add, List.replicate_succ, List.replicate_zero, List.getElem?_cons_zero, List.getElem?_cons_succ, List.set_cons_zero, List.set_cons_succ, Option.some.injEq, V.int.injEq, V.bl.injEq, V.ref.injEq, V.str.injEq, V.ty.injEq, List.cons.injEq, HO.tup.injEq, HO.lst.injEq, and_true, true_and, and_assoc, exists_eq_left, exists_eq_left', exists_and_left, exists_eq', atI0, atI1, atI2, atI3, Int.cast_ofNat_Int, Int.reduceToNat, scal_ii, scal_in, scal_ni, scal_nn, scal_bb, scal_ss, scal_sn, scal_ns, scal_bn, scal_nb, ite_iff, decide_eq_true_eq, decide_eq_false_iff_not, Bool.not_eq_true', Classical.not_not, ne_eq, not_false_eq_true, not_true_eq_false, forall_const, true_implies, false_implies, imp_self, sizeLine_eq, Nat.reduceLeDiff, reduceCtorEq, decide_true, decide_false]
      exact k H1

end
end Iz
/-! k85_i -/
set_option Elab.async false
set_option linter.all false
set_option maxRecDepth 100000
set_option maxHeartbeats 4000000
namespace Iz
open PySem PySem.Spec PyProof.Rows L2
open He (ga)
open SX (S S_len)
local macro_rules | `(tactic| walk_at "wp") => `(tactic| simp only [tD1, rTupN, rAll, rMax2, rMin2, tSl, tPart, tNoPart, rSlLN, tYes, rLenS, rRepN, unset, tEv2, calmS, tRevG, tRevLN, cx_K, Value.ref.injEq, HO.xd.injEq, lk0, tSeq, tPar3, tPar, tCons, tNil, tVar, tC, tAsg, gName, gCons, gNil, gTupN, gSub, tOp, rI, rI0, rU, tTest, rNe, rEq, rIxTN, rIxLN, rLenL, rLenT, tLstRg, tRg1, tRg2, rIntI, rIntB, rAbs, rSetLN, tTruL, tRaiseX, rIsTy, rIsOw, ixN0, ixN1, tRet, tIf, tIfS, tNext, tBreak, tCont, tDrop, tTupN, tLstN, tUn, tCB, tCall, tNot, tAnd, tOr, tB, tAndV, tOrV, tNotV, tChain, tApp, LamX.tLam, tRevLN, rCatN, rInTN, rInLN, flatV, inV, List.all_cons, List.all_nil, List.any_cons, List.any_nil, Bool.and_self, Bool.and_true, if_true, Bool.false_eq_true, if_false, tMt, tFldN, tSto, HO.ins.injEq, lkh, List.drop_zero, List.drop_succ_cons, List.drop_nil, rListS, wipe, L2.start, List.map_cons, List.map_nil, List.length_cons, List.length_nil, List.replicate, List.cons_append, List.nil_append, List.append_nil, Nat.reduceAdd, Nat.reduceSub, Nat.zero_add, List.replicate_succ, List.replicate_zero, List.getElem?_cons_zero, List.getElem?_cons_succ, List.set_cons_zero, List.set_cons_succ, Option.some.injEq, V.int.injEq, V.bl.injEq, V.ref.injEq, V.str.injEq, V.ty.injEq, List.cons.injEq, HO.tup.injEq, HO.lst.injEq, and_true, true_and, and_assoc, exists_eq_left, exists_eq_left', exists_and_left, exists_eq', atI0, atI1, atI2, atI3, Int.cast_ofNat_Int, Int.reduceToNat, scal_ii, scal_in, scal_ni, scal_nn, scal_bb, scal_ss, scal_sn, scal_ns, scal_bn, scal_nb, ite_iff, decide_eq_true_eq, decide_eq_false_iff_not, Bool.not_eq_true', Classical.not_not, ne_eq, not_false_eq_true, not_true_eq_false, forall_const, true_implies, false_implies, imp_self, sizeLine_eq, Nat.reduceLeDiff, reduceCtorEq, decide_true, decide_false])
section
variable {P : Program} {w : World} {K : PySem.W.Frag} {mg : Str → Option Value} {base : Heap}
theorem txt_mk {h : Heap} (X : K.In h) (G : h.Ns mainGlobals mg) {f_is_whole f_is_from f_is_row f_is_span f_require_whole f_require_from f_Stretch___init__ f_Sieve___init__ f_Sieve___eq__ f_Sieve_product f_Sieve_many f_Sieve_is_left f_Sieve_nth_left f_Sieve_place_of f_Sieve_left_below f_Sieve_next_left f_Sieve_left_in f_Sieve_leaves_alike f_require_sieve f__product_of f__law_pool f__law_draw f__law_pick f__law_struck f__law_product f__law_near_right f__law_far_right f__law_alike_right f_law    : Addr} {od_is_whole an_is_whole od_is_from an_is_from od_is_row an_is_row od_is_span an_is_span od_require_whole an_require_whole od_require_from an_require_from od_Stretch___init__ an_Stretch___init__ od_Sieve___init__ an_Sieve___init__ od_Sieve___eq__ an_Sieve___eq__ od_Sieve_product an_Sieve_product od_Sieve_many an_Sieve_many od_Sieve_is_left an_Sieve_is_left od_Sieve_nth_left an_Sieve_nth_left od_Sieve_place_of an_Sieve_place_of od_Sieve_left_below an_Sieve_left_below od_Sieve_next_left an_Sieve_next_left od_Sieve_left_in an_Sieve_left_in od_Sieve_leaves_alike an_Sieve_leaves_alike od_require_sieve an_require_sieve od__product_of an__product_of od__law_pool an__law_pool od__law_draw an__law_draw od__law_pick an__law_pick od__law_struck an__law_struck od__law_product an__law_product od__law_near_right an__law_near_right od__law_far_right an__law_far_right od__law_alike_right an__law_alike_right od_law an_law : Option Addr} {sl_is_whole sl_is_from sl_is_row sl_is_span sl_require_whole sl_require_from sl_Stretch___init__ sl_Sieve___init__ sl_Sieve___eq__ sl_Sieve_product sl_Sieve_many sl_Sieve_is_left sl_Sieve_nth_left sl_Sieve_place_of sl_Sieve_left_below sl_Sieve_next_left sl_Sieve_left_in sl_Sieve_leaves_alike sl_require_sieve sl__product_of sl__law_pool sl__law_draw sl__law_pick sl__law_struck sl__law_product sl__law_near_right sl__law_far_right sl__law_alike_right sl_law : Array (Option Value)} {oc_is_whole kV_is_whole dc_is_whole pm_is_whole ct_is_whole oc_is_from kV_is_from dc_is_from pm_is_from ct_is_from oc_is_row kV_is_row dc_is_row pm_is_row ct_is_row oc_is_span kV_is_span dc_is_span pm_is_span ct_is_span oc_require_whole kV_require_whole dc_require_whole pm_require_whole ct_require_whole oc_require_from kV_require_from dc_require_from pm_require_from ct_require_from oc_Stretch___init__ kV_Stretch___init__ dc_Stretch___init__ pm_Stretch___init__ ct_Stretch___init__ oc_Sieve___init__ kV_Sieve___init__ dc_Sieve___init__ pm_Sieve___init__ ct_Sieve___init__ oc_Sieve___eq__ kV_Sieve___eq__ dc_Sieve___eq__ pm_Sieve___eq__ ct_Sieve___eq__ oc_Sieve_product kV_Sieve_product dc_Sieve_product pm_Sieve_product ct_Sieve_product oc_Sieve_many kV_Sieve_many dc_Sieve_many pm_Sieve_many ct_Sieve_many oc_Sieve_is_left kV_Sieve_is_left dc_Sieve_is_left pm_Sieve_is_left ct_Sieve_is_left oc_Sieve_nth_left kV_Sieve_nth_left dc_Sieve_nth_left pm_Sieve_nth_left ct_Sieve_nth_left oc_Sieve_place_of kV_Sieve_place_of dc_Sieve_place_of pm_Sieve_place_of ct_Sieve_place_of oc_Sieve_left_below kV_Sieve_left_below dc_Sieve_left_below pm_Sieve_left_below ct_Sieve_left_below oc_Sieve_next_left kV_Sieve_next_left dc_Sieve_next_left pm_Sieve_next_left ct_Sieve_next_left oc_Sieve_left_in kV_Sieve_left_in dc_Sieve_left_in pm_Sieve_left_in ct_Sieve_left_in oc_Sieve_leaves_alike kV_Sieve_leaves_alike dc_Sieve_leaves_alike pm_Sieve_leaves_alike ct_Sieve_leaves_alike oc_require_sieve kV_require_sieve dc_require_sieve pm_require_sieve ct_require_sieve oc__product_of kV__product_of dc__product_of pm__product_of ct__product_of oc__law_pool kV__law_pool dc__law_pool pm__law_pool ct__law_pool oc__law_draw kV__law_draw dc__law_draw pm__law_draw ct__law_draw oc__law_pick kV__law_pick dc__law_pick pm__law_pick ct__law_pick oc__law_struck kV__law_struck dc__law_struck pm__law_struck ct__law_struck oc__law_product kV__law_product dc__law_product pm__law_product ct__law_product oc__law_near_right kV__law_near_right dc__law_near_right pm__law_near_right ct__law_near_right oc__law_far_right kV__law_far_right dc__law_far_right pm__law_far_right ct__law_far_right oc__law_alike_right kV__law_alike_right dc__law_alike_right pm__law_alike_right ct__law_alike_right oc_law kV_law dc_law pm_law ct_law cd_is_whole cd_is_from cd_is_row cd_is_span cd_require_whole cd_require_from cd_Stretch___init__ cd_Sieve___init__ cd_Sieve___eq__ cd_Sieve_product cd_Sieve_many cd_Sieve_is_left cd_Sieve_nth_left cd_Sieve_place_of cd_Sieve_left_below cd_Sieve_next_left cd_Sieve_left_in cd_Sieve_leaves_alike cd_require_sieve cd__product_of cd__law_pool cd__law_draw cd__law_pick cd__law_struck cd__law_product cd__law_near_right cd__law_far_right cd__law_alike_right cd_law : Value} {C_Stretch C_Sieve : Addr} {T_Stretch___init__ : Addr} {ocT_Stretch___init__ : Value} {odT_Stretch___init__ : Option Addr} {nT_Stretch___init__ : Nat} {slT_Stretch___init__ : Array (Option Value)} {tc_MOST_STRIKES : Tok}
    (a_is_whole : PySem.W.nsIn K mainGlobals "is_whole" = some (some (.ref f_is_whole)))
    (l_is_whole : K.lookup f_is_whole = some ⟨oc_is_whole, od_is_whole, .func (PySem.W.fnOf "is_whole" "is_whole" (defArgs s_is_whole) (defBody s_is_whole) (defScope s_is_whole) .none kV_is_whole dc_is_whole pm_is_whole an_is_whole cd_is_whole ct_is_whole), sl_is_whole⟩)
    (d_is_whole : PySem.W.codeIn K cd_is_whole "is_whole" = true)
    (k_is_whole : PySem.W.keepIn K (.ref f_is_whole) = true)
    (a_is_from : PySem.W.nsIn K mainGlobals "is_from" = some (some (.ref f_is_from)))
    (l_is_from : K.lookup f_is_from = some ⟨oc_is_from, od_is_from, .func (PySem.W.fnOf "is_from" "is_from" (defArgs s_is_from) (defBody s_is_from) (defScope s_is_from) .none kV_is_from dc_is_from pm_is_from an_is_from cd_is_from ct_is_from), sl_is_from⟩)
    (d_is_from : PySem.W.codeIn K cd_is_from "is_from" = true)
    (k_is_from : PySem.W.keepIn K (.ref f_is_from) = true)
    (a_is_row : PySem.W.nsIn K mainGlobals "is_row" = some (some (.ref f_is_row)))
    (l_is_row : K.lookup f_is_row = some ⟨oc_is_row, od_is_row, .func (PySem.W.fnOf "is_row" "is_row" (defArgs s_is_row) (defBody s_is_row) (defScope s_is_row) .none kV_is_row dc_is_row pm_is_row an_is_row cd_is_row ct_is_row), sl_is_row⟩)
    (d_is_row : PySem.W.codeIn K cd_is_row "is_row" = true)
    (k_is_row : PySem.W.keepIn K (.ref f_is_row) = true)
    (a_is_span : PySem.W.nsIn K mainGlobals "is_span" = some (some (.ref f_is_span)))
    (l_is_span : K.lookup f_is_span = some ⟨oc_is_span, od_is_span, .func (PySem.W.fnOf "is_span" "is_span" (defArgs s_is_span) (defBody s_is_span) (defScope s_is_span) .none kV_is_span dc_is_span pm_is_span an_is_span cd_is_span ct_is_span), sl_is_span⟩)
    (d_is_span : PySem.W.codeIn K cd_is_span "is_span" = true)
    (k_is_span : PySem.W.keepIn K (.ref f_is_span) = true)
    (a_require_whole : PySem.W.nsIn K mainGlobals "require_whole" = some (some (.ref f_require_whole)))
    (l_require_whole : K.lookup f_require_whole = some ⟨oc_require_whole, od_require_whole, .func (PySem.W.fnOf "require_whole" "require_whole" (defArgs s_require_whole) (defBody s_require_whole) (defScope s_require_whole) .none kV_require_whole dc_require_whole pm_require_whole an_require_whole cd_require_whole ct_require_whole), sl_require_whole⟩)
    (d_require_whole : PySem.W.codeIn K cd_require_whole "require_whole" = true)
    (k_require_whole : PySem.W.keepIn K (.ref f_require_whole) = true)
    (a_require_from : PySem.W.nsIn K mainGlobals "require_from" = some (some (.ref f_require_from)))
    (l_require_from : K.lookup f_require_from = some ⟨oc_require_from, od_require_from, .func (PySem.W.fnOf "require_from" "require_from" (defArgs s_require_from) (defBody s_require_from) (defScope s_require_from) .none kV_require_from dc_require_from pm_require_from an_require_from cd_require_from ct_require_from), sl_require_from⟩)
    (d_require_from : PySem.W.codeIn K cd_require_from "require_from" = true)
    (k_require_from : PySem.W.keepIn K (.ref f_require_from) = true)
    (a_require_sieve : PySem.W.nsIn K mainGlobals "require_sieve" = some (some (.ref f_require_sieve)))
    (l_require_sieve : K.lookup f_require_sieve = some ⟨oc_require_sieve, od_require_sieve, .func (PySem.W.fnOf "require_sieve" "require_sieve" (defArgs s_require_sieve) (defBody s_require_sieve) (defScope s_require_sieve) .none kV_require_sieve dc_require_sieve pm_require_sieve an_require_sieve cd_require_sieve ct_require_sieve), sl_require_sieve⟩)
    (d_require_sieve : PySem.W.codeIn K cd_require_sieve "require_sieve" = true)
    (k_require_sieve : PySem.W.keepIn K (.ref f_require_sieve) = true)
    (a__product_of : PySem.W.nsIn K mainGlobals "_product_of" = some (some (.ref f__product_of)))
    (l__product_of : K.lookup f__product_of = some ⟨oc__product_of, od__product_of, .func (PySem.W.fnOf "_product_of" "_product_of" (defArgs s__product_of) (defBody s__product_of) (defScope s__product_of) .none kV__product_of dc__product_of pm__product_of an__product_of cd__product_of ct__product_of), sl__product_of⟩)
    (d__product_of : PySem.W.codeIn K cd__product_of "_product_of" = true)
    (k__product_of : PySem.W.keepIn K (.ref f__product_of) = true)
    (a__law_pool : PySem.W.nsIn K mainGlobals "_law_pool" = some (some (.ref f__law_pool)))
    (l__law_pool : K.lookup f__law_pool = some ⟨oc__law_pool, od__law_pool, .func (PySem.W.fnOf "_law_pool" "_law_pool" (defArgs s__law_pool) (defBody s__law_pool) (defScope s__law_pool) .none kV__law_pool dc__law_pool pm__law_pool an__law_pool cd__law_pool ct__law_pool), sl__law_pool⟩)
    (d__law_pool : PySem.W.codeIn K cd__law_pool "_law_pool" = true)
    (k__law_pool : PySem.W.keepIn K (.ref f__law_pool) = true)
    (a__law_draw : PySem.W.nsIn K mainGlobals "_law_draw" = some (some (.ref f__law_draw)))
    (l__law_draw : K.lookup f__law_draw = some ⟨oc__law_draw, od__law_draw, .func (PySem.W.fnOf "_law_draw" "_law_draw" (defArgs s__law_draw) (defBody s__law_draw) (defScope s__law_draw) .none kV__law_draw dc__law_draw pm__law_draw an__law_draw cd__law_draw ct__law_draw), sl__law_draw⟩)
    (d__law_draw : PySem.W.codeIn K cd__law_draw "_law_draw" = true)
    (k__law_draw : PySem.W.keepIn K (.ref f__law_draw) = true)
    (a__law_pick : PySem.W.nsIn K mainGlobals "_law_pick" = some (some (.ref f__law_pick)))
    (l__law_pick : K.lookup f__law_pick = some ⟨oc__law_pick, od__law_pick, .func (PySem.W.fnOf "_law_pick" "_law_pick" (defArgs s__law_pick) (defBody s__law_pick) (defScope s__law_pick) .none kV__law_pick dc__law_pick pm__law_pick an__law_pick cd__law_pick ct__law_pick), sl__law_pick⟩)
    (d__law_pick : PySem.W.codeIn K cd__law_pick "_law_pick" = true)
    (k__law_pick : PySem.W.keepIn K (.ref f__law_pick) = true)
    (a__law_struck : PySem.W.nsIn K mainGlobals "_law_struck" = some (some (.ref f__law_struck)))
    (l__law_struck : K.lookup f__law_struck = some ⟨oc__law_struck, od__law_struck, .func (PySem.W.fnOf "_law_struck" "_law_struck" (defArgs s__law_struck) (defBody s__law_struck) (defScope s__law_struck) .none kV__law_struck dc__law_struck pm__law_struck an__law_struck cd__law_struck ct__law_struck), sl__law_struck⟩)
    (d__law_struck : PySem.W.codeIn K cd__law_struck "_law_struck" = true)
    (k__law_struck : PySem.W.keepIn K (.ref f__law_struck) = true)
    (a__law_product : PySem.W.nsIn K mainGlobals "_law_product" = some (some (.ref f__law_product)))
    (l__law_product : K.lookup f__law_product = some ⟨oc__law_product, od__law_product, .func (PySem.W.fnOf "_law_product" "_law_product" (defArgs s__law_product) (defBody s__law_product) (defScope s__law_product) .none kV__law_product dc__law_product pm__law_product an__law_product cd__law_product ct__law_product), sl__law_product⟩)
    (d__law_product : PySem.W.codeIn K cd__law_product "_law_product" = true)
    (k__law_product : PySem.W.keepIn K (.ref f__law_product) = true)
    (a__law_near_right : PySem.W.nsIn K mainGlobals "_law_near_right" = some (some (.ref f__law_near_right)))
    (l__law_near_right : K.lookup f__law_near_right = some ⟨oc__law_near_right, od__law_near_right, .func (PySem.W.fnOf "_law_near_right" "_law_near_right" (defArgs s__law_near_right) (defBody s__law_near_right) (defScope s__law_near_right) .none kV__law_near_right dc__law_near_right pm__law_near_right an__law_near_right cd__law_near_right ct__law_near_right), sl__law_near_right⟩)
    (d__law_near_right : PySem.W.codeIn K cd__law_near_right "_law_near_right" = true)
    (k__law_near_right : PySem.W.keepIn K (.ref f__law_near_right) = true)
    (a__law_far_right : PySem.W.nsIn K mainGlobals "_law_far_right" = some (some (.ref f__law_far_right)))
    (l__law_far_right : K.lookup f__law_far_right = some ⟨oc__law_far_right, od__law_far_right, .func (PySem.W.fnOf "_law_far_right" "_law_far_right" (defArgs s__law_far_right) (defBody s__law_far_right) (defScope s__law_far_right) .none kV__law_far_right dc__law_far_right pm__law_far_right an__law_far_right cd__law_far_right ct__law_far_right), sl__law_far_right⟩)
    (d__law_far_right : PySem.W.codeIn K cd__law_far_right "_law_far_right" = true)
    (k__law_far_right : PySem.W.keepIn K (.ref f__law_far_right) = true)
    (a__law_alike_right : PySem.W.nsIn K mainGlobals "_law_alike_right" = some (some (.ref f__law_alike_right)))
    (l__law_alike_right : K.lookup f__law_alike_right = some ⟨oc__law_alike_right, od__law_alike_right, .func (PySem.W.fnOf "_law_alike_right" "_law_alike_right" (defArgs s__law_alike_right) (defBody s__law_alike_right) (defScope s__law_alike_right) .none kV__law_alike_right dc__law_alike_right pm__law_alike_right an__law_alike_right cd__law_alike_right ct__law_alike_right), sl__law_alike_right⟩)
    (d__law_alike_right : PySem.W.codeIn K cd__law_alike_right "_law_alike_right" = true)
    (k__law_alike_right : PySem.W.keepIn K (.ref f__law_alike_right) = true)
    (a_law : PySem.W.nsIn K mainGlobals "law" = some (some (.ref f_law)))
    (l_law : K.lookup f_law = some ⟨oc_law, od_law, .func (PySem.W.fnOf "law" "law" (defArgs s_law) (defBody s_law) (defScope s_law) .none kV_law dc_law pm_law an_law cd_law ct_law), sl_law⟩)
    (d_law : PySem.W.codeIn K cd_law "law" = true)
    (k_law : PySem.W.keepIn K (.ref f_law) = true)
    (xa_Stretch : PySem.W.nsIn K mainGlobals "Stretch" = some (some (.ref C_Stretch)))
    (pg_Stretch : PySem.W.plainGet K C_Stretch Str.empty = true)
    (hd_Stretch : PySem.W.hasDictIn K C_Stretch = true)
    (po_Stretch : PySem.W.plainOver K C_Stretch = true)
    (sa_Stretch : PySem.W.findIn K (.ref C_Stretch) "__setattr__" = some (some (.builtin "object.__setattr__")))
    (mm_Stretch : PySem.W.makesIn K C_Stretch = true)
    (kc_Stretch : PySem.W.keepIn K (.ref C_Stretch) = true)
    (ya_Stretch : PySem.W.findIn K (.ref C_Stretch) "__class__" = some (some (.builtin "object.__class__")))
    (ym_Stretch : PySem.W.mroIn K C_Stretch (.type "object") = some true)
    (na_Stretch_low : PySem.W.findIn K (.ref C_Stretch) "low" = some none)
    (na_Stretch_high : PySem.W.findIn K (.ref C_Stretch) "high" = some none)
    (xa_Sieve : PySem.W.nsIn K mainGlobals "Sieve" = some (some (.ref C_Sieve)))
    (pg_Sieve : PySem.W.plainGet K C_Sieve Str.empty = true)
    (hd_Sieve : PySem.W.hasDictIn K C_Sieve = true)
    (po_Sieve : PySem.W.plainOver K C_Sieve = true)
    (sa_Sieve : PySem.W.findIn K (.ref C_Sieve) "__setattr__" = some (some (.builtin "object.__setattr__")))
    (mm_Sieve : PySem.W.makesIn K C_Sieve = true)
    (kc_Sieve : PySem.W.keepIn K (.ref C_Sieve) = true)
    (ya_Sieve : PySem.W.findIn K (.ref C_Sieve) "__class__" = some (some (.builtin "object.__class__")))
    (ym_Sieve : PySem.W.mroIn K C_Sieve (.type "object") = some true)
    (na_Sieve_ks : PySem.W.findIn K (.ref C_Sieve) "ks" = some none)
    (ma_Stretch___init__ : PySem.W.findIn K (.ref C_Stretch) "__init__" = some (some (.ref f_Stretch___init__)))
    (mi_Stretch___init__ : PySem.W.isFn K (.ref f_Stretch___init__) = true)
    (mk_Stretch___init__ : PySem.W.keepIn K (.ref f_Stretch___init__) = true)
    (l_Stretch___init__ : K.lookup f_Stretch___init__ = some ⟨oc_Stretch___init__, od_Stretch___init__, .func (PySem.W.fnOf "__init__" "Stretch.__init__" (defArgs s_Stretch___init__) (defBody s_Stretch___init__) (defScope s_Stretch___init__) (.ref T_Stretch___init__) kV_Stretch___init__ dc_Stretch___init__ pm_Stretch___init__ an_Stretch___init__ cd_Stretch___init__ ct_Stretch___init__), sl_Stretch___init__⟩)
    (d_Stretch___init__ : PySem.W.codeIn K cd_Stretch___init__ "Stretch.__init__" = true)
    (t_Stretch___init__ : K.lookup T_Stretch___init__ = some ⟨ocT_Stretch___init__, odT_Stretch___init__, .seq [Value.none, Value.none].toArray nT_Stretch___init__, slT_Stretch___init__⟩)
    (ma_Sieve___init__ : PySem.W.findIn K (.ref C_Sieve) "__init__" = some (some (.ref f_Sieve___init__)))
    (mi_Sieve___init__ : PySem.W.isFn K (.ref f_Sieve___init__) = true)
    (mk_Sieve___init__ : PySem.W.keepIn K (.ref f_Sieve___init__) = true)
    (l_Sieve___init__ : K.lookup f_Sieve___init__ = some ⟨oc_Sieve___init__, od_Sieve___init__, .func (PySem.W.fnOf "__init__" "Sieve.__init__" (defArgs s_Sieve___init__) (defBody s_Sieve___init__) (defScope s_Sieve___init__) .none kV_Sieve___init__ dc_Sieve___init__ pm_Sieve___init__ an_Sieve___init__ cd_Sieve___init__ ct_Sieve___init__), sl_Sieve___init__⟩)
    (d_Sieve___init__ : PySem.W.codeIn K cd_Sieve___init__ "Sieve.__init__" = true)
    (ma_Sieve___eq__ : PySem.W.findIn K (.ref C_Sieve) "__eq__" = some (some (.ref f_Sieve___eq__)))
    (mi_Sieve___eq__ : PySem.W.isFn K (.ref f_Sieve___eq__) = true)
    (mk_Sieve___eq__ : PySem.W.keepIn K (.ref f_Sieve___eq__) = true)
    (l_Sieve___eq__ : K.lookup f_Sieve___eq__ = some ⟨oc_Sieve___eq__, od_Sieve___eq__, .func (PySem.W.fnOf "__eq__" "Sieve.__eq__" (defArgs s_Sieve___eq__) (defBody s_Sieve___eq__) (defScope s_Sieve___eq__) .none kV_Sieve___eq__ dc_Sieve___eq__ pm_Sieve___eq__ an_Sieve___eq__ cd_Sieve___eq__ ct_Sieve___eq__), sl_Sieve___eq__⟩)
    (d_Sieve___eq__ : PySem.W.codeIn K cd_Sieve___eq__ "Sieve.__eq__" = true)
    (ma_Sieve_product : PySem.W.findIn K (.ref C_Sieve) "product" = some (some (.ref f_Sieve_product)))
    (mi_Sieve_product : PySem.W.isFn K (.ref f_Sieve_product) = true)
    (mk_Sieve_product : PySem.W.keepIn K (.ref f_Sieve_product) = true)
    (l_Sieve_product : K.lookup f_Sieve_product = some ⟨oc_Sieve_product, od_Sieve_product, .func (PySem.W.fnOf "product" "Sieve.product" (defArgs s_Sieve_product) (defBody s_Sieve_product) (defScope s_Sieve_product) .none kV_Sieve_product dc_Sieve_product pm_Sieve_product an_Sieve_product cd_Sieve_product ct_Sieve_product), sl_Sieve_product⟩)
    (d_Sieve_product : PySem.W.codeIn K cd_Sieve_product "Sieve.product" = true)
    (ma_Sieve_many : PySem.W.findIn K (.ref C_Sieve) "many" = some (some (.ref f_Sieve_many)))
    (mi_Sieve_many : PySem.W.isFn K (.ref f_Sieve_many) = true)
    (mk_Sieve_many : PySem.W.keepIn K (.ref f_Sieve_many) = true)
    (l_Sieve_many : K.lookup f_Sieve_many = some ⟨oc_Sieve_many, od_Sieve_many, .func (PySem.W.fnOf "many" "Sieve.many" (defArgs s_Sieve_many) (defBody s_Sieve_many) (defScope s_Sieve_many) .none kV_Sieve_many dc_Sieve_many pm_Sieve_many an_Sieve_many cd_Sieve_many ct_Sieve_many), sl_Sieve_many⟩)
    (d_Sieve_many : PySem.W.codeIn K cd_Sieve_many "Sieve.many" = true)
    (ma_Sieve_is_left : PySem.W.findIn K (.ref C_Sieve) "is_left" = some (some (.ref f_Sieve_is_left)))
    (mi_Sieve_is_left : PySem.W.isFn K (.ref f_Sieve_is_left) = true)
    (mk_Sieve_is_left : PySem.W.keepIn K (.ref f_Sieve_is_left) = true)
    (l_Sieve_is_left : K.lookup f_Sieve_is_left = some ⟨oc_Sieve_is_left, od_Sieve_is_left, .func (PySem.W.fnOf "is_left" "Sieve.is_left" (defArgs s_Sieve_is_left) (defBody s_Sieve_is_left) (defScope s_Sieve_is_left) .none kV_Sieve_is_left dc_Sieve_is_left pm_Sieve_is_left an_Sieve_is_left cd_Sieve_is_left ct_Sieve_is_left), sl_Sieve_is_left⟩)
    (d_Sieve_is_left : PySem.W.codeIn K cd_Sieve_is_left "Sieve.is_left" = true)
    (ma_Sieve_nth_left : PySem.W.findIn K (.ref C_Sieve) "nth_left" = some (some (.ref f_Sieve_nth_left)))
    (mi_Sieve_nth_left : PySem.W.isFn K (.ref f_Sieve_nth_left) = true)
    (mk_Sieve_nth_left : PySem.W.keepIn K (.ref f_Sieve_nth_left) = true)
    (l_Sieve_nth_left : K.lookup f_Sieve_nth_left = some ⟨oc_Sieve_nth_left, od_Sieve_nth_left, .func (PySem.W.fnOf "nth_left" "Sieve.nth_left" (defArgs s_Sieve_nth_left) (defBody s_Sieve_nth_left) (defScope s_Sieve_nth_left) .none kV_Sieve_nth_left dc_Sieve_nth_left pm_Sieve_nth_left an_Sieve_nth_left cd_Sieve_nth_left ct_Sieve_nth_left), sl_Sieve_nth_left⟩)
    (d_Sieve_nth_left : PySem.W.codeIn K cd_Sieve_nth_left "Sieve.nth_left" = true)
    (ma_Sieve_place_of : PySem.W.findIn K (.ref C_Sieve) "place_of" = some (some (.ref f_Sieve_place_of)))
    (mi_Sieve_place_of : PySem.W.isFn K (.ref f_Sieve_place_of) = true)
    (mk_Sieve_place_of : PySem.W.keepIn K (.ref f_Sieve_place_of) = true)
    (l_Sieve_place_of : K.lookup f_Sieve_place_of = some ⟨oc_Sieve_place_of, od_Sieve_place_of, .func (PySem.W.fnOf "place_of" "Sieve.place_of" (defArgs s_Sieve_place_of) (defBody s_Sieve_place_of) (defScope s_Sieve_place_of) .none kV_Sieve_place_of dc_Sieve_place_of pm_Sieve_place_of an_Sieve_place_of cd_Sieve_place_of ct_Sieve_place_of), sl_Sieve_place_of⟩)
    (d_Sieve_place_of : PySem.W.codeIn K cd_Sieve_place_of "Sieve.place_of" = true)
    (ma_Sieve_left_below : PySem.W.findIn K (.ref C_Sieve) "left_below" = some (some (.ref f_Sieve_left_below)))
    (mi_Sieve_left_below : PySem.W.isFn K (.ref f_Sieve_left_below) = true)
    (mk_Sieve_left_below : PySem.W.keepIn K (.ref f_Sieve_left_below) = true)
    (l_Sieve_left_below : K.lookup f_Sieve_left_below = some ⟨oc_Sieve_left_below, od_Sieve_left_below, .func (PySem.W.fnOf "left_below" "Sieve.left_below" (defArgs s_Sieve_left_below) (defBody s_Sieve_left_below) (defScope s_Sieve_left_below) .none kV_Sieve_left_below dc_Sieve_left_below pm_Sieve_left_below an_Sieve_left_below cd_Sieve_left_below ct_Sieve_left_below), sl_Sieve_left_below⟩)
    (d_Sieve_left_below : PySem.W.codeIn K cd_Sieve_left_below "Sieve.left_below" = true)
    (ma_Sieve_next_left : PySem.W.findIn K (.ref C_Sieve) "next_left" = some (some (.ref f_Sieve_next_left)))
    (mi_Sieve_next_left : PySem.W.isFn K (.ref f_Sieve_next_left) = true)
    (mk_Sieve_next_left : PySem.W.keepIn K (.ref f_Sieve_next_left) = true)
    (l_Sieve_next_left : K.lookup f_Sieve_next_left = some ⟨oc_Sieve_next_left, od_Sieve_next_left, .func (PySem.W.fnOf "next_left" "Sieve.next_left" (defArgs s_Sieve_next_left) (defBody s_Sieve_next_left) (defScope s_Sieve_next_left) .none kV_Sieve_next_left dc_Sieve_next_left pm_Sieve_next_left an_Sieve_next_left cd_Sieve_next_left ct_Sieve_next_left), sl_Sieve_next_left⟩)
    (d_Sieve_next_left : PySem.W.codeIn K cd_Sieve_next_left "Sieve.next_left" = true)
    (ma_Sieve_left_in : PySem.W.findIn K (.ref C_Sieve) "left_in" = some (some (.ref f_Sieve_left_in)))
    (mi_Sieve_left_in : PySem.W.isFn K (.ref f_Sieve_left_in) = true)
    (mk_Sieve_left_in : PySem.W.keepIn K (.ref f_Sieve_left_in) = true)
    (l_Sieve_left_in : K.lookup f_Sieve_left_in = some ⟨oc_Sieve_left_in, od_Sieve_left_in, .func (PySem.W.fnOf "left_in" "Sieve.left_in" (defArgs s_Sieve_left_in) (defBody s_Sieve_left_in) (defScope s_Sieve_left_in) .none kV_Sieve_left_in dc_Sieve_left_in pm_Sieve_left_in an_Sieve_left_in cd_Sieve_left_in ct_Sieve_left_in), sl_Sieve_left_in⟩)
    (d_Sieve_left_in : PySem.W.codeIn K cd_Sieve_left_in "Sieve.left_in" = true)
    (ma_Sieve_leaves_alike : PySem.W.findIn K (.ref C_Sieve) "leaves_alike" = some (some (.ref f_Sieve_leaves_alike)))
    (mi_Sieve_leaves_alike : PySem.W.isFn K (.ref f_Sieve_leaves_alike) = true)
    (mk_Sieve_leaves_alike : PySem.W.keepIn K (.ref f_Sieve_leaves_alike) = true)
    (l_Sieve_leaves_alike : K.lookup f_Sieve_leaves_alike = some ⟨oc_Sieve_leaves_alike, od_Sieve_leaves_alike, .func (PySem.W.fnOf "leaves_alike" "Sieve.leaves_alike" (defArgs s_Sieve_leaves_alike) (defBody s_Sieve_leaves_alike) (defScope s_Sieve_leaves_alike) .none kV_Sieve_leaves_alike dc_Sieve_leaves_alike pm_Sieve_leaves_alike an_Sieve_leaves_alike cd_Sieve_leaves_alike ct_Sieve_leaves_alike), sl_Sieve_leaves_alike⟩)
    (d_Sieve_leaves_alike : PySem.W.codeIn K cd_Sieve_leaves_alike "Sieve.leaves_alike" = true)
    (yn : PySem.W.specialIn K (.builtin "object.__class__") "__get__" = some (some (.builtin "getset_descriptor.__get__")))
    (yt : PySem.W.takesIn K (.builtin "object.__class__") = some true)
    (kk_MOST_STRIKES : PySem.W.nsIn K mainGlobals "MOST_STRIKES" = some (some (.int 5 tc_MOST_STRIKES)))
    (z_isinstance : PySem.W.nsIn K mainGlobals "isinstance" = some none)
    (z_int : PySem.W.nsIn K mainGlobals "int" = some none)
    (z_bool : PySem.W.nsIn K mainGlobals "bool" = some none)
    (z_tuple : PySem.W.nsIn K mainGlobals "tuple" = some none)
    (z_len : PySem.W.nsIn K mainGlobals "len" = some none)
    (z_list : PySem.W.nsIn K mainGlobals "list" = some none)
    (z_range : PySem.W.nsIn K mainGlobals "range" = some none)
    (z_max : PySem.W.nsIn K mainGlobals "max" = some none)
    (z_min : PySem.W.nsIn K mainGlobals "min" = some none)
    (z_sum : PySem.W.nsIn K mainGlobals "sum" = some none)
    (z_abs : PySem.W.nsIn K mainGlobals "abs" = some none)
    (z_all : PySem.W.nsIn K mainGlobals "all" = some none)
    (z_enumerate : PySem.W.nsIn K mainGlobals "enumerate" = some none) : Txt K mg :=
  { d_is_whole := ⟨_, _, PySem.W.mg_of X G a_is_whole, fun_mk (st := s_is_whole) l_is_whole d_is_whole k_is_whole⟩,
    d_is_from := ⟨_, _, PySem.W.mg_of X G a_is_from, fun_mk (st := s_is_from) l_is_from d_is_from k_is_from⟩,
    d_is_row := ⟨_, _, PySem.W.mg_of X G a_is_row, fun_mk (st := s_is_row) l_is_row d_is_row k_is_row⟩,
    d_is_span := ⟨_, _, PySem.W.mg_of X G a_is_span, fun_mk (st := s_is_span) l_is_span d_is_span k_is_span⟩,
    d_require_whole := ⟨_, _, PySem.W.mg_of X G a_require_whole, fun_mk (st := s_require_whole) l_require_whole d_require_whole k_require_whole⟩,
    d_require_from := ⟨_, _, PySem.W.mg_of X G a_require_from, fun_mk (st := s_require_from) l_require_from d_require_from k_require_from⟩,
    d_require_sieve := ⟨_, _, PySem.W.mg_of X G a_require_sieve, fun_mk (st := s_require_sieve) l_require_sieve d_require_sieve k_require_sieve⟩,
    d__product_of := ⟨_, _, PySem.W.mg_of X G a__product_of, fun_mk (st := s__product_of) l__product_of d__product_of k__product_of⟩,
    d__law_pool := ⟨_, _, PySem.W.mg_of X G a__law_pool, fun_mk (st := s__law_pool) l__law_pool d__law_pool k__law_pool⟩,
    d__law_draw := ⟨_, _, PySem.W.mg_of X G a__law_draw, fun_mk (st := s__law_draw) l__law_draw d__law_draw k__law_draw⟩,
    d__law_pick := ⟨_, _, PySem.W.mg_of X G a__law_pick, fun_mk (st := s__law_pick) l__law_pick d__law_pick k__law_pick⟩,
    d__law_struck := ⟨_, _, PySem.W.mg_of X G a__law_struck, fun_mk (st := s__law_struck) l__law_struck d__law_struck k__law_struck⟩,
    d__law_product := ⟨_, _, PySem.W.mg_of X G a__law_product, fun_mk (st := s__law_product) l__law_product d__law_product k__law_product⟩,
    d__law_near_right := ⟨_, _, PySem.W.mg_of X G a__law_near_right, fun_mk (st := s__law_near_right) l__law_near_right d__law_near_right k__law_near_right⟩,
    d__law_far_right := ⟨_, _, PySem.W.mg_of X G a__law_far_right, fun_mk (st := s__law_far_right) l__law_far_right d__law_far_right k__law_far_right⟩,
    d__law_alike_right := ⟨_, _, PySem.W.mg_of X G a__law_alike_right, fun_mk (st := s__law_alike_right) l__law_alike_right d__law_alike_right k__law_alike_right⟩,
    d_law := ⟨_, _, PySem.W.mg_of X G a_law, fun_mk (st := s_law) l_law d_law k_law⟩,
    ci_Stretch := by rw [ga_of xa_Stretch]; exact ⟨⟨pg_Stretch, hd_Stretch, po_Stretch, sa_Stretch⟩, ya_Stretch, yn, yt, ym_Stretch⟩,
    c_Stretch := by rw [ga_of xa_Stretch]; exact ⟨pg_Stretch, hd_Stretch, po_Stretch, sa_Stretch⟩,
    g_Stretch := by rw [ga_of xa_Stretch]; exact PySem.W.mg_of X G xa_Stretch,
    na_Stretch_low := by rw [ga_of xa_Stretch]; exact na_Stretch_low,
    na_Stretch_high := by rw [ga_of xa_Stretch]; exact na_Stretch_high,
    ci_Sieve := by rw [ga_of xa_Sieve]; exact ⟨⟨pg_Sieve, hd_Sieve, po_Sieve, sa_Sieve⟩, ya_Sieve, yn, yt, ym_Sieve⟩,
    c_Sieve := by rw [ga_of xa_Sieve]; exact ⟨pg_Sieve, hd_Sieve, po_Sieve, sa_Sieve⟩,
    g_Sieve := by rw [ga_of xa_Sieve]; exact PySem.W.mg_of X G xa_Sieve,
    na_Sieve_ks := by rw [ga_of xa_Sieve]; exact na_Sieve_ks,
    d_Stretch___init__ := by rw [ga_of xa_Stretch]; exact ⟨_, _, ⟨mm_Stretch, ma_Stretch___init__, mi_Stretch___init__, kc_Stretch⟩, ⟨⟨_, _, _, _, _, _, _, _, _, _, rfl, l_Stretch___init__, d_Stretch___init__, .inr ⟨by simp, _, _, _, _, rfl, t_Stretch___init__, rfl, .cons (rfl) (.cons (rfl) (.nil))⟩, .inl rfl⟩, mk_Stretch___init__⟩⟩,
    d_Sieve___init__ := by rw [ga_of xa_Sieve]; exact ⟨_, _, ⟨mm_Sieve, ma_Sieve___init__, mi_Sieve___init__, kc_Sieve⟩, ⟨⟨_, _, _, _, _, _, _, _, _, _, rfl, l_Sieve___init__, d_Sieve___init__, .inl ⟨rfl, rfl⟩, .inl rfl⟩, mk_Sieve___init__⟩⟩,
    d_Sieve___eq__ := by rw [ga_of xa_Sieve]; exact ⟨_, _, ⟨ma_Sieve___eq__, mi_Sieve___eq__, mk_Sieve___eq__⟩, ⟨⟨_, _, _, _, _, _, _, _, _, _, rfl, l_Sieve___eq__, d_Sieve___eq__, .inl ⟨rfl, rfl⟩, .inl rfl⟩, mk_Sieve___eq__⟩⟩,
    d_Sieve_product := by rw [ga_of xa_Sieve]; exact ⟨_, _, ⟨ma_Sieve_product, mi_Sieve_product, mk_Sieve_product⟩, ⟨⟨_, _, _, _, _, _, _, _, _, _, rfl, l_Sieve_product, d_Sieve_product, .inl ⟨rfl, rfl⟩, .inl rfl⟩, mk_Sieve_product⟩⟩,
    d_Sieve_many := by rw [ga_of xa_Sieve]; exact ⟨_, _, ⟨ma_Sieve_many, mi_Sieve_many, mk_Sieve_many⟩, ⟨⟨_, _, _, _, _, _, _, _, _, _, rfl, l_Sieve_many, d_Sieve_many, .inl ⟨rfl, rfl⟩, .inl rfl⟩, mk_Sieve_many⟩⟩,
    d_Sieve_is_left := by rw [ga_of xa_Sieve]; exact ⟨_, _, ⟨ma_Sieve_is_left, mi_Sieve_is_left, mk_Sieve_is_left⟩, ⟨⟨_, _, _, _, _, _, _, _, _, _, rfl, l_Sieve_is_left, d_Sieve_is_left, .inl ⟨rfl, rfl⟩, .inl rfl⟩, mk_Sieve_is_left⟩⟩,
    d_Sieve_nth_left := by rw [ga_of xa_Sieve]; exact ⟨_, _, ⟨ma_Sieve_nth_left, mi_Sieve_nth_left, mk_Sieve_nth_left⟩, ⟨⟨_, _, _, _, _, _, _, _, _, _, rfl, l_Sieve_nth_left, d_Sieve_nth_left, .inl ⟨rfl, rfl⟩, .inl rfl⟩, mk_Sieve_nth_left⟩⟩,
    d_Sieve_place_of := by rw [ga_of xa_Sieve]; exact ⟨_, _, ⟨ma_Sieve_place_of, mi_Sieve_place_of, mk_Sieve_place_of⟩, ⟨⟨_, _, _, _, _, _, _, _, _, _, rfl, l_Sieve_place_of, d_Sieve_place_of, .inl ⟨rfl, rfl⟩, .inl rfl⟩, mk_Sieve_place_of⟩⟩,
    d_Sieve_left_below := by rw [ga_of xa_Sieve]; exact ⟨_, _, ⟨ma_Sieve_left_below, mi_Sieve_left_below, mk_Sieve_left_below⟩, ⟨⟨_, _, _, _, _, _, _, _, _, _, rfl, l_Sieve_left_below, d_Sieve_left_below, .inl ⟨rfl, rfl⟩, .inl rfl⟩, mk_Sieve_left_below⟩⟩,
    d_Sieve_next_left := by rw [ga_of xa_Sieve]; exact ⟨_, _, ⟨ma_Sieve_next_left, mi_Sieve_next_left, mk_Sieve_next_left⟩, ⟨⟨_, _, _, _, _, _, _, _, _, _, rfl, l_Sieve_next_left, d_Sieve_next_left, .inl ⟨rfl, rfl⟩, .inl rfl⟩, mk_Sieve_next_left⟩⟩,
    d_Sieve_left_in := by rw [ga_of xa_Sieve]; exact ⟨_, _, ⟨ma_Sieve_left_in, mi_Sieve_left_in, mk_Sieve_left_in⟩, ⟨⟨_, _, _, _, _, _, _, _, _, _, rfl, l_Sieve_left_in, d_Sieve_left_in, .inl ⟨rfl, rfl⟩, .inl rfl⟩, mk_Sieve_left_in⟩⟩,
    d_Sieve_leaves_alike := by rw [ga_of xa_Sieve]; exact ⟨_, _, ⟨ma_Sieve_leaves_alike, mi_Sieve_leaves_alike, mk_Sieve_leaves_alike⟩, ⟨⟨_, _, _, _, _, _, _, _, _, _, rfl, l_Sieve_leaves_alike, d_Sieve_leaves_alike, .inl ⟨rfl, rfl⟩, .inl rfl⟩, mk_Sieve_leaves_alike⟩⟩,
    k_MOST_STRIKES := ⟨_, PySem.W.mg_of X G kk_MOST_STRIKES⟩,
    m_isinstance := PySem.W.mg_none_of X G z_isinstance,
    m_int := PySem.W.mg_none_of X G z_int,
    m_bool := PySem.W.mg_none_of X G z_bool,
    m_tuple := PySem.W.mg_none_of X G z_tuple,
    m_len := PySem.W.mg_none_of X G z_len,
    m_list := PySem.W.mg_none_of X G z_list,
    m_range := PySem.W.mg_none_of X G z_range,
    m_max := PySem.W.mg_none_of X G z_max,
    m_min := PySem.W.mg_none_of X G z_min,
    m_sum := PySem.W.mg_none_of X G z_sum,
    m_abs := PySem.W.mg_none_of X G z_abs,
    m_all := PySem.W.mg_none_of X G z_all,
    m_enumerate := PySem.W.mg_none_of X G z_enumerate }
open LamX
theorem law_at {l : PySem.W.OpenLaw} {h : Heap} {fa : Addr} (X : K.In h) (hmg : mg "law" = some (.ref fa)) (T : Txt K mg) : LawAtS l w K (L2.CX l.prog w) 14 63 "_law_script" mg fa h := by
  obtain ⟨f, fd, g, F⟩ := T.d_law
  have e : f = fa := by
    have h1 : some (Value.ref f) = some (Value.ref fa) := g.symm.trans hmg
    injection h1 with h2
    injection h2
  subst e
  refine ⟨fd, [], spLaw K, by simp, by simp, by simp, ?_, ?_, ?_⟩
  · intro s u
    obtain ⟨oc, od, kV, doc, pm, an, cdv, ct, osl, rfl, _⟩ := F.ex
    exact .of_eq rfl
  · intro H a ns hl _ hT hS
    exact ⟨a, rfl, ns, hS, hl, fun _ => rfl⟩
  · intro base kb nb hTB
    exact o_law T F
end
end Iz
/-! k85_end -/
set_option Elab.async false
set_option linter.all false
open PySem PySem.W PyProof.Rows
set_option maxRecDepth 100000 in
set_option maxHeartbeats 0 in
theorem PySem.Challenge.cw_endlessplane_k85_whole_sieves_holds : PySem.Challenge.rw_endlessplane_k85_whole_sieves.Holds := by
  w_on; o_law; k_head; (case hw => w_witness2)
  k_fill
  refine LamX.walk_ofTs (l := PySem.Challenge.rw_endlessplane_k85_whole_sieves) (n := 63) (k := 14) (x := "_law_script") (CX := fun w => L2.CX PySem.Challenge.rw_endlessplane_k85_whole_sieves.prog w) rfl (by decide) rfl ⟨rfl, by decide, by decide⟩ (fun w h Y => PySem.W.kIn_of Y) ?F ?X
  case X =>
    intro w H s e s' hx
    obtain ⟨_, _, _, _, _, _, _, _, _, _, _, _, z⟩ := hx
    exact z.elim
  case F =>
    intro w mg fa h Y KX G hmg
    refine' Iz.law_at KX hmg (Iz.txt_mk KX G ?a_is_whole ?l_is_whole ?d_is_whole ?k_is_whole ?a_is_from ?l_is_from ?d_is_from ?k_is_from ?a_is_row ?l_is_row ?d_is_row ?k_is_row ?a_is_span ?l_is_span ?d_is_span ?k_is_span ?a_require_whole ?l_require_whole ?d_require_whole ?k_require_whole ?a_require_from ?l_require_from ?d_require_from ?k_require_from ?a_require_sieve ?l_require_sieve ?d_require_sieve ?k_require_sieve ?a__product_of ?l__product_of ?d__product_of ?k__product_of ?a__law_pool ?l__law_pool ?d__law_pool ?k__law_pool ?a__law_draw ?l__law_draw ?d__law_draw ?k__law_draw ?a__law_pick ?l__law_pick ?d__law_pick ?k__law_pick ?a__law_struck ?l__law_struck ?d__law_struck ?k__law_struck ?a__law_product ?l__law_product ?d__law_product ?k__law_product ?a__law_near_right ?l__law_near_right ?d__law_near_right ?k__law_near_right ?a__law_far_right ?l__law_far_right ?d__law_far_right ?k__law_far_right ?a__law_alike_right ?l__law_alike_right ?d__law_alike_right ?k__law_alike_right ?a_law ?l_law ?d_law ?k_law ?xa_Stretch ?pg_Stretch ?hd_Stretch ?po_Stretch ?sa_Stretch ?mm_Stretch ?kc_Stretch ?ya_Stretch ?ym_Stretch ?na_Stretch_low ?na_Stretch_high ?xa_Sieve ?pg_Sieve ?hd_Sieve ?po_Sieve ?sa_Sieve ?mm_Sieve ?kc_Sieve ?ya_Sieve ?ym_Sieve ?na_Sieve_ks ?ma_Stretch___init__ ?mi_Stretch___init__ ?mk_Stretch___init__ ?l_Stretch___init__ ?d_Stretch___init__ ?t_Stretch___init__ ?ma_Sieve___init__ ?mi_Sieve___init__ ?mk_Sieve___init__ ?l_Sieve___init__ ?d_Sieve___init__ ?ma_Sieve___eq__ ?mi_Sieve___eq__ ?mk_Sieve___eq__ ?l_Sieve___eq__ ?d_Sieve___eq__ ?ma_Sieve_product ?mi_Sieve_product ?mk_Sieve_product ?l_Sieve_product ?d_Sieve_product ?ma_Sieve_many ?mi_Sieve_many ?mk_Sieve_many ?l_Sieve_many ?d_Sieve_many ?ma_Sieve_is_left ?mi_Sieve_is_left ?mk_Sieve_is_left ?l_Sieve_is_left ?d_Sieve_is_left ?ma_Sieve_nth_left ?mi_Sieve_nth_left ?mk_Sieve_nth_left ?l_Sieve_nth_left ?d_Sieve_nth_left ?ma_Sieve_place_of ?mi_Sieve_place_of ?mk_Sieve_place_of ?l_Sieve_place_of ?d_Sieve_place_of ?ma_Sieve_left_below ?mi_Sieve_left_below ?mk_Sieve_left_below ?l_Sieve_left_below ?d_Sieve_left_below ?ma_Sieve_next_left ?mi_Sieve_next_left ?mk_Sieve_next_left ?l_Sieve_next_left ?d_Sieve_next_left ?ma_Sieve_left_in ?mi_Sieve_left_in ?mk_Sieve_left_in ?l_Sieve_left_in ?d_Sieve_left_in ?ma_Sieve_leaves_alike ?mi_Sieve_leaves_alike ?mk_Sieve_leaves_alike ?l_Sieve_leaves_alike ?d_Sieve_leaves_alike ?yn ?yt ?kk_MOST_STRIKES ?z_isinstance ?z_int ?z_bool ?z_tuple ?z_len ?z_list ?z_range ?z_max ?z_min ?z_sum ?z_abs ?z_all ?z_enumerate)
    (case a_is_whole => k_is)
    (case l_is_whole => k_is)
    (case d_is_whole => k_is)
    (case k_is_whole => k_is)
    (case a_is_from => k_is)
    (case l_is_from => k_is)
    (case d_is_from => k_is)
    (case k_is_from => k_is)
    (case a_is_row => k_is)
    (case l_is_row => k_is)
    (case d_is_row => k_is)
    (case k_is_row => k_is)
    (case a_is_span => k_is)
    (case l_is_span => k_is)
    (case d_is_span => k_is)
    (case k_is_span => k_is)
    (case a_require_whole => k_is)
    (case l_require_whole => k_is)
    (case d_require_whole => k_is)
    (case k_require_whole => k_is)
    (case a_require_from => k_is)
    (case l_require_from => k_is)
    (case d_require_from => k_is)
    (case k_require_from => k_is)
    (case a_require_sieve => k_is)
    (case l_require_sieve => k_is)
    (case d_require_sieve => k_is)
    (case k_require_sieve => k_is)
    (case a__product_of => k_is)
    (case l__product_of => k_is)
    (case d__product_of => k_is)
    (case k__product_of => k_is)
    (case a__law_pool => k_is)
    (case l__law_pool => k_is)
    (case d__law_pool => k_is)
    (case k__law_pool => k_is)
    (case a__law_draw => k_is)
    (case l__law_draw => k_is)
    (case d__law_draw => k_is)
    (case k__law_draw => k_is)
    (case a__law_pick => k_is)
    (case l__law_pick => k_is)
    (case d__law_pick => k_is)
    (case k__law_pick => k_is)
    (case a__law_struck => k_is)
    (case l__law_struck => k_is)
    (case d__law_struck => k_is)
    (case k__law_struck => k_is)
    (case a__law_product => k_is)
    (case l__law_product => k_is)
    (case d__law_product => k_is)
    (case k__law_product => k_is)
    (case a__law_near_right => k_is)
    (case l__law_near_right => k_is)
    (case d__law_near_right => k_is)
    (case k__law_near_right => k_is)
    (case a__law_far_right => k_is)
    (case l__law_far_right => k_is)
    (case d__law_far_right => k_is)
    (case k__law_far_right => k_is)
    (case a__law_alike_right => k_is)
    (case l__law_alike_right => k_is)
    (case d__law_alike_right => k_is)
    (case k__law_alike_right => k_is)
    (case a_law => k_is)
    (case l_law => k_is)
    (case d_law => k_is)
    (case k_law => k_is)
    (case xa_Stretch => k_is)
    (case pg_Stretch => k_is)
    (case hd_Stretch => k_is)
    (case po_Stretch => k_is)
    (case sa_Stretch => k_is)
    (case mm_Stretch => k_is)
    (case kc_Stretch => k_is)
    (case ya_Stretch => k_is)
    (case ym_Stretch => k_is)
    (case na_Stretch_low => k_is)
    (case na_Stretch_high => k_is)
    (case xa_Sieve => k_is)
    (case pg_Sieve => k_is)
    (case hd_Sieve => k_is)
    (case po_Sieve => k_is)
    (case sa_Sieve => k_is)
    (case mm_Sieve => k_is)
    (case kc_Sieve => k_is)
    (case ya_Sieve => k_is)
    (case ym_Sieve => k_is)
    (case na_Sieve_ks => k_is)
    (case ma_Stretch___init__ => k_is)
    (case mi_Stretch___init__ => k_is)
    (case mk_Stretch___init__ => k_is)
    (case l_Stretch___init__ => k_is)
    (case d_Stretch___init__ => k_is)
    (case t_Stretch___init__ => k_is)
    (case ma_Sieve___init__ => k_is)
    (case mi_Sieve___init__ => k_is)
    (case mk_Sieve___init__ => k_is)
    (case l_Sieve___init__ => k_is)
    (case d_Sieve___init__ => k_is)
    (case ma_Sieve___eq__ => k_is)
    (case mi_Sieve___eq__ => k_is)
    (case mk_Sieve___eq__ => k_is)
    (case l_Sieve___eq__ => k_is)
    (case d_Sieve___eq__ => k_is)
    (case ma_Sieve_product => k_is)
    (case mi_Sieve_product => k_is)
    (case mk_Sieve_product => k_is)
    (case l_Sieve_product => k_is)
    (case d_Sieve_product => k_is)
    (case ma_Sieve_many => k_is)
    (case mi_Sieve_many => k_is)
    (case mk_Sieve_many => k_is)
    (case l_Sieve_many => k_is)
    (case d_Sieve_many => k_is)
    (case ma_Sieve_is_left => k_is)
    (case mi_Sieve_is_left => k_is)
    (case mk_Sieve_is_left => k_is)
    (case l_Sieve_is_left => k_is)
    (case d_Sieve_is_left => k_is)
    (case ma_Sieve_nth_left => k_is)
    (case mi_Sieve_nth_left => k_is)
    (case mk_Sieve_nth_left => k_is)
    (case l_Sieve_nth_left => k_is)
    (case d_Sieve_nth_left => k_is)
    (case ma_Sieve_place_of => k_is)
    (case mi_Sieve_place_of => k_is)
    (case mk_Sieve_place_of => k_is)
    (case l_Sieve_place_of => k_is)
    (case d_Sieve_place_of => k_is)
    (case ma_Sieve_left_below => k_is)
    (case mi_Sieve_left_below => k_is)
    (case mk_Sieve_left_below => k_is)
    (case l_Sieve_left_below => k_is)
    (case d_Sieve_left_below => k_is)
    (case ma_Sieve_next_left => k_is)
    (case mi_Sieve_next_left => k_is)
    (case mk_Sieve_next_left => k_is)
    (case l_Sieve_next_left => k_is)
    (case d_Sieve_next_left => k_is)
    (case ma_Sieve_left_in => k_is)
    (case mi_Sieve_left_in => k_is)
    (case mk_Sieve_left_in => k_is)
    (case l_Sieve_left_in => k_is)
    (case d_Sieve_left_in => k_is)
    (case ma_Sieve_leaves_alike => k_is)
    (case mi_Sieve_leaves_alike => k_is)
    (case mk_Sieve_leaves_alike => k_is)
    (case l_Sieve_leaves_alike => k_is)
    (case d_Sieve_leaves_alike => k_is)
    (case yn => k_is)
    (case yt => k_is)
    (case kk_MOST_STRIKES => k_is)
    (case z_isinstance => k_is)
    (case z_int => k_is)
    (case z_bool => k_is)
    (case z_tuple => k_is)
    (case z_len => k_is)
    (case z_list => k_is)
    (case z_range => k_is)
    (case z_max => k_is)
    (case z_min => k_is)
    (case z_sum => k_is)
    (case z_abs => k_is)
    (case z_all => k_is)
    (case z_enumerate => k_is)
