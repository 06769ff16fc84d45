import PyProof.Rows.All
import Wide.All
import OpenK.AllK
import Wide.FinOn
import HandS.ForMost
import HandS.ForExc
import HandS.ExcInit
import HandS.ExcField
import HandS.ExcIs
import HandS.IsInst
import HandS.Lambda
import HandS.EndTab
import HandS.Wide
import HandS.Style
import HandS.RaiseMore
import HandS.Flow
import HandS.HeadHook1
import KE.KExcIs
import PyProof.CallFns
import HandS.Defaults
import PyProof.WalksMore
import PyProof.FactsAll.range
import HandS.TryMany
import HandS.NoneIn
import KE.KFmtOwn
import HandS.SortInts
import HandS.Walk
import PyProof.ReprHeadsTuple
import PyProof.ReprHeadsEmpty
import HandS.OwnEq
import KE.GoesEnum
import HandS.Zip
import HandS.TupAny
import HandS.CallSlots
import PyProof.ExcBaseAll.OverflowError
import HandS.Codes
import HandS.Deep
import PySem.Challenge.RW_endlessplane_k12_whole_parting_and_break
/-! Bs -/
set_option Elab.async false
set_option linter.all false
set_option maxRecDepth 100000
set_option maxHeartbeats 4000000
namespace Iz
open PySem PySem.Spec PyProof.Rows L2
theorem cx_K {CX : CXT} {P : Program} {w : World} {K : PySem.W.Frag} {mg : Str → Option Value} {base : Heap} {N : List Str} {q : Str} {sc : Scope} {f : Addr} {cd : Value} {A : Around} {outer : List Env} {s : Shared} {H : Hp} {E : XK} : (cxOf CX P w K mg base N q sc f cd A outer s H E).K = K := rfl
/-! ### defs by name, calls -/
/-- the global x is a def that keeps sp -/
structure OkF (P : Program) (w : World) (K : PySem.W.Frag) (mg : Str → Option Value) (base : Heap) (CX : CXT) (k : Nat) (x : Str) (ps : List Str) (sp : Sp) : Prop where
  ex : ∃ (f : Addr) (fd : FuncData), mg x = some (.ref f) ∧ PySem.W.keepIn K (.ref f) = true ∧ Binds K fd ps [] ∧ FnOk P w K mg base CX k f fd ps sp
theorem OkF.imp {P : Program} {w : World} {K : PySem.W.Frag} {mg : Str → Option Value} {base : Heap} {CX : CXT} {k : Nat} {x : Str} {ps : List Str} {sp sp' : Sp} (F : OkF P w K mg base CX k x ps sp) (h : ∀ vs H Q E, sp' vs H Q E → sp vs H Q E) : OkF P w K mg base CX k x ps sp' :=
  let ⟨f, fd, g, kp, b, G⟩ := F.ex
  ⟨f, fd, g, kp, b, G.imp h⟩
/-- inside a def that may raise: what is raised goes on out -/
theorem passE {P : Program} {w : World} {K : PySem.W.Frag} {mg : Str → Option Value} {base : Heap} {N : List Str} {q : Str} {sc : Scope} {f : Addr} {cd : Value} {A : Around} {outer : List Env} {s : Shared} {H : Hp} {E : XK} :
    Passes (L2.CX P w) (cxOf (L2.CX P w) P w K mg base N q sc f cd A outer s H E) E := passes_call (W := fun cls d _ H => E cls d H) (takes_of rfl rfl rfl rfl) fun _ _ _ _ h => h
theorem takesE {P : Program} {w : World} {K : PySem.W.Frag} {mg : Str → Option Value} {base : Heap} {N : List Str} {q : Str} {sc : Scope} {f : Addr} {cd : Value} {A : Around} {outer : List Env} {s : Shared} {H : Hp} {E : XK} :
    Takes (cxOf (L2.CX P w) P w K mg base N q sc f cd A outer s H E) (fun cls d _ H => E cls d H) := takes_of rfl rfl rfl rfl
section
variable {X : Cx} {k : Nat} {x : Str} {ps : List Str} {sp : Sp} {E : XK} {e : Expr} {es : List Expr} {t : TA} {p pos : Pos}
/-- f(e, ..) -/
theorem pcl {CX : CXT} (O : OkF X.prog X.w X.K X.mg X.base CX k x ps sp) (hr : Room k X.A) (hx : Passes CX X E) (ha : PA X (e :: es) t) (hg : Gl X x := by rfl) (hdb : (x == ("__debug__" : Str)) = false := by decide)
    (he : starEach (e :: es) X.env = (false, eval e X.env) :: starEach es X.env := by rfl) (hpl : (backTo pos (starEach es X.env)).any (·.1) = false := by rfl) : PE X (.Call (.Name x p) (e :: es) [] pos) (tCall sp [] E t) := by
  obtain ⟨f, fd, g, kp, b, G⟩ := O.ex
  exact pe_call G hr hg g kp b .nil hx ha hdb he hpl
end
theorem op_fdivF {X : Cx} : OpR X (binaryOp .FloorDiv) (rI (fun _ j => j ≠ 0 ∧ j.natAbs.log2 < 9000) fun i j => .int (i.fdiv j)) := opI fun i j _ _ _ _ _ hc q => floordiv_int hc.1 q (.inl (PyProof.noPylong_of_log2 hc.2))
theorem log_lt {x : Int} {n m : Nat} (h : x.natAbs < 2 ^ n) (hm : n ≤ m) (h0 : 0 < m) : x.natAbs.log2 < m := PySem.Flt.log2_lt_of h0 (Nat.lt_of_lt_of_le h (Nat.pow_le_pow_right (by decide) hm))
/-! ### readings in a form that simp reads: an object is named by what stands at it -/
section
variable {X : Cx} {e a b : Expr} {es : List Expr} {t t' ta tb : TE}
theorem PE.imp (h : PE X e t) (k : ∀ σ H Q, t' σ H Q → t σ H Q) : PE X e t' := ⟨fun pins s σ H Q I q => h.run pins s σ H Q I (k σ H Q q)⟩
theorem PS.imp {st : Stmt} {t t' : TS} (h : PS X st t) (k : ∀ D σ H, t' D σ H → t D σ H) : PS X st t' := ⟨fun pins s σ H D I q => h.run pins s σ H D I (k D σ H q)⟩
theorem PG.imp {tg : Expr} {t t' : TG} (h : PG X tg t) (k : ∀ v σ H Q, t' v σ H Q → t v σ H Q) : PG X tg t' := ⟨fun pins s σ H v u Q I r q => h.run pins s σ H v u Q I r (k v σ H Q q)⟩
theorem CallR.imp {f : Value} {r r' : List V → Hp → VK → Prop} (h : CallR X f r) (k : ∀ xs H Q, r' xs H Q → r xs H Q) : CallR X f r' := fun pins s σ H xs us Q I rv q => h pins s σ H xs us Q I rv (k xs H Q q)
theorem Same.upd {H : Hp} {p : Addr} {o : HO} (h : H p = none) : Same H (L2.upd H p o) := fun b u e => by rw [upd_ne (ne_of_none e h)]; exact e
/-- a new object: from then on some heap that has it and all else -/
def News (H : Hp) (o : HO) (Q : V → Hp → Prop) : Prop := ∀ p H2, H p = none → Same H H2 → H2 p = some o → Q (.ref p) H2
theorem News.all {H : Hp} {o : HO} {Q : V → Hp → Prop} (n : News H o Q) : ∀ p, H p = none → Q (.ref p) (upd H p o) := fun p hp => n p _ hp (Same.upd hp) upd_same
def tTupN (t : TA) : TE := fun σ H Q => t σ H fun xs H1 => xs.length ≤ sizeLine ∧ News H1 (.tup xs) Q
def tLstN (t : TA) : TE := fun σ H Q => t σ H fun xs H1 => xs.length ≤ sizeLine ∧ News H1 (.lst xs) Q
/-- what a reading gives, weakened -/
def mcl {α : Type} (t : L2.St → Hp → (α → Hp → Prop) → Prop) : L2.St → Hp → (α → Hp → Prop) → Prop := fun σ H Q => ∃ Q0, t σ H Q0 ∧ ∀ v H1, Q0 v H1 → Q v H1
theorem PA.mcl {t : TA} (h : PA X es t) : PA X es (mcl t) := ⟨fun pos pins s σ H Q I ⟨Q0, q, k⟩ => thn (h.run pos pins s σ H Q0 I q) fun us s1 ⟨vs, H1, I1, r, q1⟩ => ⟨vs, H1, I1, r, k vs H1 q1⟩⟩
theorem PE.mcl {t : TE} (h : PE X e t) : PE X e (mcl t) := ⟨fun pins s σ H Q I ⟨Q0, q, k⟩ => thn (h.run pins s σ H Q0 I q) fun u s1 ⟨v, H1, I1, r, q1⟩ => ⟨v, H1, I1, r, k v H1 q1⟩⟩
theorem pe_tupN {t : TA} {x1 : Nat} {pos : Pos} (h : PA X es t) : PE X (.Tuple es x1 pos) (tTupN t) := PE.imp (pe_tup (PA.mcl h)) fun σ H Q q => ⟨_, q, fun vs H1 ⟨z, n⟩ => ⟨z, n.all⟩⟩
theorem pe_lstN {t : TA} {pos : Pos} (h : PA X es t) : PE X (.List es pos) (tLstN t) := PE.imp (pe_lst (PA.mcl h)) fun σ H Q q => ⟨_, q, fun vs H1 ⟨z, n⟩ => ⟨z, n.all⟩⟩
def rIxTN : R2 := fun x y H Q => ∃ p xs i v, x = .ref p ∧ y = .int i ∧ H p = some (.tup xs) ∧ atI xs i = some v ∧ Q v H
theorem ix_tupN : IxR X rIxTN := fun v0 sl pins s σ H x y v u Q I rx ry q hs => ix_tup v0 sl pins s σ H x y v u Q I rx ry (let ⟨p, xs, i, z, a, b, c, d, q⟩ := q; ⟨p, xs, i, z, a, b, SqT.of c, d, q⟩) hs
def rIxLN : R2 := fun x y H Q => ∃ p xs i v, x = .ref p ∧ y = .int i ∧ H p = some (.lst xs) ∧ atI xs i = some v ∧ Q v H
theorem ix_listN : IxR X rIxLN := fun v0 sl pins s σ H x y v u Q I rx ry q hs => ix_list v0 sl pins s σ H x y v u Q I rx ry (let ⟨p, xs, i, z, a, b, c, d, q⟩ := q; ⟨p, xs, i, z, a, b, SqL.of c, d, q⟩) hs
def gTupN (n : Nat) (t : TGs) : TG := fun v σ H Q => ∃ a xs, v = .ref a ∧ H a = some (.tup xs) ∧ xs.length = n ∧ t xs σ H Q
theorem pg_tupN {k : Nat} {pos : Pos} {t : TGs} {n : Nat} (hc : X.calm = true) (h : PGs X es t) (hn : (assignEach es X.env).length = n := by rfl) (hst : (assignEach es X.env).findIdx? (·.1) = none := by rfl) : PG X (.Tuple es k pos) (gTupN n t) :=
  PG.imp (pg_tup hc h hn hst) fun v σ H Q ⟨p, xs, a, c, d, q⟩ => ⟨p, xs, a, SqT.of c, d, q⟩
def rLenL : List V → Hp → VK → Prop := fun xs H Q => ∃ p ys, xs = [.ref p] ∧ H p = some (.lst ys) ∧ Q (.int ys.length) H
theorem call_lenL : CallR X (.builtin "len") rLenL := CallR.imp call_len_seq fun xs H Q ⟨p, ys, a, b, q⟩ => ⟨p, ys, a, .inl (SqL.of b), q⟩
def rLenT : List V → Hp → VK → Prop := fun xs H Q => ∃ p ys, xs = [.ref p] ∧ H p = some (.tup ys) ∧ Q (.int ys.length) H
theorem call_lenT : CallR X (.builtin "len") rLenT := CallR.imp call_len_seq fun xs H Q ⟨p, ys, a, b, q⟩ => ⟨p, ys, a, .inr (SqT.of b), q⟩
def rIntI : List V → Hp → VK → Prop := fun xs H Q => ∃ i, xs = [.int i] ∧ Q (.int i) H
theorem call_intI : CallR X (.type "int") rIntI := CallR.imp call_int1 fun xs H Q q => .inl q
def rIntB : List V → Hp → VK → Prop := fun xs H Q => ∃ k, xs = [.bl k] ∧ Q (.int (if k then 1 else 0)) H
theorem call_intB : CallR X (.type "int") rIntB := CallR.imp call_int1 fun xs H Q q => .inr q
def rAbs : List V → Hp → VK → Prop := fun xs H Q => ∃ i, xs = [.int i] ∧ Q (.int (i.natAbs : Int)) H
theorem call_absN : CallR X (.builtin "abs") rAbs := CallR.imp call_abs fun xs H Q ⟨i, a, q⟩ => ⟨i, a, by rw [show (if i < 0 then -i else i) = (i.natAbs : Int) by split <;> omega]; exact q⟩
def rListS (K : PySem.W.Frag) : List V → Hp → VK → Prop := fun xs H Q => ∃ p ys, xs = [.ref p] ∧ SqL K H p ys ∧ News H (.lst ys) Q
theorem call_listS : CallR X (.type "list") (rListS X.K) := CallR.imp call_list_of fun xs H Q ⟨p, ys, a, b, n⟩ => ⟨p, ys, a, .inl b, n.all⟩
/-- a truth: what the test says -/
theorem atI0 {α : Type} {a : α} {l : List α} : atI (a :: l) 0 = some a := by simp [atI, ixN]
theorem ixN_ok {n : Nat} {i : Int} (h : 0 ≤ i) (h2 : i < n) : ixN n i = some i.toNat := by simp [ixN, h, h2]
theorem atI_ok {α : Type} {l : List α} {i : Int} {v : α} (h : 0 ≤ i) (h2 : l[i.toNat]? = some v) : atI l i = some v := by
  have h3 := (List.getElem?_eq_some_iff.mp h2).1
  unfold atI
  rw [ixN_ok h (by omega)]
  exact h2
theorem atI1 {α : Type} {a b : α} {l : List α} : atI (a :: b :: l) 1 = some b := atI_ok (by decide) rfl
theorem atI2 {α : Type} {a b c : α} {l : List α} : atI (a :: b :: c :: l) 2 = some c := atI_ok (by decide) rfl
theorem atI3 {α : Type} {a b c d : α} {l : List α} : atI (a :: b :: c :: d :: l) 3 = some d := atI_ok (by decide) rfl
theorem ite_iff {c A B : Prop} [Decidable c] : (if c then A else B) ↔ ((c → A) ∧ (¬ c → B)) := by
  by_cases h : c <;> simp [h]
/-- a while's test may be asked for less -/
theorem mono_eq {r : R2} {i : Nat} {v : V} (hr : ∀ x y H Q Q', (∀ z H1, Q z H1 → Q' z H1) → r x y H Q → r x y H Q') : ∀ (σ : L2.St) (H : Hp) (Q Q' : Bool → Hp → Prop), (∀ b H1, Q b H1 → Q' b H1) → tTest (tOp r (tVar i) (tC v)) σ H Q → tTest (tOp r (tVar i) (tC v)) σ H Q' :=
  fun _ _ _ _ k ⟨x, h, q⟩ => ⟨x, h, hr _ _ _ _ _ (fun _ _ ⟨b, e, q⟩ => ⟨b, e, k _ _ q⟩) q⟩
theorem mono_ne {i : Nat} {v : V} : ∀ (σ : L2.St) (H : Hp) (Q Q' : Bool → Hp → Prop), (∀ b H1, Q b H1 → Q' b H1) → tTest (tOp rNe (tVar i) (tC v)) σ H Q → tTest (tOp rNe (tVar i) (tC v)) σ H Q' := mono_eq fun _ _ _ _ _ k ⟨a, q⟩ => ⟨a, k _ _ q⟩
end
/-- H2 is H with o at p -/
def Put (H H2 : Hp) (p : Addr) (o : HO) : Prop := H2 p = some o ∧ ∀ b, b ≠ p → H2 b = H b
def rSetLN : V → V → V → Hp → (Hp → Prop) → Prop := fun o i v H Q => ∃ p xs k j, o = .ref p ∧ i = .int k ∧ H p = some (.lst xs) ∧ ixN xs.length k = some j ∧ ∀ H2, Put H H2 p (.lst (xs.set j v)) → Q H2
theorem set_listN {X : Cx} : PSet X rSetLN := fun pins s σ H o i v ov iv u Q I ro ri rv ⟨p, xs, k, j, a, b, c, d, q⟩ => set_list pins s σ H o i v ov iv u Q I ro ri rv ⟨p, xs, k, j, a, b, c, d, q _ ⟨upd_same, fun _ h => upd_ne h⟩⟩
theorem PT.imp {X : Cx} {e : Expr} {t t' : TT} (h : PT X e t) (k : ∀ σ H Q, t' σ H Q → t σ H Q) : PT X e t' := ⟨fun pins s σ H Q I q => h.run pins s σ H Q I (k σ H Q q)⟩
/-- a list's truth -/
def tTruL (te : TE) : TT := fun σ H Q => te σ H fun x H1 => ∃ p xs, x = .ref p ∧ H1 p = some (.lst xs) ∧ Q (!xs.isEmpty) H1
theorem pt_truL {X : Cx} {e : Expr} {te : TE} (h : PE X e te) (hw : ∀ t : Sem Value, isTrue e X.env t = (t >>= fun v => standAt e.pos >>= fun _ => holding [v] (truthy v)) := by intro _; rfl) : PT X e (tTruL te) :=
  PT.imp (pt_truth (PE.mcl h) hw) fun σ H Q q => ⟨_, q, fun v H1 ⟨p, xs, a, b, q⟩ => ⟨_, by subst a; exact .inl ⟨xs, SqL.of b, rfl⟩, q⟩⟩
theorem ixN0 {n : Nat} : ixN (n + 1) 0 = some 0 := ixN_ok (by decide) (by omega)
theorem ixN1 {n : Nat} : ixN (n + 1 + 1) 1 = some 1 := ixN_ok (by decide) (by omega)
theorem scal_ii {i j : Int} : scal (.int i) (.int j) = true := rfl
theorem scal_in {i : Int} : scal (.int i) .non = true := rfl
theorem scal_ni {i : Int} : scal .non (.int i) = true := rfl
theorem scal_nn : scal .non .non = true := rfl
theorem scal_bb {i j : Bool} : scal (.bl i) (.bl j) = true := rfl
theorem scal_ss {i j : Str} : scal (.str i) (.str j) = true := rfl
theorem scal_sn {i : Str} : scal (.str i) .non = true := rfl
theorem scal_ns {i : Str} : scal .non (.str i) = true := rfl
theorem scal_bn {i : Bool} : scal (.bl i) .non = true := rfl
theorem scal_nb {i : Bool} : scal .non (.bl i) = true := rfl
/-- xs.append(e) -/
def tApp (to : TE) (ta : TA) : TE := fun σ H Q => to σ H fun x H1 => ∃ l, x = .ref l ∧ (∃ xs, H1 l = some (.lst xs)) ∧ ta σ H1 fun vs H2 => ∃ y xs, vs = [y] ∧ H2 l = some (.lst xs) ∧ xs.length < sizeLine ∧ ∀ H3, Put H2 H3 l (.lst (xs ++ [y])) → Q .non H3
theorem pe_appN {X : Cx} {o e : Expr} {to : TE} {ta : TA} {apos cpos : Pos} (ho : PE X o to) (ha : PA X [e] ta)
    (hbase : attributeBase o "append" X.env (eval o X.env) = eval o X.env := by rfl)
    (hfew : ((backTo cpos (starEach [e] X.env)).all (fun x => !x.1) && (backToKw cpos (keywordEach [] X.env)).all (fun x => x.1.isSome) && decide ([e].length + ([] : List Keyword).length + (if ([] : List Keyword).isEmpty then 0 else 1) < 30)) = true := by rfl)
    (hline : (apos.endLine == cpos.line) = true := by rfl) (hs : starEach [e] X.env = (false, eval e X.env) :: starEach [] X.env := by rfl) (hplain : (backTo cpos (starEach [] X.env)).any (·.1) = false := by rfl) :
    PE X (.Call (.Attribute o "append" apos) [e] [] cpos) (tApp to ta) :=
  PE.imp (pe_bm PySem.F.plainAttrs_list PySem.F.slot_list_append PySem.F.type_list_append mt_append (PE.mcl ho) (PA.mcl ha) hbase hfew hline hs hplain) fun σ H Q q =>
    ⟨_, q, fun x H1 ⟨l, hx, ⟨xs, hl⟩, q⟩ => by subst hx; exact ⟨.inl ⟨rfl, xs, SqL.of hl⟩, _, q, fun vs H2 ⟨y, xs, a, b, c, q⟩ => ⟨l, xs, y, rfl, a, b, c, q _ ⟨upd_same, fun _ h => upd_ne h⟩⟩⟩⟩
/-- a statement whose ways join behind it: M holds there -/
def tCut (t : TS) : TS := fun D σ H => ∃ M : L2.St → Hp → Prop, t { D with nx := M } σ H ∧ ∀ σ' H', M σ' H' → D.nx σ' H'
theorem ps_cut {X : Cx} {st : Stmt} {t : TS} (h : PS X st t) : PS X st (tCut t) := ⟨fun pins s σ H D I ⟨M, q, k⟩ => thn (h.run pins s σ H { D with nx := M } I q) fun f s1 r => by
  cases f with
  | next => obtain ⟨σ', H', J, m⟩ := r; exact ⟨σ', H', J, k σ' H' m⟩
  | brk => exact r
  | cont => exact r
  | ret u => exact r⟩
/-! ### loops -/
section
variable {g : TG} {tb : TS} {D : Ends} {σ : L2.St} {H : Hp} {ta : TA} {tl : TE}
theorem st_forR1 (j : Int) (hj : -(2 ^ 62) ≤ j ∧ j < 2 ^ 62) (ha : ∀ Q : List V → Hp → Prop, Q [.int j] H → ta σ H Q) (Pv : Nat → L2.St → Hp → Prop) (h0 : Pv 0 σ H)
    (hs : ∀ i σ H, i < j.toNat → Pv i σ H → g (.int i) σ H fun σ2 H2 => tb { D with nx := Pv (i + 1), ct := Pv (i + 1), bk := D.nx } σ2 H2) (hd : ∀ σ H, Pv j.toNat σ H → D.nx σ H) : tFor (iRng1 ta) g tb D σ H :=
  ha _ ⟨j, rfl, hj.1, hj.2, for_range Pv h0 (fun i σ H hi p => by rw [Int.zero_add]; exact hs i σ H hi p) hd⟩
theorem st_forR2 (lo j : Int) (hl : -(2 ^ 62) ≤ lo ∧ lo < 2 ^ 62) (hj : -(2 ^ 62) ≤ j ∧ j < 2 ^ 62) (ha : ∀ Q : List V → Hp → Prop, Q [.int lo, .int j] H → ta σ H Q) (Pv : Nat → L2.St → Hp → Prop) (h0 : Pv 0 σ H)
    (hs : ∀ i σ H, i < (j - lo).toNat → Pv i σ H → g (.int (lo + i)) σ H fun σ2 H2 => tb { D with nx := Pv (i + 1), ct := Pv (i + 1), bk := D.nx } σ2 H2) (hd : ∀ σ H, Pv (j - lo).toNat σ H → D.nx σ H) : tFor (iRng2 ta) g tb D σ H :=
  ha _ ⟨lo, j, rfl, ⟨hl.1, hl.2, hj.1, hj.2⟩, for_range Pv h0 hs hd⟩
end
/-! ### values of any kind -/
/-- a plain int -/
def isI : V → Bool
  | .int _ => true
  | _ => false
theorem isI_int {x : V} (h : isI x = true) : ∃ i, x = .int i := by cases x <;> simp_all [isI]
/-- is_whole tells rightly of x -/
def Wh (K : PySem.W.Frag) (H : Hp) (x : V) : Prop := ∃ t b1 b2, TyX K H x t ∧ PySem.W.kitOne K t (.type "int") = some b1 ∧ PySem.W.kitOne K t (.type "bool") = some b2 ∧ (b1 && !b2) = isI x
section
variable {K : PySem.W.Frag} {H : Hp}
theorem wh_int {i : Int} : Wh K H (.int i) := ⟨_, true, false, .base (.int i), kit_ty (by decide +kernel), kit_ty (by decide +kernel), rfl⟩
theorem wh_bl {b : Bool} : Wh K H (.bl b) := ⟨_, true, true, .base (.bl b), kit_ty (by decide +kernel), kit_ty (by decide +kernel), rfl⟩
theorem wh_non : Wh K H .non := ⟨_, false, false, .base .non, kit_ty (by decide +kernel), kit_ty (by decide +kernel), rfl⟩
theorem wh_str {x : Str} : Wh K H (.str x) := ⟨_, false, false, .base (.str x), kit_ty (by decide +kernel), kit_ty (by decide +kernel), rfl⟩
theorem wh_tup {p : Addr} {xs : List V} (h : H p = some (.tup xs)) : Wh K H (.ref p) := ⟨_, false, false, .base (.tup h), kit_ty (by decide +kernel), kit_ty (by decide +kernel), rfl⟩
theorem wh_lst {p : Addr} {xs : List V} (h : H p = some (.lst xs)) : Wh K H (.ref p) := ⟨_, false, false, .base (.lst h), kit_ty (by decide +kernel), kit_ty (by decide +kernel), rfl⟩
end
/-- isinstance with a built-in class, with an own one -/
def rIsTy (K : PySem.W.Frag) : List V → Hp → VK → Prop := fun xs H Q => ∃ x n t b, xs = [x, .ty n] ∧ TyX K H x t ∧ PySem.W.kitOne K t (.type n) = some b ∧ Q (.bl b) H
theorem call_isTy {X : Cx} : CallR X (.builtin "isinstance") (rIsTy X.K) := CallR.imp call_isi fun xs H Q ⟨x, n, t, b, a, ty, k, q⟩ => ⟨x, .ty n, t, .type n, b, a, .ty n, ty, k, q⟩
/-! ### own errors with one field -/
open He (ga)
def spXI (K : PySem.W.Frag) (fld : Str) : Sp := fun vs H Q _ => ∃ (a C : Addr) (v : V), vs = [.ref a, v] ∧ OexC K C ∧ PySem.W.findIn K (.ref C) fld = some none ∧ H a = some (exo a C none) ∧
  ∀ dx, H dx = none → dx ≠ a → Q .non (upd (upd H dx (exd dx [(fld, v)])) a (exo a C (some dx)))
section
variable {P : Program} {w : World} {K : PySem.W.Frag} {mg : Str → Option Value} {base : Heap}
theorem vis_of {N ps : List Str} {sc : Scope} (S : FnScope N ps sc) {x : Str} (h : x ∈ ps) : Vis sc x := (S.par x h).elim .inl fun e => .inr (.inl e)
theorem ok_xi {qual fld : Str} {st : Stmt} {f : Addr} {fd : FuncData} {p1 p2 p3 p4 : Pos} (F : Fun K "__init__" qual st f fd) (S : FnScope ["self", fld] ["self", fld] (defScope st))
    (hb : defBody st = [.Assign [.Attribute (.Name "self" p1) fld p2] (.Name fld p3) p4]) (h1 : (fld == ("__debug__" : Str)) = false) (h2 : (fld == ("__classdict__" : Str)) = false) : FnOk P w K mg base CX0 1 f fd ["self", fld] (spXI K fld) := by
  refine F.ok S (fun vs H Q E h => ?_) (fun cdv A outer s H vs Q E hr h => ?_)
  · obtain ⟨a, C, v, rfl, _⟩ := h; rfl
  · obtain ⟨a, C, v, rfl, T, hn, ha, k⟩ := h
    rw [hb]
    refine ⟨_, pss_one (ps_ost (pe_var (i := 0) rfl (vis_of S (by simp))) (pe_var (i := 1) rfl (vis_of S (by simp)) h1 h2)), ?_⟩
    exact ⟨v, rfl, .ref a, rfl, a, C, rfl, T, hn, .inl ⟨ha, k⟩⟩
/-- what the top has made of the class x, whose __init__ keeps its one argument in fld -/
structure ExT (K : PySem.W.Frag) (mg : Str → Option Value) (x fld : Str) : Prop where
  g : mg x = some (.ref (ga K x))
  ox : OexC K (ga K x)
  xf : XfC K (ga K x)
  no : PySem.W.findIn K (.ref (ga K x)) fld = some none
  ini : ∃ (qual : Str) (st : Stmt) (f : Addr) (fd : FuncData) (p1 p2 p3 p4 : Pos), PySem.W.findIn K (.ref (ga K x)) "__init__" = some (some (.ref f)) ∧ PySem.W.typeIn K (.ref f) = some (.type "function") ∧ Fun K "__init__" qual st f fd ∧ FnScope ["self", fld] ["self", fld] (defScope st) ∧
    defBody st = [.Assign [.Attribute (.Name "self" p1) fld p2] (.Name fld p3) p4] ∧ Binds K fd ["self", fld] []
/-- an error of the class x with fld = v is let out -/
def Rse (K : PySem.W.Frag) (E : XK) (H : Hp) (x fld : Str) (v : V) : Prop := ∀ d H', H d = none → Same H H' → H' d = some (.xd [(fld, v)]) → E (.ref (ga K x)) (some d) H'
theorem Rse.mono {K : PySem.W.Frag} {E : XK} {H H2 : Hp} {x f : Str} {v : V} (r : Rse K E H x f v) (s : Same H H2) : Rse K E H2 x f v := fun d H' hd s2 h => r d H' (s.free hd) (s.trans s2) h
def tRaiseX (K : PySem.W.Frag) (x fld : Str) (W : WX) (te : TE) : TS := fun _ σ H => te σ H fun v H1 => Rse K (fun cls d H' => W cls d σ H') H1 x fld v
theorem ps_raiseX {X : Cx} {x fld : Str} {W : WX} {e : Expr} {te : TE} {p pos pos2 : Pos} (T : ExT X.K X.mg x fld) (hr : Room 2 X.A) (tk : Takes X W) (he : PE X e te) (hc : X.calm = true := by rfl) (hg : Gl X x := by rfl) (hdb : (x == ("__debug__" : Str)) = false := by decide)
    (hd1 : (fld == ("__debug__" : Str)) = false := by decide) (hd2 : (fld == ("__classdict__" : Str)) = false := by decide)
    (hs : starEach [e] X.env = (false, eval e X.env) :: starEach [] X.env := by rfl) (hpl : (backTo pos (starEach [] X.env)).any (·.1) = false := by rfl) : PS X (.Raise (some (.Call (.Name x p) [e] [] pos)) none pos2) (tRaiseX X.K x fld W te) := by
  obtain ⟨qual, st, f, fd, p1, p2, p3, p4, hi, ht, F, S, hb, B⟩ := T.ini
  have G : FnOk X.prog X.w X.K X.mg X.base CX0 1 f fd ["self", fld] (spXI X.K fld) := ok_xi F S hb hd1 hd2
  refine PS.imp (ps_raise hc tk (pmk_oex (k := 1) T.ox hi ht G hr B .nil (pass0) hg T.g (pa_cons (PE.mcl he) pa_nil hs) hdb hs hpl)) fun D σ H q => ?_
  refine ⟨_, q, fun v H1 k => ?_⟩
  refine ⟨by show 1 ≤ 1000; decide, fun a ha => ⟨a, _, v, rfl, T.ox, T.no, upd_same, fun dx hdx hne => ⟨rfl, dx, _, upd_same, by rw [upd_ne hne, upd_same], ?_, ?_⟩⟩⟩
  · rw [upd_ne hne] at hdx; exact hdx
  · have hdn : H1 dx = none := by rw [upd_ne hne] at hdx; exact hdx
    refine k dx _ hdn (fun b u e => ?_) upd_same
    have h1 := ne_of_none e hdn
    have h2 := ne_of_none e ha
    rw [upd_ne h1, del_ne h2, upd_ne h2, upd_ne h1, upd_ne h2]
    exact e
end
end Iz
/-! Bx -/
set_option Elab.async false
set_option linter.all false
set_option maxRecDepth 100000
set_option maxHeartbeats 4000000
namespace Iz
open PySem PySem.Spec PyProof.Rows L2 LamX
open He (ga)
/-! ### repr of plain values -/
def ReprV : V → Str → Prop
  | .non, s => s = "None"
  | .bl b, s => s = if b = true then Str.ofString "True" else Str.ofString "False"
  | .int i, s => i.natAbs.log2 < 1920 ∧ s = Str.ofString (toString i)
  | .str x, s => (reprText x).length ≤ sizeLine ∧ s = reprText x
  | _, _ => False
def rRepr : List V → Hp → VK → Prop := fun xs H Q => ∃ x s, xs = [x] ∧ ReprV x s ∧ Q (.str s) H
theorem call_reprN {X : Cx} : CallR X (.builtin "repr") rRepr := by
  intro pins s σ H xs us Q I r h
  obtain ⟨x, z, rfl, hz, q⟩ := h
  cases r with
  | cons rx rr =>
    cases rr
    cases x with
    | non => cases rx; cases hz; exact PySem.P.repr_of_none ⟨.str _, H, I.tok _, ⟨_, rfl⟩, q⟩
    | bl b => cases rx; cases hz; exact PySem.P.repr_of_bool ⟨.str _, H, I.tok _, ⟨_, rfl⟩, q⟩
    | int i => obtain ⟨t, rfl⟩ := rx; obtain ⟨hb, rfl⟩ := hz; exact PySem.P.repr_of_int hb ⟨.str _, H, I.tok _, ⟨_, rfl⟩, q⟩
    | str y => obtain ⟨t, rfl⟩ := rx; obtain ⟨hb, rfl⟩ := hz; exact PySem.P.repr_of_str ⟨.str _, H, I.tok _, ⟨_, rfl⟩, q⟩ hb
    | byt b => cases hz
    | flt b => cases hz
    | ref a => cases hz
    | ty n => cases hz
/-! ### isinstance of a caught error -/
structure ExI (K : PySem.W.Frag) (D : Addr) : Prop where
  hc : (PySem.W.clsIn K D).isSome = true
  ha : PySem.W.findIn K (.ref D) "__class__" = some (some (.builtin "object.__class__"))
  hn : PySem.W.specialIn K (.builtin "object.__class__") "__get__" = some (some (.builtin "getset_descriptor.__get__"))
  ht : PySem.W.takesIn K (.builtin "object.__class__") = some true
  hm : PySem.W.mroIn K D (.type "object") = some true
def rIsX (K : PySem.W.Frag) (a : Addr) (cls : Value) (d : Option Addr) : List V → Hp → VK → Prop := fun xs H Q => ∃ (c D dd : Addr) (fs : List (Str × V)) (b : Bool), xs = [.ref a, .ref c] ∧ cls = .ref D ∧ d = some dd ∧ H dd = some (.xd fs) ∧ XfC K D ∧ ExI K D ∧ PySem.W.kitOne K (.ref D) (.ref c) = some b ∧ Q (.bl b) H
theorem call_isX {X : Cx} {a : Addr} {oe : Obj} {cls : Value} {d : Option Addr} {pn : List (Addr × Obj)} (hz : Zc cls d oe) (hf : ∃ vs, oe.data = .fields vs) : CallR (X.suite a ((a, oe) :: pn)) (.builtin "isinstance") (rIsX X.K a cls d) := by
  intro pins s σ H xs us Q I r h
  obtain ⟨c, D, dd, fs, b, rfl, rfl, rfl, hd, T, U, hk, q⟩ := h
  cases r with
  | cons rx rr =>
    cases rr with
    | cons ry rr =>
      cases rr; cases rx; cases ry
      have hget := (I.pin (a, oe) (List.mem_append.mpr (.inl List.mem_cons_self))).1
      obtain ⟨vs, hv⟩ := hf
      have hx : ObjOk X.prog X.w H s.heap dd (.xd fs) := I.hok dd _ hd
      obtain ⟨mA, hns, _⟩ := hx
      obtain ⟨od, ho, _⟩ := lookIn_ns hns
      have J : PySem.W.InstAt s.heap a oe D (some od) := ⟨hget, hz.1, by unfold PySem.W.notCls; rw [hv], by rw [hz.2]; exact ho⟩
      refine PySem.W.kia_one (PySem.W.kitx_exc U.hc T.ga T.gg T.exC U.ha U.hn U.ht U.hm) I.kIn J hk (fun z => nomatch z) fun tk => ?_
      exact ⟨.bl b, H, I.kept (t' := tk) fun _ _ z => z, rfl, q⟩
/-! ### a suite knows how many slots there are -/
def tLen (n : Nat) (t : TS) : TS := fun D σ H => σ.length = n → t D σ H
theorem pss_len {X : Cx} {st : List Stmt} {t : TS} {n : Nat} (h : PSs X st t) (hn : X.N.length = n) : PSs X st (tLen n t) := ⟨fun pins s σ H D I q => h.run pins s σ H D I (q (I.len.trans hn))⟩
/-! ### defs that make lambdas: their code object is named -/
def cOf (K : PySem.W.Frag) (x : Str) : Addr := ((PySem.W.tabIn K x).getD (0, 0)).1
def pOf (K : PySem.W.Frag) (x : Str) : Addr := ((PySem.W.tabIn K x).getD (0, 0)).2
structure LamF (K : PySem.W.Frag) (mg : Str → Option Value) (x : Str) (st : Stmt) : Prop where
  ex : ∃ (f : Addr) (oc : Value) (od : Option Addr) (kV doc pm : Value) (an : Option Addr) (ct : Value) (osl : Array (Option Value)), mg x = some (.ref f) ∧ PySem.W.keepIn K (.ref f) = true ∧
    K.lookup f = some ⟨oc, od, .func (PySem.W.fnOf x x (defArgs st) (defBody st) (defScope st) .none kV doc pm an (.ref (cOf K x)) ct), osl⟩ ∧ PySem.W.codeIn K (.ref (cOf K x)) x = true
/-- as Fun.okX, the code object known -/
theorem LamF.okF {P : Program} {w : World} {K : PySem.W.Frag} {mg : Str → Option Value} {base : Heap} {x : Str} {st : Stmt} {N ps : List Str} {k : Nat} {sp : Sp} (F : LamF K mg x st) (S : FnScope N ps (defScope st))
    (hbind : ∀ (kV doc pm : Value) (an : Option Addr) (cdv ct : Value) (us : List Value), us.length = ps.length → bindArgs (PySem.W.fnOf x x (defArgs st) (defBody st) (defScope st) .none kV doc pm an cdv ct) ⟨us, []⟩ = pure (ps.zip us))
    (len : ∀ vs H Q E, sp vs H Q E → vs.length = ps.length)
    (hbody : ∀ (f : Addr) (A : Around) (outer : List Env) (s : Shared) (H : Hp) (vs : List V) (Q : VK) (E : XK), Room k (A.deeper (envOfC x (defScope st) s.heap.objs.size f (.ref (cOf K x)))) → sp vs H Q E →
      ∃ t, PSs (cxOf (L2.CX P w) P w K mg base N x (defScope st) f (.ref (cOf K x)) A outer s H E) (defBody st) t ∧ t { nx := fun _ H' => Q .non H', rt := Q } (L2.start N vs) H) : OkF P w K mg base (L2.CX P w) (k + 1) x ps sp := by
  obtain ⟨f, oc, od, kV, doc, pm, an, ct, osl, g, kp, lk, hcd⟩ := F.ex
  exact ⟨f, _, g, kp, .all (hbind kV doc pm an _ ct), fn_of lk hcd S len fun A outer s H vs Q E hr hsp => hbody f A outer s H vs Q E hr hsp⟩
theorem passLam {X : Cx} {A : Around} {outer : List Env} {s : Shared} {H : Hp} {E : XK} {scope : Scope} {f c : Addr} : Passes (L2.CX X.prog X.w) (lamCx X A outer s H E scope f c) E :=
  passes_call (W := fun cls d _ H => E cls d H) (takes_of rfl rfl rfl rfl) fun _ _ _ _ h => h
/-- told(lambda: body), told a def of the text -/
theorem plam {X : Cx} {x a : Str} {st : Stmt} {N : List Str} {TT : (XK → Hp → VK → Prop) → Hp → VK → Prop} {c P : Addr} {qn : Str} {k : Nat} {params : Arguments} {body : Expr} {scope : Scope} {t : XK → TE} {p lpos pos : Pos}
    (F : ∃ (f : Addr) (fd : FuncData), X.mg x = some (.ref f) ∧ Fun X.K x x st f fd) (S : FnScope N [a] (defScope st))
    (hb : ∀ (kV doc pm : Value) (an : Option Addr) (cdv ct : Value) (us : List Value), us.length = [a].length → bindArgs (PySem.W.fnOf x x (defArgs st) (defBody st) (defScope st) .none kV doc pm an cdv ct) ⟨us, []⟩ = pure ([a].zip us))
    (hG : ∀ (g : Addr) (cdg : Value), GivesTo X N x (defScope st) g cdg (defBody st) a qn TT)
    (TB : TabB X.base X.mg c P) (hcode : X.env.code = .ref c) (hq : X.env.qual ++ "<lambda>" = qn) (hr : Room (k + 2) X.A) (L : lamSB X.env.scope scope = true)
    (hbody : ∀ (A : Around) (outer : List Env) (s : Shared) (H : Hp) (E : XK) (f c' : Addr), Room k (A.deeper (lamEnv X scope s.heap.objs.size f c')) → PE (lamCx X A outer s H E scope f c') body (t E))
    (hdef : defaultsOf params X.env = ([], []) := by rfl) (hg : Gl X x := by rfl) (hv : Vis (defScope st) a := by first | exact Or.inl rfl | exact Or.inr (Or.inl rfl)) (hNa : N[0]? = some a := by rfl)
    (hbind : ∀ (q : Str) (cl : List (Str × Addr)) (pm cv ctv : Value), bindArgs (PySem.W.kla_fn "<lambda>" q params body scope cl pm cv ctv) ⟨[], []⟩ = pure [] := by intros; rfl)
    (hdb : (x == ("__debug__" : Str)) = false := by decide) (hd : (a == ("__debug__" : Str)) = false := by decide) (hcd : (a == ("__classdict__" : Str)) = false := by decide) :
    PE X (.Call (.Name x p) [.Lambda params body scope lpos] [] pos) (tLam [(P, qn)] TT t) := by
  subst hq
  obtain ⟨g, fd, hm, F⟩ := F
  obtain ⟨oc, od, kV, doc, pm, an, cdv, ct, osl, rfl, lk, hcg⟩ := F.ex
  exact pe_lamcall hg hm F.kp lk hcg (.all (hb kV doc pm an cdv ct)) S hNa hv (hG g cdv) TB hcode (List.mem_singleton.mpr rfl) (fun q hq _ => by rw [List.mem_singleton.mp hq]) hr (lamS_by L) hdef hbind hbody hdb hd hcd
theorem extL {H H' : Hp} {p : Addr} {xs : List V} (e : ExtN H H') (h : H p = some (.lst xs)) : H' p = some (.lst xs) := e p _ h fun ps z => by cases z
theorem extT {H H' : Hp} {p : Addr} {xs : List V} (e : ExtN H H') (h : H p = some (.tup xs)) : H' p = some (.tup xs) := e p _ h fun ps z => by cases z
theorem extS {H H' : Hp} (e : Same H H') : ExtN H H' := fun b o h _ => e b o h
/-! ### comprehensions -/
theorem st_lcL {K : PySem.W.Frag} {tl : TE} {g : TG} {tt : TT} {te : TE} {vs : List Nat} {σ : L2.St} {H : Hp} {Q : VK} {a : Addr} {xs : List V} (ha : ∀ R : V → Hp → Prop, R (.ref a) H → tl σ H R) (hx : H a = some (.lst xs)) (Pv : Addr → Nat → Hp → Prop)
    (h0 : ∀ D H1, H D = none → Same H H1 → H1 D = some (.lst []) → Pv D 0 H1) (hl : ∀ D i H, Pv D i H → H a = some (.lst xs))
    (hs : ∀ D i x H, xs[i]? = some x → Pv D i H → g x (wipe σ vs) H fun σ2 H2 => wipe σ2 vs = wipe σ vs ∧ tt σ2 H2 fun b H3 => if b = true then te σ2 H3 fun y H4 => ∃ acc, H4 D = some (.lst acc) ∧ acc.length < sizeLine ∧ Pv D (i + 1) (upd H4 D (.lst (acc ++ [y]))) else Pv D (i + 1) H3)
    (hd : ∀ D H, Pv D xs.length H → Q (.ref D) H) : tLc (iList K tl) g tt te vs σ H Q :=
  ha _ ⟨a, rfl, ⟨xs, SqL.of hx⟩, fun D hD => lc_list (Pv D) (h0 D _ hD (Same.upd hD) upd_same) (fun i H _ p => SqL.of (hl D i H p)) (hs D) (hd D)⟩
/-- deep == of what is alike -/
theorem dataEq {d : PyData} (h : SeqAt.shaped d = true) : PyData.eqv d d = true := SeqAt.eqv_refl d (SeqAt.canLay_of_shaped h)
theorem lk0 {f : Str} {v : V} : List.lookup f [(f, v)] = some v := by simp [List.lookup]
theorem ne_same {K : PySem.W.Frag} {x y : V} {H : Hp} {d : PyData} {R : VK} (hx : Dp K H x d) (hy : Dp K H y d) (h : SeqAt.shaped d = true) (r : R (.bl false) H) : rNeD K x y H R := ⟨d, d, hx, hy, h, h, by rw [dataEq h]; exact r⟩
theorem eq_same {K : PySem.W.Frag} {x y : V} {H : Hp} {d : PyData} {R : VK} (hx : Dp K H x d) (hy : Dp K H y d) (h : SeqAt.shaped d = true) (r : R (.bl true) H) : rEqD K x y H R := ⟨d, d, hx, hy, h, h, by rw [dataEq h]; exact r⟩
theorem dp_ss {K : PySem.W.Frag} {H : Hp} {p : Addr} {x y : Str} (h : H p = some (.tup [.str x, .str y])) : Dp K H (.ref p) (.tuple [.str x, .str y]) := .tup (SqT.of h) (.cons (.str x) (.cons (.str y) .nil))
theorem sh_ss {x y : Str} (hx : PyData.strOk x = true) (hy : PyData.strOk y = true) : SeqAt.shaped (.tuple [.str x, .str y]) = true := by simp [SeqAt.shaped, PyData.canLay0, PyData.canLayAll0, PyData.depth, PyData.depthAll, hx, hy]
theorem dp_nil {K : PySem.W.Frag} {H : Hp} {p : Addr} (h : H p = some (.lst [])) : Dp K H (.ref p) (.list []) := .lst (SqL.of h) .nil
/-- the rules that name the written part, within a comprehension -/
theorem op_neDk {X : Cx} {K : PySem.W.Frag} (e : X.K = K) (hu : X.A.units + 64 < cLine) : OpR X (compareOp .NotEq) (rNeD K) := e ▸ op_neD hu
theorem op_eqDk {X : Cx} {K : PySem.W.Frag} (e : X.K = K) (hu : X.A.units + 64 < cLine) : OpR X (compareOp .Eq) (rEqD K) := e ▸ op_eqD hu
/-! ### what the top has made, from facts -/
theorem ga_of {K : PySem.W.Frag} {x : Str} {a : Addr} (h : PySem.W.nsIn K mainGlobals x = some (some (.ref a))) : ga K x = a := by unfold ga; rw [h]
theorem ext_mk {K : PySem.W.Frag} {mg : Str → Option Value} {h : Heap} (X : K.In h) (G : h.Ns mainGlobals mg) {x fld qual nm q : Str} {st : Stmt} {C f N : Addr} {bs bm sub : List Value} {sn : List Str} {ab : Bool} {col : Option Bool} {dd od an : Option Addr} {m0 m1 m2 m3 m5 : Option Value} {oc kV dc pm cd ct : Value} {sl : Array (Option Value)} {p1 p2 p3 p4 : Pos}
    (aC : PySem.W.nsIn K mainGlobals x = some (some (.ref C))) (xL : K.lookup C = some (excClassObj nm q C N bs bm true sn sub ab col dd m0 m1 m2 m3 m5 "ValueError.__new__")) (hbm : PySem.HandSPX.refsVE bm = true)
    (sa : PySem.W.findIn K (.ref C) "__setattr__" = some (some (.builtin "object.__setattr__"))) (exC : PySem.W.subIn K (.ref C) (.type "BaseException") = some true) (tyC : PySem.W.typeIn K (.ref C) = some (.type "type")) (kC : PySem.W.keepIn K (.ref C) = true)
    (gA : PySem.W.findIn K (.ref C) "__getattribute__" = some (some (.builtin "BaseException.__getattribute__"))) (gG : PySem.W.findIn K (.ref C) "__getattr__" = some none) (hd : PySem.W.hasDictIn K C = true) (no : PySem.W.findIn K (.ref C) fld = some none)
    (iC : PySem.W.findIn K (.ref C) "__init__" = some (some (.ref f))) (tI : PySem.W.typeIn K (.ref f) = some (.type "function"))
    (lI : K.lookup f = some ⟨oc, od, .func (PySem.W.fnOf "__init__" qual (defArgs st) (defBody st) (defScope st) .none kV dc pm an cd ct), sl⟩) (cI : PySem.W.codeIn K cd qual = true) (kI : PySem.W.keepIn K (.ref f) = true)
    (S : FnScope ["self", fld] ["self", fld] (defScope st)) (hb : defBody st = [.Assign [.Attribute (.Name "self" p1) fld p2] (.Name fld p3) p4])
    (hB : ∀ (kV doc pm : Value) (an : Option Addr) (cdv ct : Value) (us : List Value), us.length = (["self", fld] : List Str).length → bindArgs (PySem.W.fnOf "__init__" qual (defArgs st) (defBody st) (defScope st) .none kV doc pm an cdv ct) ⟨us, []⟩ = pure ((["self", fld] : List Str).zip us)) : ExT K mg x fld := by
  have e := ga_of aC
  refine ⟨?_, ?_, ?_, ?_, ?_⟩
  · rw [e]; exact PySem.W.mg_of X G aC
  · rw [e]; exact ⟨⟨_, _, _, _, _, _, _, _, _, _, _, _, _, _, _, xL, hbm⟩, sa, exC, tyC, kC⟩
  · rw [e]; exact ⟨gA, gG, exC, hd⟩
  · rw [e]; exact no
  · rw [e]; exact ⟨qual, st, f, _, p1, p2, p3, p4, iC, tI, fun_mk lI cI kI, S, hb, (fun_mk (st := st) lI cI kI).binds hB⟩
theorem exi_mk {K : PySem.W.Frag} {x : Str} {C : Addr} (aC : PySem.W.nsIn K mainGlobals x = some (some (.ref C))) (hc : (PySem.W.clsIn K C).isSome = true) (ha : PySem.W.findIn K (.ref C) "__class__" = some (some (.builtin "object.__class__")))
    (hn : PySem.W.specialIn K (.builtin "object.__class__") "__get__" = some (some (.builtin "getset_descriptor.__get__"))) (ht : PySem.W.takesIn K (.builtin "object.__class__") = some true) (hm : PySem.W.mroIn K C (.type "object") = some true) : ExI K (ga K x) := by
  rw [ga_of aC]; exact ⟨hc, ha, hn, ht, hm⟩
theorem lamf_mk {K : PySem.W.Frag} {mg : Str → Option Value} {h : Heap} (X : K.In h) (G : h.Ns mainGlobals mg) {x : Str} {st : Stmt} {f c P : Addr} {od an : Option Addr} {oc kV dc pm ct : Value} {sl : Array (Option Value)}
    (a : PySem.W.nsIn K mainGlobals x = some (some (.ref f))) (l : K.lookup f = some ⟨oc, od, .func (PySem.W.fnOf x x (defArgs st) (defBody st) (defScope st) .none kV dc pm an (.ref c) ct), sl⟩) (cI : PySem.W.codeIn K (.ref c) x = true) (kI : PySem.W.keepIn K (.ref f) = true)
    (t : PySem.W.tabIn K x = some (c, P)) : LamF K mg x st := by
  have e : cOf K x = c := by unfold cOf; rw [t]; rfl
  refine ⟨f, oc, od, kV, dc, pm, an, ct, sl, PySem.W.mg_of X G a, kI, ?_, ?_⟩
  · rw [e]; exact l
  · rw [e]; exact cI
end Iz
/-! Bc -/
set_option Elab.async false
set_option linter.all false
set_option maxRecDepth 100000
set_option maxHeartbeats 4000000
namespace Iz
open PySem PySem.Spec PyProof.Rows L2
open He (ga)
/-! ### own classes: their instances stand still -/
/-- how the parameters bind, the last ones by their defaults -/
def BindD (K : PySem.W.Frag) (fd : FuncData) (ps : List Str) (dvs : List V) : Prop := ∀ j, j ≤ dvs.length → ∃ ds, Vals (dvs.drop j) ds ∧ Binds K fd ps ds
theorem BindD.none {K : PySem.W.Frag} {fd : FuncData} {ps : List Str} (b : Binds K fd ps []) : BindD K fd ps [] := fun _ _ => ⟨[], by rw [List.drop_nil]; exact .nil, b⟩
/-- the method m of the class x keeps sp -/
structure OkM (P : Program) (w : World) (K : PySem.W.Frag) (mg : Str → Option Value) (base : Heap) (CX : CXT) (k : Nat) (x m : Str) (ps : List Str) (dvs : List V) (sp : Sp) : Prop where
  ex : ∃ (f : Addr) (fd : FuncData), Meth K (ga K x) m f ∧ BindD K fd ps dvs ∧ FnOk P w K mg base CX k f fd ps sp
/-- a call of the class x keeps sp -/
structure OkK (P : Program) (w : World) (K : PySem.W.Frag) (mg : Str → Option Value) (base : Heap) (CX : CXT) (k : Nat) (x : Str) (ps : List Str) (dvs : List V) (sp : Sp) : Prop where
  ex : ∃ (f : Addr) (fd : FuncData) (si : Sp), Mk K (ga K x) f ∧ mg x = some (.ref (ga K x)) ∧ BindD K fd ("self" :: ps) dvs ∧ FnOk P w K mg base CX k f fd ("self" :: ps) si ∧
    ∀ vs H Q E, sp vs H Q E → ∀ p dx, H p = none → H dx = none → dx ≠ p → si (.ref p :: vs) (upd (upd H dx (.own p)) p (.ins (ga K x) dx [])) (fun v H2 => v = .non ∧ Q (.ref p) H2) E
/-- a new instance -/
def NewsI (H : Hp) (C : Addr) (fs : List (Str × V)) (Q : V → Hp → Prop) : Prop := ∀ p dx H2, H p = none → Same H H2 → H2 p = some (.ins C dx fs) → Q (.ref p) H2
def tMt (C : Addr) (m : Str) (sp : Sp) (dv : List V) (E : XK) (ta : TE) (t : TA) : TE := fun σ H Q => ta σ H fun x H1 => ∃ a dx fs, x = .ref a ∧ H1 a = some (.ins C dx fs) ∧ fs.lookup m = none ∧ t σ H1 fun vs H2 => sp (x :: (vs ++ dv)) H2 Q E
section
variable {X : Cx} {CX : CXT} {k j : Nat} {x m f : Str} {ps : List Str} {dvs : List V} {sp : Sp} {E : XK} {o e : Expr} {es : List Expr} {ta : TE} {t : TA} {p pos apos : Pos}
theorem pmt {pl : Sem Bool} (O : OkM X.prog X.w X.K X.mg X.base CX k x m ps dvs sp) (C : Cls X.K (ga X.K x)) (he : PE X o ta) (hj : j ≤ dvs.length) (hr : Room k X.A) (hx : Passes CX X E) (ha : PA X (e :: es) t)
    (hst : starEach (e :: es) X.env = (false, eval e X.env) :: starEach es X.env := by rfl) (hpl : (backTo pos (starEach es X.env)).any (·.1) = false := by rfl)
    (ht : eval (.Call (.Attribute o m apos) (e :: es) [] pos) X.env = (do
      let ov ← eval o X.env; standAt apos.atName
      let (f, first) ← holding [ov] (getMethod ov m pl)
      callWith pos f first (backTo pos (starEach (e :: es) X.env)) (backToKw pos (keywordEach [] X.env))) := by rfl) :
    PE X (.Call (.Attribute o m apos) (e :: es) [] pos) (tMt (ga X.K x) m sp (dvs.drop j) E ta t) := by
  obtain ⟨f, fd, M, b, G⟩ := O.ex
  obtain ⟨ds, hv, hb⟩ := b j hj
  exact pe_meth he C M G hr hb hv hx ha hst hpl ht
theorem pmt0 {pl : Sem Bool} (O : OkM X.prog X.w X.K X.mg X.base CX k x m ps dvs sp) (C : Cls X.K (ga X.K x)) (he : PE X o ta) (hj : j ≤ dvs.length) (hr : Room k X.A) (hx : Passes CX X E)
    (ht : eval (.Call (.Attribute o m apos) [] [] pos) X.env = (do
      let ov ← eval o X.env; standAt apos.atName
      let (f, first) ← holding [ov] (getMethod ov m pl)
      callWith pos f first (backTo pos (starEach [] X.env)) (backToKw pos (keywordEach [] X.env))) := by rfl) :
    PE X (.Call (.Attribute o m apos) [] [] pos) (tMt (ga X.K x) m sp (dvs.drop j) E ta tNil) := by
  obtain ⟨f, fd, M, b, G⟩ := O.ex
  obtain ⟨ds, hv, hb⟩ := b j hj
  exact pe_meth0 he C M G hr hb hv hx ht
theorem pmk (O : OkK X.prog X.w X.K X.mg X.base CX k x ps dvs sp) (hj : j ≤ dvs.length) (hr : Room (k + 1) X.A) (hx : Passes CX X E) (ha : PA X (e :: es) t) (hg : Gl X x := by rfl) (hdb : (x == ("__debug__" : Str)) = false := by decide)
    (he : starEach (e :: es) X.env = (false, eval e X.env) :: starEach es X.env := by rfl) (hpl : (backTo pos (starEach es X.env)).any (·.1) = false := by rfl) : PE X (.Call (.Name x p) (e :: es) [] pos) (tCall sp (dvs.drop j) E t) := by
  obtain ⟨f, fd, si, M, g, b, G, q⟩ := O.ex
  obtain ⟨ds, hv, hb⟩ := b j hj
  exact PE.imp (pe_make M G hr hg g hb hv hx (PA.mcl ha) hdb he hpl) fun σ H Q h => ⟨_, h, fun vs H1 h1 p dx h2 h3 h4 => q _ H1 Q _ h1 p dx h2 h3 h4⟩
theorem pmk0 (O : OkK X.prog X.w X.K X.mg X.base CX k x ps dvs sp) (hj : j ≤ dvs.length) (hr : Room (k + 1) X.A) (hx : Passes CX X E) (hg : Gl X x := by rfl) (hdb : (x == ("__debug__" : Str)) = false := by decide) : PE X (.Call (.Name x p) [] [] pos) (tCall sp (dvs.drop j) E tNil) := by
  obtain ⟨f, fd, si, M, g, b, G, q⟩ := O.ex
  obtain ⟨ds, hv, hb⟩ := b j hj
  exact PE.imp (pe_make0 M G hr hg g hb hv hx hdb) fun σ H Q h => fun p dx h2 h3 h4 => q _ H Q _ h p dx h2 h3 h4
def tFldN (C : Addr) (ta : TE) (f : Str) : TE := fun σ H Q => ta σ H fun x H1 => ∃ a dx fs v, x = .ref a ∧ H1 a = some (.ins C dx fs) ∧ fs.lookup f = some v ∧ Q v H1
theorem pe_fldN {C : Addr} (c : Cls X.K C) (n : NoAttr X.K C f) (h : PE X o ta) (hb : attributeBase o f X.env (eval o X.env) = eval o X.env := by rfl) : PE X (.Attribute o f apos) (tFldN C ta f) :=
  PE.imp (pe_fld (PE.mcl h) hb) fun σ H Q q => ⟨_, q, fun x H1 ⟨a, dx, fs, v, e1, e2, e3, q⟩ => ⟨a, C, dx, fs, v, e1, e2, c, n, e3, q⟩⟩
end
theorem lk1 {f g : Str} {v w : V} (h : (f == g) = false) : List.lookup f [(g, w), (f, v)] = some v := by simp [List.lookup, h]
theorem lkn2 {f g h : Str} {v w : V} (h1 : (f == g) = false) (h2 : (f == h) = false) : List.lookup f [(g, v), (h, w)] = none := by simp [List.lookup, h1, h2]
theorem lkh {f : Str} {v : V} {l : List (Str × V)} : List.lookup f ((f, v) :: l) = some v := by simp [List.lookup]
/-- None or an int -/
def ov : Option Int → V
  | none => .non
  | some i => .int i
theorem wh_ov {K : PySem.W.Frag} {H : Hp} {o : Option Int} : Wh K H (ov o) := by cases o; exact wh_non; exact wh_int
theorem putF_nil {f : Str} {v : V} : putF f v [] = [(f, v)] := rfl
theorem putF_cons {f g : Str} {v w : V} {l : List (Str × V)} (h : g ≠ f) : putF f v ((g, w) :: l) = (g, w) :: putF f v l := by
  show (if g = f then _ else _) = _
  rw [if_neg h]
/-- self.f = e, the object's class known -/
def tSto (C : Addr) (f : Str) (ta tv : TE) : TS := fun D σ H => tv σ H fun y H1 => ta σ H1 fun x H2 => ∃ a dx fs, x = .ref a ∧ H2 a = some (.ins C dx fs) ∧ fs.length < 1000 ∧ ∀ H3, Put H2 H3 a (.ins C dx (putF f y fs)) → D.nx σ H3
theorem ps_fldN {X : Cx} {C : Addr} {f : Str} {o e : Expr} {ta tv : TE} {apos pos : Pos} (c : Cls X.K C) (n : NoAttr X.K C f) (ho : PE X o ta) (he : PE X e tv) (hs : swapsWith e (some (.Attribute o f apos)) pos.line X.env = pure false := by rfl) : PS X (.Assign [.Attribute o f apos] e pos) (tSto C f ta tv) :=
  PS.imp (ps_fld (PE.mcl ho) (PE.mcl he) hs) fun D σ H q => ⟨_, q, fun y H1 q1 => ⟨_, q1, fun x H2 ⟨a, dx, fs, e1, e2, e3, k⟩ => ⟨a, C, dx, fs, e1, e2, c, n, e3, k _ ⟨upd_same, fun _ h => upd_ne h⟩⟩⟩⟩
theorem tyX_mono {K : PySem.W.Frag} {H H' : Hp} {x : V} {t : Value} (h : TyX K H x t) (s : Same H H') : TyX K H' x t := by
  cases h with
  | base b =>
    cases b with
    | non => exact .base .non
    | bl b => exact .base (.bl b)
    | int i => exact .base (.int i)
    | str y => exact .base (.str y)
    | flt y => exact .base (.flt y)
    | lst e => exact .base (.lst (s _ _ e))
    | frz e => exact .base (.frz (s _ _ e))
    | tup e => exact .base (.tup (s _ _ e))
    | dK e => exact .base (.dK (s _ _ e))
    | dT e => exact .base (.dT (s _ _ e))
    | ins e a b c d f => exact .base (.ins (s _ _ e) a b c d f)
  | byt b => exact .byt b
  | set e => exact .set (s _ _ e)
  | kList e c => exact .kList e c
  | kTuple e c => exact .kTuple e c
  | kDict e c => exact .kDict e c
  | fTuple e => exact .fTuple (s _ _ e)
  | fDict e => exact .fDict (s _ _ e)
theorem wh_mono {K : PySem.W.Frag} {H H' : Hp} {x : V} (h : Wh K H x) (s : Same H H') : Wh K H' x := let ⟨t, b, c, ty, r⟩ := h; ⟨t, b, c, tyX_mono ty s, r⟩
theorem same_made {H H' : Hp} {p dx : Addr} {o o' : HO} (hp : H p = none) (hd : H dx = none) (h : ∀ b, b ≠ p → H' b = upd (upd H dx o) p o' b) : Same H H' := fun b u e => by
  rw [h b (ne_of_none e hp), upd_ne (ne_of_none e hp), upd_ne (ne_of_none e hd)]; exact e
/-- isinstance with an own class -/
def rIsOw (K : PySem.W.Frag) : List V → Hp → VK → Prop := fun xs H Q => ∃ x c, xs = [x, .ref c] ∧ ∃ t b, TyX K H x t ∧ PySem.W.kitOne K t (.ref c) = some b ∧ Q (.bl b) H
theorem call_isOw {X : Cx} : CallR X (.builtin "isinstance") (rIsOw X.K) := CallR.imp call_isi fun xs H Q ⟨x, c, a, t, b, ty, k, q⟩ => ⟨x, .ref c, t, .ref c, b, a, .own c, ty, k, q⟩
/-- what isinstance asks of an own class -/
structure ClsI (K : PySem.W.Frag) (C : Addr) : Prop where
  c : Cls K C
  ha : PySem.W.findIn K (.ref C) "__class__" = some (some (.builtin "object.__class__"))
  hn : PySem.W.specialIn K (.builtin "object.__class__") "__get__" = some (some (.builtin "getset_descriptor.__get__"))
  ht : PySem.W.takesIn K (.builtin "object.__class__") = some true
  hm : PySem.W.mroIn K C (.type "object") = some true
theorem ClsI.ty {K : PySem.W.Frag} {C : Addr} {H : Hp} {a dx : Addr} {fs : List (Str × V)} (T : ClsI K C) (h : H a = some (.ins C dx fs)) : TyX K H (.ref a) (.ref C) := .base (.ins h T.c T.ha T.hn T.ht T.hm)
theorem kit_self {K : PySem.W.Frag} {t : Value} (h : (t == t) = true := by simp) : PySem.W.kitOne K t t = some true := by unfold PySem.W.kitOne; rw [if_pos h]
end Iz
/-! RlA -/
set_option Elab.async false
set_option linter.all false
set_option maxRecDepth 100000
set_option maxHeartbeats 4000000
namespace Iz
open PySem PySem.Spec PyProof.Rows L2
/-! ### ranges with great ends: another iterator goes through them -/
theorem slotL_next : Slot "longrange_iterator" "__next__" "longrange_iterator.__next__" :=
  .of (owner := "longrange_iterator") (n := "__next__") (by rw [typeLookup_type, builtinLookup_eq_fast]; kernel_rfl) (by decide +kernel) (by decide +kernel) (by decide +kernel)
    (by first | exact .inl (by decide +kernel) | exact .inr (by decide +kernel)) (by rw [isSubtype_type]; kernel_rfl)
theorem ownerL : Manifest.owners.lookup (String.ofList ['r', 'o', 't', 'a', 'r', 'e', 't', 'i', '_', 'e', 'g', 'n', 'a', 'r', 'g', 'n', 'o', 'l'].reverse) = some Manifest.sig_longrange_iterator := by kernel_rfl
theorem entryL_next : entryFor table "longrange_iterator.__next__" = some Builtin.«longrange_iterator.__next__» := entryFor_of_tree (by kernel_rfl)
theorem argsL_next (a : Value) : argsOk "longrange_iterator.__next__" ⟨[a], []⟩ := by
  unfold argsOk; rw [signature?_of (id := "longrange_iterator.__next__") (n := ['_', '_', 't', 'x', 'e', 'n', '_', '_']) (o := ['r', 'o', 't', 'a', 'r', 'e', 't', 'i', '_', 'e', 'g', 'n', 'a', 'r', 'g', 'n', 'o', 'l']) (by kernel_rfl) ownerL]; kernel_rfl
abbrev IsLR (h : Heap) (it : Addr) (x left step : Int) : Prop := h.get? it = some { cls := .type "longrange_iterator", dict := none, data := .fields #[rawInt x, rawInt left, rawInt step], slots := #[] }
theorem slotL_iter : Slot "longrange_iterator" "__iter__" "longrange_iterator.__iter__" :=
  .of (owner := "longrange_iterator") (n := "__iter__") (by rw [typeLookup_type, builtinLookup_eq_fast]; kernel_rfl) (by decide +kernel) (by decide +kernel) (by decide +kernel)
    (by first | exact .inl (by decide +kernel) | exact .inr (by decide +kernel)) (by rw [isSubtype_type]; kernel_rfl)
theorem argsL_iter (a : Value) : argsOk "longrange_iterator.__iter__" ⟨[a], []⟩ := by
  unfold argsOk; rw [signature?_of (id := "longrange_iterator.__iter__") (n := ['_', '_', 'r', 'e', 't', 'i', '_', '_']) (o := ['r', 'o', 't', 'a', 'r', 'e', 't', 'i', '_', 'e', 'g', 'n', 'a', 'r', 'g', 'n', 'o', 'l']) (by kernel_rfl) ownerL]; kernel_rfl
theorem entryL_iter : entryFor table "longrange_iterator.__iter__" = some Builtin.«dict_keyiterator.__iter__» :=
  entryFor_alias (id' := "dict_keyiterator.__iter__") (by kernel_rfl) (by first | rfl | decide +kernel | (unfold String.splitOn; simp +decide [String.splitOnAux])) (by decide +kernel) (by kernel_rfl)
end Iz
/-! Rl -/
set_option Elab.async false
set_option linter.all false
set_option maxRecDepth 100000
set_option maxHeartbeats 4000000
namespace Iz
open PySem PySem.Spec PyProof.Rows L2
theorem meetsL_next (it : Addr) (x left step : Int) (hc0 : ¬left ≤ 0) :
    Meets (Builtin.«longrange_iterator.__next__» ⟨[.ref it], []⟩) (fun _ R s => s.heap.get? it = some { cls := .type "longrange_iterator", dict := none, data := .fields #[rawInt x, rawInt left, rawInt step], slots := #[] } ∧ R (.ok (.ret (Value.int x s.toks))) { s with heap := (s.heap.update it (Obj.mapFields fun x_1 => x_1.setIfInBounds 0 (rawInt (x + step)))).update it (Obj.mapFields fun x => x.setIfInBounds 1 (rawInt (left - 1))), toks := s.toks + 1 }) :=
  .of_wp fun prog w A R s h => by obtain ⟨hp, g, d, tk, os⟩ := s; obtain ⟨hl, h⟩ := h; unfold Builtin.«longrange_iterator.__next__» Builtin.Iterators_pickling.intField; wp_walk; exact ⟨_, rfl, h⟩
section
variable {prog : Program} {w : World} {A : Around} {E : Value → Shared → Prop} {s : Shared}
theorem nextL_item {it : Addr} {x left step : Int} {Q : Option Value → Shared → Prop} (hit : IsLR s.heap it x left step) (hleft : 0 < left)
    (hQ : ∀ h', IsLR h' it (x + step) (left - 1) step → Heap.SameBut it s.heap h' → Q (some (.int x s.toks)) { s with heap := h', toks := s.toks + 1 }) :
    wpAny (model prog w) A (pyNext (.ref it)) Q E s := by
  have hT : s.TypeIs (.ref it) "longrange_iterator" := ⟨_, hit, rfl⟩
  unfold pyNext
  refine wpAny_bind (wpAny_attempt (wpAny_callSpecial?_slot (name := Str.ofString "__next__") hT slotL_next
    (call_meets slotL_next hT entryL_next (argsL_next _) (meetsL_next it x left step (by omega)) ⟨hit, ?_⟩)))
  exact wpAny_pure (hQ _ (Heap.get?_update_self _ (Heap.get?_update_self _ hit rfl) rfl) ((Heap.SameBut.update ..).trans (Heap.SameBut.update ..)))
theorem intF {id : String} {a : Addr} {o : Obj} {vs : Array Value} {i : Nat} {x : Int} {Q : Int → Shared → Prop} (ho : s.heap.get? a = some o) (hd : o.data = .fields vs) (hi : vs[i]? = some (rawInt x)) (h : Q x s) :
    wpAny (model prog w) A (Builtin.Iterators_pickling.intField id (.ref a) i) Q E s := by
  unfold Builtin.Iterators_pickling.intField
  exact wpAny_bind (wpAny_field ho hd hi (wpAny_pure h))
theorem nextL_end {it : Addr} {x left step : Int} {Q : Option Value → Shared → Prop} (hh : A.handled = none) (hit : IsLR s.heap it x left step) (hleft : left ≤ 0)
    (hQ : ∀ h', Heap.ExtBut it s.heap h' → Q none { s with heap := h' }) : wpAny (model prog w) A (pyNext (.ref it)) Q E s := by
  have hT : s.TypeIs (.ref it) "longrange_iterator" := ⟨_, hit, rfl⟩
  unfold pyNext
  refine wpAny_bind (wpAny_attempt (wpAny_callSpecial?_slot (name := Str.ofString "__next__") hT slotL_next
    (wpAny_call_entry slotL_next hT entryL_next ?_ (argsL_next _))))
  unfold Builtin.«longrange_iterator.__next__»
  refine wpAny_bind (wpAny_of_eq (a := #[some (Value.ref it)]) (by first | rfl | kernel_rfl) ?_)
  refine wpAny_bind (intF hit rfl (x := x) rfl ?_)
  refine wpAny_bind (intF hit rfl (x := left) rfl ?_)
  refine wpAny_bind (intF hit rfl (x := step) rfl ?_)
  simp only [if_pos hleft]
  refine wpAny_bind (wpAny_rule ?_)
  simp only [newExc, newTuple]
  refine wpAny_bind ?_
  refine wpAny_bind (wpAny_newObj_type ?_ (by size_fits))
  refine wpAny_bind (m := firstArgMember _ _) (wpAny_of_eq (a := Value.none) (by first | rfl | (simp only [firstArgMember]; rfl)) ?_)
  refine wpAny_newObj_type ?_ (by size_fits)
  simp only [raiseNew]
  refine wpAny_bind (wpAny_bind (wpAny_handled ?_))
  first | rw [show A.in1.handled = none from hh] | rw [hh]
  refine wpAny_throw ?_
  refine wpAny_bind (wpAny_isInstance (T := "StopIteration") (b := true) ⟨_, Heap.get?_push_size _ rfl, rfl⟩ isSubtype_stop ?_)
  exact wpAny_pure (hQ _ (((Heap.ExtBut.refl it s.heap).push _).push _))
theorem iterL_self {it : Addr} {x left step : Int} {Q : Value → Shared → Prop} (hit : IsLR s.heap it x left step) (h : Q (.ref it) s) : wpAny (model prog w) A (pyIter (.ref it)) Q E s := by
  have hT : s.TypeIs (.ref it) "longrange_iterator" := ⟨_, hit, rfl⟩
  refine wpAny_pyIter_slot hT slotL_iter (wpAny_call_entry slotL_iter hT entryL_iter ?_ (argsL_iter _))
  show wpAny _ _ (ret (.ref it)) _ _ s
  exact wpAny_pure ⟨_, rfl, "longrange_iterator", _, hT, slotL_next.lookup, h⟩
theorem iterL_range {r : Addr} {a b c : Int} {t u v : Tok} {Q : Value → Shared → Prop} (hr : IsRange s.heap r a b c t u v) (hsmall : ¬ Builtin.Range.small a b c = true)
    (hQ : Q (.ref s.heap.objs.size) { s with heap := s.heap.push { cls := .type "longrange_iterator", data := .fields #[rawInt a, rawInt (Builtin.Range.rangeSize a b c), rawInt c] } }) :
    wpAny (model prog w) A (pyIter (.ref r)) Q E s := by
  have hT : s.TypeIs (.ref r) "range" := ⟨_, hr, rfl⟩
  refine wpAny_pyIter_slot hT F.slot_range_iter (call_meets F.slot_range_iter hT F.entry_range_iter (F.args_range_iter_1 _)
    (AutoRange.range___iter___range_0 r a b c t u v (by have e := Bool.eq_false_iff.mpr hsmall; unfold Builtin.Range.small at e; rw [e]; rfl)) ⟨hr, ?_⟩)
  unfold Builtin.Range.small at hsmall
  rw [if_neg hsmall]
  exact ⟨"longrange_iterator", _, ⟨_, Heap.get?_push_size _ rfl, rfl⟩, slotL_next.lookup, hQ⟩
end
theorem turnL {P : Program} {w : World} {K : PySem.W.Frag} {tg : Expr} (it : Addr) (lo : Int) (n : Nat) : Turn P w K tg (Itr lo n) [it] it (fun i h => IsLR h it (lo + (i : Nat)) ((n : Int) - (i : Nat)) 1) where
  mem := by simp
  obj := fun i h st b hb => by
    have e : b = it := by simpa using hb
    subst e
    exact ⟨_, st, fun v z => by
      have z' : Data.fields _ = Data.cell v := z
      cases z'⟩
  keep := fun i h h' st k => k it (by simp) _ st
  item := by
    intro X hP hw hK hc i pins s σ H E I hf st hg
    subst hP hw hK
    obtain ⟨f0, f1, f2, f3, f4, f5⟩ := hf it (by simp)
    have hg' : i < n := hg
    refine nextL_item st (by omega) fun h' st' sb => ?_
    have I1 : Inv X pins σ H { s with heap := h', toks := s.toks + 1 } := I.turned (fun b o hb e => (sb.2 b hb).trans e) f0 f1 f3 f4 f5
    have e1 : lo + ((i + 1 : Nat) : Int) = lo + (i : Int) + 1 := by omega
    have e2 : (n : Int) - ((i + 1 : Nat) : Int) = (n : Int) - (i : Int) - 1 := by omega
    refine ⟨_, rfl, go_of (s := { s with heap := h', toks := s.toks + 1 }) (n := "longrange_iterator") st' rfl rfl (by decide) ⟨.int (lo + i), H, I1, ⟨_, rfl⟩, ⟨rfl, rfl⟩, ?_, fun b hb => (hf b hb).1⟩⟩
    show IsLR h' it (lo + ((i + 1 : Nat) : Int)) ((n : Int) - ((i + 1 : Nat) : Int)) 1
    rw [e1, e2]; exact st'
  done := by
    intro X hP hw hK hc i pins s σ H E I hf st hg
    subst hP hw hK
    obtain ⟨f0, f1, f2, f3, f4, f5⟩ := hf it (by simp)
    exact nextL_end (I.ok.hd hc) st (by have : n ≤ i := hg; omega) fun h' eb => ⟨rfl, I.turned (t' := s.toks) (fun b o hb e => eb b o hb e) f0 f1 f3 f4 f5⟩
  self := fun _ _ _ _ _ st h => iterL_self st h
section
variable {X : Cx} {tg : Expr}
theorem range_itL {pins : List (Addr × Obj)} {σ : L2.St} {H : Hp} {s : Shared} {R : It → Hp → Prop} {E : Value → Shared → Prop} {lo hi : Int} {t u v : Tok} {tk : Nat} (I : Inv X pins σ H s)
    (q : R (Itr lo (hi - lo).toNat) H) : wpAny (model X.prog X.w) X.A (pyIter (.ref s.heap.objs.size)) (PIE X pins σ tg R) E { s with heap := s.heap.push { cls := .type "range", data := .fields #[.int lo t, .int hi u, .int 1 v] }, toks := tk } := by
  have I1 : Inv X pins σ H { s with heap := s.heap.push { cls := .type "range", data := .fields #[.int lo t, .int hi u, .int 1 v] }, toks := tk } := I.kept fun b o e => Heap.get?_push_of_some _ e
  have e2 : (((hi - lo).toNat : Nat) : Int) - ((0 : Nat) : Int) = Builtin.Range.rangeSize lo hi 1 := by rw [rangeSize_one]; split <;> omega
  by_cases hs : Builtin.Range.small lo hi 1 = true
  · refine wpAny_pyIter_range (IsRange.new ..) hs ?_
    refine ⟨(s.heap.push { cls := .type "range", data := .fields #[.int lo t, .int hi u, .int 1 v] }).objs.size, [(s.heap.push { cls := .type "range", data := .fields #[.int lo t, .int hi u, .int 1 v] }).objs.size], _, _, H, rfl,
      I1.kept (t' := tk) fun b o e => Heap.get?_push_of_some _ e, turn_range _ lo (hi - lo).toNat, ?_, fun b hb => ?_, q⟩
    · have e1 : lo + ((0 : Nat) : Int) * 1 = lo := by simp
      show IsRangeIter _ _ (lo + ((0 : Nat) : Int) * 1) ((((hi - lo).toNat : Nat) : Int) - ((0 : Nat) : Int)) 1
      rw [e1, e2]
      exact Heap.get?_push_size _ rfl
    · have e : b = (s.heap.push { cls := .type "range", data := .fields #[.int lo t, .int hi u, .int 1 v] }).objs.size := by simpa using hb
      subst e
      exact I1.fpOk (Nat.le_refl _) (I1.hok.fresh (Nat.le_refl _))
  · refine iterL_range (IsRange.new ..) hs ?_
    refine ⟨(s.heap.push { cls := .type "range", data := .fields #[.int lo t, .int hi u, .int 1 v] }).objs.size, [(s.heap.push { cls := .type "range", data := .fields #[.int lo t, .int hi u, .int 1 v] }).objs.size], _, _, H, rfl,
      I1.kept (t' := tk) fun b o e => Heap.get?_push_of_some _ e, turnL _ lo (hi - lo).toNat, ?_, fun b hb => ?_, q⟩
    · have e1 : lo + ((0 : Nat) : Int) = lo := by simp
      show IsLR _ _ (lo + ((0 : Nat) : Int)) ((((hi - lo).toNat : Nat) : Int) - ((0 : Nat) : Int)) 1
      rw [e1, e2]
      exact Heap.get?_push_size _ rfl
    · have e : b = (s.heap.push { cls := .type "range", data := .fields #[.int lo t, .int hi u, .int 1 v] }).objs.size := by simpa using hb
      subst e
      exact I1.fpOk (Nat.le_refl _) (I1.hok.fresh (Nat.le_refl _))
/-- range(lo, hi), of any size -/
def iRngL (ta : TA) : TI := fun σ H R => ta σ H fun vs H1 => ∃ i j : Int, vs = [.int i, .int j] ∧ R (Itr i (j - i).toNat) H1
theorem pi_rangeL {a b : Expr} {ta : TA} {p pos : Pos} (hg : Gl X "range") (hm : X.mg "range" = none) (ha : PA X [a, b] ta) (hs : starEach [a, b] X.env = [(false, eval a X.env), (false, eval b X.env)] := by rfl) (hs2 : starEach [b] X.env = [(false, eval b X.env)] := by rfl) :
    PI X tg (.Call (.Name "range" p) [a, b] [] pos) (iRngL ta) := by
  refine ⟨fun pins s σ H R I h => ?_⟩
  refine Call_ (ld_blt I hg hm boot_range (PyProof.Rows.callWith_type1 (thn (ha.run pos pins s σ H _ I h) fun us s1 ⟨vs, H1, I1, r1, q1⟩ => ?_) (by rw [hs, hs2]) (by rw [hs2]; rfl)))
  obtain ⟨i, j, e, q⟩ := q1
  subst e
  cases r1 with
  | cons r rr =>
    cases rr with
    | cons r' rr =>
      cases rr
      obtain ⟨t, rfl⟩ := r
      obtain ⟨t', rfl⟩ := r'
      exact call_range_2 (range_itL I1 q)
end
end Iz
/-! Ls -/
set_option Elab.async false
set_option linter.all false
set_option maxRecDepth 100000
set_option maxHeartbeats 4000000
namespace Iz
open PySem PySem.Spec PyProof.Rows L2
/-! ### loops over lists, tuples and ranges, comprehensions of what is told by functions -/
section
variable {K : PySem.W.Frag} {g : TG} {tb : TS} {D : Ends} {σ : L2.St} {H : Hp} {ta : TA} {tl : TE} {tt : TT} {te : TE} {vs : List Nat} {Q : VK}
theorem st_forRL (lo j : Int) (ha : ∀ R : List V → Hp → Prop, R [.int lo, .int j] H → ta σ H R) (Pv : Nat → L2.St → Hp → Prop) (h0 : Pv 0 σ H)
    (hs : ∀ i σ H, i < (j - lo).toNat → Pv i σ H → g (.int (lo + i)) σ H fun σ2 H2 => tb { D with nx := Pv (i + 1), ct := Pv (i + 1), bk := D.nx } σ2 H2) (hd : ∀ σ H, Pv (j - lo).toNat σ H → D.nx σ H) : tFor (iRngL ta) g tb D σ H :=
  ha _ ⟨lo, j, rfl, for_range Pv h0 hs hd⟩
theorem st_forL {a : Addr} {xs : List V} (ha : ∀ R : V → Hp → Prop, R (.ref a) H → tl σ H R) (hx : H a = some (.lst xs)) (Pv : Nat → L2.St → Hp → Prop) (h0 : Pv 0 σ H) (hl : ∀ i σ H, Pv i σ H → H a = some (.lst xs))
    (hs : ∀ i x σ H, xs[i]? = some x → Pv i σ H → g x σ H fun σ2 H2 => tb { D with nx := Pv (i + 1), ct := Pv (i + 1), bk := D.nx } σ2 H2) (hd : ∀ σ H, Pv xs.length σ H → D.nx σ H) : tFor (iList K tl) g tb D σ H :=
  ha _ ⟨a, rfl, ⟨xs, SqL.of hx⟩, for_list Pv h0 (fun i σ H _ p => SqL.of (hl i σ H p)) hs hd⟩
theorem st_forT {a : Addr} {xs : List V} (ha : ∀ R : V → Hp → Prop, R (.ref a) H → tl σ H R) (hx : H a = some (.tup xs)) (Pv : Nat → L2.St → Hp → Prop) (h0 : Pv 0 σ H) (hl : ∀ i σ H, Pv i σ H → H a = some (.tup xs))
    (hs : ∀ i x σ H, xs[i]? = some x → Pv i σ H → g x σ H fun σ2 H2 => tb { D with nx := Pv (i + 1), ct := Pv (i + 1), bk := D.nx } σ2 H2) (hd : ∀ σ H, Pv xs.length σ H → D.nx σ H) : tFor (iTup K tl) g tb D σ H :=
  ha _ ⟨a, rfl, ⟨xs, SqT.of hx⟩, for_tup Pv h0 (fun i σ H _ p => SqT.of (hl i σ H p)) hs hd⟩
/-- lo, .., j - 1 -/
def intsB (lo j : Int) : List Int := (List.range (j - lo).toNat).map fun (k : Nat) => lo + (k : Int)
theorem mem_intsB {lo j i : Int} : i ∈ intsB lo j ↔ lo ≤ i ∧ i < j := by
  simp only [intsB, List.mem_map, List.mem_range]
  constructor
  · rintro ⟨k, hk, rfl⟩; omega
  · rintro ⟨h1, h2⟩; exact ⟨(i - lo).toNat, by omega, by omega⟩
theorem take_filter_succ {α : Type} {xs : List α} {i : Nat} {x : α} (h : xs[i]? = some x) (p : α → Bool) : (xs.take (i + 1)).filter p = (xs.take i).filter p ++ (if p x = true then [x] else []) := by
  rw [List.take_succ, h, List.filter_append]
  congr 1
  by_cases e : p x = true <;> simp [e]
/-- [f(x) for x in xs if p(x)] -/
theorem st_lcLF {a : Addr} {xs : List V} (ha : ∀ R : V → Hp → Prop, R (.ref a) H → tl σ H R) (hx : H a = some (.lst xs)) (hz : xs.length ≤ sizeLine) (p : V → Bool) (f : V → V)
    (hs : ∀ x H' (A : Hp → Prop) (B : VK), x ∈ xs → Same H H' → (p x = false → ∀ H3, Same H' H3 → A H3) → (p x = true → ∀ H4, Same H' H4 → B (f x) H4) →
      g x (wipe σ vs) H' fun σ2 H2 => wipe σ2 vs = wipe σ vs ∧ tt σ2 H2 fun b H3 => if b = true then te σ2 H3 B else A H3)
    (hd : ∀ D H', H D = none → Same H H' → H' D = some (.lst ((xs.filter p).map f)) → Q (.ref D) H') : tLc (iList K tl) g tt te vs σ H Q := by
  refine ha _ ⟨a, rfl, ⟨xs, SqL.of hx⟩, fun D hD => lc_list (fun i H' => Same H H' ∧ H' D = some (.lst (((xs.take i).filter p).map f))) ⟨Same.upd hD, upd_same⟩ (fun i H' _ q => SqL.of (q.1 _ _ hx)) (fun i x H' hi q => ?_) (fun H' q => hd D H' hD q.1 (by rw [q.2, List.take_length]))⟩
  refine hs x H' _ _ (List.mem_of_getElem? hi) q.1 (fun e H3 s3 => ⟨q.1.trans s3, ?_⟩) (fun e H4 s4 => ⟨_, s4 _ _ q.2, ?_, ?_, ?_⟩)
  · rw [s3 _ _ q.2, take_filter_succ hi, e]; simp
  · have hi' := (List.getElem?_eq_some_iff.mp hi).1
    have h1 : ((xs.take i).filter p).length ≤ (xs.take i).length := List.length_filter_le _ _
    have h2 : (xs.take i).length ≤ i := by rw [List.length_take]; exact Nat.min_le_left _ _
    rw [List.length_map]; omega
  · exact fun b u e2 => by
      have hb : b ≠ D := ne_of_none e2 hD
      rw [upd_ne hb]; exact s4 _ _ (q.1 _ _ e2)
  · rw [upd_same, take_filter_succ hi, e]; simp
/-- [f(x) for x in range(lo, j) if p(x)] -/
theorem st_lcRF (lo j : Int) (ha : ∀ R : List V → Hp → Prop, R [.int lo, .int j] H → ta σ H R) (hz : (j - lo).toNat ≤ sizeLine) (p : Int → Bool) (f : Int → V)
    (hs : ∀ x H' (A : Hp → Prop) (B : VK), lo ≤ x → x < j → Same H H' → (p x = false → ∀ H3, Same H' H3 → A H3) → (p x = true → ∀ H4, Same H' H4 → B (f x) H4) →
      g (.int x) (wipe σ vs) H' fun σ2 H2 => wipe σ2 vs = wipe σ vs ∧ tt σ2 H2 fun b H3 => if b = true then te σ2 H3 B else A H3)
    (hd : ∀ D H', H D = none → Same H H' → H' D = some (.lst (((intsB lo j).filter p).map f)) → Q (.ref D) H') : tLc (iRngL ta) g tt te vs σ H Q := by
  refine ha _ ⟨lo, j, rfl, fun D hD => lc_range (fun i H' => Same H H' ∧ H' D = some (.lst ((((intsB lo j).take i).filter p).map f))) ⟨Same.upd hD, upd_same⟩ (fun i H' hi q => ?_) (fun H' q => hd D H' hD q.1 (by rw [q.2, show (j - lo).toNat = (intsB lo j).length by simp [intsB], List.take_length]))⟩
  have hi' : (intsB lo j)[i]? = some (lo + (i : Int)) := by simp [intsB, hi]
  refine hs (lo + i) H' _ _ (by omega) (by omega) q.1 (fun e H3 s3 => ⟨q.1.trans s3, ?_⟩) (fun e H4 s4 => ⟨_, s4 _ _ q.2, ?_, ?_, ?_⟩)
  · rw [s3 _ _ q.2, take_filter_succ hi', e]; simp
  · have h1 : (((intsB lo j).take i).filter p).length ≤ ((intsB lo j).take i).length := List.length_filter_le _ _
    have h2 : ((intsB lo j).take i).length ≤ i := by rw [List.length_take]; exact Nat.min_le_left _ _
    rw [List.length_map]; omega
  · exact fun b u e2 => by
      have hb : b ≠ D := ne_of_none e2 hD
      rw [upd_ne hb]; exact s4 _ _ (q.1 _ _ e2)
  · rw [upd_same, take_filter_succ hi', e]; simp
end
end Iz
namespace Iz
open PySem PySem.Spec PyProof.Rows L2
/-! ### slices, + of lists, deep ==, in the form that simp reads -/
section
variable {X : Cx} {e : Expr} {te : TE}
def tRevLN (te : TE) : TE := fun σ H Q => te σ H fun x H1 => ∃ a xs, x = .ref a ∧ H1 a = some (.lst xs) ∧ News H1 (.lst xs.reverse) Q
theorem pe_revLN {k : Nat} {p1 p2 p3 pos : Pos} (he : PE X e te) : PE X (.Subscript e (.Slice none none (some (.UnaryOp .USub (.Constant (.int 1) k p1) p2)) p3) pos) (tRevLN te) :=
  PE.imp (pe_revL (PE.mcl he)) fun σ H Q q => ⟨_, q, fun v H1 ⟨a, xs, e1, e2, n⟩ => ⟨a, xs, e1, SqL.of e2, n.all⟩⟩
def rCatN : R2 := fun x y H Q => ∃ l b xs zs, x = .ref l ∧ y = .ref b ∧ H l = some (.lst xs) ∧ H b = some (.lst zs) ∧ xs.length + zs.length ≤ sizeLine ∧ News H (.lst (xs ++ zs)) Q
theorem op_catN : OpR X (binaryOp .Add) rCatN := fun pins s σ H x y v u Q I rx ry ⟨l, b, xs, zs, e1, e2, e3, e4, e5, n⟩ => op_cat pins s σ H x y v u Q I rx ry ⟨l, b, xs, zs, e1, e2, e3, e4, e5, n.all⟩
end
/-- x in xs, x not in xs: flat things -/
def rInTN (neg : Bool) : R2 := fun x y H Q => ∃ p xs, y = .ref p ∧ H p = some (.tup xs) ∧ flatV x = true ∧ xs.all flatV = true ∧ Q (.bl (if neg then !inV x xs else inV x xs)) H
def rInLN (neg : Bool) : R2 := fun x y H Q => ∃ p xs, y = .ref p ∧ H p = some (.lst xs) ∧ flatV x = true ∧ xs.all flatV = true ∧ Q (.bl (if neg then !inV x xs else inV x xs)) H
theorem op_inTN {X : Cx} : OpR X (compareOp .In) (rInTN false) := fun pins s σ H x y v u Q I rx ry ⟨p, xs, e1, e2, e3, e4, q⟩ => op_in_seq pins s σ H x y v u Q I rx ry ⟨p, xs, e1, .inr (SqT.of e2), e3, e4, q⟩
theorem op_notInTN {X : Cx} : OpR X (compareOp .NotIn) (rInTN true) := fun pins s σ H x y v u Q I rx ry ⟨p, xs, e1, e2, e3, e4, q⟩ => op_notIn_seq pins s σ H x y v u Q I rx ry ⟨p, xs, e1, .inr (SqT.of e2), e3, e4, q⟩
theorem op_inLN {X : Cx} : OpR X (compareOp .In) (rInLN false) := fun pins s σ H x y v u Q I rx ry ⟨p, xs, e1, e2, e3, e4, q⟩ => op_in_seq pins s σ H x y v u Q I rx ry ⟨p, xs, e1, .inl (SqL.of e2), e3, e4, q⟩
theorem op_notInLN {X : Cx} : OpR X (compareOp .NotIn) (rInLN true) := fun pins s σ H x y v u Q I rx ry ⟨p, xs, e1, e2, e3, e4, q⟩ => op_notIn_seq pins s σ H x y v u Q I rx ry ⟨p, xs, e1, .inl (SqL.of e2), e3, e4, q⟩
def ShN (n : Nat) (d : PyData) : Prop := d.canLay0 = true ∧ d.depth ≤ n
theorem ShN.up {n m : Nat} {d : PyData} (h : ShN n d) (k : n ≤ m) : ShN m d := ⟨h.1, Nat.le_trans h.2 k⟩
theorem ShN.non {n : Nat} : ShN n .none := ⟨by simp [PyData.canLay0], by simp [PyData.depth]⟩
theorem ShN.int {n : Nat} {i : Int} : ShN n (.int i) := ⟨by simp [PyData.canLay0], by simp [PyData.depth]⟩
theorem ShN.bool {n : Nat} {b : Bool} : ShN n (.bool b) := ⟨by simp [PyData.canLay0], by simp [PyData.depth]⟩
theorem shAll {n : Nat} {ds : List PyData} (h : ∀ d ∈ ds, ShN n d) : PyData.canLayAll0 ds = true ∧ PyData.depthAll ds ≤ n := by
  induction ds with
  | nil => exact ⟨by simp [PyData.canLayAll0], by simp [PyData.depthAll]⟩
  | cons d ds ih =>
    have h1 := h d (by simp)
    have h2 := ih fun x hx => h x (by simp [hx])
    exact ⟨by simp [PyData.canLayAll0, h1.1, h2.1], by simp only [PyData.depthAll]; exact Nat.max_le.mpr ⟨h1.2, h2.2⟩⟩
theorem ShN.list {n : Nat} {ds : List PyData} (h : ∀ d ∈ ds, ShN n d) : ShN (n + 1) (.list ds) := ⟨by simp only [PyData.canLay0]; exact (shAll h).1, by simp only [PyData.depth]; have := (shAll h).2; omega⟩
theorem ShN.tuple {n : Nat} {ds : List PyData} (h : ∀ d ∈ ds, ShN n d) : ShN (n + 1) (.tuple ds) := ⟨by simp only [PyData.canLay0]; exact (shAll h).1, by simp only [PyData.depth]; have := (shAll h).2; omega⟩
theorem ShN.ok {n : Nat} {d : PyData} (h : ShN n d) (k : n ≤ 64 := by decide) : SeqAt.shaped d = true := by
  unfold SeqAt.shaped
  rw [h.1]; simpa using Nat.le_trans h.2 k
/-- None or an int, as data -/
def dO : Option Int → PyData
  | none => .none
  | some i => .int i
theorem dp_ov {K : PySem.W.Frag} {H : Hp} {o : Option Int} : Dp K H (ov o) (dO o) := by cases o; exact .non; exact .int _
theorem sh_dO {n : Nat} {o : Option Int} : ShN n (dO o) := by cases o; exact .non; exact .int
/-- a list of pairs -/
inductive PAll (H : Hp) : List V → List (Option Int × Option Int) → Prop
  | nil : PAll H [] []
  | cons {a : Addr} {xs : List V} {q : Option Int × Option Int} {ps : List (Option Int × Option Int)} : H a = some (.tup [ov q.1, ov q.2]) → PAll H xs ps → PAll H (.ref a :: xs) (q :: ps)
def PairsAt (H : Hp) (a : Addr) (ps : List (Option Int × Option Int)) : Prop := ∃ xs, H a = some (.lst xs) ∧ PAll H xs ps
theorem PAll.length {H : Hp} {xs : List V} {ps : List (Option Int × Option Int)} (h : PAll H xs ps) : xs.length = ps.length := by induction h <;> simp_all
theorem PAll.mono {H H' : Hp} {xs : List V} {ps : List (Option Int × Option Int)} (h : PAll H xs ps) (s : Same H H') : PAll H' xs ps := by
  induction h with
  | nil => exact .nil
  | cons e _ ih => exact .cons (s _ _ e) ih
theorem PAll.monoT {H H' : Hp} {xs : List V} {ps : List (Option Int × Option Int)} (h : PAll H xs ps) (s : ∀ b us, H b = some (.tup us) → H' b = some (.tup us)) : PAll H' xs ps := by
  induction h with
  | nil => exact .nil
  | cons e _ ih => exact .cons (s _ _ e) ih
theorem PAll.snoc {H : Hp} {a : Addr} {q : Option Int × Option Int} {xs : List V} {ps : List (Option Int × Option Int)} (h : PAll H xs ps) (e : H a = some (.tup [ov q.1, ov q.2])) : PAll H (xs ++ [.ref a]) (ps ++ [q]) := by
  induction h with
  | nil => exact .cons e .nil
  | cons e2 _ ih => exact .cons e2 ih
theorem PAll.rev {H : Hp} {xs : List V} {ps : List (Option Int × Option Int)} (h : PAll H xs ps) : PAll H xs.reverse ps.reverse := by
  induction h with
  | nil => exact .nil
  | cons e _ ih => rw [List.reverse_cons, List.reverse_cons]; exact ih.snoc e
theorem PAll.get {H : Hp} {xs : List V} {ps : List (Option Int × Option Int)} (h : PAll H xs ps) {i : Nat} {x : V} (e : xs[i]? = some x) : ∃ a q, x = .ref a ∧ ps[i]? = some q ∧ H a = some (.tup [ov q.1, ov q.2]) := by
  induction h generalizing i with
  | nil => simp at e
  | cons e2 _ ih =>
    cases i with
    | zero => simp at e; subst e; exact ⟨_, _, rfl, rfl, e2⟩
    | succ i => exact ih (by simpa using e)
theorem PairsAt.mono {H H' : Hp} {a : Addr} {ps : List (Option Int × Option Int)} (h : PairsAt H a ps) (s : Same H H') : PairsAt H' a ps := let ⟨xs, e, p⟩ := h; ⟨xs, s _ _ e, p.mono s⟩
theorem drop_of {α : Type} {l : List α} {i : Nat} {x : α} (h : l[i]? = some x) : l.drop i = x :: l.drop (i + 1) := by
  have := (List.getElem?_eq_some_iff.mp h)
  obtain ⟨h1, h2⟩ := this
  rw [← h2]; exact List.drop_eq_getElem_cons h1
def dP (q : Option Int × Option Int) : PyData := .tuple [dO q.1, dO q.2]
theorem PAll.dp {K : PySem.W.Frag} {H : Hp} {xs : List V} {ps : List (Option Int × Option Int)} (h : PAll H xs ps) : DpAll K H xs (ps.map dP) := by
  induction h with
  | nil => exact .nil
  | cons e _ ih => exact .cons (.tup (SqT.of e) (.cons dp_ov (.cons dp_ov .nil))) ih
theorem sh_dP {q : Option Int × Option Int} : ShN 1 (dP q) := ShN.tuple fun d h => by
  simp only [List.mem_cons, List.not_mem_nil, or_false] at h
  rcases h with rfl | rfl <;> exact sh_dO
theorem PairsAt.dp {K : PySem.W.Frag} {H : Hp} {a : Addr} {ps : List (Option Int × Option Int)} (h : PairsAt H a ps) : Dp K H (.ref a) (.list (ps.map dP)) := let ⟨_, e, p⟩ := h; .lst (SqL.of e) p.dp
theorem sh_dPs {ps : List (Option Int × Option Int)} : ShN 2 (.list (ps.map dP)) := ShN.list fun d h => by
  obtain ⟨q, _, rfl⟩ := List.mem_map.mp h; exact sh_dP
/-- xs == [] -/
theorem eq_nil {K : PySem.W.Frag} {H : Hp} {a b : Addr} {ps : List (Option Int × Option Int)} {R : VK} (h : PairsAt H a ps) (h2 : H b = some (.lst [])) (r : R (.bl ps.isEmpty) H) : rEqD K (.ref a) (.ref b) H R :=
  ⟨_, _, h.dp, dp_nil h2, sh_dPs.ok, (ShN.list (n := 0) fun _ h => by simp at h).ok, by cases ps <;> simp_all [PyData.eqv, PyData.eqvAll]⟩
end Iz
namespace Iz
open PySem PySem.Spec PyProof.Rows L2
open He (ga)
/-! ### within a lambda: the rules that name the written part -/
section
variable {X : Cx} {CX : CXT} {k j : Nat} {x m f : Str} {ps : List Str} {dvs : List V} {sp : Sp} {E : XK} {o e : Expr} {es : List Expr} {ta : TE} {t : TA} {p pos apos : Pos} {K : PySem.W.Frag}
theorem pmtK {pl : Sem Bool} (hK : X.K = K) (O : OkM X.prog X.w X.K X.mg X.base CX k x m ps dvs sp) (C : Cls X.K (ga X.K x)) (he : PE X o ta) (hj : j ≤ dvs.length) (hr : Room k X.A) (hx : Passes CX X E) (ha : PA X (e :: es) t)
    (hst : starEach (e :: es) X.env = (false, eval e X.env) :: starEach es X.env := by rfl) (hpl : (backTo pos (starEach es X.env)).any (·.1) = false := by rfl)
    (ht : eval (.Call (.Attribute o m apos) (e :: es) [] pos) X.env = (do
      let ov ← eval o X.env; standAt apos.atName
      let (f, first) ← holding [ov] (getMethod ov m pl)
      callWith pos f first (backTo pos (starEach (e :: es) X.env)) (backToKw pos (keywordEach [] X.env))) := by rfl) :
    PE X (.Call (.Attribute o m apos) (e :: es) [] pos) (tMt (ga K x) m sp (dvs.drop j) E ta t) := by subst hK; exact pmt O C he hj hr hx ha hst hpl ht
theorem pmt0K {pl : Sem Bool} (hK : X.K = K) (O : OkM X.prog X.w X.K X.mg X.base CX k x m ps dvs sp) (C : Cls X.K (ga X.K x)) (he : PE X o ta) (hj : j ≤ dvs.length) (hr : Room k X.A) (hx : Passes CX X E)
    (ht : eval (.Call (.Attribute o m apos) [] [] pos) X.env = (do
      let ov ← eval o X.env; standAt apos.atName
      let (f, first) ← holding [ov] (getMethod ov m pl)
      callWith pos f first (backTo pos (starEach [] X.env)) (backToKw pos (keywordEach [] X.env))) := by rfl) :
    PE X (.Call (.Attribute o m apos) [] [] pos) (tMt (ga K x) m sp (dvs.drop j) E ta tNil) := by subst hK; exact pmt0 O C he hj hr hx ht
theorem pe_fldNK {C : Addr} (hK : X.K = K) (c : Cls K C) (n : NoAttr K C f) (h : PE X o ta) (hb : attributeBase o f X.env (eval o X.env) = eval o X.env := by rfl) : PE X (.Attribute o f apos) (tFldN C ta f) := by subst hK; exact pe_fldN c n h hb
end
end Iz
/-! Ow -/
set_option Elab.async false
set_option linter.all false
set_option maxRecDepth 100000
set_option maxHeartbeats 4000000
namespace Iz
open PySem PySem.Spec PyProof.Rows L2
open He (ga)
/-! ### operators by a class's own methods -/
section
variable {X : Cx} {pins : List (Addr × Obj)} {σ : L2.St} {H : Hp} {s : Shared}
/-- the type of a value is seen -/
theorem looksTy {x : V} {u t : Value} (I : Inv X pins σ H s) (rx : RelV x u) (ty : TyX X.K H x t) : PySem.W.Looks (model X.prog X.w) s.heap (typeOf u) t := by
  have R : ∀ {a : Addr} {o : Obj}, s.heap.get? a = some o → o.cls = t → PySem.W.Looks (model X.prog X.w) s.heap (typeOf (.ref a)) t := fun ho hc A Q E s2 k q => wpAny_typeOf_ref (k _ _ ho) (by rw [hc]; exact q)
  cases ty with
  | base b =>
    cases b with
    | non => cases (show u = Value.none from rx); exact .of_pure rfl
    | bl y => cases (show u = Value.bool y from rx); exact .of_pure rfl
    | int i => obtain ⟨t, q⟩ := (show ∃ t, u = Value.int i t from rx); cases q; exact .of_pure rfl
    | str y => obtain ⟨t, q⟩ := (show ∃ t, u = Value.str y t from rx); cases q; exact .of_pure rfl
    | flt y => obtain ⟨t, q⟩ := (show ∃ t, u = Value.float y t from rx); cases q; exact .of_pure rfl
    | @lst a xs ea =>
      cases rx
      obtain ⟨_, _, n, _, h1⟩ := (show ObjOk X.prog X.w H s.heap a (.lst xs) from I.hok a _ ea)
      exact R h1 rfl
    | @frz a ob xs ea =>
      cases rx
      obtain ⟨_, _, _, n, _, h1⟩ := (show ObjOk X.prog X.w H s.heap a (.frz ob (.lst xs)) from I.hok a _ ea)
      exact R h1 rfl
    | @tup a xs ea =>
      cases rx
      obtain ⟨_, _, _, o, h1, h2, _⟩ := (show ObjOk X.prog X.w H s.heap a (.tup xs) from I.hok a _ ea)
      exact R h1 h2
    | @dK a kvs ea =>
      cases rx
      obtain ⟨_, _, vs, _, o, es, ep, h1, h2, _⟩ := (show ObjOk X.prog X.w H s.heap a (.dK kvs) from I.hok a _ ea)
      exact R h1 h2.1
    | @dT a kvs ea =>
      cases rx
      obtain ⟨_, _, xs, _, o, es, ep, h1, h2, _⟩ := (show ObjOk X.prog X.w H s.heap a (.dT kvs) from I.hok a _ ea)
      exact R h1 h2.1
    | @ins a C dx fs ea cl ha hn htk hm =>
      cases rx
      obtain ⟨mA, O, _⟩ := ins_get I.hok ea
      obtain ⟨od, J, _⟩ := O.look
      exact J.type
  | byt y => obtain ⟨t, q⟩ := (show ∃ t, u = Value.bytes y t from rx); cases q; exact .of_pure rfl
  | @set a S n ea =>
    cases rx
    obtain ⟨o, _, _, _, e, ex, _⟩ := I.hok a _ ea
    exact R e ex.1
  | @kList a o e c => cases rx; exact R (I.kIn a o e) c
  | @kTuple a o e c => cases rx; exact R (I.kIn a o e) c
  | @kDict a o e c => cases rx; exact R (I.kIn a o e) c
  | @fTuple a ob xs ea =>
    cases rx
    obtain ⟨_, _, _, _, o, h1, h2, _⟩ := (show ObjOk X.prog X.w H s.heap a (.frz ob (.tup xs)) from I.hok a _ ea)
    exact R h1 h2
  | @fDict a ob kvs ea =>
    cases rx
    obtain ⟨_, _, _, vs, _, o, es, ep, h1, h2, _⟩ := (show ObjOk X.prog X.w H s.heap a (.frz ob (.dK kvs)) from I.hok a _ ea)
    exact R h1 h2.1
end
section
variable {X : Cx} {CX : CXT} {k : Nat} {x m : Str} {ps : List Str} {sp : Sp} {E : XK}
/-- a method called by its address, within an operator -/
theorem own_call {f a : Addr} {fd : FuncData} {y : V} {u : Value} {pins : List (Addr × Obj)} {σ : L2.St} {H : Hp} {s : Shared} {Q : VK} {R : Value → Shared → Prop} (I : Inv X pins σ H s) (F : FnOk X.prog X.w X.K X.mg X.base CX k f fd ps sp) (hb : Binds X.K fd ps []) (hr : Room k X.A) (hx : Passes CX X E)
    (ry : RelV y u) (hsp : sp [.ref a, y] H Q E) (hR : ∀ v w H' s', Inv X pins σ H' s' → RelV v w → Q v H' → R w s') : wpAny (model X.prog X.w) X.A (call (.ref f) [.ref a, u]) R X.xe s := by
  have hl := F.len _ _ _ _ hsp
  have bd := hb s [.ref a, u] I.kIn (by simpa using hl)
  refine wpAny_call (codeAny_mono (F.run X.A X.stack s H ⟨[.ref a, u], []⟩ [.ref a, u] [.ref a, y] _ E hr I.env0 (by simpa using bd) (.cons rfl (.cons ry .nil)) hsp) fun r s' z => ?_)
  cases r with
  | error e => exact hx _ _ _ _ _ _ I z
  | ok fl =>
    cases fl with
    | ret w => obtain ⟨v, H', I', rv, q⟩ := I.after z; exact hR v w H' s' I' rv q
    | next => exact False.elim z
    | brk => exact False.elim z
    | cont => exact False.elim z
/-- x op y, where x's class has the method: it hands back a truth -/
def rOwn (K : PySem.W.Frag) (C : Addr) (sp : Sp) (E : XK) : R2 := fun x y H Q => ∃ a dx fs, x = .ref a ∧ H a = some (.ins C dx fs) ∧ (∃ t, TyX K H y t ∧ PySem.W.notFirst K C t = true) ∧ sp [.ref a, y] H (fun v H' => ∃ b, v = .bl b ∧ Q (.bl b) H') E
theorem op_own {op : CmpOp} (hop : ∀ a b, compareOp op a b = richCompare op a b) (O : OkM X.prog X.w X.K X.mg X.base CX k x m ps [] sp) (hm : (cmpInfo op).2.1 = m) (hr : Room k X.A) (hx : Passes CX X E) : OpR X (compareOp op) (rOwn X.K (ga X.K x) sp E) := by
  intro pins s σ H v0 y v u Q I rx ry h
  obtain ⟨a, dx, fs, rfl, ha, ⟨t, ty, nf⟩, hsp⟩ := h
  cases rx
  obtain ⟨f, fd, M, b, F⟩ := O.ex
  obtain ⟨ds, hd, hb⟩ := b 0 (Nat.le_refl _)
  cases hd
  obtain ⟨mA, O', _⟩ := ins_get I.hok ha
  obtain ⟨od, J, _⟩ := O'.look
  obtain ⟨mm, hF⟩ := I.fr
  subst hm
  rw [hop]
  refine PySem.W.cmp_K hr.units0 hF I.ok.mod.kin J (looksTy I ry ty) nf M.at_ M.fn (own_call I F hb hr hx ry hsp fun v w H' s' I' rv q => ?_)
  obtain ⟨b, rfl, q⟩ := q
  cases rv
  exact ⟨.bl b, H', I', rfl, q⟩
/-- x in y, where y's class has __contains__ -/
def rOwnIn (C : Addr) (neg : Bool) (sp : Sp) (E : XK) : R2 := fun x y H Q => ∃ a dx fs, y = .ref a ∧ H a = some (.ins C dx fs) ∧ sp [.ref a, x] H (fun v H' => ∃ b, v = .bl b ∧ Q (.bl (if neg then !b else b)) H') E
theorem op_ownIn (O : OkM X.prog X.w X.K X.mg X.base CX k x "__contains__" ps [] sp) (hr : Room k X.A) (hx : Passes CX X E) : OpR X (compareOp .In) (rOwnIn (ga X.K x) false sp E) := by
  intro pins s σ H v0 y v u Q I rx ry h
  obtain ⟨a, dx, fs, rfl, ha, hsp⟩ := h
  cases ry
  obtain ⟨f, fd, M, b, F⟩ := O.ex
  obtain ⟨ds, hd, hb⟩ := b 0 (Nat.le_refl _)
  cases hd
  obtain ⟨mA, O', _⟩ := ins_get I.hok ha
  obtain ⟨od, J, _⟩ := O'.look
  obtain ⟨mm, hF⟩ := I.fr
  refine PySem.W.in_K hF I.ok.mod.kin J M.at_ M.fn (own_call I F hb hr hx rx hsp fun v w H' s' I' rv q => ?_)
  obtain ⟨b, rfl, q⟩ := q
  cases rv
  exact wpAny_truthy_bool ⟨.bl b, H', I', rfl, q⟩
theorem op_ownNotIn (O : OkM X.prog X.w X.K X.mg X.base CX k x "__contains__" ps [] sp) (hr : Room k X.A) (hx : Passes CX X E) : OpR X (compareOp .NotIn) (rOwnIn (ga X.K x) true sp E) := by
  intro pins s σ H v0 y v u Q I rx ry h
  obtain ⟨a, dx, fs, rfl, ha, hsp⟩ := h
  cases ry
  obtain ⟨f, fd, M, b, F⟩ := O.ex
  obtain ⟨ds, hd, hb⟩ := b 0 (Nat.le_refl _)
  cases hd
  obtain ⟨mA, O', _⟩ := ins_get I.hok ha
  obtain ⟨od, J, _⟩ := O'.look
  obtain ⟨mm, hF⟩ := I.fr
  refine PySem.W.notIn_K hF I.ok.mod.kin J M.at_ M.fn (own_call I F hb hr hx rx hsp fun v w H' s' I' rv q => ?_)
  obtain ⟨b, rfl, q⟩ := q
  cases rv
  exact wpAny_truthy_bool ⟨.bl (!b), H', I', rfl, q⟩
end
end Iz
/-! Tn -/
set_option Elab.async false
set_option linter.all false
set_option maxRecDepth 100000
set_option maxHeartbeats 4000000
namespace Iz
open PySem PySem.Spec PyProof.Rows L2
/-! ### try: .. with several clauses «except x as n», one of which catches -/
abbrev Clause := Value × Nat × (Addr → Value → Option Addr → TS)
def unset (D : Ends) (i : Nat) : Ends := { nx := fun σ H => D.nx (σ.set i none) H, rt := D.rt, bk := fun σ H => D.bk (σ.set i none) H, ct := fun σ H => D.ct (σ.set i none) H }
/-- the first clause that catches; one of them does -/
def wNamed (K : PySem.W.Frag) (D : Ends) : List Clause → WX
  | [] => fun _ _ _ _ => False
  | q :: r => fun cls d σ H => ∃ b, PySem.W.exmOne K cls q.1 = some b ∧ (b = true → ∀ a, H a = none → q.2.2 a cls d (unset D q.2.1) (σ.set q.2.1 (some (.ref a))) H) ∧ (b = false → wNamed K D r cls d σ H)
structure ClauseOk (X : Cx) (x n : Str) (q : Clause) (st : Stmt) (ss : List Stmt) : Prop where
  at_ : X.N[q.2.1]? = some n
  loc : X.env.kindOf n = some .local
  cls : Names X x q.1
  run : ∀ a oe cls d pn, Zc cls d oe → (∃ vs, oe.data = .fields vs) → PSs (X.suite a ((a, oe) :: pn)) (st :: ss) (q.2.2 a cls d)
inductive Clauses (X : Cx) : List ExceptHandler → List Clause → Prop
  | nil : Clauses X [] []
  | cons {x n : Str} {q : Clause} {st : Stmt} {ss : List Stmt} {p p' : Pos} {hds : List ExceptHandler} {l : List Clause} : ClauseOk X x n q st ss → Clauses X hds l → Clauses X (.ExceptHandler (some (.Name x p)) (some n) (st :: ss) p' :: hds) (q :: l)
section
variable {X : Cx} {body : List Stmt} {h₀ : ExceptHandler} {hds : List ExceptHandler} {l : List Clause} {pos : Pos} {tb : WX → TS}
theorem ps_try_named (hN : X.N.Nodup)
    (hb : ∀ W pn xe, Takes (X.tr pn xe) W → PassesOwn (model X.prog X.w) X.A X.env xe → PSs (X.tr pn xe) body (tb W)) (hh : Clauses X (h₀ :: hds) l) (hs : X.stack = X.env :: X.outer := by rfl) (hf : X.env.frame = some X.env.locals := by rfl) :
    PS X (.Try body (h₀ :: hds) [] [] pos) (fun D σ H => tb (wNamed X.K D l) D σ H) := by
  constructor
  intro pins s σ H D I h
  have ok := I.ok
  have fr1 : X.A.frames = some (X.env :: X.outer) := hs ▸ ok.frames
  let catcher : Value → Shared → Prop := fun e z1 => wpAny (model X.prog X.w) X.A (noteFrame e X.env) (fun _ z2 => wpAny (model X.prog X.w) X.A (setFlight e none) (fun _ z3 => wpAny (model X.prog X.w) X.A (handleBy e X.env (h₀ :: hds)) (SP X pins D) X.xe z3) X.xe z2) X.xe z1
  have tk : Takes (X.tr (X.pn ++ pins) catcher) (wNamed X.K D l) := by
    intro u z xx
    obtain ⟨a, B, sI, pins', σ1, H1, cls, d, rfl, J0, nb, up, sky, na, os, ag, wish⟩ := xx
    have J : Inv X pins σ1 H1 sI := J0.ofTry ok
    refine Sky.land Zc.steady fr1 hf (show Sky B (X.env :: X.outer) a (Zc cls d) X.env.locals z.heap from hs ▸ sky) fun g fl upg => ?_
    have J1 : Inv X pins σ1 H1 { z with heap := g } := J.landed nb fl.1 (up.trans upg) os ag
    obtain ⟨o1, vs1, at1, z1, dt1⟩ := fl.there
    have out : a ∉ frs (X.env :: X.outer) := fun hm => by
      obtain ⟨_, o', at', no⟩ := fl.2.2.1.mem hm
      rw [at1] at at'
      cases at'
      exact no _ dt1
    have neL : a ≠ X.env.locals := fun e => out (by rw [e]; exact List.mem_filterMap.mpr ⟨X.env, List.mem_cons_self, hf⟩)
    have neF : a ∉ X.fs := fun hm => by
      obtain ⟨e, he, q⟩ := List.mem_filterMap.mp hm
      exact out (List.mem_filterMap.mpr ⟨e, .tail _ he, q⟩)
    have S1 := J1.suite at1 dt1 na neL neF
    have all : ∀ {hs' : List ExceptHandler} {l' : List Clause}, Clauses X hs' l' → wNamed X.K D l' cls d σ1 H1 → wpAny (model X.prog X.w) X.A (handleBy (.ref a) X.env hs') (SP X pins D) X.xe { z with heap := g } := by
      intro hs' l' hc
      induction hc with
      | nil => exact fun w => w.elim
      | @cons x n q st ss p p' hds l C r ih =>
        rintro ⟨b, hb1, yes, no⟩
        obtain ⟨c, i, ts⟩ := q
        refine wpAny_handleBy_cons (codeAny_handlers_test ?_) (by intro q; cases q)
        have LM := PySem.W.exm_one (M := model X.prog X.w) J1.kIn (fun A Q E z' k q => wpAny_typeOf_ref (k _ _ at1) (by rw [z1.1]; exact q)) hb1
        have seen : ∀ {Q E : Value → Shared → Prop}, Q c { z with heap := g } → wpAny (model X.prog X.w) (X.A.mark (some (.ref a))) (eval (.Name x p) X.env) Q E { z with heap := g } := fun {Q E} q => by
          obtain ⟨hg, hdb, own | ⟨n0, bv, nn⟩⟩ := C.cls
          · exact ld_glob (X := X.suite a ((a, o1) :: (X.pn ++ pins))) S1 hg own q hdb
          · exact ld_blt (X := X.suite a ((a, o1) :: (X.pn ++ pins))) S1 hg n0 bv q nn hdb
        refine seen (LM.here ?_)
        cases b with
        | false => exact ih (no rfl)
        | true =>
          refine codeAny_handlers_suite_as (HandSPX.lands_againZ fl fun g2 fl2 up2 => ?_)
          have J2 : Inv X pins σ1 H1 { z with heap := g2 } := J.landed nb fl2.1 ((up.trans upg).trans up2) os ag
          obtain ⟨o2, vs2, at2, z2, dt2⟩ := fl2.there
          refine store_ok (X := X.suite a ((a, o2) :: (X.pn ++ pins))) (v := .ref a) (J2.suite at2 dt2 na neL neF) hN C.at_ (.inl C.loc) rfl (fun s5 S5 => ?_) (.inr C.loc)
          have bye : ∀ {σ6 : L2.St} {H6 : Hp} {s6 : Shared} {Q : Shared → Prop}, Inv (X.suite a ((a, o2) :: (X.pn ++ pins))) [] σ6 H6 s6 → (∀ s7, Inv X pins (σ6.set i none) H6 s7 → Q s7) →
              wpAny (model X.prog X.w) X.A (do bindName X.env n .none; unbindBehindTheSuite X.env n p') (fun _ s7 => Q s7) X.xe s6 := fun S6 hq => gone_ok (S6.unsuite ok) hN C.at_ C.loc hq
          refine wpAny_mono ((C.run a o2 cls d (X.pn ++ pins) z2 ⟨_, dt2⟩).run [] s5 _ H1 _ S5 (yes rfl a na)) (fun f s6 done => ?_) fun _ _ z => z.elim
          cases f with
          | ret u => obtain ⟨v, σ6, H6, S6, rv, q⟩ := done; exact bye S6 fun s7 J7 => ⟨v, _, _, J7, rv, q⟩
          | next => obtain ⟨σ6, H6, S6, q⟩ := done; exact bye S6 fun s7 J7 => ⟨_, _, J7, q⟩
          | brk => obtain ⟨σ6, H6, S6, q⟩ := done; exact bye S6 fun s7 J7 => ⟨_, _, J7, q⟩
          | cont => obtain ⟨σ6, H6, S6, q⟩ := done; exact bye S6 fun s7 J7 => ⟨_, _, J7, q⟩
    exact all hh wish
  refine wpAny_Try_except (wpAny_mono ((hb _ (X.pn ++ pins) catcher tk PassesOwn.looking).run [] s σ H D (I.toTry _) h) (fun f s1 done => ?_) fun e s1 he => he)
  cases f with
  | ret u => obtain ⟨v, σ1, H1, J, r, q⟩ := done; exact ⟨v, σ1, H1, J.ofTry ok, r, q⟩
  | next => obtain ⟨σ1, H1, J, q⟩ := done; exact wpAny_execs_nil ⟨σ1, H1, J.ofTry ok, q⟩
  | brk => obtain ⟨σ1, H1, J, q⟩ := done; exact ⟨σ1, H1, J.ofTry ok, q⟩
  | cont => obtain ⟨σ1, H1, J, q⟩ := done; exact ⟨σ1, H1, J.ofTry ok, q⟩
end
end Iz
/-! Nx -/
set_option Elab.async false
set_option linter.all false
set_option maxRecDepth 100000
set_option maxHeartbeats 4000000
namespace Iz
open PySem PySem.Spec PyProof.Rows L2
open He (ga)
/-! ### slices, max, min, unpacking, in the form that simp reads -/
def rSlLN (K : PySem.W.Frag) : V → Option Int → Option Int → Hp → VK → Prop := fun x lo hi H Q => ∃ a xs, x = .ref a ∧ SqL K H a xs ∧ News H (.lst (cutV xs lo hi)) Q
theorem sl_listN {X : Cx} : SlR X (rSlLN X.K) := fun pins s σ H x v vl vu lo hi sl Q I rx hs pl pu ⟨a, xs, e, h, n⟩ => sl_list pins s σ H x v vl vu lo hi sl Q I rx hs pl pu ⟨a, xs, e, h, n.all⟩
def rMax2 : List V → Hp → VK → Prop := fun xs H Q => ∃ i j, xs = [.int i, .int j] ∧ Q (.int (max i j)) H
theorem call_max2N {X : Cx} (hc : X.calm = true) : CallR X (.builtin "max") rMax2 := CallR.imp (call_max2 hc) fun xs H Q ⟨i, j, a, q⟩ => ⟨i, j, a, by rw [show (if j > i then j else i) = max i j by rw [Int.max_def]; split <;> split <;> omega]; exact q⟩
def rMin2 : List V → Hp → VK → Prop := fun xs H Q => ∃ i j, xs = [.int i, .int j] ∧ Q (.int (min i j)) H
theorem call_min2N {X : Cx} (hc : X.calm = true) : CallR X (.builtin "min") rMin2 := CallR.imp (call_min2 hc) fun xs H Q ⟨i, j, a, q⟩ => ⟨i, j, a, by rw [show (if j < i then j else i) = min i j by rw [Int.min_def]; split <;> split <;> omega]; exact q⟩
def gUnlN (n : Nat) (t : TGs) : TG := fun v σ H Q => ∃ a xs, v = .ref a ∧ H a = some (.lst xs) ∧ xs.length = n ∧ t xs σ H Q
theorem pg_unlN {X : Cx} {es : List Expr} {k : Nat} {pos : Pos} {t : TGs} {n : Nat} (hc : X.calm = true) (h : PGs X es t) (hn : (assignEach es X.env).length = n := by rfl) (hst : (assignEach es X.env).findIdx? (·.1) = none := by rfl) : PG X (.Tuple es k pos) (gUnlN n t) :=
  PG.imp (pg_unl hc h hn hst) fun v σ H Q ⟨p, xs, a, c, d, q⟩ => ⟨p, xs, a, SqL.of c, d, q⟩
/-! ### for x in what an expression gives -/
theorem for_inT {K : PySem.W.Frag} {tl : TE} {g : TG} {tb : TS} {D : Ends} {σ : L2.St} {H : Hp} (h : tl σ H fun x H1 => tFor (iTup K fun _ H R => R x H) g tb D σ H1) : tFor (iTup K tl) g tb D σ H := h
theorem for_inL {K : PySem.W.Frag} {tl : TE} {g : TG} {tb : TS} {D : Ends} {σ : L2.St} {H : Hp} (h : tl σ H fun x H1 => tFor (iList K fun _ H R => R x H) g tb D σ H1) : tFor (iList K tl) g tb D σ H := h
/-! ### two clauses in one comprehension, both over ranges from 0 -/
theorem st_lc2R {ta ta1 : TA} {g g1 : TG} {te : TE} {vs vs1 : List Nat} {σ : L2.St} {H : Hp} {Q : VK} (n : Int) (hn : -(2 ^ 62) ≤ n ∧ n < 2 ^ 62) (ha : ∀ R : List V → Hp → Prop, R [.int n] H → ta σ H R)
    (Pv : Addr → Nat → Hp → Prop) (Pw : Addr → Nat → Nat → Hp → Prop) (h0 : ∀ D H1, H D = none → Same H H1 → H1 D = some (.lst []) → Pv D 0 H1)
    (hs : ∀ D i H, i < n.toNat → Pv D i H → g (.int i) (wipe σ vs) H fun σ2 H2 => wipe σ2 vs = wipe σ vs ∧ ∃ m : Int, (-(2 ^ 62) ≤ m ∧ m < 2 ^ 62) ∧ (∀ R : List V → Hp → Prop, R [.int m] H2 → ta1 σ2 H2 R) ∧ Pw D i 0 H2 ∧ (∀ H, Pw D i m.toNat H → Pv D (i + 1) H) ∧
      ∀ j H, j < m.toNat → Pw D i j H → g1 (.int j) (wipe σ2 vs1) H fun σ3 H5 => wipe σ3 vs1 = wipe σ2 vs1 ∧ te σ3 H5 fun y H7 => ∃ acc, H7 D = some (.lst acc) ∧ acc.length < sizeLine ∧ Pw D i (j + 1) (upd H7 D (.lst (acc ++ [y]))))
    (hg : ∀ v σ H (Q Q' : L2.St → Hp → Prop), (∀ σ H, Q σ H → Q' σ H) → g v σ H Q → g v σ H Q') (hg1 : ∀ v σ H (Q Q' : L2.St → Hp → Prop), (∀ σ H, Q σ H → Q' σ H) → g1 v σ H Q → g1 v σ H Q')
    (hd : ∀ D H, Pv D n.toNat H → Q (.ref D) H) : tLc2 (iRng1 ta) g tYes (iRng1 ta1) g1 tYes te vs vs1 σ H Q := by
  refine ha _ ⟨n, rfl, hn.1, hn.2, fun D hD => ?_⟩
  refine ⟨fun i m H => m = n.toNat - i ∧ i ≤ n.toNat ∧ Pv D i H, ⟨_, rfl, Nat.zero_le _, h0 D _ hD (Same.upd hD) upd_same⟩, ?_⟩
  rintro i m H1 ⟨rfl, hi, p⟩
  by_cases hlt : i < n.toNat
  · refine .inr ⟨hlt, Pv D (i + 1), fun H' p' => ⟨n.toNat - (i + 1), by omega, rfl, hlt, p'⟩, ?_⟩
    rintro x _ ⟨rfl, rfl⟩
    rw [Int.zero_add]
    refine hg _ _ _ _ _ (fun σ2 H2 q => ?_) (hs D i _ hlt p)
    obtain ⟨e, m, hm, hr, w0, wd, ws⟩ := q
    refine ⟨e, ?_⟩
    simp only [tYes, if_true]
    refine hr _ ⟨m, rfl, hm.1, hm.2, ?_⟩
    refine ⟨fun j k H => k = m.toNat - j ∧ j ≤ m.toNat ∧ Pw D i j H, ⟨_, rfl, Nat.zero_le _, w0⟩, ?_⟩
    rintro j k H3 ⟨rfl, hj, pw⟩
    by_cases hjt : j < m.toNat
    · refine .inr ⟨hjt, Pw D i (j + 1), fun H' p' => ⟨m.toNat - (j + 1), by omega, rfl, hjt, p'⟩, ?_⟩
      rintro x _ ⟨rfl, rfl⟩
      rw [Int.zero_add]
      refine hg1 _ _ _ _ _ (fun σ3 H5 q => ⟨q.1, ?_⟩) (ws j _ hjt pw)
      exact q.2
    · have ej : j = m.toNat := by omega
      subst ej
      exact .inl ⟨Nat.le_refl _, wd _ pw⟩
  · have ei : i = n.toNat := by omega
    subst ei
    exact .inl ⟨Nat.le_refl _, hd D _ p⟩
theorem gName_mono {i : Nat} : ∀ v σ H (Q Q' : L2.St → Hp → Prop), (∀ σ H, Q σ H → Q' σ H) → gName i v σ H Q → gName i v σ H Q' := fun _ _ _ _ _ k q => k _ _ q
/-! ### == and != of what is read as data -/
section
variable {K : PySem.W.Frag} {H : Hp} {R : VK}
/-- a pair of ints, at a -/
abbrev P2 (H : Hp) (a : Addr) (x y : Int) : Prop := H a = some (.tup [.int x, .int y])
theorem P2.dp {a : Addr} {x y : Int} (h : P2 H a x y) : Dp K H (.ref a) (.tuple [.int x, .int y]) := .tup (SqT.of h) (.cons (.int x) (.cons (.int y) .nil))
theorem sh_P2 {n : Nat} {x y : Int} : ShN (n + 1) (.tuple [.int x, .int y]) := (ShN.tuple (n := 0) fun d h => by
  simp only [List.mem_cons, List.not_mem_nil, or_false] at h
  rcases h with rfl | rfl <;> exact .int).up (by omega)
theorem eqv_P2 {x y u v : Int} : PyData.eqv (.tuple [.int x, .int y]) (.tuple [.int u, .int v]) = decide (x = u ∧ y = v) := by
  simp [PyData.eqv, PyData.eqvAll]
  by_cases h1 : x = u <;> by_cases h2 : y = v <;> simp [h1, h2]
theorem eq_P2 {a b : Addr} {x y u v : Int} (ha : P2 H a x y) (hb : P2 H b u v) (r : R (.bl (decide (x = u ∧ y = v))) H) : rEqD K (.ref a) (.ref b) H R := ⟨_, _, ha.dp, hb.dp, (sh_P2 (n := 0)).ok, (sh_P2 (n := 0)).ok, by rw [eqv_P2]; exact r⟩
theorem ne_P2 {a b : Addr} {x y u v : Int} (ha : P2 H a x y) (hb : P2 H b u v) (r : R (.bl (!decide (x = u ∧ y = v))) H) : rNeD K (.ref a) (.ref b) H R := ⟨_, _, ha.dp, hb.dp, (sh_P2 (n := 0)).ok, (sh_P2 (n := 0)).ok, by rw [eqv_P2]; exact r⟩
/-- a list of ints, at a -/
theorem dp_ints {a : Addr} {ns : List Int} (h : H a = some (.lst (ns.map V.int))) : Dp K H (.ref a) (.list (ns.map PyData.int)) := by
  refine .lst (SqL.of h) ?_
  clear h
  induction ns with
  | nil => exact .nil
  | cons z zs ih => exact .cons (.int z) ih
theorem sh_ints {n : Nat} {ns : List Int} : ShN (n + 1) (.list (ns.map PyData.int)) := (ShN.list (n := 0) fun d hd => by
  obtain ⟨z, hz, rfl⟩ := List.mem_map.mp hd; exact .int).up (by omega)
theorem eqv_ints {ns ms : List Int} : PyData.eqv (.list (ns.map PyData.int)) (.list (ms.map PyData.int)) = decide (ns = ms) := by
  simp only [PyData.eqv]
  induction ns generalizing ms with
  | nil => cases ms <;> simp [PyData.eqvAll]
  | cons n ns ih => cases ms with
    | nil => simp [PyData.eqvAll]
    | cons m ms =>
      simp only [List.map_cons, PyData.eqvAll, ih, PyData.eqv]
      by_cases h1 : n = m <;> by_cases h2 : ns = ms <;> simp [h1, h2]
theorem eq_ints {a b : Addr} {ns ms : List Int} (ha : H a = some (.lst (ns.map V.int))) (hb : H b = some (.lst (ms.map V.int))) (r : R (.bl (decide (ns = ms))) H) : rEqD K (.ref a) (.ref b) H R := ⟨_, _, dp_ints ha, dp_ints hb, (sh_ints (n := 0)).ok, (sh_ints (n := 0)).ok, by rw [eqv_ints]; exact r⟩
theorem ne_ints {a b : Addr} {ns ms : List Int} (ha : H a = some (.lst (ns.map V.int))) (hb : H b = some (.lst (ms.map V.int))) (r : R (.bl (!decide (ns = ms))) H) : rNeD K (.ref a) (.ref b) H R := ⟨_, _, dp_ints ha, dp_ints hb, (sh_ints (n := 0)).ok, (sh_ints (n := 0)).ok, by rw [eqv_ints]; exact r⟩
/-- a list of two texts, at a -/
theorem dp_l2 {a : Addr} {x y : Str} (h : H a = some (.lst [.str x, .str y])) : Dp K H (.ref a) (.list [.str x, .str y]) := .lst (SqL.of h) (.cons (.str x) (.cons (.str y) .nil))
theorem sh_l2 {n : Nat} {x y : Str} (hx : PyData.strOk x = true) (hy : PyData.strOk y = true) : ShN (n + 1) (.list [.str x, .str y]) := (ShN.list (n := 0) fun d h => by
  simp only [List.mem_cons, List.not_mem_nil, or_false] at h
  have st : ∀ {z : Str}, PyData.strOk z = true → ShN 0 (.str z) := fun h => ⟨by simp [PyData.canLay0, h], by simp [PyData.depth]⟩
  rcases h with rfl | rfl
  · exact st hx
  · exact st hy).up (by omega)
theorem ne_sameN {x y : V} {d : PyData} {n : Nat} (hx : Dp K H x d) (hy : Dp K H y d) (h : ShN n d) (r : R (.bl false) H) (k : n ≤ 64 := by decide) : rNeD K x y H R := ne_same hx hy (h.ok k) r
theorem eq_sameN {x y : V} {d : PyData} {n : Nat} (hx : Dp K H x d) (hy : Dp K H y d) (h : ShN n d) (r : R (.bl true) H) (k : n ≤ 64 := by decide) : rEqD K x y H R := eq_same hx hy (h.ok k) r
end
/-! ### a value that may be a pair of ints -/
/-- the pair that stands there -/
def pairL : List V → Option (Int × Int)
  | [.int x, .int y] => some (x, y)
  | _ => none
def pairV (H : Hp) : V → Option (Int × Int)
  | .ref p => match H p with
    | some (.tup xs) => pairL xs
    | _ => none
  | _ => none
theorem pairL_some {xs : List V} {q : Int × Int} (h : pairL xs = some q) : xs = [.int q.1, .int q.2] := by
  unfold pairL at h
  split at h
  · cases h; rfl
  · cases h
theorem pairL_none {xs : List V} (h : ¬ (xs.length : Int) = 2) : pairL xs = none := by
  unfold pairL
  split
  · simp at h
  · rfl
theorem pairV_of {H : Hp} {p : Addr} {x y : Int} (h : P2 H p x y) : pairV H (.ref p) = some (x, y) := by simp only [pairV, h, pairL]
theorem pairV_some {H : Hp} {v : V} {q : Int × Int} (h : pairV H v = some q) : ∃ p, v = .ref p ∧ P2 H p q.1 q.2 := by
  unfold pairV at h
  split at h
  · rename_i p
    split at h
    · rename_i xs e; exact ⟨p, rfl, by rw [P2, e, pairL_some h]⟩
    · cases h
  · cases h
/-- what is asked of a value that is_pair looks at -/
inductive PairK (K : PySem.W.Frag) (H : Hp) : V → Prop
  | non : PairK K H .non
  | bl (b : Bool) : PairK K H (.bl b)
  | int (i : Int) : PairK K H (.int i)
  | str (s : Str) : PairK K H (.str s)
  | lst {p : Addr} {xs : List V} : H p = some (.lst xs) → PairK K H (.ref p)
  | tup {p : Addr} {xs : List V} : H p = some (.tup xs) → (∀ z ∈ xs, Wh K H z) → PairK K H (.ref p)
  | ins {p C dx : Addr} {fs : List (Str × V)} : H p = some (.ins C dx fs) → ClsI K C → PySem.W.kitOne K (.ref C) (.type "tuple") = some false → PairK K H (.ref p)
theorem PairK.ty {K : PySem.W.Frag} {H : Hp} {v : V} (h : PairK K H v) : (∃ p xs, v = .ref p ∧ H p = some (.tup xs) ∧ ∀ z ∈ xs, Wh K H z) ∨ ∃ t, TyX K H v t ∧ PySem.W.kitOne K t (.type "tuple") = some false ∧ pairV H v = none := by
  cases h with
  | non => exact .inr ⟨_, .base .non, kit_ty (by decide +kernel), rfl⟩
  | bl b => exact .inr ⟨_, .base (.bl b), kit_ty (by decide +kernel), rfl⟩
  | int i => exact .inr ⟨_, .base (.int i), kit_ty (by decide +kernel), rfl⟩
  | str s => exact .inr ⟨_, .base (.str s), kit_ty (by decide +kernel), rfl⟩
  | lst h => exact .inr ⟨_, .base (.lst h), kit_ty (by decide +kernel), by simp only [pairV, h]⟩
  | tup h w => exact .inl ⟨_, _, rfl, h, w⟩
  | ins h T k => exact .inr ⟨_, T.ty h, k, by simp only [pairV, h]⟩
theorem P2.k {K : PySem.W.Frag} {H : Hp} {p : Addr} {x y : Int} (h : P2 H p x y) : PairK K H (.ref p) := .tup h fun z hz => by
  simp only [List.mem_cons, List.not_mem_nil, or_false] at hz
  rcases hz with rfl | rfl <;> exact wh_int
theorem PairK.mono {K : PySem.W.Frag} {H H' : Hp} {v : V} (h : PairK K H v) (s : Same H H') : PairK K H' v := by
  cases h with
  | non => exact .non
  | bl b => exact .bl b
  | int i => exact .int i
  | str s => exact .str s
  | lst h => exact .lst (s _ _ h)
  | tup h w => exact .tup (s _ _ h) fun z hz => wh_mono (w z hz) s
  | ins h T k => exact .ins (s _ _ h) T k
theorem pairV_mono {H H' : Hp} {p : Addr} {o : HO} (h : H p = some o) (s : Same H H') : pairV H' (.ref p) = pairV H (.ref p) := by simp only [pairV, h, s _ _ h]
theorem PairK.same {K : PySem.W.Frag} {H H' : Hp} {v : V} (h : PairK K H v) (s : Same H H') : pairV H' v = pairV H v := by
  cases h with
  | non => rfl
  | bl b => rfl
  | int i => rfl
  | str s => rfl
  | lst h => exact pairV_mono h s
  | tup h w => exact pairV_mono h s
  | ins h T k => exact pairV_mono h s
/-! ### a list of pairs grows -/
theorem PairsAt.push {H : Hp} {D t : Addr} {ps : List (Option Int × Option Int)} {q : Option Int × Option Int} (h : PairsAt H D ps) (e : H t = some (.tup [ov q.1, ov q.2])) (hl : ps.length < 100000) :
    ∃ acc, H D = some (.lst acc) ∧ acc.length < sizeLine ∧ PairsAt (L2.upd H D (.lst (acc ++ [.ref t]))) D (ps ++ [q]) := by
  obtain ⟨xs, hD, hp⟩ := h
  refine ⟨xs, hD, by rw [hp.length, sizeLine_eq]; omega, _, upd_same, PAll.snoc (hp.monoT fun b us hb => ?_) ?_⟩
  · rw [upd_ne (ne_of hb hD (by intro z; cases z))]; exact hb
  · rw [upd_ne (ne_of e hD (by intro z; cases z))]; exact e
/-! ### the operators of own classes, asked -/
theorem own_in {C a dx : Addr} {fs : List (Str × V)} {sp : Sp} {E : XK} {x : V} {H : Hp} {Q : VK} {neg : Bool} (h : H a = some (.ins C dx fs)) (q : sp [.ref a, x] H (fun v H' => ∃ b, v = .bl b ∧ Q (.bl (if neg = true then !b else b)) H') E) : rOwnIn C neg sp E x (.ref a) H Q := ⟨a, dx, fs, rfl, h, q⟩
theorem own_op {K : PySem.W.Frag} {C a dx : Addr} {fs : List (Str × V)} {sp : Sp} {E : XK} {y : V} {H : Hp} {Q : VK} (h : H a = some (.ins C dx fs)) {t : Value} (ty : TyX K H y t) (n : PySem.W.notFirst K C t = true) (q : sp [.ref a, y] H (fun v H' => ∃ b, v = .bl b ∧ Q (.bl b) H') E) : rOwn K C sp E (.ref a) y H Q := ⟨a, dx, fs, rfl, h, ⟨t, ty, n⟩, q⟩
theorem notFirst_self {K : PySem.W.Frag} {C : Addr} : PySem.W.notFirst K C (.ref C) = true := by simp [PySem.W.notFirst]
/-! ### a comprehension over a range from 0 -/
theorem st_lcR1 {ta : TA} {g : TG} {tt : TT} {te : TE} {vs : List Nat} {σ : L2.St} {H : Hp} {Q : VK} (n : Int) (hn : -(2 ^ 62) ≤ n ∧ n < 2 ^ 62) (ha : ∀ R : List V → Hp → Prop, R [.int n] H → ta σ H R)
    (Pv : Addr → Nat → Hp → Prop) (h0 : ∀ D H1, H D = none → Same H H1 → H1 D = some (.lst []) → Pv D 0 H1)
    (hs : ∀ D i H, i < n.toNat → Pv D i H → g (.int i) (wipe σ vs) H fun σ2 H2 => wipe σ2 vs = wipe σ vs ∧ tt σ2 H2 fun b H3 => if b = true then te σ2 H3 fun y H4 => ∃ acc, H4 D = some (.lst acc) ∧ acc.length < sizeLine ∧ Pv D (i + 1) (upd H4 D (.lst (acc ++ [y]))) else Pv D (i + 1) H3)
    (hd : ∀ D H, Pv D n.toNat H → Q (.ref D) H) : tLc (iRng1 ta) g tt te vs σ H Q :=
  ha _ ⟨n, rfl, hn.1, hn.2, fun D hD => lc_range (Pv D) (h0 D _ hD (Same.upd hD) upd_same) (fun i H hi p => by rw [Int.zero_add]; exact hs D i H hi p) (hd D)⟩
theorem PAll.app {H : Hp} {xs ys : List V} {ps qs : List (Option Int × Option Int)} (h : PAll H xs ps) (k : PAll H ys qs) : PAll H (xs ++ ys) (ps ++ qs) := by
  induction h with
  | nil => exact k
  | cons e _ ih => exact .cons e ih
/-! ### kept where tables of code may grow -/
section
open LamX
theorem tyX_ext {K : PySem.W.Frag} {H H' : Hp} {x : V} {t : Value} (h : TyX K H x t) (s : ExtN H H') : TyX K H' x t := by
  cases h with
  | base b =>
    cases b with
    | non => exact .base .non
    | bl b => exact .base (.bl b)
    | int i => exact .base (.int i)
    | str y => exact .base (.str y)
    | flt y => exact .base (.flt y)
    | lst e => exact .base (.lst (s _ _ e fun _ z => by cases z))
    | frz e => exact .base (.frz (s _ _ e fun _ z => by cases z))
    | tup e => exact .base (.tup (s _ _ e fun _ z => by cases z))
    | dK e => exact .base (.dK (s _ _ e fun _ z => by cases z))
    | dT e => exact .base (.dT (s _ _ e fun _ z => by cases z))
    | ins e a b c d f => exact .base (.ins (s _ _ e fun _ z => by cases z) a b c d f)
  | byt b => exact .byt b
  | set e => exact .set (s _ _ e fun _ z => by cases z)
  | kList e c => exact .kList e c
  | kTuple e c => exact .kTuple e c
  | kDict e c => exact .kDict e c
  | fTuple e => exact .fTuple (s _ _ e fun _ z => by cases z)
  | fDict e => exact .fDict (s _ _ e fun _ z => by cases z)
theorem wh_ext {K : PySem.W.Frag} {H H' : Hp} {x : V} (h : Wh K H x) (s : ExtN H H') : Wh K H' x := let ⟨t, b, c, ty, r⟩ := h; ⟨t, b, c, tyX_ext ty s, r⟩
theorem PairK.ext {K : PySem.W.Frag} {H H' : Hp} {v : V} (h : PairK K H v) (s : ExtN H H') : PairK K H' v := by
  cases h with
  | non => exact .non
  | bl b => exact .bl b
  | int i => exact .int i
  | str s => exact .str s
  | lst h => exact .lst (s _ _ h fun _ z => by cases z)
  | tup h w => exact .tup (s _ _ h fun _ z => by cases z) fun z hz => wh_ext (w z hz) s
  | ins h T k => exact .ins (s _ _ h fun _ z => by cases z) T k
theorem PairK.sameX {K : PySem.W.Frag} {H H' : Hp} {v : V} (h : PairK K H v) (s : ExtN H H') : pairV H' v = pairV H v := by
  cases h with
  | non => rfl
  | bl b => rfl
  | int i => rfl
  | str s => rfl
  | lst h => simp only [pairV, h, s _ _ h fun _ z => by cases z]
  | tup h w => simp only [pairV, h, s _ _ h fun _ z => by cases z]
  | ins h T k => simp only [pairV, h, s _ _ h fun _ z => by cases z]
theorem extI {H H' : Hp} {p C dx : Addr} {fs : List (Str × V)} (e : ExtN H H') (h : H p = some (.ins C dx fs)) : H' p = some (.ins C dx fs) := e p _ h fun ps z => by cases z
/-- a list that grows by an item: the tables stay -/
theorem Tabs.put {T : List (Addr × Str)} {H H' : Hp} {L : Addr} {xs ys : List V} (hT : Tabs T H) (hL : H L = some (.lst xs)) (p : Put H H' L (.lst ys)) : Tabs T H' := by
  have key : ∀ b o, H b = some o → (∀ xs, o ≠ .lst xs) → H' b = some o := fun b o h hn => by
    rw [p.2 b (fun z => by subst z; rw [hL] at h; exact hn _ (Option.some.inj h).symm)]; exact h
  intro x hx
  obtain ⟨ps, h1, h2, h3⟩ := hT x hx
  refine ⟨ps, key _ _ h1 (fun xs z => by cases z), h2, fun pos cv hcv => ?_⟩
  obtain ⟨c0, e1, e2⟩ := h3 pos cv hcv
  exact ⟨c0, e1, key _ _ e2 (fun xs z => by unfold CodeO at z; cases z)⟩
theorem Put.other {H H' : Hp} {L b : Addr} {o u : HO} (p : Put H H' L o) (h : H b = some u) (n : b ≠ L) : H' b = some u := by rw [p.2 b n]; exact h
end
/-! ### texts as data -/
theorem ShN.str {n : Nat} {z : Str} (h : PyData.strOk z = true) : ShN n (.str z) := ⟨by simp [PyData.canLay0, h], by simp [PyData.depth]⟩
theorem dp_strs {K : PySem.W.Frag} {H : Hp} {p : Addr} {zs : List Str} (h : H p = some (.lst (zs.map V.str))) : Dp K H (.ref p) (.list (zs.map PyData.str)) := by
  refine .lst (SqL.of h) ?_
  clear h
  induction zs with
  | nil => exact .nil
  | cons z zs ih => exact .cons (.str z) ih
theorem sh_strs {n : Nat} {zs : List Str} (h : ∀ z ∈ zs, PyData.strOk z = true) : ShN (n + 1) (.list (zs.map PyData.str)) := (ShN.list (n := 0) fun d hd => by
  obtain ⟨z, hz, rfl⟩ := List.mem_map.mp hd; exact ShN.str (h z hz)).up (by omega)
theorem sh_ll {n : Nat} {x y u v : Str} (hx : PyData.strOk x = true) (hy : PyData.strOk y = true) (hu : PyData.strOk u = true) (hv : PyData.strOk v = true) : ShN (n + 2) (.list [.list [.str x, .str y], .list [.str u, .str v]]) := (ShN.list (n := 1) fun d h => by
  simp only [List.mem_cons, List.not_mem_nil, or_false] at h
  rcases h with rfl | rfl
  · exact sh_l2 (n := 0) hx hy
  · exact sh_l2 (n := 0) hu hv).up (by omega)
/-! ### the script -/
def rLenS (K : PySem.W.Frag) : List V → Hp → VK → Prop := fun xs H Q => ∃ p ys, xs = [.ref p] ∧ SqL K H p ys ∧ Q (.int ys.length) H
theorem call_lenS {X : Cx} : CallR X (.builtin "len") (rLenS X.K) := CallR.imp call_len_seq fun xs H Q ⟨p, ys, a, b, q⟩ => ⟨p, ys, a, .inl b, q⟩
theorem sqL_ext {K : PySem.W.Frag} {H H' : Hp} {a : Addr} {xs : List V} (h : SqL K H a xs) (e : LamX.ExtN H H') : SqL K H' a xs :=
  h.elim (fun h => .inl (h.elim (fun h => .inl (e _ _ h fun _ z => by cases z)) fun ⟨o, h⟩ => .inr ⟨o, e _ _ h fun _ z => by cases z⟩)) fun h => .inr h
section
open LamX
/-- as plam, with the tables of several defs -/
theorem plamT {X : Cx} {TS : List (Addr × Str)} {x a : Str} {st : Stmt} {N : List Str} {TT : (XK → Hp → VK → Prop) → Hp → VK → Prop} {c P : Addr} {qn : Str} {k : Nat} {params : Arguments} {body : Expr} {scope : Scope} {t : XK → TE} {p lpos pos : Pos}
    (F : ∃ (f : Addr) (fd : FuncData), X.mg x = some (.ref f) ∧ Fun X.K x x st f fd) (S : FnScope N [a] (defScope st))
    (hb : ∀ (kV doc pm : Value) (an : Option Addr) (cdv ct : Value) (us : List Value), us.length = [a].length → bindArgs (PySem.W.fnOf x x (defArgs st) (defBody st) (defScope st) .none kV doc pm an cdv ct) ⟨us, []⟩ = pure ([a].zip us))
    (hG : ∀ (g : Addr) (cdg : Value), GivesTo X N x (defScope st) g cdg (defBody st) a qn TT)
    (hm : (P, qn) ∈ TS) (hu : ∀ q ∈ TS, q.1 = P → q.2 = qn) (TB : TabB X.base X.mg c P) (hcode : X.env.code = .ref c) (hq : X.env.qual ++ "<lambda>" = qn) (hr : Room (k + 2) X.A) (L : lamSB X.env.scope scope = true)
    (hbody : ∀ (A : Around) (outer : List Env) (s : Shared) (H : Hp) (E : XK) (f c' : Addr), Room k (A.deeper (lamEnv X scope s.heap.objs.size f c')) → PE (lamCx X A outer s H E scope f c') body (t E))
    (hdef : defaultsOf params X.env = ([], []) := by rfl) (hg : Gl X x := by rfl) (hv : Vis (defScope st) a := by first | exact Or.inl rfl | exact Or.inr (Or.inl rfl)) (hNa : N[0]? = some a := by rfl)
    (hbind : ∀ (q : Str) (cl : List (Str × Addr)) (pm cv ctv : Value), bindArgs (PySem.W.kla_fn "<lambda>" q params body scope cl pm cv ctv) ⟨[], []⟩ = pure [] := by intros; rfl)
    (hdb : (x == ("__debug__" : Str)) = false := by decide) (hd : (a == ("__debug__" : Str)) = false := by decide) (hcd : (a == ("__classdict__" : Str)) = false := by decide) :
    PE X (.Call (.Name x p) [.Lambda params body scope lpos] [] pos) (tLam TS TT t) := by
  subst hq
  obtain ⟨g, fd, hmg, F⟩ := F
  obtain ⟨oc, od, kV, doc, pm, an, cdv, ct, osl, rfl, lk, hcg⟩ := F.ex
  exact pe_lamcall hg hmg F.kp lk hcg (.all (hb kV doc pm an cdv ct)) S hNa hv (hG g cdv) TB hcode hm hu hr (lamS_by L) hdef hbind hbody hdb hd hcd
end
end Iz
/-! One -/
set_option Elab.async false
set_option linter.all false
set_option maxRecDepth 100000
set_option maxHeartbeats 4000000
namespace Iz
open PySem PySem.Spec PyProof.Rows L2
open He (ga)
/-! ### x != y of a class that has __eq__ alone: object's own __ne__ turns it round -/
section
variable {prog : Program} {w : World} {A : Around} {E : Value → Shared → Prop} {s : Shared} {K : PySem.W.Frag} {x C L f : Addr} {h₀ : Heap} {m : Str → Option Value} {ox : Obj} {od : Option Obj} {b tb : Value}
theorem ne_bind (self : Value) : bindSpecial (.builtin "object.__ne__") self = pure (.builtin "object.__ne__", [self]) := PySem.F.cmp_object.ne.bind self
theorem ne_obj {Q : Value → Shared → Prop} (hu : A.in1.units < cLine) (X : K.In s.heap) (I : PySem.W.InstAt s.heap x ox C od) (hm : PySem.W.mroIn K C (.type "object") = some true) (he : PySem.W.findIn K (.ref C) "__eq__" = some (some (.ref f))) (hf : PySem.W.isFn K (.ref f) = true)
    (h : wpAny (model prog w) A.in1 (call (.ref f) [.ref x, b]) (fun v s' => ∃ r, v = .bool r ∧ Q (.bool (!r)) s') E s) : wpAny (model prog w) A (call (.builtin "object.__ne__") [.ref x, b]) Q E s := by
  refine wpAny_call (codeAny_call_builtin PySem.F.cmp_object.ne.plain PySem.F.cmpEntry_ne (PySem.W.check_slot (i := "object.__ne__") (owner := "object") (n := "__ne__") PySem.F.cmpKind_ne PySem.F.cmpSplit_ne (I.type.andThen (PySem.W.looks_mroIn X hm)) (PySem.F.cmpArgs_ne _ _) ?_))
  unfold Builtin.«object.__ne__»
  refine wpAny_bind (m := slotArgs "__ne__" 1 _) (wpAny_pure ?_)
  dsimp only
  refine wpAny_bind (m := cRoomFor _ _) (wpAny_cRoomFor hu ?_)
  refine wpAny_bind (m := callSpecialIfBound? (.ref x) (Str.ofString "__eq__") _) (PySem.W.ifBound_K X I he hf (wpAny_mono h (fun v s' z => ?_) fun _ _ y => y))
  obtain ⟨r, rfl, q⟩ := z
  dsimp only
  exact wpAny_bind (m := truthy (.bool r)) (wpAny_truthy_bool (wpAny_pure q))
theorem ne_rich {Q : Value → Shared → Prop} (hu : A.in1.units < cLine) (hu0 : A.units < cLine) (F : Fr h₀ L s.heap m) (X₀ : K.In h₀) (I : PySem.W.InstAt s.heap x ox C od) (hb : PySem.W.Looks (model prog w) s.heap (typeOf b) tb) (hn : PySem.W.notFirst K C tb = true) (hm : PySem.W.mroIn K C (.type "object") = some true)
    (hs : PySem.W.findIn K (.ref C) "__ne__" = some (some (.builtin "object.__ne__"))) (he : PySem.W.findIn K (.ref C) "__eq__" = some (some (.ref f))) (hf : PySem.W.isFn K (.ref f) = true)
    (h : wpAny (model prog w) A.in1 (call (.ref f) [.ref x, b]) (fun v s' => ∃ r, v = .bool r ∧ Q (.bool (!r)) s') E s) : wpAny (model prog w) A (richCompare .NotEq (.ref x) b) Q E s := by
  have X := X₀.keeps F.keep
  have asked : wpAny (model prog w) A (tryCompare (.ref x) (cmpInfo .NotEq).2.1 b) (fun r s' => ∃ v, r = some v ∧ Q v s') E s := by
    unfold tryCompare
    refine wpAny_bind (m := callSpecialIfBound? _ _ _) ?_
    simp only [callSpecialIfBound?, bindSpecialIfBound?]
    refine wpAny_holding (wpAny_bind (wpAny_bind (wpAny_bind (I.type.here ((PySem.W.looks_findIn X hs).here ?_)))))
    have fin : wpAny (model prog w) A (call (.builtin "object.__ne__") ([.ref x] ++ [b]) >>= fun v => pure (some v)) (fun r s' => wpAny (model prog w) A (match r with | some .notImplemented | none => pure none | some v => pure (some v)) (fun r s' => ∃ v, r = some v ∧ Q v s') E s') E s :=
      wpAny_bind (ne_obj hu X I hm he hf (wpAny_mono h (fun v s' z => by
        obtain ⟨r, rfl, q⟩ := z
        exact ⟨r, rfl, wpAny_pure (wpAny_pure ⟨_, rfl, q⟩)⟩) fun _ _ y => y))
    refine wpAny_bind (wpAny_askSetting (wpAny_ite ?_))
    split
    · exact wpAny_bind ((PySem.W.Looks.of_pure (ne_bind _)).here (wpAny_pure fin))
    · exact wpAny_tryCatch (wpAny_bind ((PySem.W.Looks.of_pure (ne_bind _)).here (wpAny_pure fin)))
  unfold richCompare
  simp only [oneThing_ref]
  refine wpAny_holding (wpAny_bind (wpAny_cRoomFor hu0 ?_))
  refine wpAny_bind (I.type.here (wpAny_bind (hb.here ?_)))
  split
  · rename_i q
    have e : PySem.W.subIn K tb (.ref C) = some false := by
      rcases Bool.or_eq_true_iff.mp hn with e | e
      · rw [beq_iff_eq.mp e] at q; simp at q
      · exact beq_iff_eq.mp e
    refine wpAny_bind ((PySem.W.looks_subIn X e).here ?_)
    simp only [Bool.false_eq_true, if_false]
    refine wpAny_bind (wpAny_mono asked (fun r s' z => ?_) fun _ _ y => y)
    obtain ⟨v, rfl, q⟩ := z
    exact wpAny_pure q
  · refine wpAny_bind (wpAny_pure ?_)
    simp only [Bool.false_eq_true, if_false]
    refine wpAny_bind (wpAny_mono asked (fun r s' z => ?_) fun _ _ y => y)
    obtain ⟨v, rfl, q⟩ := z
    exact wpAny_pure q
end
section
variable {X : Cx} {CX : CXT} {k : Nat} {x : Str} {ps : List Str} {sp : Sp} {E : XK}
theorem own_callA {A : Around} {f a : Addr} {fd : FuncData} {y : V} {u : Value} {pins : List (Addr × Obj)} {σ : L2.St} {H : Hp} {s : Shared} {Q : VK} {R : Value → Shared → Prop} (I : Inv X pins σ H s) (F : FnOk X.prog X.w X.K X.mg X.base CX k f fd ps sp) (hb : Binds X.K fd ps []) (hr : Room k A) (hA : A.frames = X.A.frames) (hx : Passes CX X E)
    (ry : RelV y u) (hsp : sp [.ref a, y] H Q E) (hR : ∀ v w H' s', Inv X pins σ H' s' → RelV v w → Q v H' → R w s') : wpAny (model X.prog X.w) A (call (.ref f) [.ref a, u]) R X.xe s := by
  have hl := F.len _ _ _ _ hsp
  have bd := hb s [.ref a, u] I.kIn (by simpa using hl)
  have e := I.env0
  have e0 : Env0 X.prog X.w X.K X.mg X.base A X.stack s H := ⟨hA ▸ e.frames, e.mod, e.bs, e.bsz, e.funs, e.frf, e.hok, e.bare⟩
  refine wpAny_call (codeAny_mono (F.run A X.stack s H ⟨[.ref a, u], []⟩ [.ref a, u] [.ref a, y] _ E hr e0 (by simpa using bd) (.cons rfl (.cons ry .nil)) hsp) fun r s' z => ?_)
  cases r with
  | error e => exact hx _ _ _ _ _ _ I z
  | ok fl =>
    cases fl with
    | ret w => obtain ⟨v, H', I', rv, q⟩ := I.after z; exact hR v w H' s' I' rv q
    | next => exact False.elim z
    | brk => exact False.elim z
    | cont => exact False.elim z
def rOwnNe (K : PySem.W.Frag) (C : Addr) (sp : Sp) (E : XK) : R2 := fun x y H Q => ∃ a dx fs, x = .ref a ∧ H a = some (.ins C dx fs) ∧ (∃ t, TyX K H y t ∧ PySem.W.notFirst K C t = true) ∧ sp [.ref a, y] H (fun v H' => ∃ b, v = .bl b ∧ Q (.bl (!b)) H') E
theorem op_ownNe (O : OkM X.prog X.w X.K X.mg X.base CX k x "__eq__" ps [] sp) (hm : PySem.W.mroIn X.K (ga X.K x) (.type "object") = some true) (hs : PySem.W.findIn X.K (.ref (ga X.K x)) "__ne__" = some (some (.builtin "object.__ne__"))) (hr : Room (k + 1) X.A) (hx : Passes CX X E) : OpR X (compareOp .NotEq) (rOwnNe X.K (ga X.K x) sp E) := by
  intro pins s σ H v0 y v u Q I rx ry h
  obtain ⟨a, dx, fs, rfl, ha, ⟨t, ty, nf⟩, hsp⟩ := h
  cases rx
  obtain ⟨f, fd, M, b, F⟩ := O.ex
  obtain ⟨ds, hd, hb⟩ := b 0 (Nat.le_refl _)
  cases hd
  obtain ⟨mA, O', _⟩ := ins_get I.hok ha
  obtain ⟨od, J, _⟩ := O'.look
  obtain ⟨mm, hF⟩ := I.fr
  refine ne_rich hr.in1.units0 hr.units0 hF I.ok.mod.kin J (looksTy I ry ty) nf hm hs M.at_ M.fn (own_callA I F hb hr.in1 rfl hx ry hsp fun v w H' s' I' rv q => ?_)
  obtain ⟨b, rfl, q⟩ := q
  cases rv
  exact ⟨b, rfl, .bl (!b), H', I', rfl, q⟩
theorem own_ne {K : PySem.W.Frag} {C a dx : Addr} {fs : List (Str × V)} {y : V} {H : Hp} {Q : VK} (h : H a = some (.ins C dx fs)) {t : Value} (ty : TyX K H y t) (n : PySem.W.notFirst K C t = true) (q : sp [.ref a, y] H (fun v H' => ∃ b, v = .bl b ∧ Q (.bl (!b)) H') E) : rOwnNe K C sp E (.ref a) y H Q := ⟨a, dx, fs, rfl, h, ⟨t, ty, n⟩, q⟩
end
/-! ### two truths in a list -/
theorem dp_bb {K : PySem.W.Frag} {H : Hp} {a : Addr} {x y : Bool} (h : H a = some (.lst [.bl x, .bl y])) : Dp K H (.ref a) (.list [.bool x, .bool y]) := .lst (SqL.of h) (.cons (.bl x) (.cons (.bl y) .nil))
theorem sh_bb {n : Nat} {x y : Bool} : ShN (n + 1) (.list [.bool x, .bool y]) := (ShN.list (n := 0) fun d h => by
  simp only [List.mem_cons, List.not_mem_nil, or_false] at h
  rcases h with rfl | rfl <;> exact .bool).up (by omega)
theorem eqv_bb {x y : Bool} : PyData.eqv (.list [.bool x, .bool y]) (.list [.bool true, .bool true]) = (x && y) := by
  cases x <;> cases y <;> simp [PyData.eqv, PyData.eqvAll]
/-! ### a list repeated -/
def rRepN : R2 := fun x y H Q => ∃ l k xs, x = .ref l ∧ y = .int k ∧ H l = some (.lst xs) ∧ -(2 ^ 63) ≤ k ∧ k < 2 ^ 63 ∧ xs.length * k.toNat ≤ sizeLine ∧ News H (.lst (List.replicate k.toNat xs).flatten) Q
theorem op_repN {X : Cx} : OpR X (binaryOp .Mult) rRepN := fun pins s σ H x y v u Q I rx ry ⟨l, k, xs, e1, e2, e3, e4, e5, e6, n⟩ => op_rep pins s σ H x y v u Q I rx ry ⟨l, k, xs, e1, e2, e3, e4, e5, e6, n.all⟩
end Iz
/-! Dn -/
set_option Elab.async false
set_option linter.all false
set_option maxRecDepth 100000
set_option maxHeartbeats 4000000
namespace Iz
open PySem PySem.Spec PyProof.Rows L2
/-! ### dicts whose keys are None or ints -/
def kN : Option Int → V
  | none => .non
  | some i => .int i
theorem kN_ov {o : Option Int} : kN o = ov o := by cases o <;> rfl
def kk (o : Option Int) : Option Key := o.map Sum.inl
theorem kk_inj {a b : Option Int} (h : kk a = kk b) : a = b := by cases a <;> cases b <;> simp_all [kk]
theorem kN_is {P : Program} {w : World} {k : Option Int} {u : Value} (r : RelV (ov k) u) : (noneKind P w).is (kk k) u = true := by
  cases k with
  | none => obtain rfl : u = Value.none := r; rfl
  | some i => exact kV_is (P := P) (w := w) (k := .inl i) r
theorem relV_keyN {k : Option Int} {u : Value} (h : nkIs (kk k) u = true) : RelV (ov k) u := by
  cases k with
  | none => exact nk_none h
  | some i => exact relV_key (k := .inl i) h
/-- the pairs as the library's -/
def kvK (kvs : List (Option Int × V)) : List (Option Key × V) := kvs.map fun p => (kk p.1, p.2)
theorem valV_kvK (kvs : List (Option Int × V)) (k : Option Int) : valV (kvK kvs) (kk k) = valV kvs k := by
  induction kvs with
  | nil => rfl
  | cons p r ih =>
    by_cases e : p.1 = k
    · rw [show kvK (p :: r) = (kk p.1, p.2) :: kvK r from rfl, valV_pos (p := (kk p.1, p.2)) (by rw [e]), valV_pos e]
    · rw [show kvK (p :: r) = (kk p.1, p.2) :: kvK r from rfl, valV_neg (p := (kk p.1, p.2)) (fun z => e (kk_inj z)), valV_neg e, ih]
theorem any_kvK (kvs : List (Option Int × V)) (k : Option Int) : ((kvK kvs).any fun kv => decide (kv.1 = kk k)) = kvs.any fun kv => decide (kv.1 = k) := by
  rw [valV_any, valV_any, valV_kvK]
theorem putK_kvK (kvs : List (Option Int × V)) (k : Option Int) (v : V) : putK (kvK kvs) (kk k) v = kvK (putK kvs k v) := by
  unfold putK
  rw [any_kvK]
  split
  · simp only [kvK, List.map_map]
    refine List.map_congr_left fun p _ => ?_
    by_cases e : p.1 = k
    · simp [e]
    · have : ¬ kk p.1 = kk k := fun z => e (kk_inj z)
      simp [e, this]
  · simp [kvK]
/-- the dict at a, its count of changes ep -/
def DN (P : Program) (w : World) (a : Addr) (kvs : List (Option Int × V)) (ep : Nat) : HO := .ext fun h => kvs.length ≤ sizeLine ∧ (a == sysModules) = false ∧ ∃ vs, KV (kvK kvs) vs ∧ h.DictAt (noneKind P w) a vs ep
section
variable {X : Cx} {pins : List (Addr × Obj)} {σ : L2.St} {H : Hp} {s : Shared}
theorem dn_new {P : Program} {w : World} {H : Hp} {h : Heap} {a : Addr} {kvs : List (Option Int × V)} {ep : Nat} {vs : List (Option Key × Value)} (z : kvs.length ≤ sizeLine) (hd : (a == sysModules) = false) (rel : KV (kvK kvs) vs) (dd : h.DictAt (noneKind P w) a vs ep) : ObjOk P w H h a (DN P w a kvs ep) := by
  have ⟨o, es, ho, _⟩ := dd
  refine ⟨⟨z, hd, vs, rel, dd⟩, ⟨o, ho⟩, fun h1 h2 p k => ?_⟩
  obtain ⟨z, hd, vs, rel, o, es, ho, r⟩ := p
  exact ⟨z, hd, vs, rel, o, es, k o ho, r⟩
theorem dn_get {a : Addr} {kvs : List (Option Int × V)} {ep : Nat} (I : Inv X pins σ H s) (ha : H a = some (DN X.prog X.w a kvs ep)) : kvs.length ≤ sizeLine ∧ (a == sysModules) = false ∧ ∃ vs, KV (kvK kvs) vs ∧ s.heap.DictAt (noneKind X.prog X.w) a vs ep := (I.hok a _ ha).1
/-- {} -/
def tDNew (P : Program) (w : World) : TE := fun _ H Q => ∀ p H', H p = none → Same H H' → H' p = some (DN P w p [] 0) → Q (.ref p) H'
theorem pe_dnN {pos : Pos} : PE X (.Dict [] [] pos) (tDNew X.prog X.w) := ⟨fun pins s σ H Q I h =>
  wpAny_Dict_empty ⟨.ref s.heap.objs.size, _, I.laid (a := s.heap.objs.size) (o := DN X.prog X.w s.heap.objs.size [] 0) (t' := s.toks) (fun _ _ q => Heap.get?_push_of_some _ q) (Nat.le_refl _)
    (dn_new (Nat.zero_le _) (beq_eq_false_iff_ne.mpr (Ne.symm (Nat.ne_of_lt I.big))) .nil ⟨_, #[], Heap.get?_push_size _ rfl, ⟨rfl, rfl, rfl⟩, rfl, fun _ he => by simp at he, Pairs.nil, List.nodup_nil⟩), rfl,
    h _ _ (I.hok.fresh (Nat.le_refl _)) (Same.upd (I.hok.fresh (Nat.le_refl _))) upd_same⟩⟩
/-- k in d -/
def rInDN (P : Program) (w : World) : R2 := fun x y H Q => ∃ k a kvs ep, x = ov k ∧ y = .ref a ∧ H a = some (DN P w a kvs ep) ∧ Q (.bl (valV kvs k).isSome) H
theorem op_inDN : OpR X (compareOp .In) (rInDN X.prog X.w) := by
  intro pins s σ H x y v u Q I rx ry h
  obtain ⟨k, a, kvs, ep, rfl, rfl, ha, q⟩ := h
  cases ry
  obtain ⟨z, hd, vs, rel, dd⟩ := dn_get I ha
  refine wpAny_in_of (kN_is rx) hd dd.dictOf.mapOf ?_
  rw [← (rel.val (kk k)).isSome_eq, valV_kvK]
  exact ⟨.bl _, H, I.tok _, rfl, q⟩
/-- d[k] -/
def rIxDN (P : Program) (w : World) : R2 := fun x y H Q => ∃ k a kvs ep v, x = .ref a ∧ y = ov k ∧ H a = some (DN P w a kvs ep) ∧ valV kvs k = some v ∧ Q v H
theorem ix_DN : IxR X (rIxDN X.prog X.w) := by
  intro value slice pins s σ H x y v u Q I rx ry h hs
  obtain ⟨k, a, kvs, ep, z0, rfl, rfl, ha, hv, q⟩ := h
  cases rx
  obtain ⟨z, hd, vs, rel, dd⟩ := dn_get I ha
  obtain ⟨w', hw, rw'⟩ := RelO.some_of (v := z0) (o := valueAt vs (kk k)) (by rw [← hv, ← valV_kvK]; exact rel.val (kk k))
  exact tail_any dd.dictOf.typeIs slot_dict_getitem.lookup (wpAny_getItem_of (kN_is ry) dd.dictOf.mapOf hw ⟨z0, H, I.tok _, rw', q⟩) hs
/-- d[k] = v -/
def rSetDN (P : Program) (w : World) : TSet := fun o i v H Q => ∃ a k kvs ep, o = .ref a ∧ i = ov k ∧ H a = some (DN P w a kvs ep) ∧ kvs.length < sizeLine ∧ ∀ ep' H', Put H H' a (DN P w a (putK kvs k v) ep') → Q H'
theorem set_DN : PSet X (rSetDN X.prog X.w) := by
  intro pins s σ H o i v ov' iv u Q I ro ri rv h
  obtain ⟨a, k, kvs, ep, rfl, rfl, ha, hl, q⟩ := h
  cases ro
  obtain ⟨z, hd, vs, rel, dd⟩ := dn_get I ha
  have hz : vs.length ≤ sizeLine := by rw [← rel.length]; simpa [kvK] using z
  have hl2 : (putK kvs k v).length ≤ sizeLine := by have := length_putK kvs k v; omega
  refine wpAny_setItem_pairs (hsz := hz) (kN_is ri) dd.dictOf fun h' dd' hs => ?_
  obtain ⟨ep', dd2⟩ := dd'.dictAt
  have he : ∃ q, h'.get? a = some q := let ⟨q, _, _, hq, _⟩ := dd'; ⟨q, hq⟩
  refine ⟨upd H a (DN X.prog X.w a (putK kvs k v) ep'), d_write I (by rw [ha]; exact True.intro) hs he (dn_new hl2 hd (vs := stored vs (kk k) u) (by rw [← putK_kvK]; exact rel.put (kk k) rv) dd2), q ep' _ ⟨upd_same, fun b hb => upd_ne hb⟩⟩
end
/-! ### for k in d, in a comprehension -/
def ItN (P : Program) (w : World) (d : Addr) (kvs : List (Option Int × V)) (ep : Nat) : It :=
  ⟨fun i H => H d = some (DN P w d kvs ep) ∧ i < kvs.length, fun i H x H' => H' = H ∧ ∃ k v, kvs[i]? = some (k, v) ∧ x = ov k, fun i H => H d = some (DN P w d kvs ep) ∧ kvs.length ≤ i⟩
theorem turn_DN {P : Program} {w : World} {K : PySem.W.Frag} {tg : Expr} {d : Addr} {ep : Nat} {kvs : List (Option Int × V)} (it : Addr) : Turn P w K tg (ItN P w d kvs ep) [it] it (fun i h => h.IsKeyIter it d i kvs.length ep) where
  mem := by simp
  obj := fun i h st b hb => by
    have e : b = it := by simpa using hb
    subst e
    obtain ⟨oi, e, c, dd⟩ := st
    exact ⟨oi, e, fun v z => by rw [dd] at z; cases z⟩
  keep := fun i h h' st k => st.at fun oi e => k it (by simp) oi e
  item := by
    intro X hP hw hK hc i pins s σ H E I hf st hg
    subst hP hw hK
    obtain ⟨hd, hi⟩ := hg
    obtain ⟨f0, f1, f2, f3, f4, f5⟩ := hf it (by simp)
    obtain ⟨z, hs, vs, kv, hm⟩ := dn_get I hd
    obtain ⟨⟨k, v⟩, hkv⟩ : ∃ p, kvs[i]? = some p := ⟨kvs[i], List.getElem?_eq_getElem hi⟩
    have hkv2 : (kvK kvs)[i]? = some (kk k, v) := by simp [kvK, hkv]
    obtain ⟨u, hu, ru⟩ := kv_get kv hkv2
    have hl : kvs.length = vs.length := by rw [← kv.length]; simp [kvK]
    rw [hl] at st
    refine wpAny_pyNext_dict_item st hm hu fun key h' hkey st' sb => ?_
    have I1 : Inv X pins σ H { s with heap := h' } := I.turned (t' := s.toks) (fun b ob hb e => (sb.2 b hb).trans e) f0 f1 f3 f4 f5
    obtain ⟨oi, e, c, dd⟩ := id st'
    refine ⟨key, rfl, go_of (s := { s with heap := h' }) e c dd (by decide) ⟨ov k, H, I1, relV_keyN (show nkIs (kk k) key = true from hkey), ⟨rfl, k, v, hkv, rfl⟩, ?_, fun b hb => (hf b hb).1⟩⟩
    show h'.IsKeyIter it d (i + 1) kvs.length _
    rw [hl]
    exact st'
  done := by
    intro X hP hw hK hc i pins s σ H E I hf st hg
    subst hP hw hK
    obtain ⟨hd, hi⟩ := hg
    obtain ⟨f0, f1, f2, f3, f4, f5⟩ := hf it (by simp)
    obtain ⟨z, hs, vs, kv, hm⟩ := dn_get I hd
    have hl : kvs.length = vs.length := by rw [← kv.length]; simp [kvK]
    obtain ⟨o, es, ho, hx, hdt, hk, hp, hn⟩ := hm
    have hsz : es.size = kvs.length := by have := hp.length; rw [Array.length_toList] at this; omega
    exact next_key_end (I.ok.hd hc) st ho hdt hsz hi fun h' eb => ⟨rfl, I.turned (t' := s.toks) (fun b ob hb e => eb b ob hb e) f0 f1 f3 f4 f5⟩
  self := fun A i s Q E st h => wpAny_pyIter_keyiter st h
def iDN (P : Program) (w : World) (td : TE) : TI := fun σ H R => td σ H fun x H1 => ∃ d kvs ep, x = .ref d ∧ H1 d = some (DN P w d kvs ep) ∧ R (ItN P w d kvs ep) H1
theorem pi_DN {X : Cx} {tg e : Expr} {td : TE} (he : PE X e td) : PI X tg e (iDN X.prog X.w td) := by
  refine ⟨fun pins s σ H R I h => ?_⟩
  refine thn (he.run pins s σ H _ I h) fun u s1 ⟨x, H1, I1, rx, d, kvs, ep, ex, hd, q⟩ => ?_
  subst ex
  obtain rfl : u = Value.ref d := rx
  obtain ⟨z, hs, vs, kv, hm⟩ := dn_get I1 hd
  have hl : kvs.length = vs.length := by rw [← kv.length]; simp [kvK]
  obtain ⟨o, es, ho, hx, hdt, hk, hp, hn⟩ := hm
  have hsz : es.size = kvs.length := by have := hp.length; rw [Array.length_toList] at this; omega
  refine iter_keys hs ho hx hdt (pi_one (tk := s1.toks) I1 _ (turn_DN (ep := ep) _) ⟨_, Heap.get?_push_size _ rfl, rfl, ?_⟩ q)
  rw [hsz] <;> rfl
theorem walk_DN {P : Program} {w : World} {d : Addr} {ep : Nat} {kvs : List (Option Int × V)} : Walk (ItN P w d kvs ep) kvs.length (fun H => H d = some (DN P w d kvs ep)) (fun i H x H' => H' = H ∧ ∃ k v, kvs[i]? = some (k, v) ∧ x = ov k) :=
  ⟨fun _ _ hi q => ⟨q, hi⟩, fun _ q => ⟨q, Nat.le_refl _⟩, fun _ _ _ _ _ _ y => y⟩
/-- [f(k) for k in d if p(k)] -/
theorem st_lcDN {P : Program} {w : World} {g : TG} {tl : TE} {tt : TT} {te : TE} {vs : List Nat} {σ : L2.St} {H : Hp} {Q : VK} {a : Addr} {kvs : List (Option Int × V)} {ep : Nat} (ha : ∀ R : V → Hp → Prop, R (.ref a) H → tl σ H R) (hx : H a = some (DN P w a kvs ep)) (hz : kvs.length ≤ sizeLine) (p : Option Int → Bool) (f : Option Int → V)
    (hs : ∀ x H' (A : Hp → Prop) (B : VK), x ∈ kvs.map (·.1) → Same H H' → (p x = false → ∀ H3, Same H' H3 → A H3) → (p x = true → ∀ H4, Same H' H4 → B (f x) H4) →
      g (ov x) (wipe σ vs) H' fun σ2 H2 => wipe σ2 vs = wipe σ vs ∧ tt σ2 H2 fun b H3 => if b = true then te σ2 H3 B else A H3)
    (hd : ∀ D H', H D = none → Same H H' → H' D = some (.lst (((kvs.map (·.1)).filter p).map f)) → Q (.ref D) H') : tLc (iDN P w tl) g tt te vs σ H Q := by
  refine ha _ ⟨a, kvs, ep, rfl, hx, fun D hD => lc_it walk_DN (fun i H' => Same H H' ∧ H' D = some (.lst ((((kvs.map (·.1)).take i).filter p).map f))) ⟨Same.upd hD, upd_same⟩ (fun i H' _ q => q.1 _ _ hx) (fun i x H' H'' hi q y => ?_) (fun H' q => hd D H' hD q.1 (by rw [q.2, show kvs.length = (kvs.map (·.1)).length by simp, List.take_length]))⟩
  obtain ⟨rfl, k, v, hk, rfl⟩ := y
  have hi2 : (kvs.map (·.1))[i]? = some k := by simp [hk]
  refine hs k H'' _ _ (List.mem_of_getElem? hi2) q.1 (fun e H3 s3 => ⟨q.1.trans s3, ?_⟩) (fun e H4 s4 => ⟨_, s4 _ _ q.2, ?_, ?_, ?_⟩)
  · rw [s3 _ _ q.2, take_filter_succ hi2, e]; simp
  · have h1 : (((kvs.map (·.1)).take i).filter p).length ≤ ((kvs.map (·.1)).take i).length := List.length_filter_le _ _
    have h2 : ((kvs.map (·.1)).take i).length ≤ i := by rw [List.length_take]; exact Nat.min_le_left _ _
    rw [List.length_map]; omega
  · exact fun b u e2 => by
      have hb : b ≠ D := ne_of_none e2 hD
      rw [upd_ne hb]; exact s4 _ _ (q.1 _ _ e2)
  · rw [upd_same, take_filter_succ hi2, e]; simp
end Iz
/-! Tr -/
set_option Elab.async false
set_option linter.all false
set_option maxRecDepth 100000
set_option maxHeartbeats 4000000
namespace Iz
open PySem PySem.Spec PyProof.Rows L2
/-! ### told rows: the mathematics -/
abbrev PP := Option Int × Option Int
def inB (lo hi : Option Int) (i : Int) : Bool := (match lo with | none => true | some l => decide (l ≤ i)) && (match hi with | none => true | some h => decide (i < h))
def has (ps : List PP) (i : Int) : Bool := ps.any fun q => inB q.1 q.2 i
theorem has_iff {ps : List PP} {i : Int} : has ps i = true ↔ ∃ q ∈ ps, inB q.1 q.2 i = true := by simp only [has, List.any_eq_true]
theorem has_nil {i : Int} : has [] i = false := rfl
theorem has_app {ps qs : List PP} {i : Int} : has (ps ++ qs) i = (has ps i || has qs i) := by simp [has]
theorem has_one {q : PP} {i : Int} : has [q] i = inB q.1 q.2 i := by simp [has]
theorem has_take {ps : List PP} {i : Nat} {q : PP} (h : ps[i]? = some q) {j : Int} : has (ps.take (i + 1)) j = (has (ps.take i) j || inB q.1 q.2 j) := by rw [List.take_succ, h, has_app]; simp [has_one]
def okB : PP → Prop
  | (some a, some b) => a < b
  | _ => True
def ghigh : Option Int → Option Int → Option Int
  | none, _ => none
  | _, none => none
  | some a, some b => some (if a > b then a else b)
theorem in_ghigh {l h h' : Option Int} {i : Int} : inB l (ghigh h h') i = (inB l h i || inB l h' i) := by
  cases h with
  | none => cases l <;> cases h' <;> simp [inB, ghigh] <;> (intros; assumption)
  | some a => cases h' with
    | none => cases l <;> simp [inB, ghigh] <;> (intros; assumption)
    | some b =>
      have : decide (i < if a > b then a else b) = (decide (i < a) || decide (i < b)) := by
        by_cases h1 : i < a <;> by_cases h2 : i < b <;> simp [h1, h2] <;> split <;> omega
      cases l <;> simp only [inB, ghigh, this, Bool.true_and, Bool.and_or_distrib_left]
theorem okB_ghigh {l h h' : Option Int} (k : okB (l, h)) : okB (l, ghigh h h') := by
  cases l <;> cases h <;> cases h' <;> simp_all [okB, ghigh]
  split <;> omega
def keyO (ts : List PP) (k : Option Int) : Option (Option Int) := (ts.find? fun p => decide (p.1 = k)).map (·.2)
def putO (ts : List PP) (k v : Option Int) : List PP := if (ts.any fun p => decide (p.1 = k)) = true then ts.map (fun p => if p.1 = k then (p.1, v) else p) else ts ++ [(k, v)]
def toV (ts : List PP) : List (Option Int × V) := ts.map fun p => (p.1, ov p.2)
theorem valV_toV (ts : List PP) (k : Option Int) : valV (toV ts) k = (keyO ts k).map ov := by
  induction ts with
  | nil => rfl
  | cons p r ih =>
    by_cases e : p.1 = k
    · rw [show toV (p :: r) = (p.1, ov p.2) :: toV r from rfl, valV_pos (p := (p.1, ov p.2)) e]; simp [keyO, e]
    · rw [show toV (p :: r) = (p.1, ov p.2) :: toV r from rfl, valV_neg (p := (p.1, ov p.2)) e, ih]; simp [keyO, e]
theorem any_toV (ts : List PP) (k : Option Int) : ((toV ts).any fun kv => decide (kv.1 = k)) = ts.any fun p => decide (p.1 = k) := by simp [toV, List.any_map, Function.comp_def]
theorem putK_toV (ts : List PP) (k v : Option Int) : putK (toV ts) k (ov v) = toV (putO ts k v) := by
  unfold putK putO
  rw [any_toV]
  split
  · simp only [toV, List.map_map]
    refine List.map_congr_left fun p _ => ?_
    by_cases e : p.1 = k <;> simp [e]
  · simp [toV]
abbrev NdK (ts : List PP) : Prop := (ts.map (·.1)).Nodup
theorem keyO_mem {ts : List PP} {k h : Option Int} (e : keyO ts k = some h) : (k, h) ∈ ts := by
  unfold keyO at e
  obtain ⟨p, hp, rfl⟩ := Option.map_eq_some_iff.mp e
  have h1 := List.mem_of_find?_eq_some hp
  have h2 := List.find?_some hp
  simp only [decide_eq_true_eq] at h2
  subst h2
  exact h1
theorem mem_keyO {ts : List PP} (n : NdK ts) {q : PP} (h : q ∈ ts) : keyO ts q.1 = some q.2 := by
  induction ts with
  | nil => simp at h
  | cons p r ih =>
    simp only [NdK, List.map_cons, List.nodup_cons] at n
    rcases List.mem_cons.mp h with rfl | h
    · simp [keyO]
    · have ne : ¬ p.1 = q.1 := fun z => n.1 (by rw [z]; exact List.mem_map.mpr ⟨q, h, rfl⟩)
      have := ih n.2 h
      simp only [keyO, List.find?_cons, decide_eq_false ne] at this ⊢
      exact this
theorem any_keyO {ts : List PP} {k : Option Int} : (ts.any fun p => decide (p.1 = k)) = (keyO ts k).isSome := by
  unfold keyO
  rw [Option.isSome_map]
  induction ts with
  | nil => rfl
  | cons p r ih => by_cases e : p.1 = k <;> simp [e, ih]
theorem has_putO_some {ts : List PP} (n : NdK ts) {k h h' : Option Int} (e : keyO ts k = some h) {i : Int} : has (putO ts k (ghigh h h')) i = (has ts i || inB k h' i) := by
  rw [Bool.eq_iff_iff, Bool.or_eq_true, has_iff, has_iff]
  unfold putO
  rw [if_pos (by rw [any_keyO, e]; rfl)]
  constructor
  · rintro ⟨q, hq, hi⟩
    obtain ⟨p, hp, rfl⟩ := List.mem_map.mp hq
    by_cases c : p.1 = k
    · have e2 := mem_keyO n hp
      rw [c, e] at e2
      rw [if_pos c] at hi
      simp only [in_ghigh, Bool.or_eq_true] at hi
      rcases hi with hi | hi
      · exact .inl ⟨p, hp, by rw [← Option.some.inj e2]; exact hi⟩
      · exact .inr (by rw [← c]; exact hi)
    · rw [if_neg c] at hi; exact .inl ⟨p, hp, hi⟩
  · rintro (⟨p, hp, hi⟩ | hi)
    · refine ⟨_, List.mem_map.mpr ⟨p, hp, rfl⟩, ?_⟩
      by_cases c : p.1 = k
      · have e2 := mem_keyO n hp
        rw [c, e] at e2
        rw [if_pos c]
        simp only [in_ghigh, Option.some.inj e2, hi, Bool.true_or]
      · rw [if_neg c]; exact hi
    · refine ⟨_, List.mem_map.mpr ⟨(k, h), keyO_mem e, rfl⟩, ?_⟩
      rw [if_pos rfl]
      simp only [in_ghigh, hi, Bool.or_true]
theorem has_putO_none {ts : List PP} {k h' : Option Int} (e : keyO ts k = none) {i : Int} : has (putO ts k h') i = (has ts i || inB k h' i) := by
  unfold putO
  rw [if_neg (by rw [any_keyO, e]; decide), has_app, has_one]
theorem putO_nd {ts : List PP} (n : NdK ts) {k v : Option Int} : NdK (putO ts k v) := by
  unfold putO
  split
  · have : (ts.map fun p => if p.1 = k then (p.1, v) else p).map (·.1) = ts.map (·.1) := by
      rw [List.map_map]
      refine List.map_congr_left fun p _ => ?_
      by_cases e : p.1 = k <;> simp [e]
    unfold NdK; rw [this]; exact n
  · rename_i h
    rw [List.any_eq_true] at h
    simp only [NdK, List.map_append, List.map_cons, List.map_nil]
    refine List.nodup_append.mpr ⟨n, by simp, fun a ha b hb => ?_⟩
    simp only [List.mem_singleton] at hb
    subst hb
    rintro rfl
    obtain ⟨p, hp, rfl⟩ := List.mem_map.mp ha
    exact h ⟨p, hp, by simp⟩
theorem putO_ok {ts : List PP} (o : ∀ q ∈ ts, okB q) {k v : Option Int} (hk : okB (k, v)) : ∀ q ∈ putO ts k v, okB q := by
  unfold putO
  split
  · intro q hq
    obtain ⟨p, hp, rfl⟩ := List.mem_map.mp hq
    by_cases e : p.1 = k
    · rw [if_pos e, e]; exact hk
    · rw [if_neg e]; exact o p hp
  · intro q hq
    rcases List.mem_append.mp hq with h | h
    · exact o q h
    · rw [List.mem_singleton.mp h]; exact hk
theorem putO_len {ts : List PP} {k v : Option Int} : (putO ts k v).length ≤ ts.length + 1 := by unfold putO; split <;> simp
/-- none is least -/
def ltL : Option Int → Option Int → Prop
  | none, some _ => True
  | some a, some b => a < b
  | _, none => False
def leL : Option Int → Option Int → Prop
  | none, _ => True
  | some a, some b => a ≤ b
  | some _, none => False
abbrev Asc (qs : List PP) : Prop := qs.Pairwise fun p q => ltL p.1 q.1
def lowsO (ts : List PP) : List Int := ts.filterMap (·.1)
def valO (ts : List PP) (k : Option Int) : Option Int := (keyO ts k).getD none
def ascO (ts : List PP) (ys : List Int) : List PP := (if (keyO ts none).isSome = true then [(none, valO ts none)] else []) ++ ys.map fun l => (some l, valO ts (some l))
theorem mem_lowsO {ts : List PP} {l : Int} : l ∈ lowsO ts ↔ ∃ h, (some l, h) ∈ ts := by
  simp only [lowsO, List.mem_filterMap]
  constructor
  · rintro ⟨p, hp, e⟩; exact ⟨p.2, by rw [← e]; exact hp⟩
  · rintro ⟨h, hp⟩; exact ⟨_, hp, rfl⟩
theorem mem_ascO {ts : List PP} (n : NdK ts) {ys : List Int} (hy : ys.Perm (lowsO ts)) {q : PP} : q ∈ ascO ts ys ↔ q ∈ ts := by
  have val : ∀ {k h}, (k, h) ∈ ts → valO ts k = h := fun {k h} m => by unfold valO; rw [mem_keyO n m]; rfl
  simp only [ascO, List.mem_append, List.mem_map, hy.mem_iff, mem_lowsO]
  obtain ⟨k, h⟩ := q
  constructor
  · rintro (c | ⟨l, ⟨h2, m⟩, e⟩)
    · split at c
      · rename_i hs
        obtain ⟨h2, e2⟩ := Option.isSome_iff_exists.mp hs
        have m := keyO_mem e2
        rw [val m, List.mem_singleton] at c
        rw [c]; exact m
      · simp at c
    · rw [val m] at e; rw [← e]; exact m
  · intro m
    cases k with
    | none => exact .inl (by rw [if_pos (by rw [mem_keyO n m]; rfl), val m]; simp)
    | some l => exact .inr ⟨l, ⟨h, m⟩, by rw [val m]⟩
theorem has_ascO {ts : List PP} (n : NdK ts) {ys : List Int} (hy : ys.Perm (lowsO ts)) {i : Int} : has (ascO ts ys) i = has ts i := by
  rw [Bool.eq_iff_iff, has_iff, has_iff]
  simp only [mem_ascO n hy]
theorem lowsO_nd {ts : List PP} (n : NdK ts) : (lowsO ts).Nodup := by
  have : lowsO ts = (ts.map (·.1)).filterMap id := by simp [lowsO, List.filterMap_map, Function.comp_def]
  rw [this]
  refine List.Pairwise.filterMap id (R := (· ≠ ·)) (S := (· ≠ ·)) (fun a b h c hc d hd e => h ?_) n
  simp only [id] at hc hd
  rw [hc, hd, e]
theorem ascO_asc {ts : List PP} (n : NdK ts) {ys : List Int} (hy : ys.Perm (lowsO ts)) (hs : ys.Pairwise (· ≤ ·)) : Asc (ascO ts ys) := by
  have nd : ys.Nodup := hy.nodup_iff.mpr (lowsO_nd n)
  have lt : ys.Pairwise (· < ·) := (hs.and nd).imp fun h => by have h1 := h.1; have h2 := h.2; omega
  refine List.pairwise_append.mpr ⟨by split <;> simp, List.pairwise_map.mpr (lt.imp fun h => h), fun p hp q hq => ?_⟩
  split at hp
  · rw [List.mem_singleton.mp hp]
    obtain ⟨l, _, rfl⟩ := List.mem_map.mp hq
    trivial
  · simp at hp
theorem lows_map (ts : List PP) : (((toV ts).map (·.1)).filter Option.isSome).map (fun o => V.int (o.getD 0)) = (lowsO ts).map V.int := by
  induction ts with
  | nil => rfl
  | cons p r ih =>
    have e : toV (p :: r) = (p.1, ov p.2) :: toV r := rfl
    rw [e]
    obtain ⟨l, h⟩ := p
    cases l with
    | none => simpa [lowsO, List.filter_cons] using ih
    | some a => simpa [lowsO, List.filter_cons] using ih
theorem ascO_len {ts : List PP} {ys : List Int} (hy : ys.Perm (lowsO ts)) : (ascO ts ys).length ≤ ts.length := by
  have key : (lowsO ts).length + (if (ts.any fun p => decide (p.1 = none)) = true then 1 else 0) ≤ ts.length := by
    clear hy
    induction ts with
    | nil => simp [lowsO]
    | cons p r ih =>
      obtain ⟨l, h⟩ := p
      have e : lowsO ((l, h) :: r) = (match l with | none => lowsO r | some a => a :: lowsO r) := by cases l <;> rfl
      rw [e]
      cases l with
      | none => simp only [List.any_cons, decide_true, Bool.true_or, if_true, List.length_cons]; split at ih <;> omega
      | some a => simp only [List.any_cons, List.length_cons, show decide (some a = (none : Option Int)) = false from rfl, Bool.false_or]; split at ih <;> rename_i c <;> simp only [c, if_true, if_false, Bool.false_eq_true] <;> omega
  rw [any_keyO] at key
  unfold ascO
  rw [List.length_append, List.length_map, hy.length_eq]
  split at key <;> rename_i c <;> simp only [c, if_true, if_false, Bool.false_eq_true, List.length_cons, List.length_nil] <;> omega
/-! the row -/
def gapP (p q : PP) : Prop := ∃ h l, p.2 = some h ∧ q.1 = some l ∧ h < l
structure Norm (rs : List PP) : Prop where
  ok : ∀ p ∈ rs, okB p
  gap : rs.Pairwise gapP
theorem Norm.nil : Norm [] := ⟨by simp, .nil⟩
theorem Norm.app {rs : List PP} (N : Norm rs) {q : PP} (hq : okB q) (hl : ∀ p, rs.getLast? = some p → gapP p q) : Norm (rs ++ [q]) := by
  refine ⟨fun p hp => (List.mem_append.mp hp).elim (N.ok p) fun h => by rw [List.mem_singleton.mp h]; exact hq, List.pairwise_append.mpr ⟨N.gap, by simp, fun p hp x hx => ?_⟩⟩
  rw [List.mem_singleton.mp hx]
  clear hx x
  rcases List.eq_nil_or_concat rs with rfl | ⟨r0, z, rfl⟩
  · simp at hp
  · have hz := hl z (by simp)
    rw [List.concat_eq_append] at hp N
    rcases List.mem_append.mp hp with h | h
    · have g := (List.pairwise_append.mp N.gap).2.2 p h z (by simp)
      have okz := N.ok z (by simp)
      obtain ⟨h1, l1, e1, e2, lt1⟩ := g
      obtain ⟨h2, l2, e3, e4, lt2⟩ := hz
      obtain ⟨zl, zh⟩ := z
      simp only at e2 e3
      subst e2 e3
      have okz : l1 < h2 := okz
      exact ⟨h1, l2, e1, e4, by omega⟩
    · rw [List.mem_singleton.mp h]; exact hz
theorem Norm.merge {r0 : List PP} {b e h : Option Int} (N : Norm (r0 ++ [(b, e)])) : Norm (r0 ++ [(b, ghigh e h)]) := by
  obtain ⟨g1, _, g3⟩ := List.pairwise_append.mp N.gap
  refine ⟨fun p hp => ?_, List.pairwise_append.mpr ⟨g1, by simp, fun p hp x hx => ?_⟩⟩
  · rcases List.mem_append.mp hp with h | h
    · exact N.ok p (List.mem_append.mpr (.inl h))
    · rw [List.mem_singleton.mp h]; exact okB_ghigh (N.ok (b, e) (by simp))
  · rw [List.mem_singleton.mp hx]
    exact g3 p hp (b, e) (by simp)
theorem has_merge {r0 : List PP} {b e l h : Option Int} {i : Int} (hb : leL b l) (hl : e = none ∨ ∃ x y, l = some x ∧ e = some y ∧ x ≤ y) : has (r0 ++ [(b, ghigh e h)]) i = (has (r0 ++ [(b, e)]) i || inB l h i) := by
  simp only [has_app, has_one, in_ghigh, Bool.or_assoc]
  congr 1
  rcases hl with rfl | ⟨x, y, rfl, rfl, hxy⟩
  · cases b with
    | none => simp [inB]
    | some b0 => cases l with
      | none => exact hb.elim
      | some l0 =>
        have hb : b0 ≤ l0 := hb
        cases h with
        | none => by_cases c : b0 ≤ i <;> by_cases c2 : l0 ≤ i <;> simp [inB, c, c2]; omega
        | some h0 => by_cases c : b0 ≤ i <;> by_cases c2 : l0 ≤ i <;> by_cases c3 : i < h0 <;> simp [inB, c, c2, c3]; omega
  · cases b with
    | none =>
      cases h with
      | none => by_cases c : i < y <;> by_cases c2 : x ≤ i <;> simp [inB, c, c2]; omega
      | some h0 => by_cases c : i < y <;> by_cases c2 : x ≤ i <;> by_cases c3 : i < h0 <;> simp [inB, c, c2, c3]; omega
    | some b0 =>
      have hb : b0 ≤ x := hb
      cases h with
      | none => by_cases c0 : b0 ≤ i <;> by_cases c : i < y <;> by_cases c2 : x ≤ i <;> simp [inB, c, c2, c0] <;> omega
      | some h0 => by_cases c0 : b0 ≤ i <;> by_cases c : i < y <;> by_cases c2 : x ≤ i <;> by_cases c3 : i < h0 <;> simp [inB, c, c2, c3, c0] <;> omega
end Iz
/-! Sp -/
set_option Elab.async false
set_option linter.all false
set_option maxRecDepth 100000
set_option maxHeartbeats 4000000
namespace Iz
open PySem PySem.Spec PyProof.Rows L2
/-! ### xs.pop(), tuple(xs), enumerate, isinstance of several classes -/
def tPop (to : TE) : TE := fun σ H Q => to σ H fun x H1 => ∃ l xs y, x = .ref l ∧ H1 l = some (.lst (xs ++ [y])) ∧ ∀ H3, Put H1 H3 l (.lst xs) → Q y H3
theorem pe_popN {X : Cx} {o : Expr} {to : TE} {apos cpos : Pos} (ho : PE X o to)
    (hbase : attributeBase o "pop" X.env (eval o X.env) = eval o X.env := by rfl) (hline : (apos.endLine == cpos.line) = true := by rfl) : PE X (.Call (.Attribute o "pop" apos) [] [] cpos) (tPop to) :=
  PE.imp (pe_bm0 PySem.F.plainAttrs_list PySem.F.slot_list_pop PySem.F.type_list_pop mt_pop (PE.mcl ho) hbase hline) fun σ H Q q =>
    ⟨_, q, fun x H1 ⟨l, xs, y, hx, hl, q⟩ => by subst hx; exact ⟨.inl ⟨rfl, _, SqL.of hl⟩, l, _, y, rfl, rfl, hl, by simp, q _ ⟨by rw [upd_same, List.dropLast_concat], fun _ h => upd_ne h⟩⟩⟩
def rTupN : List V → Hp → VK → Prop := fun xs H Q => ∃ p ys, xs = [.ref p] ∧ H p = some (.lst ys) ∧ News H (.tup ys) Q
theorem call_tupN {X : Cx} : CallR X (.type "tuple") rTupN := fun pins s σ H xs us Q I r ⟨p, ys, e, hp, n⟩ => call_tuple_of pins s σ H xs us Q I r ⟨p, ys, e, .inl ⟨SqL.of hp, n.all⟩⟩
theorem st_forE {K : PySem.W.Frag} {g : TG} {tb : TS} {D : Ends} {σ : L2.St} {H : Hp} {ta : TA} {a : Addr} {xs : List V} (ha : ∀ R : List V → Hp → Prop, R [.ref a] H → ta σ H R) (hx : H a = some (.lst xs)) (Pv : Nat → L2.St → Hp → Prop) (h0 : Pv 0 σ H) (hl : ∀ i σ H, Pv i σ H → H a = some (.lst xs))
    (hs : ∀ i x T σ H H', xs[i]? = some x → Pv i σ H → Same H H' → H' T = some (.tup [.int (i : Nat), x]) → g (.ref T) σ H' fun σ2 H2 => tb { D with nx := Pv (i + 1), ct := Pv (i + 1), bk := D.nx } σ2 H2) (hd : ∀ σ H, Pv xs.length σ H → D.nx σ H) : tFor (iEnum K ta) g tb D σ H :=
  ha _ ⟨a, xs, rfl, SqL.of hx, for_it walk_enum Pv h0 (fun i σ H _ p => SqL.of (hl i σ H p)) (fun i v σ H H' hi p y => by
    obtain ⟨T, x, z, rfl, hT, rfl, e1, e2⟩ := y
    cases e1
    exact hs i z T σ H _ e2 p (Same.upd hT) upd_same) hd⟩
/-- a comprehension over the pairs of a list -/
theorem ix_DNk {X : Cx} {P : Program} {w : World} (e : X.prog = P) (e2 : X.w = w) : IxR X (rIxDN P w) := e ▸ e2 ▸ ix_DN
theorem op_inDNk {X : Cx} {P : Program} {w : World} (e : X.prog = P) (e2 : X.w = w) : OpR X (compareOp .In) (rInDN P w) := e ▸ e2 ▸ op_inDN
theorem set_DNk {X : Cx} {P : Program} {w : World} (e : X.prog = P) (e2 : X.w = w) : PSet X (rSetDN P w) := e ▸ e2 ▸ set_DN
theorem pi_DNk {X : Cx} {P : Program} {w : World} (e : X.prog = P) (e2 : X.w = w) {tg x : Expr} {td : TE} (he : PE X x td) : PI X tg x (iDN P w td) := by subst e e2; exact pi_DN he
theorem pe_dnNk {X : Cx} {P : Program} {w : World} (e : X.prog = P) (e2 : X.w = w) {pos : Pos} : PE X (.Dict [] [] pos) (tDNew P w) := by subst e e2; exact pe_dnN
/-! ### what may raise, asked where it does not -/
def calmS (sp : Sp) : Sp := fun vs H Q _ => sp vs H Q (fun _ _ _ => False)
section
variable {P : Program} {w : World} {K : PySem.W.Frag} {mg : Str → Option Value} {base : Heap} {k : Nat} {x m : Str} {ps : List Str} {dvs : List V} {sp : Sp}
theorem fn_calm {f : Addr} {fd : FuncData} (F : FnOk P w K mg base (L2.CX P w) k f fd ps sp) : FnOk P w K mg base CX0 k f fd ps (calmS sp) :=
  ⟨fun vs H Q E q => F.len vs H Q _ q, fun A outer s H args us vs Q E hr he hb hv hs => codeAny_mono (F.run A outer s H args us vs Q _ hr he hb hv hs) fun r s' q => by
    cases r with
    | error e => obtain ⟨_, _, _, _, _, _, _, _, _, _, _, _, z⟩ := q; exact z.elim
    | ok fl => cases fl <;> exact q⟩
theorem OkF.calm (F : OkF P w K mg base (L2.CX P w) k x ps sp) : OkF P w K mg base CX0 k x ps (calmS sp) :=
  let ⟨f, fd, g, kp, b, G⟩ := F.ex
  ⟨f, fd, g, kp, b, fn_calm G⟩
theorem OkM.calm (F : OkM P w K mg base (L2.CX P w) k x m ps dvs sp) : OkM P w K mg base CX0 k x m ps dvs (calmS sp) :=
  let ⟨f, fd, M, b, G⟩ := F.ex
  ⟨f, fd, M, b, fn_calm G⟩
theorem OkK.calm (F : OkK P w K mg base (L2.CX P w) k x ps dvs sp) : OkK P w K mg base CX0 k x ps dvs (calmS sp) :=
  let ⟨f, fd, si, M, g, b, G, q⟩ := F.ex
  ⟨f, fd, calmS si, M, g, b, fn_calm G, fun vs H Q E h p dx h1 h2 h3 => q vs H Q _ h p dx h1 h2 h3⟩
end
theorem BindD.cut {K : PySem.W.Frag} {fd : FuncData} {ps : List Str} {d : V} (b : BindD K fd ps [d]) : BindD K fd ps [] := fun j hj => by
  obtain ⟨ds, h1, h2⟩ := b 1 (Nat.le_refl _)
  exact ⟨ds, by rw [List.drop_nil]; exact h1, h2⟩
theorem lc_inT {K : PySem.W.Frag} {tl : TE} {g : TG} {tt : TT} {te : TE} {vs : List Nat} {σ : L2.St} {H : Hp} {Q : VK} (h : tl σ H fun x H1 => tLc (iTup K fun _ H R => R x H) g tt te vs σ H1 Q) : tLc (iTup K tl) g tt te vs σ H Q := h
theorem lc_inL {K : PySem.W.Frag} {tl : TE} {g : TG} {tt : TT} {te : TE} {vs : List Nat} {σ : L2.St} {H : Hp} {Q : VK} (h : tl σ H fun x H1 => tLc (iList K fun _ H R => R x H) g tt te vs σ H1 Q) : tLc (iList K tl) g tt te vs σ H Q := h
/-- ints picked out of the items of a tuple -/
theorem st_lcO {K : PySem.W.Frag} {tl : TE} {g : TG} {tt : TT} {te : TE} {vs : List Nat} {σ : L2.St} {H : Hp} {Q : VK} {a : Addr} {xs : List V} {os : List (Option Int)} (ha : ∀ R : V → Hp → Prop, R (.ref a) H → tl σ H R) (hx : H a = some (.tup xs)) (hl : xs.length = os.length) (hz : os.length ≤ 1000)
    (hs : ∀ (i : Nat) (x : V) (o : Option Int) (H' : Hp) (A : Hp → Prop) (B : VK), xs[i]? = some x → os[i]? = some o → Same H H' → (o = none → A H') → (∀ z, o = some z → B (.int z) H') →
      g x (wipe σ vs) H' fun σ2 H2 => wipe σ2 vs = wipe σ vs ∧ tt σ2 H2 fun b H3 => if b = true then te σ2 H3 B else A H3)
    (hd : ∀ D H', H D = none → Same H H' → H' D = some (.lst ((os.filterMap id).map V.int)) → Q (.ref D) H') : tLc (iTup K tl) g tt te vs σ H Q := by
  refine ha _ ⟨a, rfl, ⟨xs, SqT.of hx⟩, fun D hD => lc_tup (fun i H' => Same H H' ∧ H' D = some (.lst (((os.take i).filterMap id).map V.int))) ⟨Same.upd hD, upd_same⟩ (fun i H' _ q => SqT.of (q.1 _ _ hx)) (fun i x H' hi q => ?_) (fun H' q => hd D H' hD q.1 (by rw [q.2, hl, List.take_length]))⟩
  have hi2 := (List.getElem?_eq_some_iff.mp hi).1
  obtain ⟨o, ho⟩ : ∃ o, os[i]? = some o := ⟨os[i]'(by omega), List.getElem?_eq_getElem (by omega)⟩
  refine hs i x o H' _ _ hi ho q.1 (fun e => ⟨q.1, ?_⟩) (fun z e => ⟨_, q.2, ?_, ?_, ?_⟩)
  · rw [q.2, List.take_succ, ho, e]; simp
  · have h1 : ((os.take i).filterMap id).length ≤ (os.take i).length := List.length_filterMap_le _ _
    have h2 : (os.take i).length ≤ i := by rw [List.length_take]; exact Nat.min_le_left _ _
    rw [List.length_map, sizeLine_eq]; omega
  · exact fun b u e2 => by rw [upd_ne (ne_of_none e2 hD)]; exact q.1 _ _ e2
  · rw [upd_same, List.take_succ, ho, e]; simp
/-- [f(n) for n in ns], each as it is -/
theorem st_lcCp {K : PySem.W.Frag} {tl : TE} {g : TG} {tt : TT} {te : TE} {vs : List Nat} {σ : L2.St} {H : Hp} {Q : VK} {a : Addr} {ns : List Int} (ha : ∀ R : V → Hp → Prop, R (.ref a) H → tl σ H R) (hx : H a = some (.lst (ns.map V.int))) (hz : ns.length ≤ 1000)
    (hs : ∀ (n : Int) (H' : Hp) (A : Hp → Prop) (B : VK), B (.int n) H' → g (.int n) (wipe σ vs) H' fun σ2 H2 => wipe σ2 vs = wipe σ vs ∧ tt σ2 H2 fun b H3 => if b = true then te σ2 H3 B else A H3)
    (hd : ∀ D H', H D = none → Same H H' → H' D = some (.lst (ns.map V.int)) → Q (.ref D) H') : tLc (iList K tl) g tt te vs σ H Q := by
  refine st_lcLF ha hx (by rw [List.length_map, sizeLine_eq]; omega) (fun _ => true) (fun v => v) (fun x H' A B hx s hA hB => ?_) (fun D H' nD s h' => hd D H' nD s (by rw [h']; simp))
  obtain ⟨n, _, rfl⟩ := List.mem_map.mp hx
  exact hs n H' A B (hB rfl H' (fun _ _ h => h))
theorem none_of {H H' : Hp} {r : Addr} (s : Same H H') (n : H' r = none) : H r = none := by
  cases e : H r with
  | none => rfl
  | some o => rw [s _ _ e] at n; cases n
theorem PAll.last {H : Hp} {z0 : List V} {y : V} {rs : List PP} (h : PAll H (z0 ++ [y]) rs) : ∃ t r0 p, y = .ref t ∧ rs = r0 ++ [p] ∧ PAll H z0 r0 ∧ H t = some (.tup [ov p.1, ov p.2]) := by
  induction z0 generalizing rs with
  | nil => cases h with | cons e t => cases t; exact ⟨_, [], _, rfl, rfl, .nil, e⟩
  | cons z z0 ih => cases h with | cons e t => obtain ⟨t', r0, p, e1, e2, e3, e4⟩ := ih t; subst e2; exact ⟨t', _ :: r0, p, e1, rfl, .cons e e3, e4⟩
theorem ixN_end {n : Nat} (h : 0 < n) : ixN n (-1) = some (n - 1) := by
  unfold ixN
  rw [if_neg (by decide), if_pos (by omega)]
  congr 1; omega
theorem atI_end {α : Type} {xs : List α} {x : α} : atI (xs ++ [x]) (-1) = some x := by
  unfold atI
  rw [ixN_end (by simp)]
  simp
theorem drop_at {α : Type} {xs : List α} {i : Nat} {x : α} (h : xs[i]? = some x) : xs.drop i = x :: xs.drop (i + 1) := by
  obtain ⟨h1, rfl⟩ := List.getElem?_eq_some_iff.mp h
  exact List.drop_eq_getElem_cons h1
theorem ltL.le {a b : Option Int} (h : ltL a b) : leL a b := by cases a <;> cases b <;> simp_all [ltL, leL]; omega
theorem scalO {a b : Option Int} : scal (ov a) (ov b) = true := by cases a <;> cases b <;> rfl
theorem ov_inj {a b : Option Int} (h : ov a = ov b) : a = b := by cases a <;> cases b <;> simp_all [ov]
theorem kitAny_ll {K : PySem.W.Frag} : PySem.W.kitAny K (.type "list") [.type "list", .type "tuple"] = some true := kitAny_cons (b := true) (kit_ty (by decide +kernel)) (fun h => by cases h) (fun _ => rfl)
theorem kitAny_tl {K : PySem.W.Frag} : PySem.W.kitAny K (.type "tuple") [.type "list", .type "tuple"] = some true := kitAny_cons (b := false) (kit_ty (by decide +kernel)) (fun _ => kitAny_cons (b := true) (kit_ty (by decide +kernel)) (fun h => by cases h) (fun _ => rfl)) (fun h => by cases h)
end Iz
/-! Rp -/
set_option Elab.async false
set_option linter.all false
set_option maxRecDepth 100000
set_option maxHeartbeats 4000000
namespace Iz
open PySem PySem.Spec PyProof.Rows L2
/-! ### repr of a tuple of ints and of an empty list, where it is not known what else is being told -/
theorem codeAny_guards {M : Model} {A : Around} {c : Code} {R : Result → Shared → Prop} {s : Shared} (h : ∀ g, codeAny M { A with guards := some g } c R s) : codeAny M A c R s :=
  fun Γ p hc hB => h (guardsOf Γ.below) Γ p hc ⟨hB.1, hB.2.1, hB.2.2.1, fun g hg => by cases hg; rfl, hB.2.2.2.2⟩
/-- the text of a tuple, if it isn't being told just now -/
def tupZ (g : List Code) (a : Addr) (ts : List Str) : Str := if (g.any fun c => tupGuardF (.ref a) (c, default)) = true then "(...)" else tupleText ts
section
variable {prog : Program} {w : World} {A : Around} {E : Value → Shared → Prop} {s : Shared} {a : Addr} {o : Obj} {items : Array Value} {n : Nat} {ts : List Str} {g : List Code}
theorem own_tupZ {Q : Fin → Shared → Prop} {c : Code} (hg : A.guards = some g)
    (ha : s.heap.get? a = some o) (hd : o.data = .seq items n) (hT : ReprAll prog w items.toList ts)
    (h : ∀ u tk, Q (.done (.ret (.str (tupZ g a ts) u))) { s with toks := tk }) (hsz : (tupleText ts).length ≤ sizeLine) :
    wpOwn (model prog w) A c (Builtin.tupleReprAt 0 ⟨[.ref a], []⟩) Q E s := by
  rw [tuple_repr_tree, tupleReprUnderWay_eq]
  refine wpOwn_bind (wpOwn_stackTailAny hg (tupGuardF_off _) (tupGuardF_pos _) ?_)
  unfold tupZ at h
  cases e : g.any fun c => tupGuardF (.ref a) (c, default) with
  | true =>
    rw [e] at h
    refine wpOwn_of_wpAny ?_
    simp only [if_true]
    refine wpAny_bind (wpAny_rule ?_)
    exact wpAny_bind (wpAny_mkStr (wpAny_pure (h _ _)) (by decide))
  | false =>
    rw [e] at h
    exact wpOwn_of_wpAny (wpAny_tupleReprRest ha hd hT h (by omega))
theorem call_tupZ {Q : Value → Shared → Prop} (hTy : s.TypeIs (.ref a) "tuple") (hg : A.guards = some g)
    (ha : s.heap.get? a = some o) (hd : o.data = .seq items n) (hT : ReprAll prog w items.toList ts)
    (hQ : ∀ u tk, Q (.str (tupZ g a ts) u) { s with toks := tk }) (hsz : (tupleText ts).length ≤ sizeLine) :
    wpAny (model prog w) A (call (.builtin "tuple.__repr__") [.ref a]) Q E s :=
  wpAny_call (codeAny_call_builtin_own (Code.quiet_builtin _ (by decide +kernel)) F.entry_tuple_repr (F.slot_tuple_repr.check _ _ _ _ _ _ _ _ hTy (F.args_tuple_repr_1 _) (own_tupZ hg ha hd hT hQ hsz)))
theorem repr_tupZ {Q : Value → Shared → Prop} (hu : A.units + 1 < cLine) (hTy : s.TypeIs (.ref a) "tuple") (hg : A.guards = some g)
    (ha : s.heap.get? a = some o) (hd : o.data = .seq items n) (hT : ReprAll prog w items.toList ts)
    (hQ : ∀ u tk, Q (.str (tupZ g a ts) u) { s with toks := tk }) (hsz : (tupleText ts).length ≤ sizeLine) :
    wpAny (model prog w) A (call (.builtin "repr") [.ref a]) Q E s := by
  refine Calls.call_function_entry F.kind_repr F.plain_repr F.entry_repr (F.args_repr1 _) ?_
  unfold Builtin.«repr»
  refine wpAny_bind (m := oneArg "repr" _) (wpAny_pure ?_)
  refine wpAny_bind (wpAny_cRoomFor (by exact hu) ?_)
  refine wpAny_bind (wpAny_specialOf (name := Str.ofString "__repr__") hTy F.slot_tuple_repr.lookup ?_)
  refine wpAny_bind (m := callSpecialIfBound? (.ref a) (Str.ofString "__repr__")) (wpAny_callSpecialIfBound?_slotG (name := Str.ofString "__repr__") hTy F.slot_tuple_repr (call_tupZ hTy (by exact hg) ha hd hT (fun u tk => ?_) hsz))
  refine wpAny_bind (wpAny_isInstance (T := "str") (b := true) rfl isSubtype_str_str ?_)
  exact wpAny_pure ⟨_, rfl, hQ u tk⟩
theorem repr_nil {Q : Value → Shared → Prop} (hu : A.units + 1 < cLine) (hTy : s.TypeIs (.ref a) "list")
    (ha : s.heap.get? a = some o) (hd : o.data = .seq #[] n) (hQ : ∀ u tk, Q (.str "[]" u) { s with toks := tk }) :
    wpAny (model prog w) A (call (.builtin "repr") [.ref a]) Q E s := by
  refine Calls.call_function_entry F.kind_repr F.plain_repr F.entry_repr (F.args_repr1 _) ?_
  unfold Builtin.«repr»
  refine wpAny_bind (m := oneArg "repr" _) (wpAny_pure ?_)
  refine wpAny_bind (wpAny_cRoomFor (by exact hu) ?_)
  refine wpAny_bind (wpAny_specialOf (name := Str.ofString "__repr__") hTy F.slot_list_repr.lookup ?_)
  refine wpAny_bind (m := callSpecialIfBound? (.ref a) (Str.ofString "__repr__")) (wpAny_callSpecialIfBound?_slot (name := Str.ofString "__repr__") hTy F.slot_list_repr (call_list_repr_empty hTy ha hd ?_))
  refine wpAny_bind (wpAny_isInstance (T := "str") (b := true) rfl isSubtype_str_str ?_)
  exact wpAny_pure ⟨_, rfl, hQ _ _⟩
end
/-- repr(x): x plain, or a tuple of one int, or an empty list -/
def ReprG (K : PySem.W.Frag) (g : List Code) (H : Hp) (v : V) (z : Str) : Prop := ReprV v z ∨ (∃ a i, v = .ref a ∧ H a = some (.tup [.int i]) ∧ i.natAbs.log2 < 1920 ∧ (tupleText [Str.ofString (toString i)]).length ≤ sizeLine ∧ z = tupZ g a [Str.ofString (toString i)]) ∨ ∃ a, v = .ref a ∧ H a = some (.lst []) ∧ z = "[]"
theorem ReprG.mono {K : PySem.W.Frag} {g : List Code} {H H' : Hp} {v : V} {z : Str} (h : ReprG K g H v z) (s : Same H H') : ReprG K g H' v z := by
  rcases h with h | ⟨a, i, e1, e2, e3⟩ | ⟨a, e1, e2, e3⟩
  · exact .inl h
  · exact .inr (.inl ⟨a, i, e1, s _ _ e2, e3⟩)
  · exact .inr (.inr ⟨a, e1, s _ _ e2, e3⟩)
def rReprG (K : PySem.W.Frag) (g : List Code) : List V → Hp → VK → Prop := fun xs H Q => ∃ x s, xs = [x] ∧ ReprG K g H x s ∧ Q (.str s) H
theorem call_reprG {X : Cx} {g : List Code} {K : PySem.W.Frag} (eK : X.K = K) (hu : X.A.units + 1 < cLine) (hg : X.A.guards = some g) : CallR X (.builtin "repr") (rReprG K g) := by
  intro pins s σ H xs us Q I r h
  obtain ⟨x, z, rfl, hz, q⟩ := h
  rcases hz with hz | ⟨a, i, rfl, ha, hi, hl, rfl⟩ | ⟨a, rfl, ha, rfl⟩
  · exact call_reprN pins s σ H [x] us Q I r ⟨x, z, rfl, hz, q⟩
  · cases r with
    | cons rx rr =>
      cases rr
      cases rx
      obtain ⟨its, rv, pl, hz⟩ := I.tuple (SqT.of (K := X.K) ha)
      obtain ⟨o, ho, hc, n, hd⟩ := pl
      cases rv with
      | cons r1 r2 =>
        cases r2
        obtain ⟨t, rfl⟩ := r1
        refine repr_tupZ hu ⟨o, ho, hc⟩ hg ho hd (.cons (ReprIs.int t hi) .nil) (fun u tk => ?_) hl
        exact ⟨.str _, H, I.kept (t' := tk) fun _ _ z => z, ⟨_, rfl⟩, q⟩
  · cases r with
    | cons rx rr =>
      cases rr
      cases rx
      obtain ⟨its, rv, pl, hz⟩ := I.list (SqL.of (K := X.K) ha)
      obtain ⟨o, n, ho, hc, hdd, hd⟩ := pl
      cases rv
      refine repr_nil hu ⟨o, ho, hc⟩ ho (by simpa using hd) (fun u tk => ?_)
      exact ⟨.str _, H, I.kept (t' := tk) fun _ _ z => z, ⟨_, rfl⟩, q⟩
theorem tyX_at {K : PySem.W.Frag} {H H' : Hp} {x : V} {t : Value} (h : TyX K H x t) (s : ∀ b o, x = .ref b → H b = some o → H' b = some o) : TyX K H' x t := by
  cases h with
  | base b =>
    cases b with
    | non => exact .base .non
    | bl b => exact .base (.bl b)
    | int i => exact .base (.int i)
    | str y => exact .base (.str y)
    | flt y => exact .base (.flt y)
    | lst e => exact .base (.lst (s _ _ rfl e))
    | frz e => exact .base (.frz (s _ _ rfl e))
    | tup e => exact .base (.tup (s _ _ rfl e))
    | dK e => exact .base (.dK (s _ _ rfl e))
    | dT e => exact .base (.dT (s _ _ rfl e))
    | ins e a b c d f => exact .base (.ins (s _ _ rfl e) a b c d f)
  | byt b => exact .byt b
  | set e => exact .set (s _ _ rfl e)
  | kList e c => exact .kList e c
  | kTuple e c => exact .kTuple e c
  | kDict e c => exact .kDict e c
  | fTuple e => exact .fTuple (s _ _ rfl e)
  | fDict e => exact .fDict (s _ _ rfl e)
theorem wh_at {K : PySem.W.Frag} {H H' : Hp} {x : V} (h : Wh K H x) (s : ∀ b o, x = .ref b → H b = some o → H' b = some o) : Wh K H' x := let ⟨t, b, c, ty, r⟩ := h; ⟨t, b, c, tyX_at ty s, r⟩
/-- a pair of ends, or None -/
def PV (H : Hp) (v : V) : Option PP → Prop
  | none => v = .non
  | some (x, y) => ∃ a, v = .ref a ∧ H a = some (.tup [ov x, ov y])
def dPO : Option PP → PyData
  | none => .none
  | some (x, y) => .tuple [dO x, dO y]
theorem PV.mono {H H' : Hp} {v : V} {o : Option PP} (h : PV H v o) (s : Same H H') : PV H' v o := by
  cases o with
  | none => exact h
  | some p => obtain ⟨a, e, q⟩ := h; exact ⟨a, e, s _ _ q⟩
theorem PV.dp {K : PySem.W.Frag} {H : Hp} {v : V} {o : Option PP} (h : PV H v o) : Dp K H v (dPO o) := by
  cases o with
  | none => cases h; exact .non
  | some p => obtain ⟨a, rfl, q⟩ := h; exact .tup (SqT.of q) (.cons dp_ov (.cons dp_ov .nil))
theorem sh_dPO {n : Nat} {o : Option PP} : ShN (n + 1) (dPO o) := by
  cases o with
  | none => exact .non
  | some p => exact (ShN.tuple (n := 0) fun d hd => by
      simp only [List.mem_cons, List.not_mem_nil, or_false] at hd
      rcases hd with rfl | rfl <;> exact sh_dO).up (by omega)
theorem eqv_dO {a b : Option Int} : PyData.eqv (dO a) (dO b) = decide (a = b) := by
  cases a <;> cases b <;> simp [dO, PyData.eqv]
  rename_i x y
  by_cases h : x = y <;> simp [h]
theorem eqv_dPO {a b : Option PP} : PyData.eqv (dPO a) (dPO b) = decide (a = b) := by
  cases a with
  | none => cases b <;> simp [dPO, PyData.eqv]
  | some p => cases b with
    | none => simp [dPO, PyData.eqv]
    | some q =>
      obtain ⟨x, y⟩ := p
      obtain ⟨u, v⟩ := q
      simp only [dPO, PyData.eqv, PyData.eqvAll, eqv_dO, Bool.and_true]
      by_cases h1 : x = u <;> by_cases h2 : y = v <;> simp [h1, h2]
theorem eqP {K : PySem.W.Frag} {H : Hp} {R : VK} {v v' : V} {o o' : Option PP} (h : PV H v o) (h' : PV H v' o') (r : R (.bl (decide (o = o'))) H) : rEqD K v v' H R := ⟨_, _, h.dp, h'.dp, (sh_dPO (n := 0)).ok, (sh_dPO (n := 0)).ok, by rw [eqv_dPO]; exact r⟩
theorem neP {K : PySem.W.Frag} {H : Hp} {R : VK} {v v' : V} {o o' : Option PP} (h : PV H v o) (h' : PV H v' o') (r : R (.bl (!decide (o = o'))) H) : rNeD K v v' H R := ⟨_, _, h.dp, h'.dp, (sh_dPO (n := 0)).ok, (sh_dPO (n := 0)).ok, by rw [eqv_dPO]; exact r⟩
/-- as LamF.okF; the body knows which calls that tell are under way -/
theorem LamF.okFg {P : Program} {w : World} {K : PySem.W.Frag} {mg : Str → Option Value} {base : Heap} {x : Str} {st : Stmt} {N ps : List Str} {k : Nat} {sp : Sp} (F : LamF K mg x st) (S : FnScope N ps (defScope st))
    (hbind : ∀ (kV doc pm : Value) (an : Option Addr) (cdv ct : Value) (us : List Value), us.length = ps.length → bindArgs (PySem.W.fnOf x x (defArgs st) (defBody st) (defScope st) .none kV doc pm an cdv ct) ⟨us, []⟩ = pure (ps.zip us))
    (len : ∀ vs H Q E, sp vs H Q E → vs.length = ps.length)
    (hbody : ∀ (f : Addr) (A : Around) (outer : List Env) (s : Shared) (H : Hp) (vs : List V) (Q : VK) (E : XK) (g : List Code), A.guards = some g → Room k (A.deeper (envOfC x (defScope st) s.heap.objs.size f (.ref (cOf K x)))) → sp vs H Q E →
      ∃ t, PSs (cxOf (L2.CX P w) P w K mg base N x (defScope st) f (.ref (cOf K x)) A outer s H E) (defBody st) t ∧ t { nx := fun _ H' => Q .non H', rt := Q } (L2.start N vs) H) : OkF P w K mg base (L2.CX P w) (k + 1) x ps sp := by
  obtain ⟨f, oc, od, kV, doc, pm, an, ct, osl, g, kp, lk, hcd⟩ := F.ex
  refine ⟨f, _, g, kp,   .all (hbind kV doc pm an (.ref (cOf K x)) ct), len, fun A outer s H args us vs Q E hr e0 hb r hsp => codeAny_guards fun g => ?_⟩
  refine LamX.run_ofS (N := N) (vs := vs) lk hcd S (A := { A with guards := some g }) ⟨hr.hd, hr.dp, hr.un⟩ ⟨e0.frames, e0.mod, e0.bs, e0.bsz, e0.funs, e0.frf, e0.hok, e0.bare⟩ hb r (len _ _ _ _ hsp) fun hr2 => ?_
  exact hbody f { A with guards := some g } outer s H vs Q E g rfl hr2 hsp
end Iz
/-! La -/
set_option Elab.async false
set_option linter.all false
set_option maxRecDepth 100000
set_option maxHeartbeats 4000000
namespace LamX
open PySem PySem.Spec PyProof.Rows L2
/-! ### a lambda of one parameter, handed to a def that calls it -/
/-- one parameter, no other name of its own: captured ones and globals -/
structure LamP (sc scope : Scope) (p : Str) : Prop where
  kind : scope.kind = .function
  co : scope.isCoroutine = false
  gen : scope.isGenerator = false
  par : scope.names.lookup p = some .local
  own : ∀ y ∈ scope.names, (y.2 = .local → y.1 = p) ∧ y.2 ≠ .cell
  free : ∀ y ∈ scope.names, y.2 = .free → sc.names.lookup y.1 = some .cell ∨ sc.names.lookup y.1 = some .free
def lamPB (sc scope : Scope) (p : Str) : Bool :=
  decide (scope.kind = .function) && !scope.isCoroutine && !scope.isGenerator && decide (scope.names.lookup p = some .local) && scope.names.all fun y => (!decide (y.2 = .local) || decide (y.1 = p)) && !decide (y.2 = .cell) && (!decide (y.2 = .free) || decide (sc.names.lookup y.1 = some .cell) || decide (sc.names.lookup y.1 = some .free))
theorem lamP_by {sc scope : Scope} {p : Str} (h : lamPB sc scope p = true) : LamP sc scope p := by
  unfold lamPB at h
  simp only [Bool.and_eq_true, Bool.or_eq_true, Bool.not_eq_true', decide_eq_true_eq, decide_eq_false_iff_not, List.all_eq_true] at h
  obtain ⟨⟨⟨⟨h1, h2⟩, h3⟩, h5⟩, h4⟩ := h
  refine ⟨h1, h2, h3, h5, fun y hy => ⟨fun e => ?_, (h4 y hy).1.2⟩, fun y hy e => ?_⟩
  · rcases (h4 y hy).1.1 with z | z
    · exact absurd e z
    · exact z
  · rcases (h4 y hy).2 with (z | z) | z
    · exact absurd e z
    · exact .inl z
    · exact .inr z
theorem LamP.has {X : Cx} {scope : Scope} {p : Str} (L : LamP X.env.scope scope p) (ok : X.Ok) : ∀ y ∈ scope.names, y.2 = .free → ∃ c, X.env.cells.lookup y.1 = some c := fun y hy e => by
  rcases L.free y hy e with k | k
  · exact ok.has _ (.inl k)
  · exact ok.has _ (.inr k)
/-- the context of the lambda's body: the maker's slots, behind them the parameter's -/
def lamCxP (X : Cx) (A : Around) (outer : List Env) (s : Shared) (H : Hp) (E : XK) (scope : Scope) (f c' : Addr) (p : Str) : Cx where
  prog := X.prog
  w := X.w
  K := X.K
  mg := X.mg
  base := X.base
  A := A.deeper (lamEnv X scope s.heap.objs.size f c')
  N := X.N ++ [p]
  s_0 := s
  H_0 := H
  env := lamEnv X scope s.heap.objs.size f c'
  outer := outer
  stack := lamEnv X scope s.heap.objs.size f c' :: outer
  ex := []
  fn := fun _ => false
  calm := true
  pn := []
  xe := fun e s' => wpAny (model X.prog X.w) (A.deeper (lamEnv X scope s.heap.objs.size f c')) (leaving (lamEnv X scope s.heap.objs.size f c') e) (fun _ s'' => L2.CX X.prog X.w outer H s E e s'') (fun e' s'' => L2.CX X.prog X.w outer H s E e' s'') s'
section
variable {X : Cx} {pins : List (Addr × Obj)} {σ : L2.St} {H HZ : Hp} {s s1 : Shared}
theorem lam_startP {A : Around} {outer : List Env} {E : XK} {scope : Scope} {f c' : Addr} {h₁ : Heap} {tk : Nat} {p : Str} {u : Value} {v : V} (I : Inv X pins σ H s) (L : LamP X.env.scope scope p) (hp : p ∉ X.N) (e0 : Env0 X.prog X.w X.K X.mg X.base A outer s1 HZ) (hd : A.handled = none)
    (un : Un (frs X.stack) [] H HZ s.heap s1.heap) (hns : h₁.Ns s1.heap.objs.size fun y => ([(p, u)] : List (Str × Value)).reverse.lookup y) (rv : RelV v u) (kp : ∀ b o, s1.heap.get? b = some o → h₁.get? b = some o) :
    Inv (lamCxP X A outer s1 HZ E scope f c' p) [] (σ ++ [some v]) HZ { s1 with heap := h₁, toks := tk } := by
  have hfree := L.has I.ok
  have cm : ∀ {y c}, (cloFrom X.env.cells scope.names []).lookup y = some c → X.env.cells.lookup y = some c := fun {y c} e => by
    rcases cloFrom_mem (PySem.mem_of_lookup e) with hm | ⟨h1, h2⟩
    · cases hm
    · obtain ⟨c1, hc⟩ := hfree _ h1 rfl
      have hc : X.env.cells.lookup y = some c1 := hc
      have e2 : c = c1 := by
        rw [h2, hc] <;> rfl
      rw [e2]
      exact hc
  have look : ∀ {y}, scope.names.lookup y = some .free → ∃ c, (cloFrom X.env.cells scope.names []).lookup y = some c := fun {y} hl => by
    have hy : (y, NameKind.free) ∈ scope.names := PySem.mem_of_lookup hl
    exact mem_lookup (cloFrom_has (cells := X.env.cells) (acc := []) hy)
  have cellK : ∀ {c : Addr} {v : Option Value}, H c = none → s.heap.IsCell c v → h₁.IsCell c v := fun {c v} n ⟨o, ho, hd⟩ => by
    obtain ⟨sl, q⟩ := un.any ho n (by simp)
    exact ⟨_, kp _ _ q, hd⟩
  have noA : ∀ b : Addr, b ∉ (lamCxP X A outer s1 HZ E scope f c' p).ex := fun b z => absurd (show b ∈ ([] : List Addr) from z) (by simp)
  refine ⟨⟨e0.mod, L.kind, rfl, rfl, Nat.le_refl _, fun y z c e1 e2 => I.ok.inj y z c (cm e1) (cm e2), fun y hy => ?_, fun y c z _ => ?_, fun _ => hd, Around.frames_deeper e0.frames, .inr ⟨rfl, rfl⟩, fun b z => absurd z (noA b), e0.bs, e0.bsz, fun b _ _ => noA b,
      fun b z => absurd z (noA b), e0.funs, e0.frf⟩,
    rfl, e0.bare, Un.kept kp, ⟨_, hns, fun i y v' e1 e2 e3 => ?_⟩, fun y c e => ?_, e0.hok.fresh (Nat.le_refl _), fun y c e => ?_, fun q hq => absurd (show q ∈ ([] : List (Addr × Obj)) ++ [] from hq) (by simp), e0.hok.kept kp, ?_⟩
  · have hy : scope.names.lookup y = some .cell ∨ scope.names.lookup y = some .free := hy
    rcases hy with hy | hy
    · exact absurd rfl (L.own _ (PySem.mem_of_lookup hy)).2
    · exact look hy
  · have z : false = true := z
    cases z
  · have e3 : Vis scope y := e3
    have e1 : (X.N ++ [p])[i]? = some y := e1
    have hl := I.len
    by_cases hi : i < X.N.length
    · rw [List.getElem?_append_left hi] at e1
      rw [List.getElem?_append_left (by omega)] at e2
      rcases e3 with k | k | k
      · have := (L.own _ (PySem.mem_of_lookup k)).1 rfl
        exact absurd (List.mem_of_getElem? e1) (by rw [show y = p from this]; exact hp)
      · exact absurd rfl (L.own _ (PySem.mem_of_lookup k)).2
      · obtain ⟨m, hn, hl⟩ := I.loc
        have hvis : Vis X.env.scope y := (L.free _ (PySem.mem_of_lookup k) rfl).elim (fun k => .inr (.inl k)) (fun k => .inr (.inr k))
        obtain ⟨w', r, q⟩ := hl i y v' e1 e2 hvis
        obtain ⟨c2, h2⟩ := look k
        refine ⟨w', r, .inr ⟨.inr k, c2, h2, ?_⟩⟩
        have c1 := cm h2
        rcases q with ⟨k', _⟩ | ⟨_, c3, e', z⟩
        · have k' : X.env.scope.names.lookup y = some .local := k'
          rcases L.free _ (PySem.mem_of_lookup k) rfl with k2 | k2 <;> rw [show X.env.scope.names.lookup y = _ from k2] at k' <;> cases k'
        · rw [c1] at e'
          cases e'
          exact cellK (I.freeC y _ c1) z
    · rw [List.getElem?_append_right (by omega)] at e1 e2
      have h0 : i - X.N.length = 0 := by
        have := (List.getElem?_eq_some_iff.mp e1).1
        simp at this
        omega
      rw [h0] at e1
      rw [show i - σ.length = 0 by omega] at e2
      simp at e1 e2
      subst e1 e2
      exact ⟨u, rv, .inl ⟨L.par, by simp⟩⟩
  · obtain ⟨w', z⟩ := I.cell y c (cm e)
    exact ⟨w', cellK (I.freeC y c (cm e)) z⟩
  · obtain ⟨v, o, ho, hd⟩ := I.cell y c (cm e)
    exact un.free c o ho (I.freeC y c (cm e)) (by simp)
  · show (σ ++ [some v]).length = (X.N ++ [p]).length
    rw [List.length_append, List.length_append, I.len]
    rfl
/-- a(e), in the def that got the lambda -/
theorem pe_actP {CXg : CXT} {Eg : XK} {Ng : List Str} {qg : Str} {sg : Scope} {g f c' : Addr} {cdg pm ctv : Value} {params : Arguments} {body : Expr} {scope : Scope} {k i : Nat} {a p : Str} {tb : TE} {p1 p2 : Pos} {e : Expr} {ta : TA}
    (I : Inv X pins σ H s) (L : LamP X.env.scope scope p) (hp : p ∉ X.N) (hf : s.heap.get? f = some (PySem.W.kla_obj "<lambda>" (X.env.qual ++ "<lambda>") params body scope (cloFrom X.env.cells scope.names []) pm c' ctv)) (hfn : H f = none) (hfr : f ∉ frs X.stack)
    (hbind : ∀ u : Value, bindArgs (PySem.W.kla_fn "<lambda>" (X.env.qual ++ "<lambda>") params body scope (cloFrom X.env.cells scope.names []) pm (.ref c') ctv) ⟨[u], []⟩ = pure [(p, u)])
    (hr : Room (k + 1) (X.A.deeper (envOfC qg sg s.heap.objs.size g cdg)))
    (hbody : ∀ (A : Around) (outer : List Env) (s : Shared) (H : Hp), Room k (A.deeper (lamEnv X scope s.heap.objs.size f c')) → PE (lamCxP X A outer s H (fun _ _ _ => False) scope f c' p) body tb)
    (hN : Ng[i]? = some a) (hv : Vis sg a) (hd : (a == ("__debug__" : Str)) = false) (hcd : (a == ("__classdict__" : Str)) = false)
    (ha : PA (cxOf CXg X.prog X.w X.K X.mg X.base Ng qg sg g cdg X.A X.stack s H Eg).nox [e] ta)
    (he : starEach [e] (envOfC qg sg s.heap.objs.size g cdg) = (false, eval e (envOfC qg sg s.heap.objs.size g cdg)) :: starEach [] (envOfC qg sg s.heap.objs.size g cdg)) :
    PE (cxOf CXg X.prog X.w X.K X.mg X.base Ng qg sg g cdg X.A X.stack s H Eg).nox (.Call (.Name a p1) [e] [] p2)
      (fun σZ HZ Q => σZ[i]? = some (some (.ref f)) ∧ ta σZ HZ fun vs H1 => ∃ v, vs = [v] ∧ H1 c' = some (CodeO c' (X.env.qual ++ "<lambda>")) ∧ tb (σ ++ [some v]) H1 Q) := by
  refine ⟨fun pinsZ sZ σZ HZ Q IZ h => ?_⟩
  obtain ⟨hs, ht⟩ := h
  refine wpAny_Call_Name_kw (thn ((pe_var (X := (cxOf CXg X.prog X.w X.K X.mg X.base Ng qg sg g cdg X.A X.stack s H Eg).nox) (pos := p1) (i := i) hN hv hd hcd).run pinsZ sZ σZ HZ (fun v H1 => v = .ref f ∧ H1 = HZ) IZ ⟨.ref f, hs, rfl, rfl⟩) fun u s1 ⟨v, H1, I1, r1, q1⟩ => ?_)
  obtain ⟨ev, eH⟩ := q1
  subst ev
  rw [eH] at I1
  obtain rfl : u = Value.ref f := r1
  have of1 : s1.heap.get? f = some (PySem.W.kla_obj "<lambda>" (X.env.qual ++ "<lambda>") params body scope (cloFrom X.env.cells scope.names []) pm c' ctv) := I1.base.keep f _ hf hfn hfr (fun z => nomatch (show f ∈ ([] : List Addr) from z))
  refine PySem.W.callWith_F (first := []) ⟨_, _, _, _, of1⟩ (thn (ha.run p2 pinsZ s1 σZ HZ _ I1 ht) fun us s2 ⟨vs, H2, I2, r2, v, ev, hc, ht2⟩ => ?_) he rfl
  subst ev
  have of2 : s2.heap.get? f = some (PySem.W.kla_obj "<lambda>" (X.env.qual ++ "<lambda>") params body scope (cloFrom X.env.cells scope.names []) pm c' ctv) := I2.base.keep f _ hf hfn hfr (fun z => nomatch (show f ∈ ([] : List Addr) from z))
  refine ⟨⟨_, _, _, _, of2⟩, ?_⟩
  obtain ⟨u, rfl, rv⟩ := vals1 r2
  show wpAny _ _ (call (.ref f) [u]) _ _ _
  have un : Un (frs X.stack) [] H H2 s.heap s2.heap := I2.base
  obtain ⟨⟨oc, vs, t, hoc, hdc, hvc⟩, _, _⟩ := I2.hok c' _ hc
  have rc : codeAny (model X.prog X.w) (X.A.deeper (envOfC qg sg s.heap.objs.size g cdg)) (.call (.ref f) ⟨[u], []⟩) (CR (L2.CX X.prog X.w) (envOfC qg sg s.heap.objs.size g cdg :: X.stack) X.prog X.w H2 s2 Q (fun _ _ _ => False)) s2 := by
    refine PySem.W.kla_callFunE hr.depth of2 rfl L.co L.gen rfl ⟨c', oc, vs, t, rfl, hoc, hdc, hvc⟩ ?_
    rw [hbind]
    refine wpAny_pure (wpAny_newFunctionEnv (fun y hy => (L.own y hy).2) (fun y hy => by rw [List.mem_singleton.mp hy]; exact L.par) (fun h₁ hns hsb => ⟨I2.nolimit.fresh _ hsb, ?_⟩) L.kind)
    show codeAny _ _ (.expr body (lamEnv X scope s2.heap.objs.size f c')) _ _
    have kp : ∀ b o, s2.heap.get? b = some o → h₁.get? b = some o := fun b o e => hsb.extBut b o (Nat.ne_of_lt (Heap.lt_size e)) (Heap.get?_push_of_some _ e)
    have J : Inv (lamCxP X (X.A.deeper (envOfC qg sg s.heap.objs.size g cdg)) (envOfC qg sg s.heap.objs.size g cdg :: X.stack) s2 H2 (fun _ _ _ => False) scope f c' p) [] (σ ++ [some v]) H2 { s2 with heap := h₁, toks := s2.toks + ([(p, u)] : List (Str × Value)).length } :=
      lam_startP I L hp I2.env0 hr.hd un hns rv kp
    refine PySem.W.kla_codeExpr (wpAny_mono ((hbody _ _ s2 H2 (hr.deeper _)).run [] _ _ H2 Q J ht2) (fun v s' hq => ?_) fun e s' hq => hq)
    obtain ⟨w', H', J', rv, q⟩ := hq
    exact ⟨w', H', J'.os, J'.bare, J'.base, J'.hok, rv, q⟩
  refine wpAny_call (codeAny_mono rc fun r s' hq => ?_)
  cases r with
  | error e => obtain ⟨_, _, _, _, _, _, _, _, _, _, _, _, z⟩ := hq; exact z.elim
  | ok fl =>
    cases fl with
    | ret u => exact I2.after hq
    | next => exact False.elim hq
    | brk => exact False.elim hq
    | cont => exact False.elim hq
end
/-- the def that calls what it got at its i-th place (of three): TT: what it makes of the lambda's reading -/
def GivesP (X : Cx) (Ng : List Str) (x : Str) (sg : Scope) (g : Addr) (cdg : Value) (bg : List Stmt) (a : Str) (q : Str) (TT : (V → Hp → VK → Prop) → V → V → Hp → VK → Prop) : Prop :=
  ∀ (f c' : Addr) (s : Shared) (H : Hp) (v1 v3 : V) (Q : VK) (tl : V → Hp → VK → Prop),
    (∀ (e : Expr) (ta : TA) (p1 p2 : Pos), PA (cxOf C8.CX0 X.prog X.w X.K X.mg X.base Ng x sg g cdg X.A X.stack s H C8.E0).nox [e] ta →
      starEach [e] (envOfC x sg s.heap.objs.size g cdg) = (false, eval e (envOfC x sg s.heap.objs.size g cdg)) :: starEach [] (envOfC x sg s.heap.objs.size g cdg) →
      PE (cxOf C8.CX0 X.prog X.w X.K X.mg X.base Ng x sg g cdg X.A X.stack s H C8.E0).nox (.Call (.Name a p1) [e] [] p2) (fun σZ HZ Q => σZ[1]? = some (some (.ref f)) ∧ ta σZ HZ fun vs H1 => ∃ v, vs = [v] ∧ H1 c' = some (CodeO c' q) ∧ tl v H1 Q)) →
    H c' = some (CodeO c' q) → Room 8 (X.A.deeper (envOfC x sg s.heap.objs.size g cdg)) → TT tl v1 v3 H Q →
    ∃ t, PSs (cxOf C8.CX0 X.prog X.w X.K X.mg X.base Ng x sg g cdg X.A X.stack s H C8.E0).nox bg t ∧ t { nx := fun _ H' => Q .non H', rt := Q } (L2.start Ng [v1, .ref f, v3]) H
def tLam3 (T : List (Addr × Str)) (q : Str) (TT : (V → Hp → VK → Prop) → V → V → Hp → VK → Prop) (t1 t3 t : TE) : TE := fun σ H Q => t1 σ H fun v1 H1 => Tabs T H1 ∧ ∀ H2 c', ExtN H1 H2 → Tabs T H2 → H2 c' = some (CodeO c' q) →
  t3 σ H2 fun v3 H3 => H3 c' = some (CodeO c' q) ∧ TT (fun v H' Q' => t (σ ++ [some v]) H' Q') v1 v3 H3 Q
section
variable {X : Cx}
/-- x(e1, lambda p: body, e3) -/
theorem pe_lamcall3 {T : List (Addr × Str)} {TT : (V → Hp → VK → Prop) → V → V → Hp → VK → Prop} {x a p0 : Str} {g c P : Addr} {pg : Arguments} {bg : List Stmt} {sg : Scope} {dV kV doc pm cdv ct oc : Value} {an od : Option Addr} {osl : Array (Option Value)} {Ng ps : List Str}
    {params : Arguments} {body e1 e3 : Expr} {scope : Scope} {t1 t3 t : TE} {p lpos pos : Pos} (hg : Gl X x) (hm : X.mg x = some (.ref g)) (hk : PySem.W.keepIn X.K (.ref g) = true)
    (lk : X.K.lookup g = some ⟨oc, od, .func (PySem.W.fnOf x x pg bg sg dV kV doc pm an cdv ct), osl⟩) (hcg : PySem.W.codeIn X.K cdv x = true) (hb : L2.Binds X.K (PySem.W.fnOf x x pg bg sg dV kV doc pm an cdv ct) ps []) (Sg : FnScope Ng ps sg) (hps : ps.length = 3) (hNg : Ng[1]? = some a) (hva : Vis sg a)
    (hG : GivesP X Ng x sg g cdv bg a (X.env.qual ++ "<lambda>") TT)
    (TB : TabB X.base X.mg c P) (hcode : X.env.code = .ref c) (hmT : (P, X.env.qual ++ "<lambda>") ∈ T) (hu : ∀ p ∈ T, p.1 = P → p.2 = X.env.qual ++ "<lambda>") (hr : Room 9 X.A) (L : LamP X.env.scope scope p0) (hp0 : p0 ∉ X.N) (hdef : defaultsOf params X.env = ([], []))
    (hbind : ∀ (q : Str) (cl : List (Str × Addr)) (pm cv ctv u : Value), bindArgs (PySem.W.kla_fn "<lambda>" q params body scope cl pm cv ctv) ⟨[u], []⟩ = pure [(p0, u)])
    (h1 : PE X e1 t1) (h3 : PE X e3 t3)
    (hbody : ∀ (A : Around) (outer : List Env) (s : Shared) (H : Hp) (f c' : Addr), Room 7 (A.deeper (lamEnv X scope s.heap.objs.size f c')) → PE (lamCxP X A outer s H (fun _ _ _ => False) scope f c' p0) body t)
    (he1 : starEach [e1, .Lambda params body scope lpos, e3] X.env = (false, eval e1 X.env) :: starEach [.Lambda params body scope lpos, e3] X.env := by rfl) (he2 : starEach [.Lambda params body scope lpos, e3] X.env = (false, eval (.Lambda params body scope lpos) X.env) :: starEach [e3] X.env := by rfl)
    (he3 : starEach [e3] X.env = (false, eval e3 X.env) :: starEach [] X.env := by rfl) (hpl : (backTo pos (starEach [.Lambda params body scope lpos, e3] X.env)).any (·.1) = false := by rfl)
    (hdb : (x == ("__debug__" : Str)) = false := by decide) (hd : (a == ("__debug__" : Str)) = false := by decide) (hcd : (a == ("__classdict__" : Str)) = false := by decide) :
    PE X (.Call (.Name x p) [e1, .Lambda params body scope lpos, e3] [] pos) (tLam3 T (X.env.qual ++ "<lambda>") TT t1 t3 t) := by
  refine ⟨fun pins s σ H Q I h => ?_⟩
  refine wpAny_Call_Name_kw (ld_glob I hg hm ?_ hdb)
  refine PySem.W.callWith_K (h₀ := X.base) I.ok.mod.kin hk ?_ he1 hpl
  rw [he1]
  show wpAny _ _ (spliced ((false, eval e1 X.env) :: backTo pos (starEach [.Lambda params body scope lpos, e3] X.env))) _ _ s
  rw [he2]
  show wpAny _ _ (spliced ((false, eval e1 X.env) :: (false, eval (.Lambda params body scope lpos) X.env) :: backTo pos (starEach [e3] X.env))) _ _ s
  rw [he3]
  show wpAny _ _ (spliced ((false, eval e1 X.env) :: (false, eval (.Lambda params body scope lpos) X.env) :: (false, eval e3 X.env) :: backTo pos (starEach [] X.env))) _ _ s
  refine Calls.spliced_cons (thn (h1.run pins s σ H _ I h) fun u1 s1 ⟨v1, H1, I1, r1, hT, h⟩ => ?_)
  refine Calls.spliced_cons (lam_make2 I1 TB hcode hmT hu hT hdef (L.has I1.ok) fun f c' pm' ctv H2 s2 I2 eN T2 hf hfn hfr hco => ?_)
  have nl : f ≠ X.env.locals := by
    rintro rfl
    obtain ⟨m, hn, _⟩ := I2.loc
    obtain ⟨o, es, ep, ho, hc, hd, _⟩ := hn
    rw [hf] at ho
    cases ho
    cases hc
  have nfs : f ∉ X.fs := by
    rcases I2.ok.stk with e | ⟨e, _⟩
    · rw [e] at hfr; exact hfr
    · rw [e] at hfr; exact fun z => hfr (List.mem_filterMap.mpr (let ⟨e, he, q⟩ := List.mem_filterMap.mp z; ⟨e, .tail _ he, q⟩))
  generalize ho : PySem.W.kla_obj "<lambda>" (X.env.qual ++ "<lambda>") params body scope (cloFrom X.env.cells scope.names []) pm' c' ctv = ob at hf
  have nd : ∀ v, ob.data ≠ .cell v := fun v z => by rw [← ho] at z; cases z
  have pin2 : ∀ q ∈ X.pn ++ (f, ob) :: pins, s2.heap.get? q.1 = some q.2 ∧ H2 q.1 = none ∧ q.1 ≠ X.env.locals ∧ q.1 ∉ X.fs ∧ ∀ v, q.2.data ≠ .cell v := fun q hq => by
    rcases List.mem_append.mp hq with h | h
    · exact I2.pin q (List.mem_append.mpr (.inl h))
    · rcases List.mem_cons.mp h with rfl | h
      · exact ⟨hf, hfn, nl, nfs, nd⟩
      · exact I2.pin q (List.mem_append.mpr (.inr h))
  have I2p : Inv X ((f, ob) :: pins) σ H2 s2 := { I2 with pin := pin2 }
  refine Calls.spliced_cons (thn (h3.run ((f, ob) :: pins) s2 σ H2 _ I2p (h H2 c' eN T2 hco)) fun u3 s3 ⟨v3, H3, I3p, r3, hco3, h⟩ => ?_)
  have pin3 : ∀ q ∈ X.pn ++ pins, s3.heap.get? q.1 = some q.2 ∧ H3 q.1 = none ∧ q.1 ≠ X.env.locals ∧ q.1 ∉ X.fs ∧ ∀ v, q.2.data ≠ .cell v := fun q hq => by
    rcases List.mem_append.mp hq with h | h
    · exact I3p.pin q (List.mem_append.mpr (.inl h))
    · exact I3p.pin q (List.mem_append.mpr (.inr (.tail _ h)))
  have I3 : Inv X pins σ H3 s3 := { I3p with pin := pin3 }
  obtain ⟨hf3, hfn3, _⟩ := I3p.pin (f, ob) (List.mem_append.mpr (.inr (.head _)))
  subst ho
  refine Calls.spliced_nil ⟨I3.kIn, ?_⟩
  have rc : codeAny (model X.prog X.w) X.A (.call (.ref g) ⟨[u1, .ref f, u3], []⟩) (CR C8.CX0 X.stack X.prog X.w H3 s3 Q C8.E0) s3 := by
    refine run_ofS (N := Ng) (ps := ps) (us := [u1, .ref f, u3]) (vs := [v1, .ref f, v3]) lk hcg Sg hr I3.env0 (hb s3 [u1, .ref f, u3] I3.kIn (by simp [hps])) (.cons r1 (.cons rfl (.cons r3 .nil))) (by simp [hps]) fun hr' => ?_
    obtain ⟨t', ht', hq'⟩ := hG f c' s3 H3 v1 v3 Q (fun v H' Q' => t (σ ++ [some v]) H' Q') (fun e ta p1 p2 ha he => pe_actP I3 L hp0 hf3 hfn3 hfr (fun u => hbind _ _ _ _ _ u) hr' (fun A outer s H hr2 => hbody A outer s H f c' hr2) hNg hva hd hcd ha he) hco3 hr' h
    exact ⟨t', ht'.nox, hq'⟩
  refine wpAny_call (codeAny_mono rc fun r s4 hq => ?_)
  cases r with
  | error e => exact (show False from hq).elim
  | ok fl =>
    cases fl with
    | ret u => exact I3.after hq
    | next => exact False.elim hq
    | brk => exact False.elim hq
    | cont => exact False.elim hq
end
end LamX
namespace Iz
open PySem PySem.Spec PyProof.Rows L2 LamX
/-- told(e1, lambda p: body, e3), told a def of the text -/
theorem plam3 {X : Cx} {TS : List (Addr × Str)} {x a p0 : Str} {st : Stmt} {N ps : List Str} {TT : (V → Hp → VK → Prop) → V → V → Hp → VK → Prop} {c P : Addr} {qn : Str} {params : Arguments} {body e1 e3 : Expr} {scope : Scope} {t1 t3 t : TE} {p lpos pos : Pos}
    (F : ∃ (f : Addr) (fd : FuncData), X.mg x = some (.ref f) ∧ Fun X.K x x st f fd) (S : FnScope N ps (defScope st))
    (hb : ∀ (kV doc pm : Value) (an : Option Addr) (cdv ct : Value) (us : List Value), us.length = ps.length → bindArgs (PySem.W.fnOf x x (defArgs st) (defBody st) (defScope st) .none kV doc pm an cdv ct) ⟨us, []⟩ = pure (ps.zip us))
    (hG : ∀ (g : Addr) (cdg : Value), GivesP X N x (defScope st) g cdg (defBody st) a qn TT)
    (hm : (P, qn) ∈ TS) (hu : ∀ q ∈ TS, q.1 = P → q.2 = qn) (TB : TabB X.base X.mg c P) (hcode : X.env.code = .ref c) (hq : X.env.qual ++ "<lambda>" = qn) (hr : Room 9 X.A) (L : lamPB X.env.scope scope p0 = true) (hp0 : p0 ∉ X.N)
    (h1 : PE X e1 t1) (h3 : PE X e3 t3)
    (hbody : ∀ (A : Around) (outer : List Env) (s : Shared) (H : Hp) (f c' : Addr), Room 7 (A.deeper (lamEnv X scope s.heap.objs.size f c')) → PE (lamCxP X A outer s H (fun _ _ _ => False) scope f c' p0) body t)
    (hps : ps.length = 3 := by rfl) (hdef : defaultsOf params X.env = ([], []) := by rfl) (hg : Gl X x := by rfl) (hv : Vis (defScope st) a := by first | exact Or.inl rfl | exact Or.inr (Or.inl rfl)) (hNa : N[1]? = some a := by rfl)
    (hbind : ∀ (q : Str) (cl : List (Str × Addr)) (pm cv ctv u : Value), bindArgs (PySem.W.kla_fn "<lambda>" q params body scope cl pm cv ctv) ⟨[u], []⟩ = pure [(p0, u)] := by intros; rfl)
    (he1 : starEach [e1, .Lambda params body scope lpos, e3] X.env = (false, eval e1 X.env) :: starEach [.Lambda params body scope lpos, e3] X.env := by rfl) (he2 : starEach [.Lambda params body scope lpos, e3] X.env = (false, eval (.Lambda params body scope lpos) X.env) :: starEach [e3] X.env := by rfl)
    (he3 : starEach [e3] X.env = (false, eval e3 X.env) :: starEach [] X.env := by rfl) (hpl : (backTo pos (starEach [.Lambda params body scope lpos, e3] X.env)).any (·.1) = false := by rfl)
    (hdb : (x == ("__debug__" : Str)) = false := by decide) (hd : (a == ("__debug__" : Str)) = false := by decide) (hcd : (a == ("__classdict__" : Str)) = false := by decide) :
    PE X (.Call (.Name x p) [e1, .Lambda params body scope lpos, e3] [] pos) (tLam3 TS qn TT t1 t3 t) := by
  subst hq
  obtain ⟨g, fd, hmg, F⟩ := F
  obtain ⟨oc, od, kV, doc, pm, an, cdv, ct, osl, rfl, lk, hcg⟩ := F.ex
  exact pe_lamcall3 hg hmg F.kp lk hcg (.all (hb kV doc pm an cdv ct)) S hps hNa hv (hG g cdv) TB hcode hm hu hr (lamP_by L) hp0 hdef hbind h1 h3 hbody he1 he2 he3 hpl hdb hd hcd
def rSlTN : V → Option Int → Option Int → Hp → VK → Prop := fun x lo hi H Q => ∃ a xs, x = .ref a ∧ H a = some (.tup xs) ∧ ¬ (HT.sIx xs.length 0 lo = 0 ∧ HT.sIx xs.length xs.length hi = xs.length) ∧ News H (.tup (cutV xs lo hi)) Q
theorem sl_tupN {X : Cx} : SlR X rSlTN := fun pins s σ H x v vl vu lo hi sl Q I rx hs pl pu ⟨a, xs, e, h, w, n⟩ => sl_tup pins s σ H x v vl vu lo hi sl Q I rx hs pl pu ⟨a, xs, e, SqT.of h, w, n.all⟩
def rCatTN : R2 := fun x y H Q => ∃ a b xs ys, x = .ref a ∧ y = .ref b ∧ H a = some (.tup xs) ∧ H b = some (.tup ys) ∧ xs ≠ [] ∧ ys ≠ [] ∧ xs.length + ys.length ≤ sizeLine ∧ News H (.tup (xs ++ ys)) Q
theorem op_catTN {X : Cx} : OpR X (binaryOp .Add) rCatTN := fun pins s σ H x y v u Q I rx ry ⟨a, b, xs, ys, e1, e2, ha, hb, hx, hy, hz, n⟩ => op_catT pins s σ H x y v u Q I rx ry ⟨a, b, xs, ys, e1, e2, SqT.of ha, SqT.of hb, hx, hz, fun e => absurd e hy, fun _ => n.all⟩
theorem st_lcT {K : PySem.W.Frag} {tl : TE} {g : TG} {tt : TT} {te : TE} {vs : List Nat} {σ : L2.St} {H : Hp} {Q : VK} {a : Addr} {xs : List V} (ha : ∀ R : V → Hp → Prop, R (.ref a) H → tl σ H R) (hx : H a = some (.tup xs)) (Pv : Addr → Nat → Hp → Prop)
    (h0 : ∀ D H1, H D = none → Same H H1 → H1 D = some (.lst []) → Pv D 0 H1) (hl : ∀ D i H, Pv D i H → H a = some (.tup xs))
    (hs : ∀ D i x H, xs[i]? = some x → Pv D i H → g x (wipe σ vs) H fun σ2 H2 => wipe σ2 vs = wipe σ vs ∧ tt σ2 H2 fun b H3 => if b = true then te σ2 H3 fun y H4 => ∃ acc, H4 D = some (.lst acc) ∧ acc.length < sizeLine ∧ Pv D (i + 1) (upd H4 D (.lst (acc ++ [y]))) else Pv D (i + 1) H3)
    (hd : ∀ D H, Pv D xs.length H → Q (.ref D) H) : tLc (iTup K tl) g tt te vs σ H Q :=
  ha _ ⟨a, rfl, ⟨xs, SqT.of hx⟩, fun D hD => lc_tup (Pv D) (h0 D _ hD (Same.upd hD) upd_same) (fun i H _ p => SqT.of (hl D i H p)) (hs D) (hd D)⟩
theorem passLamP {X : Cx} {A : Around} {outer : List Env} {s : Shared} {H : Hp} {scope : Scope} {f c : Addr} {p : Str} : Passes CX0 (lamCxP X A outer s H (fun _ _ _ => False) scope f c p) E0 := pass0
end Iz
/-! Te -/
set_option Elab.async false
set_option linter.all false
set_option maxRecDepth 100000
set_option maxHeartbeats 4000000
namespace Iz
open PySem PySem.Spec PyProof.Rows L2 LamX
open He (ga)
/-! ### tuples whose items have an own ==, alike or not -/
theorem tuple_eqB {prog : Program} {w : World} {A : Around} {R : Result → Shared → Prop} (l b : Addr) (items items2 : Array Value) (n n2 : Nat) (dd dd2 : Option Addr) (sl sl2 : Array (Option Value)) (I : Nat → Shared → Prop)
    (turn : ∀ (i : Nat) (h1 : i < items.size) (h2 : i < items2.size) (s : Shared), I i s → wpAny (model prog w) A.in1 (eqBool items[i] items2[i]) (fun r s' => (r = true ∧ I (i + 1) s') ∨ (r = false ∧ R (.ok (.ret (.bool false))) s')) (fun e s' => R (.error e) s') s)
    (fin : ∀ s, I (min items.size items2.size) s → R (.ok (.ret (.bool (items.size == items2.size)))) s) {s : Shared}
    (hl1 : s.heap.get? l = some { cls := .type "tuple", dict := dd, data := .seq items n, slots := sl }) (hb1 : s.heap.get? b = some { cls := .type "tuple", dict := dd2, data := .seq items2 n2, slots := sl2 }) (h : I 0 s) :
    wpAny (model prog w) A.in1 (Builtin.«tuple.__eq__» ⟨[.ref l, .ref b], []⟩) (GQ.FinOf prog w A R) (fun e s' => R (.error e) s') s := by
  have f2 := AutoSeq1.sub_tuple_tuple
  have hZ : (items.toList.zip items2.toList).length = min items.size items2.size := by simp
  cases s with
  | mk hp g d tk os =>
  refine wpAny_bind ?_
  refine wpAny_of_eq (show slotArgs "__eq__" 1 ⟨[.ref l, .ref b], []⟩ = pure (.ref l, [.ref b]) from rfl) ?_
  refine wpAny_bind ?_
  change wpAny _ _ (_ >>= _) _ _ _
  refine wpAny_bind ?_
  change wpAny _ _ (_ >>= _) _ _ _
  refine wpAny_bind ?_
  refine wpAny_loadPart' hb1 ?_
  refine wpAny_pure ?_
  refine wpAny_of_eq f2 ?_
  refine wpAny_ite_false (by rfl) ?_
  refine wpAny_bind ?_
  change wpAny _ _ (_ >>= _) _ _ _
  refine wpAny_bind ?_
  change wpAny _ _ (_ >>= _) _ _ _
  refine wpAny_bind ?_
  refine wpAny_load' hl1 ?_
  refine wpAny_pure (wpAny_pure ?_)
  refine wpAny_bind ?_
  change wpAny _ _ (_ >>= _) _ _ _
  refine wpAny_bind ?_
  change wpAny _ _ (_ >>= _) _ _ _
  refine wpAny_bind ?_
  refine wpAny_load' hb1 ?_
  refine wpAny_pure (wpAny_pure ?_)
  refine wpAny_bind ?_
  clear hl1 hb1
  refine wpAny_forIn_list _ (fun rest b s' => b.1 = none ∧ ∃ i, rest = (items.toList.zip items2.toList).drop i ∧ i ≤ min items.size items2.size ∧ I i s') _ ?_ ?_ _ _ ⟨rfl, 0, rfl, Nat.zero_le _, h⟩
  · rintro ⟨x, y⟩ rest ⟨b1, b2⟩ s ⟨rfl, i, e, hi, hI⟩
    have hlt : i < (items.toList.zip items2.toList).length := by
      by_cases c : i < (items.toList.zip items2.toList).length
      · exact c
      · rw [List.drop_of_length_le (by omega)] at e; cases e
    rw [List.drop_eq_getElem_cons hlt] at e
    injection e with e1 e2
    rw [List.getElem_zip] at e1
    injection e1 with ex ey
    have hm : i < items.size ∧ i < items2.size := by rw [hZ] at hlt; omega
    have t := turn i hm.1 hm.2 s hI
    have gx : x = items[i] := by rw [ex]; simp
    have gy : y = items2[i] := by rw [ey]; simp
    rw [← gx, ← gy] at t
    change wpAny _ _ (_ >>= _) _ _ _
    refine wpAny_bind (wpAny_mono t (fun r s' q => ?_) fun _ _ z => z)
    rcases q with ⟨rfl, q⟩ | ⟨rfl, q⟩
    · change wpAny _ _ (if (!true) = true then _ else _) _ _ _
      refine wpAny_ite_false (by rfl) (wpAny_pure ?_)
      exact ⟨rfl, i + 1, e2, by omega, q⟩
    · change wpAny _ _ (if (!false) = true then _ else _) _ _ _
      refine wpAny_ite_true (by rfl) ?_
      change wpAny _ _ (_ >>= _) _ _ _
      refine wpAny_bind (wpAny_pure (wpAny_pure (wpAny_pure ?_)))
      exact q
  · rintro ⟨b1, b2⟩ s ⟨rfl, i, e, hi, hI⟩
    have : i = min items.size items2.size := by
      have := congrArg List.length e
      rw [List.length_drop, hZ] at this
      simp at this
      omega
    subst this
    exact wpAny_pure (fin s hI)
theorem rc_tupB {prog : Program} {w : World} {A : Around} {E : Value → Shared → Prop} {s : Shared} {l b : Addr} {items items2 : Array Value} {Q : Value → Shared → Prop} (hu : A.units < cLine) (I : Nat → Shared → Prop) (hl : s.heap.IsTuple l items) (hb : s.heap.IsTuple b items2)
    (turn : ∀ (i : Nat) (h1 : i < items.size) (h2 : i < items2.size) (s : Shared), I i s → wpAny (model prog w) A.in1 (eqBool items[i] items2[i]) (fun r s' => (r = true ∧ I (i + 1) s') ∨ (r = false ∧ Q (.bool false) s')) E s)
    (fin : ∀ s, I (min items.size items2.size) s → Q (.bool (items.size == items2.size)) s) (h : I 0 s) : wpAny (model prog w) A (richCompare .Eq (.ref l) (.ref b)) Q E s := by
  obtain ⟨⟨cls, dd, data, sl⟩, ho, hc, n, hd⟩ := hl
  obtain ⟨⟨cls2, dd2, data2, sl2⟩, ho2, hc2, n2, hd2⟩ := hb
  dsimp only at hc hd hc2 hd2
  subst hc hd hc2 hd2
  refine wpAny_richCompare_same_room ⟨_, ho, rfl⟩ ⟨_, ho2, rfl⟩ F.slot_tuple_eq (GQ.call_here F.slot_tuple_eq ⟨_, ho, rfl⟩ F.entry_tuple_eq (F.args_tuple_eq_2 _ _) (tuple_eqB (R := wants (fun v s' => v ≠ Value.notImplemented ∧ Q v s') E) l b items items2 n n2 dd dd2 sl sl2 I (fun i h1 h2 s' q => wpAny_mono (turn i h1 h2 s' q) (fun r s2 z => ?_) fun _ _ z => z) (fun s' q => show Value.bool _ ≠ Value.notImplemented ∧ Q _ s' from ⟨(by intro x; cases x), fin s' q⟩) ho ho2 h)) hu
  rcases z with z | ⟨z1, z2⟩
  · exact .inl z
  · exact .inr ⟨z1, show Value.bool _ ≠ Value.notImplemented ∧ Q _ s2 from ⟨(by intro x; cases x), z2⟩⟩
/-- how two rows of things compare, thing by thing -/
def allEq (r : V → V → Bool) (xs ys : List V) : Bool := ((xs.zip ys).all fun p => r p.1 p.2) && (xs.length == ys.length)
def rEqTo (K : PySem.W.Frag) (C : Addr) (sp : Sp) (E : XK) : R2 := fun x y H Q => ∃ a b xs ys, x = .ref a ∧ y = .ref b ∧ H a = some (.tup xs) ∧ H b = some (.tup ys) ∧ ∃ r : V → V → Bool,
  (∀ u ∈ xs, ∀ v ∈ ys, (u = v → r u v = true) ∧ (∃ p q, u = .ref p ∧ v = .ref q) ∧ rOwn K C sp E u v H fun w H' => w = .bl (r u v) ∧ H' = H) ∧ Q (.bl (allEq r xs ys)) H
section
variable {X : Cx} {CX : CXT} {k : Nat} {x : Str} {ps : List Str} {sp : Sp} {E : XK}
theorem op_eqTo (O : OkM X.prog X.w X.K X.mg X.base CX k x "__eq__" ps [] sp) (hr : Room (k + 1) X.A) (hx : Passes CX X E) : OpR X (compareOp .Eq) (rEqTo X.K (ga X.K x) sp E) := by
  intro pins s σ H v0 y v u Q I rx ry h
  obtain ⟨a, b, xs, ys, rfl, rfl, ha, hb, r, hp, q⟩ := h
  cases rx
  cases ry
  obtain ⟨its, r1, e1, z1⟩ := I.tuple (SqT.of ha)
  obtain ⟨its2, r2, e2, z2⟩ := I.tuple (SqT.of hb)
  obtain ⟨f, fd, M, b0, F⟩ := O.ex
  obtain ⟨ds, hd, hbi⟩ := b0 0 (Nat.le_refl _)
  cases hd
  show wpAny _ _ (richCompare .Eq (.ref a) (.ref b)) _ _ _
  refine rc_tupB hr.units0 (fun i s' => Inv X pins σ H s' ∧ (((xs.zip ys).take i).all fun p => r p.1 p.2) = true) e1 e2 ?_ ?_ ⟨I, rfl⟩
  · rintro i h1 h2 s' ⟨I', hall⟩
    have k1 : i < xs.length := by have := r1.length; simp at h1; omega
    have k2 : i < ys.length := by have := r2.length; simp at h2; omega
    obtain ⟨u, hu, ru⟩ := r1.get (List.getElem?_eq_getElem k1)
    obtain ⟨v, hv, rv⟩ := r2.get (List.getElem?_eq_getElem k2)
    have g1 : its.toArray[i] = u := by simp only [List.getElem_toArray]; exact (List.getElem?_eq_some_iff.mp hu).2
    have g2 : its2.toArray[i] = v := by simp only [List.getElem_toArray]; exact (List.getElem?_eq_some_iff.mp hv).2
    rw [g1, g2]
    obtain ⟨hs, ⟨p, q', ep, eq'⟩, ho⟩ := hp xs[i] (List.getElem_mem k1) ys[i] (List.getElem_mem k2)
    have et : ((xs.zip ys).take (i + 1)).all (fun p => r p.1 p.2) = (((xs.zip ys).take i).all (fun p => r p.1 p.2) && r xs[i] ys[i]) := by
      rw [List.take_succ, List.getElem?_eq_getElem (by simp; omega), List.all_append, List.getElem_zip]
      simp
    have nay : ∀ s2, Inv X pins σ H s2 → r xs[i] ys[i] = false → EP X pins σ Q (Value.bool false) s2 := fun s2 I2 e => by
      have : allEq r xs ys = false := by
        unfold allEq
        rw [Bool.and_eq_false_iff]
        left
        rw [List.all_eq_false]
        exact ⟨(xs[i], ys[i]), List.mem_iff_getElem.mpr ⟨i, by simp; omega, by simp⟩, by simp [e]⟩
      rw [this] at q
      exact ⟨.bl false, H, I2, rfl, q⟩
    rw [et, hall, Bool.true_and]
    rw [ep] at ru ho hs nay
    rw [eq'] at rv ho hs nay
    rw [ep, eq']
    cases ru
    cases rv
    by_cases c : p = q'
    · subst c
      exact SeqAt.EqAt.same (.ref p) X.prog X.w X.xe _ (.inl ⟨rfl, I', hs rfl⟩)
    · refine GQ.eqBool_refG c ?_
      obtain ⟨a', dx, fs, ea, ha', ⟨t, ty, nf⟩, hsp⟩ := ho
      cases ea
      obtain ⟨mA, O', _⟩ := ins_get I'.hok ha'
      obtain ⟨od, J, _⟩ := O'.look
      obtain ⟨mm, hF⟩ := I'.fr
      refine PySem.W.cmp_K hr.in1.units0 hF I'.ok.mod.kin J (looksTy I' (show RelV (.ref q') (.ref q') from rfl) ty) nf M.at_ M.fn (own_callA I' F hbi hr.in1 rfl hx (show RelV (.ref q') (.ref q') from rfl) hsp fun v w H' s2 I2 rv q2 => ?_)
      obtain ⟨b2, rfl, hw, rfl⟩ := q2
      cases rv
      cases hw
      cases e : r (.ref p) (.ref q') with
      | true => exact ⟨true, rfl, .inl ⟨rfl, I2, rfl⟩⟩
      | false => exact ⟨false, rfl, .inr ⟨rfl, nay _ I2 e⟩⟩
  · rintro s' ⟨I', hall⟩
    have e : allEq r xs ys = (its.toArray.size == its2.toArray.size) := by
      unfold allEq
      have h1 := r1.length
      have h2 := r2.length
      rw [List.take_of_length_le (by simp; omega)] at hall
      rw [hall, Bool.true_and]
      simp only [List.size_toArray]
      rw [show xs.length = its.length by omega, show ys.length = its2.length by omega]
    rw [e] at q
    exact ⟨.bl _, H, I', rfl, q⟩
end
end Iz
/-! En -/
set_option Elab.async false
set_option linter.all false
set_option maxRecDepth 100000
set_option maxHeartbeats 4000000
namespace Iz
open PySem PySem.Spec PyProof.Rows L2 LamX
open He (ga)
/-! ### enumerate over a tuple -/
theorem meets_enumT (v : Value) (o : Obj) (HP : Heap → Prop) (B : Begins v o HP) : Meets (Builtin.«enumerate.__new__» ⟨[.type "enumerate", v], []⟩) fun _ R s => HP s.heap ∧
    R (.ok (.ret (.ref (s.heap.push o).objs.size))) { heap := (s.heap.push o).push { cls := .type "enumerate", data := .fields #[.none, .bool false, .ref s.heap.objs.size, rawInt 0, .none, .none] }, gens := s.gens, drawn := s.drawn, toks := s.toks, os := s.os } := by
  refine Meets.of_wp fun prog w A R s h => ?_
  obtain ⟨hl, h⟩ := h
  have hsub := sub_enumerate
  cases s with
  | mk hp g d tk os =>
  refine wpAny_bind ?_
  refine wpAny_bind ?_
  refine wpAny_pure ?_
  refine wpAny_ite_false (by rfl) ?_
  refine wpAny_bind (wpAny_of_eq hsub ?_)
  refine wpAny_ite_false (by rfl) ?_
  refine wpAny_pure ?_
  refine wpAny_ite_true (by rfl) ?_
  refine wpAny_bind ?_
  refine wpAny_bind (wpAny_stack_any fun st => ?_)
  refine wpAny_pure ?_
  have key : ∀ short : Bool, wpAny (model prog w) A.in1 (do
      let it ← pyIter v
      let r ← Builtin.SmallTypes.newRecord (Value.type "enumerate") (Builtin.SmallTypes.ownedTupleFields ++ [it, rawInt 0, Value.none, Value.none])
      PySem.ret r) (fun fin s' => ∃ v, fin = Fin.done (Flow.ret v) ∧ R (Except.ok (Flow.ret v)) s') (fun e s' => R (Except.error e) s') { heap := hp, gens := g, drawn := d, toks := tk, os := os } := fun _ => by
    refine wpAny_bind (B.iter _ _ _ _ _ _ hl ?_)
    refine wpAny_bind ?_
    refine wpAny_bind (wpAny_alloc ?_)
    exact wpAny_pure (wpAny_pure ⟨_, rfl, h⟩)
  split
  · rename_i c _ _ _ _ _
    cases c == Value.type "enumerate" with
    | false =>
      refine wpAny_ite_false (by rfl) ?_
      refine wpAny_bind ?_
      refine wpAny_of_eq (a := (v, none)) rfl ?_
      exact key false
    | true =>
      refine wpAny_ite_true (by rfl) ?_
      refine wpAny_bind ?_
      refine wpAny_of_eq (a := (v, none)) rfl ?_
      exact key true
  · refine wpAny_ite_false (by rfl) ?_
    refine wpAny_bind ?_
    refine wpAny_of_eq (a := (v, none)) rfl ?_
    exact key false
theorem call_enumT {prog : Program} {w : World} {A : Around} {E : Value → Shared → Prop} {s : Shared} {v : Value} {o : Obj} {HP : Heap → Prop} {Q : Value → Shared → Prop} (B : Begins v o HP) (hl : HP s.heap)
    (h : ∀ h' : Heap, IsEnum h' (s.heap.objs.size + 1) s.heap.objs.size 0 .none → h'.get? s.heap.objs.size = some o → h'.objs.size = s.heap.objs.size + 2 → (∀ b o, s.heap.get? b = some o → h'.get? b = some o) → Q (.ref (s.heap.objs.size + 1)) { heap := h', gens := s.gens, drawn := s.drawn, toks := s.toks, os := s.os }) :
    wpAny (model prog w) A (call (.type "enumerate") [v]) Q E s := by
  have hz := Heap.size_push s.heap o
  have he := Heap.get?_push_size (s.heap.push o) (o := { cls := .type "enumerate", data := .fields #[.none, .bool false, .ref s.heap.objs.size, rawInt 0, .none, .none] }) rfl
  rw [hz] at he
  refine callType_new F.called_enumerate (by decide) (F.typeCall_enumerate_1 v) (F.newCall_enumerate_1 v) (fun obj => F.args_object_init_2 obj v) F.entry_enumerate_new (meets_enumT v o HP B) ⟨hl, ?_⟩
  rw [hz]
  refine ⟨⟨_, he, rfl⟩, h _ he (Heap.get?_push_of_some _ (Heap.get?_push_size s.heap B.free)) ?_ fun b o x => Heap.get?_push_of_some _ (Heap.get?_push_of_some _ x)⟩
  rw [Heap.size_push, hz]
theorem inv_turned {X : Cx} {pins : List (Addr × Obj)} {σ : L2.St} {H : Hp} {s : Shared} {h' : Heap} {t' : Nat} {ch : List Addr} (I : Inv X pins σ H s) (k : ∀ b o, b ∉ ch → s.heap.get? b = some o → h'.get? b = some o) (hf : ∀ b ∈ ch, FpOk X pins H b) :
    Inv X pins σ H { heap := h', gens := s.gens, drawn := s.drawn, toks := t', os := s.os } := by
  have nit : ∀ b u, H b = some u → b ∉ ch := fun b u e z => by rw [(hf b z).1] at e; cases e
  refine Inv.step (ch := ch) I (fun b hb => ?_) (fun b o _ _ hc e _ => k b o hc e) (fun b o _ _ hc e _ => ⟨o.slots, k b o hc e⟩) (fun _ _ _ _ n => n) (fun b o hc e => ⟨o, k b o hc e⟩) (fun _ _ e => e) (fun _ _ _ e => e) (fun b ps e => ⟨#[], by rw [e]; simp⟩) (fun m hm => ?_)
    (fun b u e => ObjOk.stay (I.hok b u e) (fun c v hc q => k c v (hc.elim (fun z => by rw [z]; exact nit b u e) fun z => nit c (.own b) z) q) (fun x q => q) fun x _ q => q) I.bare
  · obtain ⟨f1, f2, f3, f4, f5, f6⟩ := hf b hb
    exact ⟨f4, f2, f5, f6⟩
  · obtain ⟨o, es, ep, ho, r⟩ := hm
    exact ⟨o, es, ep, k _ o (fun z => (hf _ z).2.1 rfl) ho, r⟩
/-- what enumerate hands out of a tuple: served is its end -/
def Iet (K : PySem.W.Frag) (a : Addr) : It := { go := fun _ _ => False, yld := fun _ _ _ _ => False, stop := fun i H => ∃ xs, SqT K H a xs ∧ xs.length = i }
theorem turn_enumT {P : Program} {w : World} {K : PySem.W.Frag} {elts : List Expr} {kk : Nat} {tpos : Pos} (a e it : Addr) :
    Turn P w K (.Tuple elts kk tpos) (Iet K a) [e, it] e fun i h => (∃ old, IsEnum h e it (i : Int) old) ∧ h.IsTupleIter it a i ∧ e ≠ it := by
  refine ⟨.head _, ?_, ?_, ?_, ?_, ?_⟩
  · rintro i h ⟨⟨old, he⟩, ⟨o, ho, hc, hd⟩, ne⟩ b hb
    simp only [List.mem_cons, List.not_mem_nil, or_false] at hb
    rcases hb with rfl | rfl
    · exact ⟨_, he, fun v z => by cases z⟩
    · exact ⟨_, ho, fun v z => by rw [hd] at z; cases z⟩
  · rintro i h h' ⟨⟨old, he⟩, ⟨o, ho, hc, hd⟩, ne⟩ k
    exact ⟨⟨old, k e (.head _) _ he⟩, ⟨o, k it (.tail _ (.head _)) _ ho, hc, hd⟩, ne⟩
  · intro X _ _ _ _ i pins s σ H E I hf tn g
    exact g.elim
  · rintro X rfl rfl rfl hc i pins s σ H E I hf ⟨⟨old, he⟩, hit, ne⟩ ⟨xs, hq, hl⟩
    obtain ⟨its, rv, htup, z⟩ := I.tuple hq
    have hn : its.toArray.size = i := by rw [List.size_toArray, ← hl]; exact rv.length.symm
    have htup2 := htup
    obtain ⟨o, ho, hcl, n, hd⟩ := htup
    have ea : e ≠ a := fun z => by subst z; rw [he] at ho; cases ho; simp at hcl
    have ia : it ≠ a := fun z => by subst z; obtain ⟨o2, ho2, hc2, _⟩ := hit; rw [ho] at ho2; cases ho2; rw [hcl] at hc2; simp at hc2
    have hnd : X.A.in1.handled = none := I.ok.hd hc
    refine (Goes.enumFrom (x1 := kk) (pos := tpos) (elts := elts) 0 (Draws.tuple (prog := X.prog) (w := X.w) hnd it a ia.symm its.toArray) e ne (by simp [ne, ea]) (by simp)).stops s (fun s1 => Inv X pins σ H s1) E ?_ (fun h' tk k _ => inv_turned I k hf)
    rw [hn]
    exact ⟨⟨old, by rw [Int.zero_add]; exact he⟩, hit, htup2⟩
  · rintro A i s Q E ⟨⟨old, he⟩, _, _⟩ q
    exact wpAny_pyIter_enum he q
def iEnumT (K : PySem.W.Frag) (ta : TA) : TI := fun σ H R => ta σ H fun vs H1 => ∃ a xs, vs = [.ref a] ∧ SqT K H1 a xs ∧ R (Iet K a) H1
theorem pi_enumT {X : Cx} {e : Expr} {ta : TA} {p pos tpos : Pos} {elts : List Expr} {kk : Nat} (hg : Gl X "enumerate") (hm : X.mg "enumerate" = none) (ha : PA X [e] ta) (hs : starEach [e] X.env = [(false, eval e X.env)] := by rfl) :
    PI X (.Tuple elts kk tpos) (.Call (.Name "enumerate" p) [e] [] pos) (iEnumT X.K ta) := by
  refine ⟨fun pins s σ H R I h => ?_⟩
  refine PyProof.Rows.Call_ (L2.ld_blt I hg hm PyProof.Rows.boot_enumerate (PyProof.Rows.callWith_type1 (thn (ha.run pos pins s σ H _ I h) fun us s1 ⟨vs, H1, I1, r1, q1⟩ => ?_) hs rfl) (by decide) (by decide)) rfl
  obtain ⟨a, xs, rfl, hq, q⟩ := q1
  obtain ⟨u, rfl, rv⟩ := vals1 r1
  cases rv
  obtain ⟨its, rv, htup, z⟩ := I1.tuple hq
  refine call_enumT (begins_tuple a its.toArray) htup fun h' he hit hsz hk => ?_
  have I2 := Inv.kept (t' := s1.toks) I1 hk
  refine wpAny_pyIter_enum he ?_
  refine ⟨s1.heap.objs.size + 1, [s1.heap.objs.size + 1, s1.heap.objs.size], _, Iet X.K a, H1, rfl, I2, turn_enumT a (s1.heap.objs.size + 1) s1.heap.objs.size, ⟨⟨_, he⟩, ⟨_, hit, rfl, rfl⟩, Nat.succ_ne_self _⟩, fun b hb => ?_, q⟩
  have hle : s1.heap.objs.size ≤ b := by
    simp only [List.mem_cons, List.not_mem_nil, or_false] at hb
    rcases hb with rfl | rfl
    · exact Nat.le_succ _
    · exact Nat.le_refl _
  exact I1.fpOk hle (I1.hok.fresh hle)
/-- the empty tuple that stands for an argument that is not given -/
def EmpT (K : PySem.W.Frag) (t : Addr) : Prop := ∃ o n, K.lookup t = some o ∧ o.cls = .type "tuple" ∧ o.data = .seq #[] n
theorem EmpT.sq {K : PySem.W.Frag} {t : Addr} {H : Hp} (h : EmpT K t) : SqT K H t [] := let ⟨o, n, h1, h2, h3⟩ := h; .inr ⟨o, #[], n, h1, h2, h3, Nat.zero_le _, .nil⟩
theorem SqT.same {K : PySem.W.Frag} {t : Addr} {H H' : Hp} {xs : List V} (h : SqT K H t xs) (s : Same H H') : SqT K H' t xs := by
  rcases h with (h | ⟨o, h⟩) | h
  · exact .inl (.inl (s _ _ h))
  · exact .inl (.inr ⟨o, s _ _ h⟩)
  · exact .inr h
/-- a list, or an empty tuple -/
def LT (K : PySem.W.Frag) (H : Hp) (a : Addr) (xs : List V) : Prop := H a = some (.lst xs) ∨ (xs = [] ∧ SqT K H a [])
theorem LT.same {K : PySem.W.Frag} {a : Addr} {H H' : Hp} {xs : List V} (h : LT K H a xs) (s : Same H H') : LT K H' a xs := h.elim (fun h => .inl (s _ _ h)) fun h => .inr ⟨h.1, SqT.same h.2 s⟩
theorem LT.lst {K : PySem.W.Frag} {a : Addr} {H : Hp} {xs : List V} (h : LT K H a xs) (n : xs ≠ []) : H a = some (.lst xs) := h.elim id fun h => absurd h.1 n
theorem LT.ty {K : PySem.W.Frag} {a : Addr} {H : Hp} {xs : List V} (h : LT K H a xs) : ∃ t, TyX K H (.ref a) t ∧ PySem.W.kitAny K t [.type "list", .type "tuple"] = some true := by
  rcases h with h | ⟨_, (h | ⟨o, h⟩) | ⟨o, its, n, h1, h2, _⟩⟩
  · exact ⟨_, .base (.lst h), kitAny_ll⟩
  · exact ⟨_, .base (.tup h), kitAny_tl⟩
  · exact ⟨_, .fTuple h, kitAny_tl⟩
  · exact ⟨_, .kTuple h1 h2, kitAny_tl⟩
/-- either walk -/
theorem pi_or {X : Cx} {tg it : Expr} {w1 w2 : TI} (h1 : PI X tg it w1) (h2 : PI X tg it w2) : PI X tg it fun σ H R => w1 σ H R ∨ w2 σ H R :=
  ⟨fun pins s σ H R I h => h.elim (h1.run pins s σ H R I) (h2.run pins s σ H R I)⟩
theorem st_forLT {K : PySem.W.Frag} {g : TG} {tb : TS} {D : Ends} {σ : L2.St} {H : Hp} {tl : TE} {a : Addr} {xs : List V} (ha : ∀ R : V → Hp → Prop, R (.ref a) H → tl σ H R) (hx : LT K H a xs) (Pv : Nat → L2.St → Hp → Prop) (h0 : Pv 0 σ H) (hl : xs ≠ [] → ∀ i σ H', Pv i σ H' → H' a = some (.lst xs))
    (hs : ∀ i x σ H, xs[i]? = some x → Pv i σ H → g x σ H fun σ2 H2 => tb { nx := Pv (i + 1), rt := D.rt, bk := D.nx, ct := Pv (i + 1) } σ2 H2) (hd : ∀ σ H, Pv xs.length σ H → D.nx σ H) : tFor (fun σ H R => iList K tl σ H R ∨ iTup K tl σ H R) g tb D σ H := by
  rcases hx with hx | ⟨rfl, hx⟩
  · by_cases n : xs = []
    · subst n
      exact .inl (st_forL ha hx (fun i σ' H' => i = 0 ∧ σ' = σ ∧ H' = H) ⟨rfl, rfl, rfl⟩ (fun i σ' H' ⟨_, _, e⟩ => by rw [e]; exact hx) (fun i x σ' H' h => by simp at h) (fun σ' H' ⟨_, e1, e2⟩ => by subst e1 e2; exact hd _ _ h0))
    · exact .inl (st_forL ha hx Pv h0 (hl n) hs hd)
  · exact .inr (ha _ ⟨a, rfl, ⟨_, hx⟩, for_tup (xs := []) (fun i σ' H' => i = 0 ∧ σ' = σ ∧ H' = H) ⟨rfl, rfl, rfl⟩ (fun i σ' H' _ ⟨_, _, e⟩ => e ▸ hx) (fun i x σ' H' h => by simp at h) (fun σ' H' ⟨_, e1, e2⟩ => by subst e1 e2; exact hd _ _ h0)⟩)
theorem st_forET {K : PySem.W.Frag} {g : TG} {tb : TS} {D : Ends} {σ : L2.St} {H : Hp} {ta : TA} {a : Addr} {xs : List V} (ha : ∀ R : List V → Hp → Prop, R [.ref a] H → ta σ H R) (hx : LT K H a xs) (Pv : Nat → L2.St → Hp → Prop) (h0 : Pv 0 σ H) (hl : xs ≠ [] → ∀ i σ H', Pv i σ H' → H' a = some (.lst xs))
    (hs : ∀ i x T σ H H', xs[i]? = some x → Pv i σ H → Same H H' → H' T = some (.tup [.int (i : Nat), x]) → g (.ref T) σ H' fun σ2 H2 => tb { D with nx := Pv (i + 1), ct := Pv (i + 1), bk := D.nx } σ2 H2) (hd : ∀ σ H, Pv xs.length σ H → D.nx σ H) : tFor (fun σ H R => iEnum K ta σ H R ∨ iEnumT K ta σ H R) g tb D σ H := by
  rcases hx with hx | ⟨rfl, hx⟩
  · by_cases n : xs = []
    · subst n
      exact .inl (st_forE ha hx (fun i σ' H' => i = 0 ∧ σ' = σ ∧ H' = H) ⟨rfl, rfl, rfl⟩ (fun i σ' H' ⟨_, _, e⟩ => by rw [e]; exact hx) (fun i x T σ' H1 H2 h => by simp at h) (fun σ' H' ⟨_, e1, e2⟩ => by subst e1 e2; exact hd _ _ h0))
    · exact .inl (st_forE ha hx Pv h0 (hl n) hs hd)
  · exact .inr (ha _ ⟨a, [], rfl, hx, fun i _ σ' H' => i = 0 ∧ σ' = σ ∧ H' = H, ⟨0, rfl, rfl, rfl⟩, fun i m σ' H' ⟨e, e1, e2⟩ => by subst e e1 e2; exact .inl ⟨⟨[], hx, rfl⟩, hd _ _ h0⟩⟩)
def rListT : List V → Hp → VK → Prop := fun xs H Q => ∃ p ys, xs = [.ref p] ∧ H p = some (.tup ys) ∧ News H (.lst ys) Q
theorem call_listT {X : Cx} : CallR X (.type "list") rListT := CallR.imp call_list_of fun xs H Q ⟨p, ys, a, b, n⟩ => ⟨p, ys, a, .inr (SqT.of b), n.all⟩
theorem atI_lastG {xs : List V} {x : V} (h : xs[xs.length - 1]? = some x) : atI xs (-1) = some x := by
  have h0 : 0 < xs.length := by have := (List.getElem?_eq_some_iff.mp h).1; omega
  unfold atI ixN
  rw [if_neg (by decide), if_pos (by omega), show ((-1 : Int) + xs.length).toNat = xs.length - 1 by omega]
  simpa using h
theorem pe_never {X : Cx} {e : Expr} : PE X e (fun _ _ _ => False) := ⟨fun _ _ _ _ _ _ h => h.elim⟩
/-- {} -/
def tDictE : TE := fun _ H Q => News H (.dK []) Q
theorem pe_dictN {X : Cx} {pos : Pos} : PE X (.Dict [] [] pos) tDictE := PE.imp pe_dnewK fun σ H Q n p hp => n p _ hp (Same.upd hp) upd_same
theorem kitAny_no {K : PySem.W.Frag} {n : String} (h1 : PySem.W.kitOne K (.type n) (.type "list") = some false) (h2 : PySem.W.kitOne K (.type n) (.type "tuple") = some false) : PySem.W.kitAny K (.type n) [.type "list", .type "tuple"] = some false :=
  kitAny_cons (b := false) h1 (fun _ => kitAny_cons (b := false) h2 (fun _ => rfl) (fun h => by cases h)) (fun h => by cases h)
/-- a raising call within a try -/
theorem passTr {X : Cx} {W : WX} {E : XK} (tk : Takes X W) (hE : ∀ cls d σ' H', E cls d H' → W cls d σ' H') : Passes (L2.CX X.prog X.w) X E := by
  intro pins σ H s e s' I h
  exact (passAt tk σ) pins H s e s' I (by
    obtain ⟨a, B, H', cls, d, h1, h2, h3, h4, h5, h6, h7, h8⟩ := h
    exact ⟨a, B, H', cls, d, h1, h2, h3, h4, h5, h6, h7, hE _ _ _ _ h8⟩)
end Iz
/-! Ob -/
set_option Elab.async false
set_option linter.all false
set_option maxRecDepth 100000
set_option maxHeartbeats 4000000
namespace Iz
open PySem PySem.Spec PyProof.Rows L2 LamX
open He (ga)
/-! ### own classes' + - | & between two of one class -/
theorem back_of {v : V} {w : Value} {s : Shared} {R : Value → Shared → Prop} (rv : RelV v w) (q : R w s) : PySem.W.CmpBack R w s := by
  unfold PySem.W.CmpBack
  split
  · cases v <;> first
      | (exfalso; exact nomatch rv)
      | (exfalso; obtain ⟨_, z⟩ := rv; cases z)
      | (exfalso; cases rv)
  · exact q
def rOwnB (C : Addr) (sp : Sp) (E : XK) : R2 := fun x y H Q => ∃ a b dx fs dy gs, x = .ref a ∧ y = .ref b ∧ H a = some (.ins C dx fs) ∧ H b = some (.ins C dy gs) ∧ sp [.ref a, .ref b] H Q E
theorem op_ownB {X : Cx} {CX : CXT} {k : Nat} {x m : Str} {ps : List Str} {sp : Sp} {E : XK} {op : Operator} (O : OkM X.prog X.w X.K X.mg X.base CX k x m ps [] sp) (hm : PySem.dunder op.info.2 = m) (sf : PySem.W.selfFirst X.K (ga X.K x) = true) (hr : Room k X.A) (hx : Passes CX X E) : OpR X (binaryOp op) (rOwnB (ga X.K x) sp E) := by
  intro pins s σ H v0 y v u Q I rx ry h
  obtain ⟨a, b, dx, fs, dy, gs, rfl, rfl, ha, hb, hsp⟩ := h
  cases rx
  obtain ⟨f, fd, M, bd, F⟩ := O.ex
  obtain ⟨ds, hd, hbi⟩ := bd 0 (Nat.le_refl _)
  cases hd
  obtain ⟨mA, O', _⟩ := ins_get I.hok ha
  obtain ⟨od, J, _⟩ := O'.look
  obtain ⟨mB, OB, _⟩ := ins_get I.hok hb
  obtain ⟨odB, JB, _⟩ := OB.look
  obtain ⟨mm, hF⟩ := I.fr
  subst hm
  cases ry
  exact PySem.W.binop_K hF I.ok.mod.kin J JB.type sf M.at_ M.fn (own_call I F hbi hr hx (show RelV (.ref b) (.ref b) from rfl) hsp fun v w H' s' I' rv q => back_of rv ⟨v, H', I', rv, q⟩)
/-! ### tuples cut, put together -/
def rSlG (K : PySem.W.Frag) : V → Option Int → Option Int → Hp → VK → Prop := fun x lo hi H Q => ∃ a xs ys, x = .ref a ∧ SqT K H a xs ∧ cutV xs lo hi = ys ∧ (HT.sIx xs.length 0 lo = 0 ∧ HT.sIx xs.length xs.length hi = xs.length → xs = ys) ∧ ∀ p H', Same H H' → SqT K H' p ys → Q (.ref p) H'
theorem sl_tupG {X : Cx} : SlR X (rSlG X.K) := fun pins s σ H x v vl vu lo hi sl Q I rx hs pl pu ⟨a, xs, ys, e, h, ec, ew, k⟩ => sl_tupA pins s σ H x v vl vu lo hi sl Q I rx hs pl pu
  ⟨a, xs, e, h, fun w => k a H (fun _ _ h => h) (ew w ▸ h), fun _ p hp => k p _ (Same.upd hp) (SqT.of (by rw [upd_same, ec]))⟩
def rCatG (K : PySem.W.Frag) : R2 := fun x y H Q => ∃ a b xs ys, x = .ref a ∧ y = .ref b ∧ SqT K H a xs ∧ SqT K H b ys ∧ xs.length + ys.length ≤ sizeLine ∧ ∀ p H', Same H H' → SqT K H' p (xs ++ ys) → Q (.ref p) H'
theorem op_catG {X : Cx} : OpR X (binaryOp .Add) (rCatG X.K) := fun pins s σ H x y v u Q I rx ry ⟨a, b, xs, ys, e1, e2, ha, hb, hz, k⟩ => op_catA pins s σ H x y v u Q I rx ry
  ⟨a, b, xs, ys, e1, e2, ha, hb, hz, fun e => k b H (fun _ _ h => h) (by rw [e]; exact hb), fun _ e => k a H (fun _ _ h => h) (by rw [e, List.append_nil]; exact ha), fun _ _ p hp => k p _ (Same.upd hp) (SqT.of upd_same)⟩
/-! ### a comprehension over zip of two tuples -/
theorem walk_zipT {K : PySem.W.Frag} {a b : Addr} {xs ys : List V} {n : Nat} (hn : n = min xs.length ys.length) : Walk (RZ.ItzT K a b) n (fun H => SqT K H a xs ∧ SqT K H b ys) (YPair (fun i => xs[i]?) (fun i => ys[i]?)) := by
  subst hn
  refine ⟨fun i _ hi q => ?_, fun _ q => ⟨xs, ys, q.1, q.2, by omega⟩, fun i H v H' _ q y => ?_⟩
  · have h1 : i < xs.length := by omega
    have h2 : i < ys.length := by omega
    exact ⟨xs, ys, xs[i], ys[i], q.1, q.2, by simp [h1], by simp [h2]⟩
  · obtain ⟨T, x, z, h1, h2, h3, h4, h5⟩ := y
    exact ⟨T, x, z, h1, h2, h3, h4 xs q.1, h5 ys q.2⟩
theorem lc_zip {K : PySem.W.Frag} {ta : TA} {g : TG} {tt : TT} {te : TE} {vs : List Nat} {σ : L2.St} {H : Hp} {Q : VK} (h : ta σ H fun us H1 => ∃ a b xs ys, us = [.ref a, .ref b] ∧
    ((SqL K H1 a xs ∧ SqL K H1 b ys ∧ tLc (fun _ H R => R (L2.Itz K a b) H) g tt te vs σ H1 Q) ∨ (SqT K H1 a xs ∧ SqT K H1 b ys ∧ tLc (fun _ H R => R (RZ.ItzT K a b) H) g tt te vs σ H1 Q))) : tLc (RZ.iZipA K ta) g tt te vs σ H Q := h
theorem st_zipT {K : PySem.W.Frag} {g : TG} {tt : TT} {te : TE} {vs : List Nat} {σ : L2.St} {H : Hp} {Q : VK} {a b : Addr} {xs ys : List V} {n : Nat} (hn : n = min xs.length ys.length) (Pv : Addr → Nat → Hp → Prop)
    (h0 : ∀ D H1, H D = none → Same H H1 → H1 D = some (.lst []) → Pv D 0 H1) (hl : ∀ D i H, Pv D i H → SqT K H a xs ∧ SqT K H b ys)
    (hs : ∀ D i x y T H H', xs[i]? = some x → ys[i]? = some y → Pv D i H → Same H H' → H' T = some (.tup [x, y]) → g (.ref T) (wipe σ vs) H' fun σ2 H2 => wipe σ2 vs = wipe σ vs ∧ tt σ2 H2 fun b H3 => if b = true then te σ2 H3 fun y H4 => ∃ acc, H4 D = some (.lst acc) ∧ acc.length < sizeLine ∧ Pv D (i + 1) (upd H4 D (.lst (acc ++ [y]))) else Pv D (i + 1) H3)
    (hd : ∀ D H, Pv D n H → Q (.ref D) H) : tLc (fun _ H R => R (RZ.ItzT K a b) H) g tt te vs σ H Q := fun D hD =>
  lc_it (walk_zipT hn) (Pv D) (h0 D _ hD (Same.upd hD) upd_same) (fun i H _ p => hl D i H p) (fun i x H1 H2 hi p y => by
    obtain ⟨T, u, z, rfl, hT, rfl, e1, e2⟩ := y
    exact hs D i u z T H1 _ e1 e2 p (Same.upd hT) upd_same) (hd D)
/-! ### enumerate over a tuple, items handed out -/
def IteT (K : PySem.W.Frag) (a : Addr) : It :=
  ⟨fun i H => ∃ (xs : List V) (x : V), SqT K H a xs ∧ xs[i]? = some x, fun i H v H' => ∃ T x, v = .ref T ∧ H T = none ∧ H' = upd H T (.tup [.int (i : Nat), x]) ∧ ∀ xs, SqT K H a xs → xs[i]? = some x, fun i H => ∃ xs : List V, SqT K H a xs ∧ xs.length = i⟩
theorem turn_enumG {P : Program} {w : World} {K : PySem.W.Frag} {elts : List Expr} {kk : Nat} {tpos : Pos} (a e it : Addr) :
    Turn P w K (.Tuple elts kk tpos) (IteT K a) [e, it] e fun i h => (∃ old, IsEnum h e it ((i : Nat) : Int) old) ∧ h.IsTupleIter it a i ∧ e ≠ it := by
  refine ⟨.head _, ?_, ?_, ?_, ?_, ?_⟩
  · rintro i h ⟨⟨old, he⟩, ⟨o, ho, hc, hd⟩, ne⟩ b hb
    simp only [List.mem_cons, List.not_mem_nil, or_false] at hb
    rcases hb with rfl | rfl
    · exact ⟨_, he, fun v z => by cases z⟩
    · exact ⟨_, ho, fun v z => by rw [hd] at z; cases z⟩
  · rintro i h h' ⟨⟨old, he⟩, ⟨o, ho, hc, hd⟩, ne⟩ k
    exact ⟨⟨old, k e (.head _) _ he⟩, ⟨o, k it (.tail _ (.head _)) _ ho, hc, hd⟩, ne⟩
  · rintro X rfl rfl rfl hc i pins s σ H E I hf ⟨⟨old, he⟩, hit, ne⟩ ⟨xs, x, hq, hx⟩
    obtain ⟨its, rv, htup, hz⟩ := I.tuple hq
    obtain ⟨u, hu, ru⟩ := rv.get hx
    have htup2 := htup
    obtain ⟨o, ho, hcl, n, hd⟩ := htup
    have ia : it ≠ a := fun z => by subst z; obtain ⟨o2, ho2, hc2, _⟩ := hit; rw [ho] at ho2; cases ho2; rw [hcl] at hc2; simp at hc2
    have ea : e ≠ a := fun z => by subst z; rw [he] at ho; cases ho; simp at hcl
    have hnd : X.A.in1.handled = none := I.ok.hd hc
    have hel : e < s.heap.objs.size := Heap.lt_size he
    have hil : it < s.heap.objs.size := by obtain ⟨_, q, _⟩ := hit; exact Heap.lt_size q
    have hlt : i < its.toArray.size := by rw [List.size_toArray]; exact (List.getElem?_eq_some_iff.mp hu).1
    refine wpAny_pyNext_enum_itemC (Draws.tuple (prog := X.prog) (w := X.w) hnd it a ia.symm its.toArray) he ⟨hit, htup2⟩ hlt ne (by simp [ne, ea]) fun z h' tk hP ho' hs' hT hsz hk => ?_
    have ez : z = u := by
      have h1 : its.toArray[i]? = some z := hP
      rw [List.getElem?_toArray, hu] at h1
      exact (Option.some.inj h1).symm
    subst ez
    refine ⟨_, rfl, wpAny_letOwnedTupleGo_enum (s := { s with heap := h', toks := tk + 1 }) ho' fun h'' he' sb => ?_⟩
    have hT2 : h''.get? s.heap.objs.size = some { cls := .type "tuple", data := .seq #[.int i tk, z] } := (sb.2 _ (Nat.ne_of_gt hel)).trans hT
    have new : ObjOk X.prog X.w (upd H s.heap.objs.size (.tup [.int (i : Nat), x])) h'' s.heap.objs.size (.tup [.int (i : Nat), x]) :=
      ⟨by show 2 ≤ sizeLine; decide, [.int i tk, z], .cons ⟨_, rfl⟩ (.cons ru .nil), ⟨_, hT2, rfl, _, rfl⟩⟩
    have I1 : Inv X pins σ (upd H s.heap.objs.size (.tup [.int (i : Nat), x])) { s with heap := h'', toks := tk + 1 } :=
      I.turnedNew (ch := [e, it]) (fun b ob hb q => (sb.2 b (fun z => hb (by simp [z]))).trans (hk b ob (fun z => hb (by simp [z])) (fun z => hb (by simp [z])) q)) hf (Nat.le_refl _) new
    refine ⟨.ref s.heap.objs.size, _, I1, rfl, ⟨_, x, rfl, I.hok.fresh (Nat.le_refl _), rfl, fun ys hy => by rw [I.tuple_inj hy hq]; exact hx⟩, ⟨⟨z, ?_⟩, hs'.1.at fun o q => (sb.2 it (Ne.symm ne)).trans q, ne⟩, fun b hb => ?_⟩
    · have e1 : ((i + 1 : Nat) : Int) = (i : Int) + 1 := by omega
      rw [e1]; exact he'
    · have hb' : b < s.heap.objs.size := by
        have e' : b = e ∨ b = it := by simpa using hb
        rcases e' with z | z
        · rw [z]; exact hel
        · rw [z]; exact hil
      rw [upd_ne (Nat.ne_of_lt hb')]
      exact (hf b hb).1
  · rintro X rfl rfl rfl hc i pins s σ H E I hf ⟨⟨old, he⟩, hit, ne⟩ ⟨xs, hq, hl⟩
    exact (turn_enumT (elts := elts) (kk := kk) (tpos := tpos) a e it).done X rfl rfl rfl hc i pins s σ H E I hf ⟨⟨old, he⟩, hit, ne⟩ ⟨xs, hq, hl⟩
  · rintro A i s Q E ⟨⟨old, he⟩, _, _⟩ q
    exact wpAny_pyIter_enum he q
def iEnumG (K : PySem.W.Frag) (ta : TA) : TI := fun σ H R => ta σ H fun vs H1 => ∃ a xs, vs = [.ref a] ∧ SqT K H1 a xs ∧ R (IteT K a) H1
theorem pi_enumG {X : Cx} {e : Expr} {ta : TA} {p pos tpos : Pos} {elts : List Expr} {kk : Nat} (hg : Gl X "enumerate") (hm : X.mg "enumerate" = none) (ha : PA X [e] ta) (hs : starEach [e] X.env = [(false, eval e X.env)] := by rfl) :
    PI X (.Tuple elts kk tpos) (.Call (.Name "enumerate" p) [e] [] pos) (iEnumG X.K ta) := by
  refine ⟨fun pins s σ H R I h => ?_⟩
  refine PyProof.Rows.Call_ (L2.ld_blt I hg hm PyProof.Rows.boot_enumerate (PyProof.Rows.callWith_type1 (thn (ha.run pos pins s σ H _ I h) fun us s1 ⟨vs, H1, I1, r1, q1⟩ => ?_) hs rfl) (by decide) (by decide)) rfl
  obtain ⟨a, xs, rfl, hq, q⟩ := q1
  obtain ⟨u, rfl, rv⟩ := vals1 r1
  cases rv
  obtain ⟨its, rv, htup, z⟩ := I1.tuple hq
  refine call_enumT (begins_tuple a its.toArray) htup fun h' he hit hsz hk => ?_
  have I2 := Inv.kept (t' := s1.toks) I1 hk
  refine wpAny_pyIter_enum he ?_
  refine ⟨s1.heap.objs.size + 1, [s1.heap.objs.size + 1, s1.heap.objs.size], _, IteT X.K a, H1, rfl, I2, turn_enumG a (s1.heap.objs.size + 1) s1.heap.objs.size, ⟨⟨_, he⟩, ⟨_, hit, rfl, rfl⟩, Nat.succ_ne_self _⟩, fun b hb => ?_, q⟩
  have hle : s1.heap.objs.size ≤ b := by
    simp only [List.mem_cons, List.not_mem_nil, or_false] at hb
    rcases hb with rfl | rfl
    · exact Nat.le_succ _
    · exact Nat.le_refl _
  exact I1.fpOk hle (I1.hok.fresh hle)
theorem walk_enumG {K : PySem.W.Frag} {a : Addr} {xs : List V} : Walk (IteT K a) xs.length (fun H => SqT K H a xs) (YPair (fun i => some (.int (i : Nat))) (fun i => xs[i]?)) := by
  refine ⟨fun i _ hi q => ⟨xs, xs[i], q, by simp [hi]⟩, fun _ q => ⟨xs, q, rfl⟩, fun i H v H' _ q y => ?_⟩
  obtain ⟨T, x, h1, h2, h3, h4⟩ := y
  exact ⟨T, _, x, h1, h2, h3, rfl, h4 xs q⟩
/-! ### a list or a tuple -/
def LG (K : PySem.W.Frag) (H : Hp) (a : Addr) (xs : List V) : Prop := H a = some (.lst xs) ∨ SqT K H a xs
section
variable {K : PySem.W.Frag} {a : Addr} {H H' : Hp} {xs : List V}
theorem LG.same (h : LG K H a xs) (s : Same H H') : LG K H' a xs := h.elim (fun h => .inl (s _ _ h)) fun h => .inr (SqT.same h s)
theorem LG.ty (h : LG K H a xs) : ∃ t, TyX K H (.ref a) t ∧ PySem.W.kitAny K t [.type "list", .type "tuple"] = some true := by
  rcases h with h | (h | ⟨o, h⟩) | ⟨o, its, n, h1, h2, _⟩
  · exact ⟨_, .base (.lst h), kitAny_ll⟩
  · exact ⟨_, .base (.tup h), kitAny_tl⟩
  · exact ⟨_, .fTuple h, kitAny_tl⟩
  · exact ⟨_, .kTuple h1 h2, kitAny_tl⟩
theorem st_forLG {g : TG} {tb : TS} {D : Ends} {σ : L2.St} {tl : TE} {H0 : Hp} (ha : ∀ R : V → Hp → Prop, R (.ref a) H → tl σ H R) (hx : LG K H0 a xs) (s0 : Same H0 H) (Pv : Nat → L2.St → Hp → Prop) (h0 : Pv 0 σ H) (hl : ∀ i σ H', Pv i σ H' → Same H0 H')
    (hs : ∀ i x σ H, xs[i]? = some x → Pv i σ H → g x σ H fun σ2 H2 => tb { nx := Pv (i + 1), rt := D.rt, bk := D.nx, ct := Pv (i + 1) } σ2 H2) (hd : ∀ σ H, Pv xs.length σ H → D.nx σ H) : tFor (fun σ H R => iList K tl σ H R ∨ iTup K tl σ H R) g tb D σ H := by
  rcases hx with hx | hx
  · exact .inl (st_forL ha (s0 _ _ hx) Pv h0 (fun i σ' H' p => hl i σ' H' p _ _ hx) hs hd)
  · exact .inr (ha _ ⟨a, rfl, ⟨_, SqT.same hx s0⟩, for_tup Pv h0 (fun i σ' H' _ p => SqT.same hx (hl i σ' H' p)) hs hd⟩)
theorem st_forEG {g : TG} {tb : TS} {D : Ends} {σ : L2.St} {ta : TA} {H0 : Hp} (ha : ∀ R : List V → Hp → Prop, R [.ref a] H → ta σ H R) (hx : LG K H0 a xs) (s0 : Same H0 H) (Pv : Nat → L2.St → Hp → Prop) (h0 : Pv 0 σ H) (hl : ∀ i σ H', Pv i σ H' → Same H0 H')
    (hs : ∀ i x T σ H H', xs[i]? = some x → Pv i σ H → Same H H' → H' T = some (.tup [.int (i : Nat), x]) → g (.ref T) σ H' fun σ2 H2 => tb { D with nx := Pv (i + 1), ct := Pv (i + 1), bk := D.nx } σ2 H2) (hd : ∀ σ H, Pv xs.length σ H → D.nx σ H) : tFor (fun σ H R => iEnum K ta σ H R ∨ iEnumG K ta σ H R) g tb D σ H := by
  rcases hx with hx | hx
  · exact .inl (st_forE ha (s0 _ _ hx) Pv h0 (fun i σ' H' p => hl i σ' H' p _ _ hx) hs hd)
  · exact .inr (ha _ ⟨a, xs, rfl, SqT.same hx s0, for_it walk_enumG Pv h0 (fun i σ H' _ p => SqT.same hx (hl i σ H' p)) (fun i v σ H1 H2 hi p y => by
      obtain ⟨T, x, z, rfl, hT, rfl, e1, e2⟩ := y
      cases e1
      exact hs i z T σ H1 _ e2 p (Same.upd hT) upd_same) hd⟩)
end
end Iz
/-! Lb -/
set_option Elab.async false
set_option linter.all false
set_option maxRecDepth 100000
set_option maxHeartbeats 4000000
namespace LamX
open PySem PySem.Spec PyProof.Rows L2
/-- a name's slot is empty -/
def slotFree (N : List Str) (p : Str) (σ : L2.St) : Bool := (N.zip σ).all fun q => !(q.1 == p) || q.2.isNone
theorem slotFree_at {N : List Str} {p : Str} {σ : L2.St} (h : slotFree N p σ = true) : ∀ (i : Nat) (v : V), N[i]? = some p → σ[i]? ≠ some (some v) := by
  intro i v h1 h2
  have hm : (p, some v) ∈ N.zip σ := by
    refine List.mem_of_getElem? (i := i) ?_
    rw [List.getElem?_zip_eq_some]
    exact ⟨h1, h2⟩
  have := List.all_eq_true.mp h _ hm
  simp at this
section
variable {X : Cx} {pins : List (Addr × Obj)} {σ : L2.St} {H HZ : Hp} {s s1 : Shared}
theorem lam_startS {A : Around} {outer : List Env} {E : XK} {scope : Scope} {f c' : Addr} {h₁ : Heap} {tk : Nat} {p : Str} {u : Value} {v : V} (I : Inv X pins σ H s) (L : LamP X.env.scope scope p) (hp : ∀ (i : Nat) (v : V), X.N[i]? = some p → σ[i]? ≠ some (some v)) (e0 : Env0 X.prog X.w X.K X.mg X.base A outer s1 HZ) (hd : A.handled = none)
    (un : Un (frs X.stack) [] H HZ s.heap s1.heap) (hns : h₁.Ns s1.heap.objs.size fun y => ([(p, u)] : List (Str × Value)).reverse.lookup y) (rv : RelV v u) (kp : ∀ b o, s1.heap.get? b = some o → h₁.get? b = some o) :
    Inv (lamCxP X A outer s1 HZ E scope f c' p) [] (σ ++ [some v]) HZ { s1 with heap := h₁, toks := tk } := by
  have hfree := L.has I.ok
  have cm : ∀ {y c}, (cloFrom X.env.cells scope.names []).lookup y = some c → X.env.cells.lookup y = some c := fun {y c} e => by
    rcases cloFrom_mem (PySem.mem_of_lookup e) with hm | ⟨h1, h2⟩
    · cases hm
    · obtain ⟨c1, hc⟩ := hfree _ h1 rfl
      have hc : X.env.cells.lookup y = some c1 := hc
      have e2 : c = c1 := by
        rw [h2, hc] <;> rfl
      rw [e2]
      exact hc
  have look : ∀ {y}, scope.names.lookup y = some .free → ∃ c, (cloFrom X.env.cells scope.names []).lookup y = some c := fun {y} hl => by
    have hy : (y, NameKind.free) ∈ scope.names := PySem.mem_of_lookup hl
    exact mem_lookup (cloFrom_has (cells := X.env.cells) (acc := []) hy)
  have cellK : ∀ {c : Addr} {v : Option Value}, H c = none → s.heap.IsCell c v → h₁.IsCell c v := fun {c v} n ⟨o, ho, hd⟩ => by
    obtain ⟨sl, q⟩ := un.any ho n (by simp)
    exact ⟨_, kp _ _ q, hd⟩
  have noA : ∀ b : Addr, b ∉ (lamCxP X A outer s1 HZ E scope f c' p).ex := fun b z => absurd (show b ∈ ([] : List Addr) from z) (by simp)
  refine ⟨⟨e0.mod, L.kind, rfl, rfl, Nat.le_refl _, fun y z c e1 e2 => I.ok.inj y z c (cm e1) (cm e2), fun y hy => ?_, fun y c z _ => ?_, fun _ => hd, Around.frames_deeper e0.frames, .inr ⟨rfl, rfl⟩, fun b z => absurd z (noA b), e0.bs, e0.bsz, fun b _ _ => noA b,
      fun b z => absurd z (noA b), e0.funs, e0.frf⟩,
    rfl, e0.bare, Un.kept kp, ⟨_, hns, fun i y v' e1 e2 e3 => ?_⟩, fun y c e => ?_, e0.hok.fresh (Nat.le_refl _), fun y c e => ?_, fun q hq => absurd (show q ∈ ([] : List (Addr × Obj)) ++ [] from hq) (by simp), e0.hok.kept kp, ?_⟩
  · have hy : scope.names.lookup y = some .cell ∨ scope.names.lookup y = some .free := hy
    rcases hy with hy | hy
    · exact absurd rfl (L.own _ (PySem.mem_of_lookup hy)).2
    · exact look hy
  · have z : false = true := z
    cases z
  · have e3 : Vis scope y := e3
    have e1 : (X.N ++ [p])[i]? = some y := e1
    have hl := I.len
    by_cases hi : i < X.N.length
    · rw [List.getElem?_append_left hi] at e1
      rw [List.getElem?_append_left (by omega)] at e2
      rcases e3 with k | k | k
      · have := (L.own _ (PySem.mem_of_lookup k)).1 rfl
        exact absurd e2 (hp i v' (by rw [← (show y = p from this)]; exact e1))
      · exact absurd rfl (L.own _ (PySem.mem_of_lookup k)).2
      · obtain ⟨m, hn, hl⟩ := I.loc
        have hvis : Vis X.env.scope y := (L.free _ (PySem.mem_of_lookup k) rfl).elim (fun k => .inr (.inl k)) (fun k => .inr (.inr k))
        obtain ⟨w', r, q⟩ := hl i y v' e1 e2 hvis
        obtain ⟨c2, h2⟩ := look k
        refine ⟨w', r, .inr ⟨.inr k, c2, h2, ?_⟩⟩
        have c1 := cm h2
        rcases q with ⟨k', _⟩ | ⟨_, c3, e', z⟩
        · have k' : X.env.scope.names.lookup y = some .local := k'
          rcases L.free _ (PySem.mem_of_lookup k) rfl with k2 | k2 <;> rw [show X.env.scope.names.lookup y = _ from k2] at k' <;> cases k'
        · rw [c1] at e'
          cases e'
          exact cellK (I.freeC y _ c1) z
    · rw [List.getElem?_append_right (by omega)] at e1 e2
      have h0 : i - X.N.length = 0 := by
        have := (List.getElem?_eq_some_iff.mp e1).1
        simp at this
        omega
      rw [h0] at e1
      rw [show i - σ.length = 0 by omega] at e2
      simp at e1 e2
      subst e1 e2
      exact ⟨u, rv, .inl ⟨L.par, by simp⟩⟩
  · obtain ⟨w', z⟩ := I.cell y c (cm e)
    exact ⟨w', cellK (I.freeC y c (cm e)) z⟩
  · obtain ⟨v, o, ho, hd⟩ := I.cell y c (cm e)
    exact un.free c o ho (I.freeC y c (cm e)) (by simp)
  · show (σ ++ [some v]).length = (X.N ++ [p]).length
    rw [List.length_append, List.length_append, I.len]
    rfl
/-- a(e), in the def that got the lambda -/
theorem pe_actS {CXg : CXT} {Eg : XK} {Ng : List Str} {qg : Str} {sg : Scope} {g f c' : Addr} {cdg pm ctv : Value} {params : Arguments} {body : Expr} {scope : Scope} {k i : Nat} {a p : Str} {tb : TE} {p1 p2 : Pos} {e : Expr} {ta : TA}
    (I : Inv X pins σ H s) (L : LamP X.env.scope scope p) (hp : ∀ (i : Nat) (v : V), X.N[i]? = some p → σ[i]? ≠ some (some v)) (hf : s.heap.get? f = some (PySem.W.kla_obj "<lambda>" (X.env.qual ++ "<lambda>") params body scope (cloFrom X.env.cells scope.names []) pm c' ctv)) (hfn : H f = none) (hfr : f ∉ frs X.stack)
    (hbind : ∀ u : Value, bindArgs (PySem.W.kla_fn "<lambda>" (X.env.qual ++ "<lambda>") params body scope (cloFrom X.env.cells scope.names []) pm (.ref c') ctv) ⟨[u], []⟩ = pure [(p, u)])
    (hr : Room (k + 1) (X.A.deeper (envOfC qg sg s.heap.objs.size g cdg)))
    (hbody : ∀ (A : Around) (outer : List Env) (s : Shared) (H : Hp), Room k (A.deeper (lamEnv X scope s.heap.objs.size f c')) → PE (lamCxP X A outer s H (fun _ _ _ => False) scope f c' p) body tb)
    (hN : Ng[i]? = some a) (hv : Vis sg a) (hd : (a == ("__debug__" : Str)) = false) (hcd : (a == ("__classdict__" : Str)) = false)
    (ha : PA (cxOf CXg X.prog X.w X.K X.mg X.base Ng qg sg g cdg X.A X.stack s H Eg).nox [e] ta)
    (he : starEach [e] (envOfC qg sg s.heap.objs.size g cdg) = (false, eval e (envOfC qg sg s.heap.objs.size g cdg)) :: starEach [] (envOfC qg sg s.heap.objs.size g cdg)) :
    PE (cxOf CXg X.prog X.w X.K X.mg X.base Ng qg sg g cdg X.A X.stack s H Eg).nox (.Call (.Name a p1) [e] [] p2)
      (fun σZ HZ Q => σZ[i]? = some (some (.ref f)) ∧ ta σZ HZ fun vs H1 => ∃ v, vs = [v] ∧ H1 c' = some (CodeO c' (X.env.qual ++ "<lambda>")) ∧ tb (σ ++ [some v]) H1 Q) := by
  refine ⟨fun pinsZ sZ σZ HZ Q IZ h => ?_⟩
  obtain ⟨hs, ht⟩ := h
  refine wpAny_Call_Name_kw (thn ((pe_var (X := (cxOf CXg X.prog X.w X.K X.mg X.base Ng qg sg g cdg X.A X.stack s H Eg).nox) (pos := p1) (i := i) hN hv hd hcd).run pinsZ sZ σZ HZ (fun v H1 => v = .ref f ∧ H1 = HZ) IZ ⟨.ref f, hs, rfl, rfl⟩) fun u s1 ⟨v, H1, I1, r1, q1⟩ => ?_)
  obtain ⟨ev, eH⟩ := q1
  subst ev
  rw [eH] at I1
  obtain rfl : u = Value.ref f := r1
  have of1 : s1.heap.get? f = some (PySem.W.kla_obj "<lambda>" (X.env.qual ++ "<lambda>") params body scope (cloFrom X.env.cells scope.names []) pm c' ctv) := I1.base.keep f _ hf hfn hfr (fun z => nomatch (show f ∈ ([] : List Addr) from z))
  refine PySem.W.callWith_F (first := []) ⟨_, _, _, _, of1⟩ (thn (ha.run p2 pinsZ s1 σZ HZ _ I1 ht) fun us s2 ⟨vs, H2, I2, r2, v, ev, hc, ht2⟩ => ?_) he rfl
  subst ev
  have of2 : s2.heap.get? f = some (PySem.W.kla_obj "<lambda>" (X.env.qual ++ "<lambda>") params body scope (cloFrom X.env.cells scope.names []) pm c' ctv) := I2.base.keep f _ hf hfn hfr (fun z => nomatch (show f ∈ ([] : List Addr) from z))
  refine ⟨⟨_, _, _, _, of2⟩, ?_⟩
  obtain ⟨u, rfl, rv⟩ := vals1 r2
  show wpAny _ _ (call (.ref f) [u]) _ _ _
  have un : Un (frs X.stack) [] H H2 s.heap s2.heap := I2.base
  obtain ⟨⟨oc, vs, t, hoc, hdc, hvc⟩, _, _⟩ := I2.hok c' _ hc
  have rc : codeAny (model X.prog X.w) (X.A.deeper (envOfC qg sg s.heap.objs.size g cdg)) (.call (.ref f) ⟨[u], []⟩) (CR (L2.CX X.prog X.w) (envOfC qg sg s.heap.objs.size g cdg :: X.stack) X.prog X.w H2 s2 Q (fun _ _ _ => False)) s2 := by
    refine PySem.W.kla_callFunE hr.depth of2 rfl L.co L.gen rfl ⟨c', oc, vs, t, rfl, hoc, hdc, hvc⟩ ?_
    rw [hbind]
    refine wpAny_pure (wpAny_newFunctionEnv (fun y hy => (L.own y hy).2) (fun y hy => by rw [List.mem_singleton.mp hy]; exact L.par) (fun h₁ hns hsb => ⟨I2.nolimit.fresh _ hsb, ?_⟩) L.kind)
    show codeAny _ _ (.expr body (lamEnv X scope s2.heap.objs.size f c')) _ _
    have kp : ∀ b o, s2.heap.get? b = some o → h₁.get? b = some o := fun b o e => hsb.extBut b o (Nat.ne_of_lt (Heap.lt_size e)) (Heap.get?_push_of_some _ e)
    have J : Inv (lamCxP X (X.A.deeper (envOfC qg sg s.heap.objs.size g cdg)) (envOfC qg sg s.heap.objs.size g cdg :: X.stack) s2 H2 (fun _ _ _ => False) scope f c' p) [] (σ ++ [some v]) H2 { s2 with heap := h₁, toks := s2.toks + ([(p, u)] : List (Str × Value)).length } :=
      lam_startS I L hp I2.env0 hr.hd un hns rv kp
    refine PySem.W.kla_codeExpr (wpAny_mono ((hbody _ _ s2 H2 (hr.deeper _)).run [] _ _ H2 Q J ht2) (fun v s' hq => ?_) fun e s' hq => hq)
    obtain ⟨w', H', J', rv, q⟩ := hq
    exact ⟨w', H', J'.os, J'.bare, J'.base, J'.hok, rv, q⟩
  refine wpAny_call (codeAny_mono rc fun r s' hq => ?_)
  cases r with
  | error e => obtain ⟨_, _, _, _, _, _, _, _, _, _, _, _, z⟩ := hq; exact z.elim
  | ok fl =>
    cases fl with
    | ret u => exact I2.after hq
    | next => exact False.elim hq
    | brk => exact False.elim hq
    | cont => exact False.elim hq
end
/-! ### a lambda of one parameter, handed as the third of three -/
def GivesP2 (X : Cx) (Ng : List Str) (x : Str) (sg : Scope) (g : Addr) (cdg : Value) (bg : List Stmt) (a : Str) (q : Str) (TT : (V → Hp → VK → Prop) → V → V → Hp → VK → Prop) : Prop :=
  ∀ (f c' : Addr) (s : Shared) (H : Hp) (v1 v2 : V) (Q : VK) (tl : V → Hp → VK → Prop),
    (∀ (e : Expr) (ta : TA) (p1 p2 : Pos), PA (cxOf C8.CX0 X.prog X.w X.K X.mg X.base Ng x sg g cdg X.A X.stack s H C8.E0).nox [e] ta →
      starEach [e] (envOfC x sg s.heap.objs.size g cdg) = (false, eval e (envOfC x sg s.heap.objs.size g cdg)) :: starEach [] (envOfC x sg s.heap.objs.size g cdg) →
      PE (cxOf C8.CX0 X.prog X.w X.K X.mg X.base Ng x sg g cdg X.A X.stack s H C8.E0).nox (.Call (.Name a p1) [e] [] p2) (fun σZ HZ Q => σZ[2]? = some (some (.ref f)) ∧ ta σZ HZ fun vs H1 => ∃ v, vs = [v] ∧ H1 c' = some (CodeO c' q) ∧ tl v H1 Q)) →
    H c' = some (CodeO c' q) → Room 8 (X.A.deeper (envOfC x sg s.heap.objs.size g cdg)) → TT tl v1 v2 H Q →
    ∃ t, PSs (cxOf C8.CX0 X.prog X.w X.K X.mg X.base Ng x sg g cdg X.A X.stack s H C8.E0).nox bg t ∧ t { nx := fun _ H' => Q .non H', rt := Q } (L2.start Ng [v1, v2, .ref f]) H
def tLam3b (N : List Str) (p : Str) (T : List (Addr × Str)) (q : Str) (TT : (V → Hp → VK → Prop) → V → V → Hp → VK → Prop) (t1 t2 t : TE) : TE := fun σ H Q => slotFree N p σ = true ∧ t1 σ H fun v1 H1 => t2 σ H1 fun v2 H2 => Tabs T H2 ∧ ∀ H3 c', ExtN H2 H3 → Tabs T H3 → H3 c' = some (CodeO c' q) →
  TT (fun v H' Q' => t (σ ++ [some v]) H' Q') v1 v2 H3 Q
section
variable {X : Cx}
/-- x(e1, e2, lambda p: body) -/
theorem pe_lamcall3b {T : List (Addr × Str)} {TT : (V → Hp → VK → Prop) → V → V → Hp → VK → Prop} {x a p0 : Str} {g c P : Addr} {pg : Arguments} {bg : List Stmt} {sg : Scope} {dV kV doc pm cdv ct oc : Value} {an od : Option Addr} {osl : Array (Option Value)} {Ng ps : List Str}
    {params : Arguments} {body e1 e2 : Expr} {scope : Scope} {t1 t2 t : TE} {p lpos pos : Pos} (hg : Gl X x) (hm : X.mg x = some (.ref g)) (hk : PySem.W.keepIn X.K (.ref g) = true)
    (lk : X.K.lookup g = some ⟨oc, od, .func (PySem.W.fnOf x x pg bg sg dV kV doc pm an cdv ct), osl⟩) (hcg : PySem.W.codeIn X.K cdv x = true) (hb : L2.Binds X.K (PySem.W.fnOf x x pg bg sg dV kV doc pm an cdv ct) ps []) (Sg : FnScope Ng ps sg) (hps : ps.length = 3) (hNg : Ng[2]? = some a) (hva : Vis sg a)
    (hG : GivesP2 X Ng x sg g cdv bg a (X.env.qual ++ "<lambda>") TT)
    (TB : TabB X.base X.mg c P) (hcode : X.env.code = .ref c) (hmT : (P, X.env.qual ++ "<lambda>") ∈ T) (hu : ∀ p ∈ T, p.1 = P → p.2 = X.env.qual ++ "<lambda>") (hr : Room 9 X.A) (L : LamP X.env.scope scope p0) (hdef : defaultsOf params X.env = ([], []))
    (hbind : ∀ (q : Str) (cl : List (Str × Addr)) (pm cv ctv u : Value), bindArgs (PySem.W.kla_fn "<lambda>" q params body scope cl pm cv ctv) ⟨[u], []⟩ = pure [(p0, u)])
    (h1 : PE X e1 t1) (h2 : PE X e2 t2)
    (hbody : ∀ (A : Around) (outer : List Env) (s : Shared) (H : Hp) (f c' : Addr), Room 7 (A.deeper (lamEnv X scope s.heap.objs.size f c')) → PE (lamCxP X A outer s H (fun _ _ _ => False) scope f c' p0) body t)
    (he1 : starEach [e1, e2, .Lambda params body scope lpos] X.env = (false, eval e1 X.env) :: starEach [e2, .Lambda params body scope lpos] X.env := by rfl) (he2 : starEach [e2, .Lambda params body scope lpos] X.env = (false, eval e2 X.env) :: starEach [.Lambda params body scope lpos] X.env := by rfl)
    (he3 : starEach [.Lambda params body scope lpos] X.env = (false, eval (.Lambda params body scope lpos) X.env) :: starEach [] X.env := by rfl) (hpl : (backTo pos (starEach [e2, .Lambda params body scope lpos] X.env)).any (·.1) = false := by rfl)
    (hdb : (x == ("__debug__" : Str)) = false := by decide) (hd : (a == ("__debug__" : Str)) = false := by decide) (hcd : (a == ("__classdict__" : Str)) = false := by decide) :
    PE X (.Call (.Name x p) [e1, e2, .Lambda params body scope lpos] [] pos) (tLam3b X.N p0 T (X.env.qual ++ "<lambda>") TT t1 t2 t) := by
  refine ⟨fun pins s σ H Q I ⟨hfree, h⟩ => ?_⟩
  have hp0 := slotFree_at hfree
  refine wpAny_Call_Name_kw (ld_glob I hg hm ?_ hdb)
  refine PySem.W.callWith_K (h₀ := X.base) I.ok.mod.kin hk ?_ he1 hpl
  rw [he1]
  show wpAny _ _ (spliced ((false, eval e1 X.env) :: backTo pos (starEach [e2, .Lambda params body scope lpos] X.env))) _ _ s
  rw [he2]
  show wpAny _ _ (spliced ((false, eval e1 X.env) :: (false, eval e2 X.env) :: backTo pos (starEach [.Lambda params body scope lpos] X.env))) _ _ s
  rw [he3]
  show wpAny _ _ (spliced ((false, eval e1 X.env) :: (false, eval e2 X.env) :: (false, eval (.Lambda params body scope lpos) X.env) :: backTo pos (starEach [] X.env))) _ _ s
  refine Calls.spliced_cons (thn (h1.run pins s σ H _ I h) fun u1 s1 ⟨v1, H1, I1, r1, h⟩ => ?_)
  refine Calls.spliced_cons (thn (h2.run pins s1 σ H1 _ I1 h) fun u2 s2 ⟨v2, H2, I2, r2, hT, h⟩ => ?_)
  refine Calls.spliced_cons (lam_make2 I2 TB hcode hmT hu hT hdef (L.has I2.ok) fun f c' pm' ctv H3 s3 I3 eN T3 hf hfn hfr hco => ?_)
  have h := h H3 c' eN T3 hco
  refine Calls.spliced_nil ⟨I3.kIn, ?_⟩
  have rc : codeAny (model X.prog X.w) X.A (.call (.ref g) ⟨[u1, u2, .ref f], []⟩) (CR C8.CX0 X.stack X.prog X.w H3 s3 Q C8.E0) s3 := by
    refine run_ofS (N := Ng) (ps := ps) (us := [u1, u2, .ref f]) (vs := [v1, v2, .ref f]) lk hcg Sg hr I3.env0 (hb s3 [u1, u2, .ref f] I3.kIn (by simp [hps])) (.cons r1 (.cons r2 (.cons rfl .nil))) (by simp [hps]) fun hr' => ?_
    obtain ⟨t', ht', hq'⟩ := hG f c' s3 H3 v1 v2 Q (fun v H' Q' => t (σ ++ [some v]) H' Q') (fun e ta p1 p2 ha he => pe_actS I3 L hp0 hf hfn hfr (fun u => hbind _ _ _ _ _ u) hr' (fun A outer s H hr2 => hbody A outer s H f c' hr2) hNg hva hd hcd ha he) hco hr' h
    exact ⟨t', ht'.nox, hq'⟩
  refine wpAny_call (codeAny_mono rc fun r s4 hq => ?_)
  cases r with
  | error e => exact (show False from hq).elim
  | ok fl =>
    cases fl with
    | ret u => exact I3.after hq
    | next => exact False.elim hq
    | brk => exact False.elim hq
    | cont => exact False.elim hq
end
end LamX
namespace Iz
open PySem PySem.Spec PyProof.Rows L2 LamX
theorem plam3b {X : Cx} {TS : List (Addr × Str)} {x a p0 : Str} {st : Stmt} {N ps : List Str} {TT : (V → Hp → VK → Prop) → V → V → Hp → VK → Prop} {c P : Addr} {qn : Str} {params : Arguments} {body e1 e2 : Expr} {scope : Scope} {t1 t2 t : TE} {p lpos pos : Pos}
    (F : ∃ (f : Addr) (fd : FuncData), X.mg x = some (.ref f) ∧ Fun X.K x x st f fd) (S : FnScope N ps (defScope st))
    (hb : ∀ (kV doc pm : Value) (an : Option Addr) (cdv ct : Value) (us : List Value), us.length = ps.length → bindArgs (PySem.W.fnOf x x (defArgs st) (defBody st) (defScope st) .none kV doc pm an cdv ct) ⟨us, []⟩ = pure (ps.zip us))
    (hG : ∀ (g : Addr) (cdg : Value), GivesP2 X N x (defScope st) g cdg (defBody st) a qn TT)
    (hm : (P, qn) ∈ TS) (hu : ∀ q ∈ TS, q.1 = P → q.2 = qn) (TB : TabB X.base X.mg c P) (hcode : X.env.code = .ref c) (hq : X.env.qual ++ "<lambda>" = qn) (hr : Room 9 X.A) (L : lamPB X.env.scope scope p0 = true)
    (h1 : PE X e1 t1) (h2 : PE X e2 t2)
    (hbody : ∀ (A : Around) (outer : List Env) (s : Shared) (H : Hp) (f c' : Addr), Room 7 (A.deeper (lamEnv X scope s.heap.objs.size f c')) → PE (lamCxP X A outer s H (fun _ _ _ => False) scope f c' p0) body t)
    (hps : ps.length = 3 := by rfl) (hdef : defaultsOf params X.env = ([], []) := by rfl) (hg : Gl X x := by rfl) (hv : Vis (defScope st) a := by first | exact Or.inl rfl | exact Or.inr (Or.inl rfl)) (hNa : N[2]? = some a := by rfl)
    (hbind : ∀ (q : Str) (cl : List (Str × Addr)) (pm cv ctv u : Value), bindArgs (PySem.W.kla_fn "<lambda>" q params body scope cl pm cv ctv) ⟨[u], []⟩ = pure [(p0, u)] := by intros; rfl)
    (he1 : starEach [e1, e2, .Lambda params body scope lpos] X.env = (false, eval e1 X.env) :: starEach [e2, .Lambda params body scope lpos] X.env := by rfl) (he2 : starEach [e2, .Lambda params body scope lpos] X.env = (false, eval e2 X.env) :: starEach [.Lambda params body scope lpos] X.env := by rfl)
    (he3 : starEach [.Lambda params body scope lpos] X.env = (false, eval (.Lambda params body scope lpos) X.env) :: starEach [] X.env := by rfl) (hpl : (backTo pos (starEach [e2, .Lambda params body scope lpos] X.env)).any (·.1) = false := by rfl)
    (hdb : (x == ("__debug__" : Str)) = false := by decide) (hd : (a == ("__debug__" : Str)) = false := by decide) (hcd : (a == ("__classdict__" : Str)) = false := by decide) :
    PE X (.Call (.Name x p) [e1, e2, .Lambda params body scope lpos] [] pos) (tLam3b X.N p0 TS qn TT t1 t2 t) := by
  subst hq
  obtain ⟨g, fd, hmg, F⟩ := F
  obtain ⟨oc, od, kV, doc, pm, an, cdv, ct, osl, rfl, lk, hcg⟩ := F.ex
  exact pe_lamcall3b hg hmg F.kp lk hcg (.all (hb kV doc pm an cdv ct)) S hps hNa hv (hG g cdv) TB hcode hm hu hr (lamP_by L) hdef hbind h1 h2 hbody he1 he2 he3 hpl hdb hd hcd
/-! ### a method called within a try, the slots known -/
def tMtS (C : Addr) (m : Str) (sp : Sp) (dv : List V) (E : L2.St → XK) (ta : TE) (t : TA) : TE := fun σ H Q => ta σ H fun x H1 => ∃ a dx fs, x = .ref a ∧ H1 a = some (.ins C dx fs) ∧ fs.lookup m = none ∧ t σ H1 fun vs H2 => sp (x :: (vs ++ dv)) H2 Q (E σ)
theorem pmtS {X : Cx} {CX : CXT} {k j : Nat} {x m : Str} {ps : List Str} {dvs : List V} {sp : Sp} {E : L2.St → XK} {o e : Expr} {es : List Expr} {ta : TE} {t : TA} {pos apos : Pos} {pl : Sem Bool} (O : OkM X.prog X.w X.K X.mg X.base CX k x m ps dvs sp) (C : Cls X.K (He.ga X.K x)) (he : PE X o ta) (hj : j ≤ dvs.length) (hr : Room k X.A) (hx : ∀ σ, PassesAt CX X σ (E σ)) (ha : PA X (e :: es) t)
    (hst : starEach (e :: es) X.env = (false, eval e X.env) :: starEach es X.env := by rfl) (hpl : (backTo pos (starEach es X.env)).any (·.1) = false := by rfl)
    (ht : eval (.Call (.Attribute o m apos) (e :: es) [] pos) X.env = (do
      let ov ← eval o X.env; standAt apos.atName
      let (f, first) ← holding [ov] (getMethod ov m pl)
      callWith pos f first (backTo pos (starEach (e :: es) X.env)) (backToKw pos (keywordEach [] X.env))) := by rfl) :
    PE X (.Call (.Attribute o m apos) (e :: es) [] pos) (tMtS (He.ga X.K x) m sp (dvs.drop j) E ta t) := by
  obtain ⟨f, fd, M, b, F⟩ := O.ex
  obtain ⟨ds, hd, hb⟩ := b j hj
  refine ⟨fun pins s σ H Q I h => ?_⟩
  refine PySem.W.methodCall_KW (pl := pl) (thn (he.run pins s σ H _ I h) fun u s1 ⟨x, H1, I1, rx, a, dx, fs, ex, ea, l, q⟩ => ?_) ht
  subst ex
  obtain rfl : u = Value.ref a := rx
  refine getmeth_ok I1 ea C M l ?_
  refine PySem.W.callWith_K (first := [.ref a]) (h₀ := X.base) I.ok.mod.kin M.kp (thn (ha.run pos pins s1 σ H1 _ I1 q) fun us s2 ⟨vs, H2, I2, r, q2⟩ => ⟨I2.kIn, ?_⟩) hst hpl
  exact run_fnSD (us := .ref a :: us) (vs := .ref a :: vs) F hr hb hd (hx σ) I2 (.cons rfl r) q2
end Iz
/-! Oe -/
set_option Elab.async false
set_option linter.all false
set_option maxRecDepth 100000
set_option maxHeartbeats 4000000
namespace Iz
open PySem PySem.Spec PyProof.Rows L2
open He (ga)
/-! ### own errors over OverflowError, with one field -/
/-- what stands behind the class itself -/
def oeT : List Value := [.type "OverflowError", .type "ArithmeticError", .type "Exception", .type "BaseException", .type "object"]
theorem oeT_pass (v : Value) : refuseLoop v "__setattr__" oeT = pure () := by unfold oeT; kernel_rfl
section
open Builtin Builtin.ObjectAttr PySem.HandSPX
variable {prog : Program} {w : World} {A : Around} {E : Value → Shared → Prop} {R : Result → Shared → Prop} {hp : Heap} {g : Array GenState} {dr : Drawn} {n : Nat} {os : OsState}
/-- the first field of such an error -/
theorem first_field {K : PySem.W.Frag} {f : Str} {tk : Tok} {v : Value} {x C : Addr} {fv : Array Value} {cd : ClassData} (kin : K.In hp) (at_ : hp.get? x = some { cls := .ref C, data := .fields fv }) (cl : PySem.W.clsIn K C = some cd) (mr : cd.mro = .ref C :: oeT) (di : cd.hasDict = true) (no : PySem.W.findIn K (.ref C) f = some none)
    (go : ∀ h' tk' dx, (∀ b o, b ≠ x → hp.get? b = some o → h'.get? b = some o) → hp.objs.size ≤ dx → dx ≠ x → h'.get? x = some { cls := .ref C, dict := some dx, data := .fields fv } → h'.Ns1 dx (fun y => if y = f then some v else none) → R (.ok (.ret .none)) ⟨h', g, dr, tk', os⟩) :
    codeAny (model prog w) A (.call (.builtin "object.__setattr__") ⟨[.ref x, .str f tk, v], []⟩) R ⟨hp, g, dr, n, os⟩ := by
  have inst : PySem.W.InstAt hp x { cls := .ref C, data := .fields fv } C none := ⟨at_, rfl, rfl, trivial⟩
  have hasO : (Value.ref C :: oeT).contains (.type "object") = true := by rw [List.contains_cons, show oeT.contains (.type "object") = true from by decide +kernel, Bool.or_true]
  have xs : x ≠ hp.objs.size := Nat.ne_of_lt (Heap.lt_size at_)
  have isO : PySem.W.Looks (model prog w) hp (isInstance (.ref x) (.type "object")) true := inst.type.andThen (PySem.W.looks_mroIn kin (by unfold PySem.W.mroIn; rw [cl, Option.bind_some, mr, if_neg (show ¬ (Value.ref C :: oeT).isEmpty = true from by simp), hasO]))
  have look : PySem.W.Looks (model prog w) hp (classData C) cd := PySem.W.looks_clsIn kin cl
  have order : PySem.W.Looks (model prog w) hp (mroOf (.ref C)) cd.mro := look.andThen .now
  have taker : PySem.W.Looks (model prog w) hp (storeTaker? none) none := .now
  refine codeAny_call_builtin F.store_object.slot.plain F.store_object.entry (@PySem.W.check_slot (model prog w) _ _ ⟨hp, g, dr, n, os⟩ "object.__setattr__" "object" "__setattr__" (.ref x) [.str f tk, v] [] _ F.store_object.kind F.store_object.split isO (F.store_object.args (.ref x) (.str f tk) v) ?_)
  rw [PySem.W.osa_eq, refuse_eq]
  refine wpAny_bind (wpAny_bind (inst.type.at (wpAny_bind (order.at (by
    rw [mr, refuseLoop_ref, oeT_pass]
    refine wpAny_pure (wpAny_bind (inst.type.at (wpAny_bind ((PySem.W.looks_findIn kin no).at (wpAny_bind (taker.at ?_))))))
    show wpAny _ _ (storeInOwnDict (.ref x) (.ref C) (.str f tk) f v false) _ _ _
    obtain ⟨c1, c2, c3, c4, c5, c6, c7, c8, c9, c10, c11⟩ := cd
    have di' : c6 = true := di
    subst di'
    unfold storeInOwnDict ownDictForStores
    repeat (first | with_reducible refine store_in_new ?_ ?_ | with_reducible refine wpAny_loadPart_at at_ ?_ | with_reducible refine look.at ?_ | wp_step)
    · exact ⟨_, #[], _, (Heap.get?_update_ne _ _ _ _ xs.symm).trans (Heap.get?_push_at rfl rfl), rfl, fun e he => absurd he (by simp), fun _ => rfl⟩
    · intro h' tk' ns same
      have up := Heap.get?_push_of_some { cls := .type "dict", data := .dict #[] } at_
      exact go h' tk' hp.objs.size (fun b o nb ob => (same.2 b (Nat.ne_of_lt (Heap.lt_size ob))).trans ((Heap.get?_update_ne _ _ _ _ nb).trans (Heap.get?_push_of_some _ ob))) (Nat.le_refl _) xs.symm ((same.2 x xs).trans (Heap.get?_update_self _ up rfl)) ns)))))
end
/-- what the top says of the class -/
structure OexO (K : PySem.W.Frag) (C : Addr) : Prop where
  cls : ∃ nm q N bs sn sub ab col dd k0 k1 k2 k3 k5, K.lookup C = some (excClassObj nm q C N bs oeT true sn sub ab col dd k0 k1 k2 k3 k5 "OverflowError.__new__")
  sa : PySem.W.findIn K (.ref C) "__setattr__" = some (some (.builtin "object.__setattr__"))
  exC : PySem.W.subIn K (.ref C) (.type "BaseException") = some true
  tyC : PySem.W.typeIn K (.ref C) = some (.type "type")
  kC : PySem.W.keepIn K (.ref C) = true
section
variable {X : Cx} {pins : List (Addr × Obj)} {σ : L2.St} {H : Hp} {s : Shared} {a C : Addr} {f : Str} {y : V} {u : Value} {E : Value → Shared → Prop} {A : Around}
theorem sto_first {Q : Unit → Shared → Prop} (T : OexO X.K C) (I : Inv X pins σ H s) (e : H a = some (exo a C none)) (no : PySem.W.findIn X.K (.ref C) f = some none) (ry : RelV y u)
    (k : ∀ dx s', H dx = none → dx ≠ a → Inv X pins σ (upd (upd H dx (exd dx [(f, y)])) a (exo a C (some dx))) s' → Q () s') : wpAny (model X.prog X.w) A (setAttr (.ref a) f u) Q E s := by
  obtain ⟨nm, q, N, bs, sn, sub, ab, col, dd, k0, k1, k2, k3, k5, hC⟩ := T.cls
  have cl : PySem.W.clsIn X.K C = some { name := nm, bases := bs, mro := .ref C :: oeT, ns := N, qualname := q, hasDict := true, slotNames := sn, subclasses := sub, abstract := ab, collection := col, hasDel := false } := by unfold PySem.W.clsIn; rw [hC] <;> rfl
  obtain ⟨t1, ho⟩ := exo_at I.hok e
  obtain ⟨hp, g, dr, tk, os⟩ := s
  refine PySem.W.set_plain I.kIn (ox := { cls := .ref C, dict := none, data := .fields #[.ref t1, .none, .none, .none, .bool false, .none] }) (od := none) ⟨ho, rfl, rfl, trivial⟩ T.sa (first_field I.kIn ho cl rfl rfl no fun h' tk' dx keep fresh ndx hx ns => ?_)
  have free : H dx = none := I.hok.fresh fresh
  have old : ∀ {b : Addr} {o : Obj}, hp.get? b = some o → b ≠ dx := fun {b o} z => Nat.ne_of_lt (Nat.lt_of_lt_of_le (Heap.lt_size z) fresh)
  have apart : ∀ {b : Addr}, H b = none → b ≠ a := fun {b} z z2 => by rw [z2, e] at z; cases z
  refine k dx _ free ndx (I.un (t' := tk') ?_ fun b o z => ?_)
  · exact ⟨fun b o z z1 _ _ => keep b o (apart z1) z, fun b o z z1 _ _ => ⟨o.slots, keep b o (apart z1) z⟩, fun b o z z1 _ => by rw [upd_ne (apart z1), upd_ne (old z)]; exact z1,
      fun b o z _ => (by by_cases hb : b = a; · { subst hb; exact ⟨_, hx⟩ }; · exact ⟨o, keep b o hb z⟩), fun b xs z => by rw [upd_ne (at_ne e z exo_tup), upd_ne (ne_of_none z free)]; exact z,
      fun b o v z => by rw [upd_ne (at_ne e z exo_frz), upd_ne (ne_of_none z free)]; exact z, fun b ps z => ⟨#[], by rw [upd_ne (at_ne e z exo_tbl), upd_ne (ne_of_none z free), z]; simp⟩⟩
  · by_cases hb : b = a
    · subst hb; rw [upd_same] at z; cases z; exact exo_ok hx
    · rw [upd_ne hb] at z
      by_cases hd : b = dx
      · subst hd; rw [upd_same] at z; cases z; exact exd_ok ns (relO_put (fs := []) ry fun g => True.intro)
      · rw [upd_ne hd] at z
        refine (I.hok b o z).stay (fun c v hc z2 => keep c v (fun z3 => ?_) z2) (fun c hc => by rw [upd_ne (at_ne e hc exo_own), upd_ne (ne_of_none hc free)]; exact hc) (fun c xs hc => by rw [upd_ne (at_ne e hc exo_tup), upd_ne (ne_of_none hc free)]; exact hc)
        rcases hc with hc | hc
        · exact hb (hc ▸ z3)
        · exact at_ne e hc exo_own z3
end
/-- self.f = e -/
def tOstO (K : PySem.W.Frag) (f : Str) (to te : TE) : TS := fun D σ H => te σ H fun y H1 => to σ H1 fun x H2 => ∃ a C : Addr, x = .ref a ∧ OexO K C ∧ PySem.W.findIn K (.ref C) f = some none ∧ H2 a = some (exo a C none) ∧ ∀ dx, H2 dx = none → dx ≠ a → D.nx σ (upd (upd H2 dx (exd dx [(f, y)])) a (exo a C (some dx)))
theorem ps_ostO {X : Cx} {o e : Expr} {to te : TE} {f : Str} {p' pos : Pos} (ho : PE X o to) (he : PE X e te) (hs : swapsWith e (some (.Attribute o f p')) pos.line X.env = pure false := by rfl) : PS X (.Assign [.Attribute o f p'] e pos) (tOstO X.K f to te) :=
  ⟨fun pins s σ H D I h => plainObj_wpAny_Assign_Attribute (thn (he.run pins s σ H _ I h) fun v s1 ⟨y, H1, I1, r1, q1⟩ => thn (ho.run pins s1 σ H1 _ I1 q1) fun u s2 ⟨x, H2, I2, r2, a, C, ex, T, no, ea, q⟩ => by
    subst ex; obtain rfl : u = Value.ref a := r2
    exact sto_first T I2 ea no r1 fun dx s' n1 n2 J => ⟨σ, _, J, q dx n1 n2⟩) hs⟩
/-- such an error, made by its class -/
theorem pmk_over {X : Cx} {CX : CXT} {x : Str} {C fI : Addr} {k : Nat} {fd : FuncData} {ps : List Str} {sp : Sp} {e : Expr} {es : List Expr} {ta : TA} {p pos : Pos} (T : OexO X.K C) (iC : PySem.W.findIn X.K (.ref C) "__init__" = some (some (.ref fI))) (tI : PySem.W.typeIn X.K (.ref fI) = some (.type "function"))
    (G : FnOk X.prog X.w X.K X.mg X.base CX k fI fd ps sp) (hr : Room (k + 1) X.A) (hb : Binds X.K fd ps []) (hx : Passes CX X (fun _ _ _ => False)) (hg : Gl X x) (hm : X.mg x = some (.ref C)) (ha : PA X (e :: es) ta)
    (hdb : (x == ("__debug__" : Str)) = false := by decide) (he : starEach (e :: es) X.env = (false, eval e X.env) :: starEach es X.env := by rfl) (hpl : (backTo pos (starEach es X.env)).any (·.1) = false := by rfl) :
    PMk X (.Call (.Name x p) (e :: es) [] pos) (tMkO C sp [] ta) := fun pins s σ H Q I h => by
  obtain ⟨nm, q, N, bs, sn, sub, ab, col, dd, k0, k1, k2, k3, k5, hC⟩ := T.cls
  refine wpAny_Call_Name_kw (ld_glob I hg hm (PySem.W.callWith_K (h₀ := X.base) I.ok.mod.kin T.kC (thn (ha.run pos pins s σ H _ I h) fun us s1 ⟨vs, H1, I1, r1, hz, q1⟩ => ⟨I1.kIn, ?_⟩) he hpl) hdb)
  obtain ⟨hp, g, dr, tk, os⟩ := s1
  show wpAny _ _ (call (.ref C) us) _ _ _
  have big : hp.objs.size ≤ hp.objs.size + 1 := Nat.le_succ _
  have want := q1 (hp.objs.size + 1) (I1.hok.fresh big)
  have keep : ∀ b o, hp.get? b = some o → ((hp.push (PySem.W.kdv_tup us)).push (PySem.HandSPX.excO C hp.objs.size)).get? b = some o := fun b o z => Heap.get?_push_of_some _ (Heap.get?_push_of_some _ z)
  have there : ((hp.push (PySem.W.kdv_tup us)).push (PySem.HandSPX.excO C hp.objs.size)).get? (hp.objs.size + 1) = some (PySem.HandSPX.excO C hp.objs.size) := by heap_get
  have I2 : Inv X pins σ (upd H1 (hp.objs.size + 1) (exo (hp.objs.size + 1) C none)) ⟨(hp.push (PySem.W.kdv_tup us)).push (PySem.HandSPX.excO C hp.objs.size), g, dr, tk, os⟩ := I1.laid (t' := tk) (a := hp.objs.size + 1) (o := exo (hp.objs.size + 1) C none) (h' := (hp.push (PySem.W.kdv_tup us)).push (PySem.HandSPX.excO C hp.objs.size)) keep big (exo_ok there)
  have rv : Vals (V.ref (hp.objs.size + 1) :: (vs ++ [])) (Value.ref (hp.objs.size + 1) :: (us ++ [])) := .cons rfl (r1.append .nil)
  have len : (Value.ref (hp.objs.size + 1) :: us ++ []).length = ps.length := by have z := rv.length; rw [G.len _ _ _ _ want] at z; exact z.symm
  have few : us.length ≤ sizeLine := by rw [← Paired.length r1, sizeLine_eq]; omega
  have bnd := hb _ (Value.ref (hp.objs.size + 1) :: us) I2.kIn len
  rw [List.append_nil] at bnd
  have rv : Vals (V.ref (hp.objs.size + 1) :: (vs ++ [])) (Value.ref (hp.objs.size + 1) :: us) := .cons rfl (by rw [List.append_nil]; exact r1)
  have mro : ∀ Y : String, oeT.contains (.type Y) = ([.type "OverflowError", .type "ArithmeticError", .type "Exception", .type "BaseException", .type "object"] : List Value).contains (.type Y) := fun Y => rfl
  refine wpAny_call (PySem.HandSPX.call_own F.excBase_OverflowError mro (I1.kIn _ _ hC) (PySem.W.looks_findIn I1.kIn iC) (fun self => PySem.W.bind_fn I1.kIn self tI) few (codeAny_mono (G.run _ X.stack _ _ ⟨Value.ref (hp.objs.size + 1) :: us, []⟩ (Value.ref (hp.objs.size + 1) :: us) _ _ (fun _ _ _ => False)
    (hr.make C us []) (I2.env0.make C us []) bnd rv want) fun r s' z => ?_))
  match r, z with
  | .error er, z => exact hx pins σ _ _ er s' I2 z
  | .ok (.ret u), ⟨v, H2, os2, bare2, un2, hok2, r0, ev, d, fs, ea, ed, hd1, q2⟩ =>
    subst ev
    obtain ⟨h2, g2, d2, t2, os'⟩ := s'
    exact ⟨r0, mk_end (raises_own T.exC T.tyC) I1 big keep un2 hok2 os2 bare2 ea ed hd1 q2⟩
  | .ok .next, z => exact False.elim z
  | .ok .brk, z => exact False.elim z
  | .ok .cont, z => exact False.elim z
/-- the own __init__: it keeps its argument -/
def spXO (K : PySem.W.Frag) (fld : Str) : Sp := fun vs H Q _ => ∃ (a C : Addr) (v : V), vs = [.ref a, v] ∧ OexO K C ∧ PySem.W.findIn K (.ref C) fld = some none ∧ H a = some (exo a C none) ∧
  ∀ dx, H dx = none → dx ≠ a → Q .non (upd (upd H dx (exd dx [(fld, v)])) a (exo a C (some dx)))
section
variable {P : Program} {w : World} {K : PySem.W.Frag} {mg : Str → Option Value} {base : Heap}
theorem ok_xo {qual fld : Str} {st : Stmt} {f : Addr} {fd : FuncData} {p1 p2 p3 p4 : Pos} (F : Fun K "__init__" qual st f fd) (S : FnScope ["self", fld] ["self", fld] (defScope st))
    (hb : defBody st = [.Assign [.Attribute (.Name "self" p1) fld p2] (.Name fld p3) p4]) (h1 : (fld == ("__debug__" : Str)) = false) (h2 : (fld == ("__classdict__" : Str)) = false) : FnOk P w K mg base CX0 1 f fd ["self", fld] (spXO K fld) := by
  refine F.ok S (fun vs H Q E h => ?_) (fun cdv A outer s H vs Q E hr h => ?_)
  · obtain ⟨a, C, v, rfl, _⟩ := h; rfl
  · obtain ⟨a, C, v, rfl, T, hn, ha, k⟩ := h
    rw [hb]
    exact ⟨_, pss_one (ps_ostO (pe_var (i := 0) rfl (vis_of S (by simp))) (pe_var (i := 1) rfl (vis_of S (by simp)) h1 h2)), v, rfl, .ref a, rfl, a, C, rfl, T, hn, ha, k⟩
end
/-- what the top has made of the class x -/
structure ExTO (K : PySem.W.Frag) (mg : Str → Option Value) (x fld : Str) : Prop where
  g : mg x = some (.ref (ga K x))
  ox : OexO K (ga K x)
  xf : XfC K (ga K x)
  no : PySem.W.findIn K (.ref (ga K x)) fld = some none
  ini : ∃ (qual : Str) (st : Stmt) (f : Addr) (fd : FuncData) (p1 p2 p3 p4 : Pos), PySem.W.findIn K (.ref (ga K x)) "__init__" = some (some (.ref f)) ∧ PySem.W.typeIn K (.ref f) = some (.type "function") ∧ Fun K "__init__" qual st f fd ∧ FnScope ["self", fld] ["self", fld] (defScope st) ∧
    defBody st = [.Assign [.Attribute (.Name "self" p1) fld p2] (.Name fld p3) p4] ∧ Binds K fd ["self", fld] []
theorem ps_raiseO {X : Cx} {x fld : Str} {W : WX} {e : Expr} {te : TE} {p pos pos2 : Pos} (T : ExTO X.K X.mg x fld) (hr : Room 2 X.A) (tk : Takes X W) (he : PE X e te) (hc : X.calm = true := by rfl) (hg : Gl X x := by rfl) (hdb : (x == ("__debug__" : Str)) = false := by decide)
    (hd1 : (fld == ("__debug__" : Str)) = false := by decide) (hd2 : (fld == ("__classdict__" : Str)) = false := by decide)
    (hs : starEach [e] X.env = (false, eval e X.env) :: starEach [] X.env := by rfl) (hpl : (backTo pos (starEach [] X.env)).any (·.1) = false := by rfl) : PS X (.Raise (some (.Call (.Name x p) [e] [] pos)) none pos2) (tRaiseX X.K x fld W te) := by
  obtain ⟨qual, st, f, fd, p1, p2, p3, p4, hi, ht, F, S, hb, B⟩ := T.ini
  have G : FnOk X.prog X.w X.K X.mg X.base CX0 1 f fd ["self", fld] (spXO X.K fld) := ok_xo F S hb hd1 hd2
  refine PS.imp (ps_raise hc tk (pmk_over (k := 1) T.ox hi ht G hr B (pass0) hg T.g (pa_cons (PE.mcl he) pa_nil hs) hdb hs hpl)) fun D σ H q => ⟨_, q, fun v H1 k => ⟨by show 1 ≤ 1000; decide, fun a ha => ⟨a, _, v, rfl, T.ox, T.no, upd_same, fun dx hdx hne => ⟨rfl, dx, _, upd_same, by rw [upd_ne hne, upd_same], ?_, ?_⟩⟩⟩⟩
  · rw [upd_ne hne] at hdx; exact hdx
  · have hdn : H1 dx = none := by rw [upd_ne hne] at hdx; exact hdx
    refine k dx _ hdn (fun b u e => ?_) upd_same
    have h1 := ne_of_none e hdn
    have h2 := ne_of_none e ha
    rw [upd_ne h1, del_ne h2, upd_ne h2, upd_ne h1, upd_ne h2]
    exact e
theorem exto_mk {K : PySem.W.Frag} {mg : Str → Option Value} {h : Heap} (X : K.In h) (G : h.Ns mainGlobals mg) {x fld qual nm q : Str} {st : Stmt} {C f N : Addr} {bs bm sub : List Value} {sn : List Str} {ab : Bool} {col : Option Bool} {dd od an : Option Addr} {m0 m1 m2 m3 m5 : Option Value} {oc kV dc pm cd ct : Value} {sl : Array (Option Value)} {p1 p2 p3 p4 : Pos}
    (aC : PySem.W.nsIn K mainGlobals x = some (some (.ref C))) (xL : K.lookup C = some (excClassObj nm q C N bs bm true sn sub ab col dd m0 m1 m2 m3 m5 "OverflowError.__new__")) (hbm : bm = oeT)
    (sa : PySem.W.findIn K (.ref C) "__setattr__" = some (some (.builtin "object.__setattr__"))) (exC : PySem.W.subIn K (.ref C) (.type "BaseException") = some true) (tyC : PySem.W.typeIn K (.ref C) = some (.type "type")) (kC : PySem.W.keepIn K (.ref C) = true)
    (gA : PySem.W.findIn K (.ref C) "__getattribute__" = some (some (.builtin "BaseException.__getattribute__"))) (gG : PySem.W.findIn K (.ref C) "__getattr__" = some none) (hd : PySem.W.hasDictIn K C = true) (no : PySem.W.findIn K (.ref C) fld = some none)
    (iC : PySem.W.findIn K (.ref C) "__init__" = some (some (.ref f))) (tI : PySem.W.typeIn K (.ref f) = some (.type "function"))
    (lI : K.lookup f = some ⟨oc, od, .func (PySem.W.fnOf "__init__" qual (defArgs st) (defBody st) (defScope st) .none kV dc pm an cd ct), sl⟩) (cI : PySem.W.codeIn K cd qual = true) (kI : PySem.W.keepIn K (.ref f) = true)
    (S : FnScope ["self", fld] ["self", fld] (defScope st)) (hb : defBody st = [.Assign [.Attribute (.Name "self" p1) fld p2] (.Name fld p3) p4])
    (hB : ∀ (kV doc pm : Value) (an : Option Addr) (cdv ct : Value) (us : List Value), us.length = (["self", fld] : List Str).length → bindArgs (PySem.W.fnOf "__init__" qual (defArgs st) (defBody st) (defScope st) .none kV doc pm an cdv ct) ⟨us, []⟩ = pure ((["self", fld] : List Str).zip us)) : ExTO K mg x fld := by
  have e := ga_of aC
  subst hbm
  refine ⟨?_, ?_, ?_, ?_, ?_⟩
  · rw [e]; exact PySem.W.mg_of X G aC
  · rw [e]; exact ⟨⟨_, _, _, _, _, _, _, _, _, _, _, _, _, _, xL⟩, sa, exC, tyC, kC⟩
  · rw [e]; exact ⟨gA, gG, exC, hd⟩
  · rw [e]; exact no
  · rw [e]; exact ⟨qual, st, f, _, p1, p2, p3, p4, iC, tI, fun_mk lI cI kI, S, hb, (fun_mk (st := st) lI cI kI).binds hB⟩
end Iz
/-! Cp -/
set_option Elab.async false
set_option linter.all false
set_option maxRecDepth 100000
set_option maxHeartbeats 4000000
namespace Iz
/-! ### carpets: the mathematics -/
/-- the colour of a cell, told by b and the rows -/
def colR (b : Int) (rows : List (List Nat)) (x y : Int) : Nat :=
  let r := rows.getD (y % rows.length).toNat []
  r.getD ((x - b * (y / rows.length)) % r.length).toNat 0
structure RowsOk (a d : Nat) (rows : List (List Nat)) : Prop where
  a1 : 1 ≤ a
  d1 : 1 ≤ d
  len : rows.length = d
  all : ∀ r ∈ rows, r.length = a
def Per (C : Int → Int → Nat) (s t : Int) : Prop := ∀ x y, C (x + s) (y + t) = C x y
theorem Per.zero {C : Int → Int → Nat} : Per C 0 0 := fun x y => by rw [Int.add_zero, Int.add_zero]
theorem Per.add {C : Int → Int → Nat} {s t s' t' : Int} (p : Per C s t) (q : Per C s' t') : Per C (s + s') (t + t') := fun x y => by
  rw [← Int.add_assoc, ← Int.add_assoc, q, p]
theorem Per.neg {C : Int → Int → Nat} {s t : Int} (p : Per C s t) : Per C (-s) (-t) := fun x y => by
  have := p (x + -s) (y + -t)
  rw [Int.neg_add_cancel_right, Int.neg_add_cancel_right] at this
  exact this.symm
theorem Per.nsmul {C : Int → Int → Nat} {s t : Int} (p : Per C s t) (n : Nat) : Per C (n * s) (n * t) := by
  induction n with
  | zero => simpa using Per.zero
  | succ n ih => have := ih.add p; rwa [show ((n + 1 : Nat) : Int) * s = n * s + s by rw [Int.natCast_add, Int.add_mul]; simp, show ((n + 1 : Nat) : Int) * t = n * t + t by rw [Int.natCast_add, Int.add_mul]; simp]
theorem Per.smul {C : Int → Int → Nat} {s t : Int} (p : Per C s t) (n : Int) : Per C (n * s) (n * t) := by
  rcases Int.eq_nat_or_neg n with ⟨m, rfl | rfl⟩
  · exact p.nsmul m
  · have := (p.nsmul m).neg; rwa [← Int.neg_mul, ← Int.neg_mul] at this
theorem Per.sub {C : Int → Int → Nat} {s t s' t' : Int} (p : Per C s t) (q : Per C s' t') : Per C (s - s') (t - t') := p.add q.neg
/-- rows in their places -/
theorem RowsOk.row {a d : Nat} {rows : List (List Nat)} (R : RowsOk a d rows) (y : Int) : ∃ r, rows[(y % (d : Int)).toNat]? = some r ∧ r.length = a ∧ rows.getD (y % rows.length).toNat [] = r := by
  have d1 := R.d1
  have m0 := Int.emod_nonneg y (b := (d : Int)) (by omega)
  have m1 := Int.emod_lt_of_pos y (b := (d : Int)) (by omega)
  have hl : (y % (d : Int)).toNat < rows.length := by have := R.len; omega
  refine ⟨rows[(y % (d : Int)).toNat], List.getElem?_eq_getElem hl, R.all _ (List.getElem_mem hl), ?_⟩
  rw [R.len, List.getD_eq_getElem?_getD, List.getElem?_eq_getElem hl]; rfl
theorem RowsOk.col {a d : Nat} {rows : List (List Nat)} (R : RowsOk a d rows) {b x y : Int} {r : List Nat} (h : rows[(y % (d : Int)).toNat]? = some r) : colR b rows x y = r.getD ((x - b * (y / d)) % (a : Int)).toNat 0 := by
  obtain ⟨r', e, l, g⟩ := R.row y
  rw [h] at e; cases e
  rw [R.len] at g
  simp only [colR, R.len, g, l]
theorem RowsOk.per_a {a d : Nat} {rows : List (List Nat)} (R : RowsOk a d rows) {b : Int} : Per (colR b rows) a 0 := fun x y => by
  obtain ⟨r, e, l, g⟩ := R.row y
  rw [Int.add_zero, R.col e, R.col e]
  have : x + (a : Int) - b * (y / d) = (x - b * (y / d)) + a := by omega
  rw [this, Int.add_emod_right]
theorem RowsOk.per_bd {a d : Nat} {rows : List (List Nat)} (R : RowsOk a d rows) {b : Int} : Per (colR b rows) b d := fun x y => by
  have d1 := R.d1
  obtain ⟨r, e, l, g⟩ := R.row y
  have e' : rows[((y + (d : Int)) % (d : Int)).toNat]? = some r := by rw [Int.add_emod_right]; exact e
  rw [R.col e', R.col e]
  have h1 : (y + (d : Int)) / d = y / d + 1 := by rw [Int.add_ediv_of_dvd_right (Int.dvd_refl _), Int.ediv_self (by omega)]
  have : x + b - b * (y / d + 1) = x - b * (y / d) := by rw [Int.mul_add, Int.mul_one]; omega
  rw [h1, this]
/-- a place's own colour -/
theorem RowsOk.at {a d : Nat} {rows : List (List Nat)} (R : RowsOk a d rows) {b : Int} {j : Nat} {r : List Nat} (h : rows[j]? = some r) (i : Nat) (hi : i < a) : colR b rows i j = r.getD i 0 := by
  have hj : j < d := by have := (List.getElem?_eq_some_iff.mp h).1; have := R.len; omega
  have hm : ((j : Int) % (d : Int)) = j := Int.emod_eq_of_lt (by omega) (by omega)
  have hd : ((j : Int) / (d : Int)) = 0 := Int.ediv_eq_zero_of_lt (by omega) (by omega)
  have h' : rows[((j : Int) % (d : Int)).toNat]? = some r := by rw [hm]; exact h
  rw [R.col h', hd, Int.mul_zero, Int.sub_zero, Int.emod_eq_of_lt (by omega) (by omega), Int.toNat_natCast]
/-- a row turned by w signs -/
def tn (w : Nat) (r : List Nat) : List Nat := r.drop w ++ r.take w
theorem tn_length {w : Nat} {r : List Nat} : (tn w r).length = r.length := by
  simp only [tn, List.length_append, List.length_drop, List.length_take]; omega
theorem tn_get {w i : Nat} {r : List Nat} (hw : w ≤ r.length) (hi : i < r.length) : (tn w r).getD i 0 = r.getD ((i + w) % r.length) 0 := by
  unfold tn
  simp only [List.getD_eq_getElem?_getD]
  congr 1
  by_cases h : i < r.length - w
  · rw [List.getElem?_append_left (by rw [List.length_drop]; exact h), List.getElem?_drop, Nat.mod_eq_of_lt (by omega), Nat.add_comm]
  · rw [List.getElem?_append_right (by rw [List.length_drop]; omega), List.length_drop, List.getElem?_take, if_pos (by omega)]
    congr 1
    rw [Nat.mod_eq_sub_mod (by omega), Nat.mod_eq_of_lt (by omega)]
    omega
theorem getD_ext {r r' : List Nat} (hl : r.length = r'.length) (h : ∀ i, i < r.length → r.getD i 0 = r'.getD i 0) : r = r' := by
  refine List.ext_getElem hl fun i h1 h2 => ?_
  have := h i h1
  simpa only [List.getD_eq_getElem?_getD, List.getElem?_eq_getElem h1, List.getElem?_eq_getElem h2, Option.getD_some] using this
/-- the shift (s, y) leads each row to itself -/
def again (b : Int) (rows : List (List Nat)) (s : Int) (y : Nat) : Prop :=
  ∀ j r, rows[j]? = some r → ∃ o, rows[(j + y) % rows.length]? = some o ∧ tn ((s - b * (((j + y) / rows.length : Nat) : Int)) % (r.length : Int)).toNat o = r
theorem again_iff {a d : Nat} {rows : List (List Nat)} (R : RowsOk a d rows) {b s : Int} {y : Nat} : again b rows s y ↔ Per (colR b rows) s y := by
  have d1 := R.d1
  have a1 := R.a1
  have key : ∀ (j : Nat) (r o : List Nat), rows[j]? = some r → rows[(j + y) % d]? = some o → ∀ i, i < a → colR b rows ((i : Int) + s) ((j : Int) + y) = (tn ((s - b * (((j + y) / d : Nat) : Int)) % (a : Int)).toNat o).getD i 0 := by
    intro j r o hj ho i hi
    have lo : o.length = a := R.all _ (List.mem_of_getElem? ho)
    have ho' : rows[(((j : Int) + y) % (d : Int)).toNat]? = some o := by
      rw [show (((j : Int) + y) % (d : Int)) = (((j + y) % d : Nat) : Int) by simp, Int.toNat_natCast]; exact ho
    have m0 := Int.emod_nonneg (s - b * (((j + y) / d : Nat) : Int)) (b := (a : Int)) (by omega)
    have m1 := Int.emod_lt_of_pos (s - b * (((j + y) / d : Nat) : Int)) (b := (a : Int)) (by omega)
    rw [R.col ho', tn_get (by omega) (by omega), lo]
    congr 1
    rw [show (((j : Int) + y) / (d : Int)) = (((j + y) / d : Nat) : Int) by simp]
    generalize hu : s - b * (((j + y) / d : Nat) : Int) = u at *
    have e1 : (i : Int) + s - b * (((j + y) / d : Nat) : Int) = i + u := by omega
    rw [e1]
    have e2 : (((i + (u % (a : Int)).toNat) % a : Nat) : Int) = ((i : Int) + u) % a := by
      rw [Int.natCast_emod, Int.natCast_add, Int.toNat_of_nonneg m0, Int.add_emod_emod]
    omega
  constructor
  · intro h x z
    -- reduce (x, z) to a place
    have P1 : Per (colR b rows) a 0 := R.per_a
    have P2 : Per (colR b rows) b d := R.per_bd
    obtain ⟨u, hu⟩ : ∃ u, u = z / (d : Int) := ⟨_, rfl⟩
    obtain ⟨v, hv⟩ : ∃ v, v = (x - b * u) / (a : Int) := ⟨_, rfl⟩
    have m0 := Int.emod_nonneg z (b := (d : Int)) (by omega)
    have m1 := Int.emod_lt_of_pos z (b := (d : Int)) (by omega)
    have n0 := Int.emod_nonneg (x - b * u) (b := (a : Int)) (by omega)
    have n1 := Int.emod_lt_of_pos (x - b * u) (b := (a : Int)) (by omega)
    have Q := (P2.smul u).add (P1.smul v)
    have ez : z = (z % (d : Int)) + (u * d + v * 0) := by have := Int.emod_add_mul_ediv z d; rw [← hu] at this; rw [Int.mul_zero, Int.add_zero, Int.mul_comm u]; exact this.symm
    have ex : x = ((x - b * u) % (a : Int)) + (u * b + v * a) := by
      have := Int.emod_add_mul_ediv (x - b * u) a
      rw [← hv] at this
      rw [Int.mul_comm u, Int.mul_comm v]; omega
    have e1 := Q ((x - b * u) % (a : Int)) (z % (d : Int))
    have e2 := Q ((x - b * u) % (a : Int) + s) (z % (d : Int) + y)
    rw [← ex, ← ez] at e1
    rw [show (x - b * u) % (a : Int) + s + (u * b + v * a) = x + s by omega, show z % (d : Int) + y + (u * d + v * 0) = z + y by omega] at e2
    rw [e1, e2]
    have hj : (z % (d : Int)).toNat < rows.length := by have := R.len; omega
    have hjr := List.getElem?_eq_getElem hj
    obtain ⟨o, ho, ht⟩ := h _ _ hjr
    have lr : (rows[(z % (d : Int)).toNat]).length = a := R.all _ (List.getElem_mem hj)
    rw [R.len] at ho
    rw [R.len, lr] at ht
    have k := key _ _ _ hjr ho ((x - b * u) % (a : Int)).toNat (by omega)
    rw [ht, ← R.at hjr (b := b) _ (by omega)] at k
    rw [Int.toNat_of_nonneg m0, Int.toNat_of_nonneg n0] at k
    exact k
  · intro p j r hj
    have hlt : (j + y) % d < rows.length := by rw [R.len]; exact Nat.mod_lt _ (by omega)
    refine ⟨rows[(j + y) % d], by rw [R.len]; exact List.getElem?_eq_getElem hlt, ?_⟩
    have lr : r.length = a := R.all _ (List.mem_of_getElem? hj)
    have lo : (rows[(j + y) % d]).length = a := R.all _ (List.getElem_mem hlt)
    rw [R.len, lr]
    refine getD_ext (by rw [tn_length, lo, lr]) fun i hi => ?_
    rw [tn_length, lo] at hi
    rw [← key _ _ _ hj (List.getElem?_eq_getElem hlt) i hi, p, R.at hj i hi]
theorem again0 {a d : Nat} {rows : List (List Nat)} (R : RowsOk a d rows) {b : Int} {w : Nat} (hw : w ≤ a) : (∀ r ∈ rows, tn w r = r) ↔ Per (colR b rows) w 0 := by
  have d1 := R.d1
  have hj : ∀ {j : Nat} {r : List Nat}, rows[j]? = some r → j < d ∧ r.length = a := fun h => ⟨by have := (List.getElem?_eq_some_iff.mp h).1; have := R.len; omega, R.all _ (List.mem_of_getElem? h)⟩
  have tna : ∀ r : List Nat, r.length = a → tn (((w : Int)) % (a : Int)).toNat r = tn w r := by
    intro r hr
    by_cases e : w = a
    · subst e; simp [tn, ← hr]
    · rw [Int.emod_eq_of_lt (by omega) (by omega), Int.toNat_natCast]
  have := again_iff R (b := b) (s := w) (y := 0)
  rw [show ((0 : Nat) : Int) = 0 from rfl] at this
  rw [← this]
  constructor
  · intro h j r hr
    obtain ⟨h1, h2⟩ := hj hr
    refine ⟨r, by rw [R.len, Nat.add_zero, Nat.mod_eq_of_lt h1]; exact hr, ?_⟩
    rw [R.len, Nat.add_zero, Nat.div_eq_of_lt h1, h2]
    rw [show (w : Int) - b * ((0 : Nat) : Int) = w by simp, tna r h2]
    exact h r (List.mem_of_getElem? hr)
  · intro h r hr
    obtain ⟨j, hr⟩ := List.getElem?_of_mem hr
    obtain ⟨h1, h2⟩ := hj hr
    obtain ⟨o, ho, ht⟩ := h j r hr
    rw [R.len, Nat.add_zero, Nat.mod_eq_of_lt h1, hr] at ho
    cases ho
    rw [R.len, Nat.add_zero, Nat.div_eq_of_lt h1, h2] at ht
    rwa [show (w : Int) - b * ((0 : Nat) : Int) = w by simp, tna r h2] at ht
/-- the colours of the first w cells of the first h rows -/
def cells (C : Int → Int → Nat) (w h : Nat) : List (List Nat) := (List.range h).map fun (j : Nat) => (List.range w).map fun (i : Nat) => C i j
/-- the normal form of a colouring -/
structure NF (C : Int → Int → Nat) (w s h : Int) (R : List (List Nat)) : Prop where
  w1 : 1 ≤ w
  pw : Per C w 0
  lw : ∀ v, 1 ≤ v → v < w → ¬ Per C v 0
  s0 : 0 ≤ s
  sw : s < w
  h1 : 1 ≤ h
  ph : Per C s h
  lh : ∀ y v, 1 ≤ y → y < h → ¬ Per C v y
  rows : R = cells C w.toNat h.toNat
theorem NF.uniq {C : Int → Int → Nat} {w s h w' s' h' : Int} {R R' : List (List Nat)} (A : NF C w s h R) (B : NF C w' s' h' R') : w = w' ∧ s = s' ∧ h = h' ∧ R = R' := by
  have e1 : w = w' := by
    have := A.lw w' B.w1; have := B.lw w A.w1
    have p := A.pw; have q := B.pw
    by_cases h1 : w < w'
    · exact absurd p (B.lw w A.w1 h1)
    · by_cases h2 : w' < w
      · exact absurd q (A.lw w' B.w1 h2)
      · omega
  have e2 : h = h' := by
    have p := A.ph; have q := B.ph
    by_cases h1 : h < h'
    · exact absurd p (B.lh h s A.h1 h1)
    · by_cases h2 : h' < h
      · exact absurd q (A.lh h' s' B.h1 h2)
      · omega
  subst e1 e2
  have e3 : s = s' := by
    have p := A.ph.sub B.ph
    rw [Int.sub_self] at p
    have a0 := A.s0; have a1 := A.sw; have b0 := B.s0; have b1 := B.sw
    by_cases h1 : s < s'
    · have := p.neg
      rw [Int.neg_zero] at this
      exact absurd this (A.lw _ (by omega) (by omega))
    · by_cases h2 : s' < s
      · exact absurd p (A.lw _ (by omega) (by omega))
      · omega
  exact ⟨rfl, e3, rfl, A.rows.trans B.rows.symm⟩
theorem cells_get {C : Int → Int → Nat} {w h i j : Nat} (hi : i < w) (hj : j < h) : ((cells C w h).getD j []).getD i 0 = C i j := by
  simp [cells, List.getD_eq_getElem?_getD, hi, hj]
theorem NF.same {C C' : Int → Int → Nat} {w s h : Int} {R : List (List Nat)} (A : NF C w s h R) (B : NF C' w s h R) : C = C' := by
  have w1 := A.w1
  have h1 := A.h1
  have red : ∀ {D : Int → Int → Nat}, NF D w s h R → ∀ x y, D x y = (R.getD (y % h).toNat []).getD ((x - s * (y / h)) % w).toNat 0 := by
    intro D N x y
    have m0 := Int.emod_nonneg y (b := h) (by omega)
    have m1 := Int.emod_lt_of_pos y (b := h) (by omega)
    have n0 := Int.emod_nonneg (x - s * (y / h)) (b := w) (by omega)
    have n1 := Int.emod_lt_of_pos (x - s * (y / h)) (b := w) (by omega)
    rw [N.rows, cells_get (by omega) (by omega), Int.toNat_of_nonneg m0, Int.toNat_of_nonneg n0]
    have Q := (N.ph.smul (y / h)).add (N.pw.smul ((x - s * (y / h)) / w))
    have e := Q ((x - s * (y / h)) % w) (y % h)
    have q1 := Int.emod_add_mul_ediv y h
    have q2 := Int.emod_add_mul_ediv (x - s * (y / h)) w
    rw [show (x - s * (y / h)) % w + (y / h * s + (x - s * (y / h)) / w * w) = x by rw [Int.mul_comm (y / h) s, Int.mul_comm _ w]; omega, show y % h + (y / h * h + (x - s * (y / h)) / w * 0) = y by rw [Int.mul_zero, Int.add_zero, Int.mul_comm]; omega] at e
    exact e
  funext x y
  rw [red A, red B]
/-- what the search finds is the normal form -/
theorem nf_found {a d : Nat} {rows : List (List Nat)} (R : RowsOk a d rows) {b : Int} {w h : Nat} {s : Int} (w1 : 1 ≤ w) (wa : w ≤ a) (pw : ∀ r ∈ rows, tn w r = r) (lw : ∀ v, 1 ≤ v → v < w → ¬ ∀ r ∈ rows, tn v r = r)
    (s0 : 0 ≤ s) (sw : s < w) (h1 : 1 ≤ h) (hd : h ≤ d) (ph : Per (colR b rows) s h) (lh : ∀ y : Nat, 1 ≤ y → y < h → d % y = 0 → ∀ v : Nat, v < w → ¬ again b rows v y) :
    NF (colR b rows) w s h ((rows.take h).map (List.take w)) := by
  have d1 := R.d1
  have pw' := (again0 R (b := b) wa).mp pw
  refine ⟨by omega, pw', ?_, s0, sw, by omega, ph, ?_, ?_⟩
  · intro v v1 v2 p
    obtain ⟨n, rfl⟩ := Int.eq_ofNat_of_zero_le (show 0 ≤ v by omega)
    exact lw n (by omega) (by omega) ((again0 R (b := b) (by omega)).mpr p)
  · -- the least y of a period divides d
    have least : ∀ n : Nat, ∀ y : Nat, y ≤ n → 1 ≤ y → y < h → ∀ v : Int, ¬ Per (colR b rows) v y := by
      intro n
      induction n with
      | zero => intro y h0 h1; omega
      | succ n ih =>
        intro y hy y1 yh v p
        by_cases e : d % y = 0
        · -- v modulo w
          have q : Per (colR b rows) (v % w) y := by
            have := p.sub (pw'.smul (v / w))
            rw [Int.mul_zero, Int.sub_zero] at this
            have ev := Int.emod_add_mul_ediv v w
            rw [show v - v / w * w = v % w by rw [Int.mul_comm (v / (w : Int))]; omega] at this
            exact this
          have m0 := Int.emod_nonneg v (b := (w : Int)) (by omega)
          have m1 := Int.emod_lt_of_pos v (b := (w : Int)) (by omega)
          refine lh y y1 yh e (v % w).toNat (by omega) ((again_iff R).mpr ?_)
          rw [Int.toNat_of_nonneg m0]; exact q
        · have q := (R.per_bd (b := b)).sub (p.smul ((d / y : Nat) : Int))
          have ed := Nat.mod_add_div d y
          rw [show (d : Int) - ((d / y : Nat) : Int) * y = ((d % y : Nat) : Int) by
            have : (d : Int) = ((d % y : Nat) : Int) + (y : Int) * ((d / y : Nat) : Int) := by exact_mod_cast ed.symm
            rw [Int.mul_comm (((d / y : Nat) : Int))]; omega] at q
          have lt := Nat.mod_lt d (show y > 0 by omega)
          exact ih (d % y) (by omega) (by omega) (by omega) _ q
    intro y v y1 yh
    obtain ⟨n, rfl⟩ := Int.eq_ofNat_of_zero_le (show 0 ≤ y by omega)
    exact least n n (Nat.le_refl _) (by omega) (by omega) v
  · rw [Int.toNat_natCast, Int.toNat_natCast]
    refine List.ext_getElem ?_ fun j j1 j2 => ?_
    · simp [cells, R.len]; omega
    · have jh : j < h := by simpa [cells] using j2
      have jr : j < rows.length := by rw [R.len]; omega
      have lr : (rows[j]).length = a := R.all _ (List.getElem_mem jr)
      rw [List.getElem_map, List.getElem_take]
      simp only [cells, List.getElem_map, List.getElem_range]
      refine getD_ext (by simp [lr]; omega) fun i hi => ?_
      have iw : i < w := by rw [List.length_take] at hi; omega
      rw [List.getD_eq_getElem?_getD, List.getD_eq_getElem?_getD, List.getElem?_take, if_pos iw, List.getElem?_map, List.getElem?_range iw]
      simp only [Option.map_some, Option.getD_some]
      rw [R.at (List.getElem?_eq_getElem jr) i (by omega), List.getD_eq_getElem?_getD]
/-- told by other periods -/
theorem cells_ok {C : Int → Int → Nat} {w h : Nat} (hw : 1 ≤ w) (hh : 1 ≤ h) : RowsOk w h (cells C w h) := ⟨hw, hh, by simp [cells], fun r hr => by
  simp only [cells, List.mem_map] at hr
  obtain ⟨j, _, rfl⟩ := hr
  simp⟩
theorem cells_col {C : Int → Int → Nat} {w h : Nat} {b : Int} (hw : 1 ≤ w) (hh : 1 ≤ h) (pw : Per C w 0) (ph : Per C b h) : colR b (cells C w h) = C := by
  funext x y
  have R := cells_ok (C := C) hw hh
  obtain ⟨r, e, l, g⟩ := R.row y
  have m0 := Int.emod_nonneg y (b := (h : Int)) (by omega)
  have m1 := Int.emod_lt_of_pos y (b := (h : Int)) (by omega)
  have n0 := Int.emod_nonneg (x - b * (y / h)) (b := (w : Int)) (by omega)
  have n1 := Int.emod_lt_of_pos (x - b * (y / h)) (b := (w : Int)) (by omega)
  rw [R.len] at g
  rw [R.col e, ← g, cells_get (by omega) (by omega), Int.toNat_of_nonneg m0, Int.toNat_of_nonneg n0]
  have Q := (ph.smul (y / h)).add (pw.smul ((x - b * (y / h)) / w))
  have e := Q ((x - b * (y / h)) % w) (y % h)
  have q1 := Int.emod_add_mul_ediv y h
  have q2 := Int.emod_add_mul_ediv (x - b * (y / h)) w
  rw [show (x - b * (y / h)) % w + (y / h * b + (x - b * (y / h)) / w * w) = x by rw [Int.mul_comm (y / h) b, Int.mul_comm _ (w : Int)]; omega, show y % h + (y / h * h + (x - b * (y / h)) / w * 0) = y by rw [Int.mul_zero, Int.add_zero, Int.mul_comm]; omega] at e
  exact e.symm
theorem colR_inj {a d : Nat} {rows rows' : List (List Nat)} (R : RowsOk a d rows) (R' : RowsOk a d rows') {b : Int} (e : colR b rows = colR b rows') : rows = rows' := by
  refine List.ext_getElem (by rw [R.len, R'.len]) fun j h1 h2 => ?_
  have l1 := R.all _ (List.getElem_mem h1)
  have l2 := R'.all _ (List.getElem_mem h2)
  refine getD_ext (l1.trans l2.symm) fun i hi => ?_
  rw [← R.at (b := b) (List.getElem?_eq_getElem h1) i (by omega), ← R'.at (b := b) (List.getElem?_eq_getElem h2) i (by omega), e]
theorem NF.iff {C C' : Int → Int → Nat} {w s h w' s' h' : Int} {R R' : List (List Nat)} (A : NF C w s h R) (B : NF C' w' s' h' R') : C = C' ↔ (w = w' ∧ s = s' ∧ h = h' ∧ R = R') := by
  constructor
  · rintro rfl; exact A.uniq B
  · rintro ⟨rfl, rfl, rfl, rfl⟩; exact A.same B
end Iz
/-! St -/
set_option Elab.async false
set_option linter.all false
set_option maxRecDepth 100000
set_option maxHeartbeats 4000000
namespace Iz
open PySem PySem.Spec PyProof.Rows L2
open He (ga)
open SX (S S_len S_inj S_cat)
/-! ### texts told by their signs -/
theorem S_eq {a b : List Nat} : S a = S b ↔ a = b := ⟨S_inj, fun h => h ▸ rfl⟩
theorem S_len' {a : List Nat} : (S a).length = a.length := S_len a
theorem pe_strZ {X : Cx} {x : Str} {j} {pos : Pos} (l : List Nat) (h : x = S l := by decide +kernel) : PE X (.Constant (.str x) j pos) (tC (.str (S l))) := by subst h; exact pe_str
def rAddZ : R2 := fun x y H Q => ∃ l m, x = .str (S l) ∧ y = .str (S m) ∧ l.length + m.length ≤ sizeLine ∧ Q (.str (S (l ++ m))) H
theorem op_addZ {X : Cx} : OpR X (binaryOp .Add) rAddZ := fun pins s σ H x y v u Q I rx ry ⟨l, m, e1, e2, hz, q⟩ => op_add_str pins s σ H x y v u Q I rx ry ⟨S l, S m, e1, e2, by rw [S_len, S_len]; exact hz, by rw [S_cat]; exact q⟩
/-- l[lo:hi] -/
def cutZ (l : List Nat) (lo hi : Option Int) : List Nat := (l.drop (HT.sIx l.length 0 lo)).take (HT.sIx l.length l.length hi - HT.sIx l.length 0 lo)
theorem cutS_S {l : List Nat} {lo hi : Option Int} : cutS (S l) lo hi = S (cutZ l lo hi) := by unfold cutS cutZ; rw [S_len]
theorem cutZ_from {l : List Nat} {i : Int} (h : 0 ≤ i) : cutZ l (some i) none = l.drop i.toNat := SX.S_inj (by rw [← cutS_S, C8.cutS_slice, SX.slice_from h])
theorem cutZ_to {l : List Nat} {i : Int} (h : 0 ≤ i) : cutZ l none (some i) = l.take i.toNat := SX.S_inj (by rw [← cutS_S, C8.cutS_slice, SX.slice_to h])
def rSlZ : V → Option Int → Option Int → Hp → VK → Prop := fun x lo hi H Q => ∃ l, x = .str (S l) ∧ l.length ≤ sizeLine ∧ Q (.str (S (cutZ l lo hi))) H
theorem sl_strZ {X : Cx} : SlR X rSlZ := fun pins s σ H x v vl vu lo hi sl Q I rx hs pl pu ⟨l, e, hz, q⟩ => sl_str pins s σ H x v vl vu lo hi sl Q I rx hs pl pu ⟨S l, e, by rw [S_len]; exact hz, by rw [cutS_S]; exact q⟩
def rIxZ : R2 := fun x y H Q => ∃ l i c, x = .str (S l) ∧ y = .int i ∧ l.length ≤ sizeLine ∧ atI l i = some c ∧ Q (.str (S [c])) H
theorem ix_strZ {X : Cx} : IxR X rIxZ := fun value slice pins s σ H x y v u Q I rx ry ⟨l, i, c, e1, e2, hz, ha, q⟩ hs => ix_str value slice pins s σ H x y v u Q I rx ry ⟨S l, i, c, e1, e2, by rw [S_len]; exact hz, ha, q⟩ hs
def rInZ (neg : Bool) : R2 := fun x y H Q => ∃ (c : Nat) (l : List Nat), x = .str (S [c]) ∧ y = .str (S l) ∧ Q (.bl (if neg then !decide (c ∈ l) else decide (c ∈ l))) H
theorem op_inZ {X : Cx} : OpR X (compareOp .In) (rInZ false) := fun pins s σ H x y v u Q I rx ry ⟨c, l, e1, e2, q⟩ => op_in_sign pins s σ H x y v u Q I rx ry ⟨c, S l, e1, e2, q⟩
def rIntZ : List V → Hp → VK → Prop := fun xs H Q => ∃ c : Nat, xs = [.str (S [c])] ∧ 48 ≤ c ∧ c ≤ 57 ∧ Q (.int ((c : Int) - 48)) H
theorem call_intZ {X : Cx} : CallR X (.type "int") rIntZ := CallR.imp call_int_str fun xs H Q ⟨c, e, h1, h2, q⟩ => ⟨S [c], _, e, SX.int_S (a := [c]) (by simp [h1, h2]) (by simp) (by simp), by rw [S_len]; exact (by decide : 1 ≤ 640), by
  have : (NumText.digitsVal [c] : Int) = (c : Int) - 48 := by
    have : NumText.digitsVal [c] = c - 48 := by
      have h : c = 48 ∨ c = 49 ∨ c = 50 ∨ c = 51 ∨ c = 52 ∨ c = 53 ∨ c = 54 ∨ c = 55 ∨ c = 56 ∨ c = 57 := by omega
      rcases h with rfl | rfl | rfl | rfl | rfl | rfl | rfl | rfl | rfl | rfl <;> rfl
    rw [this]; omega
  rw [this]; exact q⟩
theorem num_dig {n : Nat} (h : n ≤ 9) : (toString ((n : Nat) : Int) : String) = String.ofList [Char.ofNat (48 + n)] := by
  have : n = 0 ∨ n = 1 ∨ n = 2 ∨ n = 3 ∨ n = 4 ∨ n = 5 ∨ n = 6 ∨ n = 7 ∨ n = 8 ∨ n = 9 := by omega
  rcases this with rfl | rfl | rfl | rfl | rfl | rfl | rfl | rfl | rfl | rfl <;> decide +kernel
theorem str_dig {n : Nat} (h : n ≤ 9) : Str.ofString (toString ((n : Nat) : Int)) = S [48 + n] := by
  have : n = 0 ∨ n = 1 ∨ n = 2 ∨ n = 3 ∨ n = 4 ∨ n = 5 ∨ n = 6 ∨ n = 7 ∨ n = 8 ∨ n = 9 := by omega
  rcases this with rfl | rfl | rfl | rfl | rfl | rfl | rfl | rfl | rfl | rfl <;> decide +kernel
def rStrZ : List V → Hp → VK → Prop := fun xs H Q => ∃ i : Int, xs = [.int i] ∧ 0 ≤ i ∧ i ≤ 9 ∧ Q (.str (S [48 + i.toNat])) H
theorem call_strZ {X : Cx} : CallR X (.type "str") rStrZ := CallR.imp call_str_int fun xs H Q ⟨i, e, h0, h9, q⟩ => ⟨i, e, log_lt (n := 4) (by omega) (by decide) (by decide), by
  obtain ⟨n, rfl⟩ := Int.eq_ofNat_of_zero_le h0
  rw [Int.toNat_natCast] at q
  rw [show (toString (n : Int) : String) = toString ((n : Nat) : Int) from rfl] at *
  have := str_dig (n := n) (by omega)
  exact this ▸ q⟩
def rLenZ : List V → Hp → VK → Prop := fun xs H Q => ∃ l, xs = [.str (S l)] ∧ l.length ≤ sizeLine ∧ Q (.int (l.length : Nat)) H
/-- a text times an int of 1 or more -/
def rRepZ : R2 := fun x y H Q => ∃ l i, x = .str (S l) ∧ y = .int i ∧ 1 ≤ i ∧ i ≤ 1000 ∧ l.length ≤ 1000 ∧ Q (.str (S (List.replicate i.toNat l).flatten)) H
theorem foldl_cat (l : List Nat) : ∀ (n : Nat) (acc : List Nat), (List.replicate n l.toArray).foldl (· ++ ·) acc.toArray = (acc ++ (List.replicate n l).flatten).toArray
  | 0, acc => by simp
  | n + 1, acc => by
    rw [List.replicate_succ, List.foldl_cons, List.replicate_succ, List.flatten_cons]
    have := foldl_cat l n (acc ++ l)
    rw [List.append_assoc] at this
    rw [← this]
    congr 1
    simp
theorem op_repZ {X : Cx} : OpR X (binaryOp .Mult) rRepZ := by
  intro pins s σ H x y v u Q I rx ry ⟨l, i, e1, e2, h1, h2, hl, q⟩
  subst e1 e2
  obtain ⟨t, rfl⟩ := rx
  obtain ⟨t', rfl⟩ := ry
  have hq : EP X pins σ Q (.str (S (List.replicate i.toNat l).flatten) s.toks) { s with toks := s.toks + 1 } := ⟨.str (S (List.replicate i.toNat l).flatten), H, I.tok _, ⟨_, rfl⟩, q⟩
  have hlen : (S l).length = l.length := S_len l
  have sm : l.length * i.toNat ≤ 1000000 := by
    have : i.toNat ≤ 1000 := by omega
    calc l.length * i.toNat ≤ 1000 * 1000 := Nat.mul_le_mul hl this
      _ = 1000000 := rfl
  refine P.mul_str (by
      rw [decide_eq_false (show ¬ i < -(2 ^ 63 : Int) by omega), decide_eq_false (show ¬ i ≥ 2 ^ 63 by omega)]; rfl) (fun _ _ => ?_) (fun _ _ => ?_) ?_
  · rw [hlen]
    have : (1000 : Int) ≤ (2 ^ 63 - 1) / i := (Int.le_ediv_iff_mul_le (by omega)).mpr (by omega)
    omega
  · rw [hlen]
    exact decide_eq_false (by rw [sizeLine_eq]; omega)
  · rw [if_neg (by omega)]
    have few : (S (List.replicate i.toNat l).flatten).length ≤ sizeLine := by
      rw [S_len, sizeLine_eq, List.length_flatten, List.map_replicate, List.sum_replicate_nat, Nat.mul_comm]
      omega
    by_cases c : (i == 1 || (S l).length == 0) = true
    · rw [if_pos c]
      have e : (List.replicate i.toNat l).flatten = l := by
        rw [Bool.or_eq_true, beq_iff_eq, beq_iff_eq, hlen] at c
        rcases c with rfl | c
        · simp
        · rw [List.eq_nil_of_length_eq_zero c]; simp
      rw [e] at q
      exact ⟨.str (S l), H, I, ⟨_, rfl⟩, q⟩
    · rw [if_neg c]
      have e : (⟨(List.replicate i.toNat (S l).cps).foldl (· ++ ·) #[]⟩ : Str) = S (List.replicate i.toNat l).flatten := by
        have := foldl_cat l i.toNat []
        rw [List.nil_append] at this
        exact congrArg Str.mk this
      rw [e]
      exact ⟨few, hq⟩
theorem call_lenZ {X : Cx} : CallR X (.builtin "len") rLenZ := CallR.imp call_len_str fun xs H Q ⟨l, e, hz, q⟩ => ⟨S l, e, by rw [S_len]; exact hz, by rw [S_len]; exact q⟩
/-- "".join(texts) -/
theorem joinL_nil : ∀ ls : List (List Nat), TL.joinL [] ls = ls.flatten
  | [] => rfl
  | [a] => by simp [TL.joinL]
  | a :: b :: r => by
    have := joinL_nil (b :: r)
    rw [List.flatten_cons, ← this]
    simp [TL.joinL]
def strsV (ls : List (List Nat)) : List V := ls.map fun l => V.str (S l)
theorem strsV_len {ls : List (List Nat)} : (strsV ls).length = ls.length := List.length_map _
theorem strsV_get {ls : List (List Nat)} {i : Nat} {l : List Nat} (h : ls[i]? = some l) : (strsV ls)[i]? = some (.str (S l)) := by unfold strsV; rw [List.getElem?_map, h]; rfl
theorem strsV_get' {ls : List (List Nat)} {i : Nat} {v : V} (h : (strsV ls)[i]? = some v) : ∃ l, ls[i]? = some l ∧ v = .str (S l) := by
  unfold strsV at h
  rw [List.getElem?_map] at h
  obtain ⟨l, h1, h2⟩ := Option.map_eq_some_iff.mp h
  exact ⟨l, h1, h2.symm⟩
def tJoinZ (te : TE) : TE := fun σ H Q => te σ H fun y H1 => ∃ p ls, y = .ref p ∧ H1 p = some (.lst (strsV ls)) ∧ (ls.map (·.length)).sum ≤ 1000000 ∧ Q (.str (S ls.flatten)) H1
theorem pe_joinZ {X : Cx} {e : Expr} {te : TE} {x : Str} {j : Nat} {p2 apos pos : Pos} (hx : x = S [] := by decide +kernel) (he : PE X e te) (hs : starEach [e] X.env = [(false, eval e X.env)] := by rfl)
    (hbase : attributeBase (.Constant (.str x) j p2) "join" X.env (eval (.Constant (.str x) j p2) X.env) = eval (.Constant (.str x) j p2) X.env := by rfl) (hline : (apos.endLine == pos.line) = true := by rfl) : PE X (.Call (.Attribute (.Constant (.str x) j p2) "join" apos) [e] [] pos) (tJoinZ te) := by
  subst hx
  refine PE.imp (pe_join pe_str (PE.mcl he) hs hbase hline) fun σ H Q h => ?_
  refine ⟨⟨_, rfl⟩, _, h, fun v H1 ⟨p, ls, e1, e2, e3, q⟩ => ?_⟩
  refine ⟨S [], p, ls.map S, rfl, by rw [e1], .inl ?_, ?_, ?_⟩
  · rw [List.map_map]; exact SqL.of e2
  · rw [SX.lens, S_len, List.length_nil, Nat.mul_zero, Nat.add_zero]; omega
  · rw [SX.join_S, joinL_nil]; exact q
/-! ### globals that hold a text or an int -/
theorem pe_glS {X : Cx} {x : Str} {l : List Nat} {pos : Pos} (h : ∃ t, X.mg x = some (.str (S l) t)) (hg : Gl X x := by rfl) (hd : (x == ("__debug__" : Str)) = false := by decide) : PE X (.Name x pos) (tC (.str (S l))) := let ⟨t, e⟩ := h; pe_glob hg e ⟨t, rfl⟩ hd
theorem pe_glI {X : Cx} {x : Str} {i : Int} {pos : Pos} (h : ∃ t, X.mg x = some (.int i t)) (hg : Gl X x := by rfl) (hd : (x == ("__debug__" : Str)) = false := by decide) : PE X (.Name x pos) (tC (.int i)) := let ⟨t, e⟩ := h; pe_glob hg e ⟨t, rfl⟩ hd
/-- tuple(x) of a list or a tuple -/
def rTupG (K : PySem.W.Frag) : List V → Hp → VK → Prop := fun xs H Q => ∃ p ys, xs = [.ref p] ∧ LG K H p ys ∧ ∀ q H', Same H H' → SqT K H' q ys → Q (.ref q) H'
theorem call_tupG {X : Cx} : CallR X (.type "tuple") (rTupG X.K) := CallR.imp call_tuple_of fun xs H Q ⟨p, ys, e, hp, n⟩ => ⟨p, ys, e, hp.elim (fun h => .inl ⟨SqL.of h, fun l hl => n l _ (Same.upd hl) (SqT.of upd_same)⟩) fun h => .inr ⟨h, n p H (fun _ _ h => h) h⟩⟩
/-! ### rows of texts, compared -/
def dStrs (ls : List (List Nat)) : List PyData := ls.map fun l => PyData.str (S l)
theorem dpA_strs {K : PySem.W.Frag} {H : Hp} : ∀ ls : List (List Nat), DpAll K H (strsV ls) (dStrs ls)
  | [] => .nil
  | l :: r => .cons (.str _) (dpA_strs r)
theorem eqvA_strs : ∀ ls ms : List (List Nat), PyData.eqvAll (dStrs ls) (dStrs ms) = decide (ls = ms)
  | [], [] => by simp [dStrs, PyData.eqvAll]
  | [], m :: ms => by simp [dStrs, PyData.eqvAll]
  | l :: ls, [] => by simp [dStrs, PyData.eqvAll]
  | l :: ls, m :: ms => by
    have ih := eqvA_strs ls ms
    simp only [dStrs, List.map_cons, PyData.eqvAll, PyData.eqv] at ih ⊢
    rw [ih, SX.S_beq_eq]
    by_cases h1 : l = m <;> by_cases h2 : ls = ms <;> simp [h1, h2]
/-- the signs are figures -/
def figs (ls : List (List Nat)) : Prop := ∀ l ∈ ls, ∀ c ∈ l, 48 ≤ c ∧ c ≤ 57
theorem figs_ok {ls : List (List Nat)} (h : figs ls) : ∀ l ∈ ls, PyData.strOk (S l) = true := fun l hl => by
  unfold PyData.strOk
  rw [Array.all_eq_true']
  intro c hc
  have := h l hl c (by simpa using hc)
  exact decide_eq_true (by omega)
theorem sh_strsT {n : Nat} {ls : List (List Nat)} (h : figs ls) : ShN (n + 1) (.tuple (dStrs ls)) := (ShN.tuple (n := 0) fun d hd => by
  obtain ⟨l, hl, rfl⟩ := List.mem_map.mp hd; exact ShN.str (figs_ok h l hl)).up (by omega)
theorem sh_strsL {n : Nat} {ls : List (List Nat)} (h : figs ls) : ShN (n + 1) (.list (dStrs ls)) := (ShN.list (n := 0) fun d hd => by
  obtain ⟨l, hl, rfl⟩ := List.mem_map.mp hd; exact ShN.str (figs_ok h l hl)).up (by omega)
theorem dp_strsT {K : PySem.W.Frag} {H : Hp} {p : Addr} {ls : List (List Nat)} (h : H p = some (.tup (strsV ls))) : Dp K H (.ref p) (.tuple (dStrs ls)) := .tup (SqT.of h) (dpA_strs ls)
theorem dp_strsL {K : PySem.W.Frag} {H : Hp} {p : Addr} {ls : List (List Nat)} (h : H p = some (.lst (strsV ls))) : Dp K H (.ref p) (.list (dStrs ls)) := .lst (SqL.of h) (dpA_strs ls)
/-- two lists of texts -/
theorem eq_strsL {K : PySem.W.Frag} {H : Hp} {p q : Addr} {ls ms : List (List Nat)} {R : VK} (h1 : H p = some (.lst (strsV ls))) (h2 : H q = some (.lst (strsV ms))) (f1 : figs ls) (f2 : figs ms) (r : R (.bl (decide (ls = ms))) H) : rEqD K (.ref p) (.ref q) H R :=
  ⟨_, _, dp_strsL h1, dp_strsL h2, (sh_strsL (n := 0) f1).ok, (sh_strsL (n := 0) f2).ok, by simp only [PyData.eqv]; rw [eqvA_strs]; exact r⟩
/-- a normal form as data -/
def dNF (w s h : Int) (R : List (List Nat)) : PyData := .tuple [.int w, .int s, .int h, .tuple (dStrs R)]
structure NFAt (H : Hp) (n q : Addr) (w s h : Int) (R : List (List Nat)) : Prop where
  n : H n = some (.tup [.int w, .int s, .int h, .ref q])
  q : H q = some (.tup (strsV R))
theorem NFAt.same {H H' : Hp} {n q : Addr} {w s h : Int} {R : List (List Nat)} (x : NFAt H n q w s h R) (e : Same H H') : NFAt H' n q w s h R := ⟨e _ _ x.n, e _ _ x.q⟩
theorem NFAt.dp {K : PySem.W.Frag} {H : Hp} {n q : Addr} {w s h : Int} {R : List (List Nat)} (x : NFAt H n q w s h R) : Dp K H (.ref n) (dNF w s h R) := .tup (SqT.of x.n) (.cons (.int w) (.cons (.int s) (.cons (.int h) (.cons (dp_strsT x.q) .nil))))
theorem sh_dNF {n : Nat} {w s h : Int} {R : List (List Nat)} (f : figs R) : ShN (n + 2) (dNF w s h R) := (ShN.tuple (n := 1) fun d hd => by
  simp only [List.mem_cons, List.not_mem_nil, or_false] at hd
  rcases hd with rfl | rfl | rfl | rfl
  · exact .int
  · exact .int
  · exact .int
  · exact sh_strsT (n := 0) f).up (by omega)
theorem eqv_dNF {w s h w' s' h' : Int} {R R' : List (List Nat)} : PyData.eqv (dNF w s h R) (dNF w' s' h' R') = decide (w = w' ∧ s = s' ∧ h = h' ∧ R = R') := by
  simp only [dNF, PyData.eqv, PyData.eqvAll, Bool.and_true, eqvA_strs]
  by_cases h1 : w = w' <;> by_cases h2 : s = s' <;> by_cases h3 : h = h' <;> by_cases h4 : R = R' <;> simp [h1, h2, h3, h4]
theorem eq_NF {K : PySem.W.Frag} {H : Hp} {n q n' q' : Addr} {w s h w' s' h' : Int} {R R' : List (List Nat)} {k : VK} (x : NFAt H n q w s h R) (y : NFAt H n' q' w' s' h' R') (f : figs R) (f' : figs R') (r : k (.bl (decide (w = w' ∧ s = s' ∧ h = h' ∧ R = R'))) H) : rEqD K (.ref n) (.ref n') H k :=
  ⟨_, _, x.dp, y.dp, (sh_dNF (n := 0) f).ok, (sh_dNF (n := 0) f').ok, by rw [eqv_dNF]; exact r⟩
/-! ### a comprehension over a text's signs -/
theorem st_lcZ {tl : TE} {g : TG} {tt : TT} {te : TE} {vs : List Nat} {σ : L2.St} {H : Hp} {Q : VK} {l : List Nat} (ha : ∀ R : V → Hp → Prop, R (.str (S l)) H → tl σ H R) (hz : l.length ≤ 1000) (f : Nat → V)
    (hs : ∀ (c : Nat) H' (R : V → Hp → Prop) (R2 : Hp → Prop), c ∈ l → Same H H' → R (f c) H' → g (.str (S [c])) (wipe σ vs) H' fun σ2 H2 => wipe σ2 vs = wipe σ vs ∧ tt σ2 H2 fun b H3 => if b = true then te σ2 H3 R else R2 H3)
    (hd : ∀ D H', Same H H' → H' D = some (.lst (l.map f)) → Q (.ref D) H') : tLc (iStr tl) g tt te vs σ H Q := by
  have e1 : (S l).cps.size = l.length := by simp
  refine ha _ ⟨S l, rfl, fun D hD => ?_⟩
  refine L2.lc_it (walk_str (z := S l)) (fun i H' => Same H H' ∧ H' D = some (.lst ((l.take i).map f))) ⟨Same.upd hD, by rw [upd_same]; simp⟩ (fun _ _ _ _ => trivial) ?_ ?_
  · rintro i x H1 _ hi ⟨s1, h1⟩ ⟨rfl, c, hc, rfl⟩
    have hc' : l[i]? = some c := by simpa using hc
    have hlt : ((l.take i).map f).length < sizeLine := by
      rw [List.length_map, List.length_take, sizeLine_eq]; omega
    refine hs c _ _ _ (List.mem_of_getElem? hc') s1 ⟨_, h1, hlt, fun b o hb => ?_, ?_⟩
    · rw [upd_ne (ne_of_none hb hD)]; exact s1 _ _ hb
    · rw [upd_same, List.take_succ, hc', List.map_append]; rfl
  · rintro H1 ⟨s1, h1⟩
    rw [e1, List.take_length] at h1
    exact hd D H1 s1 h1
/-- a test that may be asked for less -/
theorem PTm {X : Cx} {e : Expr} {t : TT} (h : PT X e t) : PT X e (mcl t) := ⟨fun pins s σ H Q I ⟨Q0, q, k⟩ => thn (h.run pins s σ H Q0 I q) fun b s1 ⟨H1, I1, q1⟩ => ⟨H1, I1, k b H1 q1⟩⟩
theorem mono_mcl {t : TT} (σ : L2.St) (H : Hp) (Q Q' : Bool → Hp → Prop) (k : ∀ b H1, Q b H1 → Q' b H1) (h : mcl t σ H Q) : mcl t σ H Q' := let ⟨Q0, q, m⟩ := h; ⟨Q0, q, fun b H1 z => k b H1 (m b H1 z)⟩
/-! ### rows walked -/
theorem st_lcQ {K : PySem.W.Frag} {tl : TE} {g : TG} {tt : TT} {te : TE} {vs : List Nat} {σ : L2.St} {H : Hp} {Q : VK} {a : Addr} {ls : List (List Nat)} (ha : ∀ R : V → Hp → Prop, R (.ref a) H → tl σ H R) (hx : SqT K H a (strsV ls)) (hz : ls.length ≤ 1000) (f : List Nat → V)
    (hs : ∀ (l : List Nat) H' (R : V → Hp → Prop) (R2 : Hp → Prop), l ∈ ls → Same H H' → R (f l) H' → g (.str (S l)) (wipe σ vs) H' fun σ2 H2 => wipe σ2 vs = wipe σ vs ∧ tt σ2 H2 fun b H3 => if b = true then te σ2 H3 R else R2 H3)
    (hd : ∀ D H', Same H H' → H' D = some (.lst (ls.map f)) → Q (.ref D) H') : tLc (iTup K tl) g tt te vs σ H Q := by
  refine ha _ ⟨a, rfl, ⟨_, hx⟩, fun D hD => ?_⟩
  refine lc_tup (xs := strsV ls) (fun i H' => Same H H' ∧ H' D = some (.lst ((ls.take i).map f))) ⟨Same.upd hD, by rw [upd_same]; simp⟩ (fun i H' _ p => SqT.same hx p.1) ?_ ?_
  · rintro i x H1 hi ⟨s1, h1⟩
    obtain ⟨l, hl, rfl⟩ := strsV_get' hi
    have hlt : ((ls.take i).map f).length < sizeLine := by rw [List.length_map, List.length_take, sizeLine_eq]; omega
    refine hs l _ _ _ (List.mem_of_getElem? hl) s1 ⟨_, h1, hlt, fun b o hb => ?_, ?_⟩
    · rw [upd_ne (ne_of_none hb hD)]; exact s1 _ _ hb
    · rw [upd_same, List.take_succ, hl, List.map_append]; rfl
  · rintro H1 ⟨s1, h1⟩
    rw [strsV_len, List.take_length] at h1
    exact hd D H1 s1 h1
/-- {i: z} -/
def tD1 (i : Int) (z : Str) : TE := fun _ H Q => News H (.dK (mergeK [] [(.inl i, .str z)])) Q
theorem pe_d1 {X : Cx} {i : Int} {z : Str} {a b : Expr} {pos : Pos} (ha : PE X a (tC (.int i))) (hb : PE X b (tC (.str z))) : PE X (.Dict [some a] [b] pos) (tD1 i z) :=
  PE.imp (pe_disp (pps_cons ha hb pps_nil) rfl rfl (by simp) (by simp)) fun σ H Q n p hp => ⟨upd_same, [(.inl i, .str z)], rfl, by simp, n p _ hp (fun b o hb => by rw [upd_ne (ne_of_none hb hp), upd_ne (ne_of_none hb hp)]; exact hb) upd_same⟩
theorem sl_listNk {X : Cx} {K : PySem.W.Frag} (e : X.K = K) : SlR X (rSlLN K) := e ▸ sl_listN
end Iz
/-! Cq -/
set_option Elab.async false
set_option linter.all false
set_option maxRecDepth 100000
set_option maxHeartbeats 4000000
namespace Iz
/-! ### carpets: places gone through, colours counted -/
theorem per_places {C : Int → Int → Nat} {a d : Nat} {b x y : Int} (a1 : 1 ≤ a) (d1 : 1 ≤ d) (P1 : Per C a 0) (P2 : Per C b d) (h : ∀ i j : Nat, i < a → j < d → C (i + x) (j + y) = C i j) : Per C x y := by
  intro u z
  obtain ⟨q, hq⟩ : ∃ q, q = z / (d : Int) := ⟨_, rfl⟩
  obtain ⟨v, hv⟩ : ∃ v, v = (u - b * q) / (a : Int) := ⟨_, rfl⟩
  have m0 := Int.emod_nonneg z (b := (d : Int)) (by omega)
  have m1 := Int.emod_lt_of_pos z (b := (d : Int)) (by omega)
  have n0 := Int.emod_nonneg (u - b * q) (b := (a : Int)) (by omega)
  have n1 := Int.emod_lt_of_pos (u - b * q) (b := (a : Int)) (by omega)
  have Q := (P2.smul q).add (P1.smul v)
  have ez : z = (z % (d : Int)) + (q * d + v * 0) := by have := Int.emod_add_mul_ediv z d; rw [← hq] at this; rw [Int.mul_zero, Int.add_zero, Int.mul_comm q]; exact this.symm
  have ex : u = ((u - b * q) % (a : Int)) + (q * b + v * a) := by
    have := Int.emod_add_mul_ediv (u - b * q) a
    rw [← hv] at this
    rw [Int.mul_comm q, Int.mul_comm v]; omega
  have e1 := Q ((u - b * q) % (a : Int)) (z % (d : Int))
  have e2 := Q ((u - b * q) % (a : Int) + x) (z % (d : Int) + y)
  rw [← ex, ← ez] at e1
  rw [show (u - b * q) % (a : Int) + x + (q * b + v * a) = u + x by omega, show z % (d : Int) + y + (q * d + v * 0) = z + y by omega] at e2
  rw [e1, e2]
  have := h ((u - b * q) % (a : Int)).toNat (z % (d : Int)).toNat (by omega) (by omega)
  rwa [Int.toNat_of_nonneg m0, Int.toNat_of_nonneg n0] at this
theorem RowsOk.cells {a d : Nat} {rows : List (List Nat)} (R : RowsOk a d rows) {b : Int} : rows = Iz.cells (colR b rows) a d := by
  refine List.ext_getElem (by simp [Iz.cells, R.len]) fun j h1 h2 => ?_
  have lr := R.all _ (List.getElem_mem h1)
  simp only [Iz.cells, List.getElem_map, List.getElem_range]
  refine List.ext_getElem (by simp [lr]) fun i h3 h4 => ?_
  simp only [List.getElem_map, List.getElem_range]
  rw [R.at (List.getElem?_eq_getElem h1) i (by omega), List.getD_eq_getElem?_getD, List.getElem?_eq_getElem h3]; rfl
/-- how often k comes among n neighbours of a row from s on -/
def rowN (f : Int → Nat) (k n : Nat) (s : Int) : Nat := ((List.range n).map fun (i : Nat) => f (s + i)).count k
theorem rowN_succ {f : Int → Nat} {k n : Nat} {s : Int} : rowN f k (n + 1) s = rowN f k n s + (if f (s + n) = k then 1 else 0) := by
  unfold rowN
  rw [List.range_succ, List.map_append, List.count_append]
  simp [List.count_cons]
theorem rowN_cons {f : Int → Nat} {k n : Nat} {s : Int} : rowN f k (n + 1) s = (if f s = k then 1 else 0) + rowN f k n (s + 1) := by
  induction n with
  | zero => rw [rowN_succ]; simp [rowN]
  | succ n ih =>
    rw [rowN_succ, ih, rowN_succ, show s + 1 + (n : Int) = s + ((n + 1 : Nat) : Int) by omega]; omega
theorem rowN_turn {f : Int → Nat} {k w : Nat} (p : ∀ x, f (x + w) = f x) (s : Int) : rowN f k w (s + 1) = rowN f k w s := by
  have h1 := rowN_succ (f := f) (k := k) (n := w) (s := s)
  have h2 := rowN_cons (f := f) (k := k) (n := w) (s := s)
  rw [p] at h1
  omega
theorem rowN_any {f : Int → Nat} {k w : Nat} (p : ∀ x, f (x + w) = f x) (n : Nat) : rowN f k w n = rowN f k w 0 := by
  induction n with
  | zero => rfl
  | succ n ih => rw [show ((n + 1 : Nat) : Int) = (n : Int) + 1 by omega, rowN_turn p, ih]
theorem rowN_add {f : Int → Nat} {k m n : Nat} {s : Int} : rowN f k (m + n) s = rowN f k m s + rowN f k n (s + m) := by
  induction n with
  | zero => simp [rowN]
  | succ n ih => rw [← Nat.add_assoc, rowN_succ, ih, rowN_succ, show s + ((m + n : Nat) : Int) = s + m + n by omega]; omega
theorem rowN_mul {f : Int → Nat} {k w : Nat} (p : ∀ x, f (x + w) = f x) (m : Nat) : rowN f k (w * m) 0 = m * rowN f k w 0 := by
  induction m with
  | zero => simp [rowN]
  | succ m ih =>
    rw [Nat.mul_succ, rowN_add, ih, Int.zero_add, show ((w * m : Nat) : Int) = ((w * m : Nat) : Int) from rfl, rowN_any p, Nat.succ_mul]
/-- how often k comes among the first w cells of the first h rows -/
def cntC (C : Int → Int → Nat) (k w : Nat) : Nat → Nat
  | 0 => 0
  | h + 1 => cntC C k w h + rowN (fun x => C x h) k w 0
theorem cntC_cells {C : Int → Int → Nat} {k w h : Nat} : (cells C w h).flatten.count k = cntC C k w h := by
  induction h with
  | zero => rfl
  | succ h ih =>
    rw [show cells C w (h + 1) = cells C w h ++ [(List.range w).map fun (i : Nat) => C i h] by unfold cells; rw [List.range_succ, List.map_append]; rfl, List.flatten_append, List.count_append, ih]
    simp [cntC, rowN]
theorem cntC_add {C : Int → Int → Nat} {k w m n : Nat} (p : ∀ j : Nat, rowN (fun x => C x ((m + j : Nat) : Int)) k w 0 = rowN (fun x => C x j) k w 0) : cntC C k w (m + n) = cntC C k w m + cntC C k w n := by
  induction n with
  | zero => rfl
  | succ n ih => rw [← Nat.add_assoc]; simp only [cntC]; rw [ih, p n]; omega
theorem count_all {C : Int → Int → Nat} {w s h : Int} {R : List (List Nat)} {a d : Nat} {b : Int} (N : NF C w s h R) (a1 : 1 ≤ a) (d1 : 1 ≤ d) (P1 : Per C a 0) (P2 : Per C b d) :
    ∃ m n : Nat, a = w.toNat * m ∧ d = h.toNat * n ∧ ∀ k, (cells C a d).flatten.count k = m * n * R.flatten.count k := by
  have w1 := N.w1; have h1 := N.h1; have s0 := N.s0
  have dw : (a : Int) % w = 0 := by
    have q := P1.sub (N.pw.smul ((a : Int) / w))
    have e := Int.emod_add_mul_ediv (a : Int) w
    rw [Int.mul_zero, Int.sub_zero, show (a : Int) - (a : Int) / w * w = (a : Int) % w by rw [Int.mul_comm ((a : Int) / w)]; omega] at q
    have m0 := Int.emod_nonneg (a : Int) (b := w) (by omega)
    have m1 := Int.emod_lt_of_pos (a : Int) (b := w) (by omega)
    by_cases c : (a : Int) % w = 0
    · exact c
    · exact absurd q (N.lw _ (by omega) m1)
  have dh : (d : Int) % h = 0 := by
    have q := P2.sub (N.ph.smul ((d : Int) / h))
    have e := Int.emod_add_mul_ediv (d : Int) h
    rw [show (d : Int) - (d : Int) / h * h = (d : Int) % h by rw [Int.mul_comm ((d : Int) / h)]; omega] at q
    have m0 := Int.emod_nonneg (d : Int) (b := h) (by omega)
    have m1 := Int.emod_lt_of_pos (d : Int) (b := h) (by omega)
    by_cases c : (d : Int) % h = 0
    · exact c
    · exact absurd q (N.lh _ _ (by omega) m1)
  obtain ⟨W, rfl⟩ := Int.eq_ofNat_of_zero_le (show 0 ≤ w by omega)
  obtain ⟨Hh, rfl⟩ := Int.eq_ofNat_of_zero_le (show 0 ≤ h by omega)
  obtain ⟨S, rfl⟩ := Int.eq_ofNat_of_zero_le s0
  have dw' : W ∣ a := Int.natCast_dvd_natCast.mp (Int.dvd_of_emod_eq_zero dw)
  have dh' : Hh ∣ d := Int.natCast_dvd_natCast.mp (Int.dvd_of_emod_eq_zero dh)
  obtain ⟨m, rfl⟩ := dw'
  obtain ⟨n, rfl⟩ := dh'
  refine ⟨m, n, by rw [Int.toNat_natCast], by rw [Int.toNat_natCast], fun k => ?_⟩
  have pw : ∀ j x : Int, C (x + W) j = C x j := fun j x => by have := N.pw x j; rwa [Int.add_zero] at this
  rw [N.rows, cntC_cells, cntC_cells, Int.toNat_natCast, Int.toNat_natCast]
  have rowM : ∀ e : Nat, cntC C k (W * m) e = m * cntC C k W e := fun e => by
    induction e with
    | zero => rfl
    | succ e ih => simp only [cntC]; rw [ih, rowN_mul (pw e), Nat.mul_add]
  have shift : ∀ j : Nat, rowN (fun x => C x ((Hh + j : Nat) : Int)) k W 0 = rowN (fun x => C x j) k W 0 := fun j => by
    rw [← rowN_any (pw ((Hh + j : Nat) : Int)) S]
    unfold rowN
    congr 1
    refine List.map_congr_left fun i _ => ?_
    have := N.ph (i : Int) (j : Int)
    rw [show (j : Int) + (Hh : Int) = ((Hh + j : Nat) : Int) by omega, Int.add_comm] at this
    show C ((S : Int) + (i : Int)) ((Hh + j : Nat) : Int) = C (0 + (i : Int)) j
    rw [this, Int.zero_add]
  have colM : ∀ e : Nat, cntC C k W (Hh * e) = e * cntC C k W Hh := fun e => by
    induction e with
    | zero => simp [cntC]
    | succ e ih =>
      rw [Nat.mul_succ, Nat.add_comm (Hh * e) Hh, cntC_add shift, ih, Nat.succ_mul]; omega
  rw [rowM, colM, Nat.mul_assoc]
end Iz
/-! Sc -/
set_option Elab.async false
set_option linter.all false
set_option maxRecDepth 100000
set_option maxHeartbeats 4000000
namespace Iz
open PySem PySem.Spec PyProof.Rows L2
open He (ga)
open SX (S S_len S_inj S_cat)
open PySem.StrLaws PySem.Builtin.Str
/-! ### a sign counted -/
theorem occ_run (l : List Nat) (c : Nat) : ∀ (k i : Nat) (st : Array Nat × Nat), i + k = l.length + 1 → st.snd ≤ i → st.fst.size ≤ i →
    (forIn (List.range' i k) st (occBody (S l) (S [c]) l.length (l.length + 1))).run.fst.size = st.fst.size + (l.drop i).count c
  | 0, i, st, h, _, _ => by
    rw [List.drop_eq_nil_of_le (by omega)]; rfl
  | k + 1, i, st, h, h1, h2 => by
    rw [List.range'_succ, List.forIn_cons]
    have one := subAt_one (S l) c i
    rw [S_len] at one
    have key : ((st.fst.size < l.length + 1 ∧ st.snd ≤ i) ∧ i + (S [c]).length ≤ l.length) ∧ subAt (S l) (S [c]) i = true ↔ l[i]? = some c := ⟨fun x => one.mp ⟨x.1.2, x.2⟩, fun x => by
      have y := one.mpr x
      exact ⟨⟨⟨by omega, h1⟩, y.1⟩, y.2⟩⟩
    unfold occBody
    by_cases e : l[i]? = some c
    · rw [if_pos (key.mpr e)]
      have ih := occ_run l c k (i + 1) (st.fst.push i, i + (S [c]).length) (by omega) (by show i + (S [c]).length ≤ i + 1; rw [S_len]; exact Nat.le_refl _) (by simp; omega)
      refine Eq.trans ih ?_
      have hd : l.drop i = c :: l.drop (i + 1) := drop_of e
      rw [hd, List.count_cons_self, Array.size_push]; omega
    · rw [if_neg (fun z => e (key.mp z))]
      have ih := occ_run l c k (i + 1) st (by omega) (by omega) (by omega)
      refine Eq.trans ih ?_
      cases e2 : l[i]? with
      | none => 
        have : l.length ≤ i := List.getElem?_eq_none_iff.mp e2
        rw [List.drop_eq_nil_of_le (by omega), List.drop_eq_nil_of_le this]
      | some a =>
        have hd : l.drop i = a :: l.drop (i + 1) := drop_of e2
        rw [hd, List.count_cons_of_ne (fun z => e (by rw [e2, z]))]
theorem count_S (l : List Nat) (c : Nat) : Txt.count (S l) (S [c]) = ((l.count c : Nat) : Int) := by
  show (((occurrences (S l) (S [c]) 0 (S l).length ((S l).length + 1)).length : Nat) : Int) = _
  rw [S_len, occ_eq, Nat.sub_zero, Array.length_toList]
  have := occ_run l c (l.length + 1) 0 (#[], 0) (by omega) (Nat.le_refl _) (Nat.le_refl _)
  rw [this]
  simp
def rCntZ (te ta : TE) : TE := fun σ H Q => te σ H fun x H1 => ∃ l : List Nat, x = .str (S l) ∧ ta σ H1 fun y H2 => ∃ c : Nat, y = .str (S [c]) ∧ Q (.int ((l.count c : Nat) : Int)) H2
theorem pe_cntZ {X : Cx} {o e : Expr} {to te : TE} {apos pos : Pos} (ho : PE X o to) (he : PE X e te) (hs : starEach [e] X.env = [(false, eval e X.env)] := by rfl) (hbase : attributeBase o "count" X.env (eval o X.env) = eval o X.env := by rfl) (hline : (apos.endLine == pos.line) = true := by rfl) :
    PE X (.Call (.Attribute o "count" apos) [e] [] pos) (rCntZ to te) :=
  PE.imp (pe_m1 F.slot_str_count F.type_str_count mt_count (PE.mcl ho) (PE.mcl he) hs hbase hline) fun σ H Q h =>
    ⟨_, h, fun x H1 ⟨l, e, q⟩ => ⟨⟨_, e⟩, _, q, fun y H2 ⟨c, e2, q2⟩ => ⟨S l, S [c], e, by rw [e2], by rw [count_S]; exact q2⟩⟩⟩
/-- "".join(texts), of a list or a tuple -/
def tJoinG (K : PySem.W.Frag) (te : TE) : TE := fun σ H Q => te σ H fun y H1 => ∃ p ls, y = .ref p ∧ SqT K H1 p (strsV ls) ∧ (ls.map (·.length)).sum ≤ 1000000 ∧ Q (.str (S ls.flatten)) H1
theorem pe_joinG {X : Cx} {e : Expr} {te : TE} {x : Str} {j : Nat} {p2 apos pos : Pos} (hx : x = S [] := by decide +kernel) (he : PE X e te) (hs : starEach [e] X.env = [(false, eval e X.env)] := by rfl)
    (hbase : attributeBase (.Constant (.str x) j p2) "join" X.env (eval (.Constant (.str x) j p2) X.env) = eval (.Constant (.str x) j p2) X.env := by rfl) (hline : (apos.endLine == pos.line) = true := by rfl) : PE X (.Call (.Attribute (.Constant (.str x) j p2) "join" apos) [e] [] pos) (tJoinG X.K te) := by
  subst hx
  refine PE.imp (pe_join pe_str (PE.mcl he) hs hbase hline) fun σ H Q h => ⟨⟨_, rfl⟩, _, h, fun v H1 ⟨p, ls, e1, e2, e3, q⟩ => ?_⟩
  refine ⟨S [], p, ls.map S, rfl, by rw [e1], .inr ?_, ?_, ?_⟩
  · rw [List.map_map]; exact e2
  · rw [SX.lens, S_len, List.length_nil, Nat.mul_zero, Nat.add_zero]; omega
  · rw [SX.join_S, joinL_nil]; exact q
/-! ### a comprehension over a range from 0, some left out -/
theorem st_lcR1F {ta : TA} {g : TG} {tt : TT} {te : TE} {vs : List Nat} {σ : L2.St} {H : Hp} {Q : VK} (n : Int) (hn : -(2 ^ 62) ≤ n ∧ n < 2 ^ 62) (ha : ∀ R : List V → Hp → Prop, R [.int n] H → ta σ H R) (hz : n.toNat ≤ sizeLine) (p : Int → Bool) (f : Int → V)
    (hs : ∀ x H' (A : Hp → Prop) (B : VK), 0 ≤ x → x < n → Same H H' → (p x = false → ∀ H3, Same H' H3 → A H3) → (p x = true → ∀ H4, Same H' H4 → B (f x) H4) →
      g (.int x) (wipe σ vs) H' fun σ2 H2 => wipe σ2 vs = wipe σ vs ∧ tt σ2 H2 fun b H3 => if b = true then te σ2 H3 B else A H3)
    (hd : ∀ D H', H D = none → Same H H' → H' D = some (.lst (((intsB 0 n).filter p).map f)) → Q (.ref D) H') : tLc (iRng1 ta) g tt te vs σ H Q := by
  have ln : (intsB 0 n).length = n.toNat := by simp [intsB]
  refine ha _ ⟨n, rfl, hn.1, hn.2, fun D hD => lc_range (fun i H' => Same H H' ∧ H' D = some (.lst ((((intsB 0 n).take i).filter p).map f))) ⟨Same.upd hD, upd_same⟩ (fun i H' hi q => ?_) (fun H' q => hd D H' hD q.1 (by rw [q.2, ← ln, List.take_length]))⟩
  have hi' : (intsB 0 n)[i]? = some (0 + (i : Int)) := by
    have : i < (n - 0).toNat := by omega
    unfold intsB
    rw [List.getElem?_map, List.getElem?_range this]; rfl
  refine hs (0 + i) H' _ _ (by omega) (by omega) q.1 (fun e H3 s3 => ⟨q.1.trans s3, ?_⟩) (fun e H4 s4 => ⟨_, s4 _ _ q.2, ?_, ?_, ?_⟩)
  · rw [s3 _ _ q.2, take_filter_succ hi', e]; simp
  · have h1 : (((intsB 0 n).take i).filter p).length ≤ ((intsB 0 n).take i).length := List.length_filter_le _ _
    have h2 : ((intsB 0 n).take i).length ≤ i := by rw [List.length_take]; exact Nat.min_le_left _ _
    rw [List.length_map]; omega
  · exact fun b u e2 => by
      have hb : b ≠ D := ne_of_none e2 hD
      rw [upd_ne hb]; exact s4 _ _ (q.1 _ _ e2)
  · rw [upd_same, take_filter_succ hi', e]; simp
theorem first_range (p : Int → Bool) (lo : Int) : ∀ n : Nat, (∃ v r, ((List.range n).map fun (k : Nat) => lo + (k : Int)).filter p = v :: r ∧ p v = true ∧ lo ≤ v ∧ v < lo + n ∧ ∀ u, lo ≤ u → u < v → p u = false) ∨
    (((List.range n).map fun (k : Nat) => lo + (k : Int)).filter p = [] ∧ ∀ u, lo ≤ u → u < lo + n → p u = false)
  | 0 => .inr ⟨rfl, fun u h1 h2 => by omega⟩
  | n + 1 => by
    rw [List.range_succ, List.map_append, List.filter_append]
    rcases first_range p lo n with ⟨v, r, e, pv, h1, h2, h3⟩ | ⟨e, h⟩
    · exact .inl ⟨v, _, by rw [e]; rfl, pv, h1, by omega, h3⟩
    · rw [e]
      by_cases c : p (lo + (n : Int)) = true
      · exact .inl ⟨lo + n, [], by simp [c], c, by omega, by omega, fun u h1 h2 => h u h1 h2⟩
      · refine .inr ⟨by simp [c], fun u h1 h2 => ?_⟩
        by_cases d : u = lo + n
        · subst d; simpa using c
        · exact h u h1 (by omega)
theorem first_ints (p : Int → Bool) (lo j : Int) : (∃ v r, (intsB lo j).filter p = v :: r ∧ p v = true ∧ lo ≤ v ∧ v < j ∧ ∀ u, lo ≤ u → u < v → p u = false) ∨ ((intsB lo j).filter p = [] ∧ ∀ u, lo ≤ u → u < j → p u = false) := by
  rcases first_range p lo (j - lo).toNat with ⟨v, r, e, pv, h1, h2, h3⟩ | ⟨e, h⟩
  · exact .inl ⟨v, r, e, pv, h1, by omega, h3⟩
  · exact .inr ⟨e, fun u h1 h2 => h u h1 (by omega)⟩
/-- list(x) of a list or a tuple -/
def rListG (K : PySem.W.Frag) : List V → Hp → VK → Prop := fun xs H Q => ∃ p ys, xs = [.ref p] ∧ LG K H p ys ∧ News H (.lst ys) Q
theorem call_listG {X : Cx} : CallR X (.type "list") (rListG X.K) := CallR.imp call_list_of fun xs H Q ⟨p, ys, a, b, n⟩ => ⟨p, ys, a, b.imp SqL.of id, n.all⟩
/-- normal forms compared by != -/
theorem ne_NF {K : PySem.W.Frag} {H : Hp} {n q n' q' : Addr} {w s h w' s' h' : Int} {R R' : List (List Nat)} {k : VK} (x : NFAt H n q w s h R) (y : NFAt H n' q' w' s' h' R') (f : figs R) (f' : figs R') (r : k (.bl (!decide (w = w' ∧ s = s' ∧ h = h' ∧ R = R'))) H) : rNeD K (.ref n) (.ref n') H k :=
  ⟨_, _, x.dp, y.dp, (sh_dNF (n := 0) f).ok, (sh_dNF (n := 0) f').ok, by rw [eqv_dNF]; exact r⟩
end Iz
/-! Dq -/
set_option Elab.async false
set_option linter.all false
set_option maxRecDepth 100000
set_option maxHeartbeats 4000000
namespace Iz
open PySem PySem.Spec PyProof.Rows L2
/-! ### in, deep -/
theorem u65 {k : Nat} {A : Around} (r : Room k A) : A.units + 65 < cLine := by have := r.un; omega
theorem op_inDk {X : Cx} {K : PySem.W.Frag} (e : X.K = K) (hu : X.A.units + 65 < cLine) : OpR X (compareOp .In) (rInD K) := e ▸ op_inD hu
/-- a list of normal forms, by what each is -/
theorem inD_NF {K : PySem.W.Frag} {H : Hp} {L n q : Addr} {w s h : Int} {R : List (List Nat)} {Q : VK} {xs : List V} {Rs : List (List (List Nat))} (hL : H L = some (.lst xs)) (x : NFAt H n q w s h R) (f : figs R)
    (hx : xs.length = Rs.length) (ha : ∀ (i : Nat) R', Rs[i]? = some R' → figs R' ∧ R' ≠ R ∧ ∃ n' q', xs[i]? = some (.ref n') ∧ NFAt H n' q' w s h R') (r : Q (.bl false) H) : rInD K (.ref n) (.ref L) H Q := by
  refine ⟨dNF w s h R, Rs.map (dNF w s h), x.dp, .lst (SqL.of hL) ?_, (sh_dNF (n := 0) f).ok, (ShN.list (n := 2) fun d hd => ?_).ok, ?_⟩
  · clear hL r
    induction Rs generalizing xs with
    | nil => match xs, hx with | [], _ => exact .nil
    | cons R1 Rs ih =>
      match xs, hx with
      | v :: xs, hx =>
        obtain ⟨_, _, n', q', e, y⟩ := ha 0 R1 rfl
        cases e
        exact .cons y.dp (ih (by simpa using hx) fun i R' hi => ha (i + 1) R' hi)
  · obtain ⟨R1, h1, rfl⟩ := List.mem_map.mp hd
    obtain ⟨i, hi⟩ := List.getElem?_of_mem h1
    exact sh_dNF (n := 0) (ha i R1 hi).1
  · have e : ((Rs.map (dNF w s h)).any fun z => PyData.eqv z (dNF w s h R)) = false := by
      rw [List.any_eq_false]
      intro z hz
      obtain ⟨R1, h1, rfl⟩ := List.mem_map.mp hz
      obtain ⟨i, hi⟩ := List.getElem?_of_mem h1
      rw [eqv_dNF]
      have := (ha i R1 hi).2.1
      simp [this]
    rw [e]; exact r
end Iz
/-! Pt -/
set_option Elab.async false
set_option linter.all false
set_option maxRecDepth 100000
set_option maxHeartbeats 4000000
namespace Iz
/-! ### what parts two colourings -/
theorem per_many {α : Type} {f : Int → α} {p : Nat} (hf : ∀ x, f (x + p) = f x) (x : Int) (k : Nat) : f (x + ((k * p : Nat) : Int)) = f x := by
  induction k with
  | zero => simp
  | succ k ih =>
    rw [show x + (((k + 1) * p : Nat) : Int) = x + ((k * p : Nat) : Int) + p by rw [Nat.succ_mul]; omega, hf, ih]
theorem two_perN {α : Type} {f g : Int → α} {p q : Nat} (p1 : 1 ≤ p) (q1 : 1 ≤ q) (hf : ∀ x, f (x + p) = f x) (hg : ∀ x, g (x + q) = g x) (h : ∀ i : Nat, i < p + q → f i = g i) (n : Nat) : f n = g n := by
  induction n using Nat.strongRecOn with
  | ind n ih =>
    by_cases c : n < p + q
    · exact h n c
    · obtain ⟨m, rfl⟩ : ∃ m, n = m + p + q := ⟨n - p - q, by omega⟩
      have e1 : f ((m + p + q : Nat) : Int) = f ((m + q : Nat) : Int) := by
        have := hf ((m + q : Nat) : Int)
        rwa [show ((m + q : Nat) : Int) + p = ((m + p + q : Nat) : Int) by omega] at this
      have e2 : g ((m + p + q : Nat) : Int) = g ((m + p : Nat) : Int) := by
        have := hg ((m + p : Nat) : Int)
        rwa [show ((m + p : Nat) : Int) + q = ((m + p + q : Nat) : Int) by omega] at this
      have e3 : f ((m + p : Nat) : Int) = f (m : Int) := by
        have := hf (m : Int)
        rwa [show (m : Int) + p = ((m + p : Nat) : Int) by omega] at this
      have e4 : g ((m + q : Nat) : Int) = g (m : Int) := by
        have := hg (m : Int)
        rwa [show (m : Int) + q = ((m + q : Nat) : Int) by omega] at this
      rw [e1, e2, ih (m + q) (by omega), e4, ← ih (m + p) (by omega), e3, ih m (by omega)]
/-- what comes again after p, after q steps, and is alike on p + q of them, is alike -/
theorem two_per {α : Type} {f g : Int → α} {p q : Nat} (p1 : 1 ≤ p) (q1 : 1 ≤ q) (hf : ∀ x, f (x + p) = f x) (hg : ∀ x, g (x + q) = g x) (h : ∀ i : Nat, i < p + q → f i = g i) (x : Int) : f x = g x := by
  have e1 := per_many hf x (x.natAbs * q)
  have e2 := per_many hg x (x.natAbs * p)
  rw [show x.natAbs * p * q = x.natAbs * q * p by rw [Nat.mul_assoc, Nat.mul_comm p, Nat.mul_assoc]] at e2
  have big : x.natAbs ≤ x.natAbs * q * p := by
    rw [Nat.mul_assoc]; exact Nat.le_mul_of_pos_right _ (Nat.mul_pos q1 p1)
  obtain ⟨n, hn⟩ := Int.eq_ofNat_of_zero_le (show 0 ≤ x + ((x.natAbs * q * p : Nat) : Int) by omega)
  rw [hn] at e1 e2
  rw [← e1, ← e2]
  exact two_perN p1 q1 hf hg h n
/-- alike on a common period, alike -/
theorem one_per {α : Type} {f g : Int → α} {p : Nat} (p1 : 1 ≤ p) (hf : ∀ x, f (x + p) = f x) (hg : ∀ x, g (x + p) = g x) (h : ∀ i : Nat, i < p → f i = g i) (x : Int) : f x = g x := by
  refine two_per p1 p1 hf hg (fun i hi => ?_) x
  by_cases c : i < p
  · exact h i c
  · have e1 := hf ((i - p : Nat) : Int)
    have e2 := hg ((i - p : Nat) : Int)
    rw [show ((i - p : Nat) : Int) + p = (i : Int) by omega] at e1 e2
    rw [e1, e2]; exact h _ (by omega)
/-- the least unlike cell -/
structure Lst (C C' : Int → Int → Nat) (x y : Int) : Prop where
  x0 : 0 ≤ x
  y0 : 0 ≤ y
  ne : C x y ≠ C' x y
  lx : ∀ u, 0 ≤ u → u < x → C u y = C' u y
  ly : ∀ v, 0 ≤ v → v < y → ∀ u, C u v = C' u v
theorem Lst.uniq {C C' : Int → Int → Nat} {x y x' y' : Int} (A : Lst C C' x y) (B : Lst C C' x' y') : x = x' ∧ y = y' := by
  have e : y = y' := by
    by_cases c : y < y'
    · exact absurd (B.ly y A.y0 c x) A.ne
    · by_cases c2 : y' < y
      · exact absurd (A.ly y' B.y0 c2 x') B.ne
      · omega
  subst e
  refine ⟨?_, rfl⟩
  by_cases c : x < x'
  · exact absurd (B.lx x A.x0 c) A.ne
  · by_cases c2 : x' < x
    · exact absurd (A.lx x' B.x0 c2) B.ne
    · omega
theorem Lst.swap {C C' : Int → Int → Nat} {x y : Int} (A : Lst C C' x y) : Lst C' C x y := ⟨A.x0, A.y0, A.ne.symm, fun u h0 h1 => (A.lx u h0 h1).symm, fun v h0 h1 u => (A.ly v h0 h1 u).symm⟩
theorem Lst.unlike {C C' : Int → Int → Nat} {x y : Int} (A : Lst C C' x y) : C ≠ C' := fun e => A.ne (by rw [e])
theorem Per.row {C : Int → Int → Nat} {a : Nat} (P : Per C a 0) (y x : Int) : C (x + a) y = C x y := by have := P x y; rwa [Int.add_zero] at this
theorem Per.col {C : Int → Int → Nat} {n : Nat} (P : Per C 0 n) (y : Int) : (fun x => C x (y + n)) = fun x => C x y := by funext x; have := P x y; rwa [Int.add_zero] at this
/-- columns come again -/
theorem Per.up {C : Int → Int → Nat} {a d : Nat} {b : Int} (a1 : 1 ≤ a) (P1 : Per C a 0) (P2 : Per C b d) : Per C 0 ((d * (a / Int.gcd a b) : Nat) : Int) := by
  obtain ⟨m, hm⟩ : (Int.gcd a b : Int) ∣ b := Int.gcd_dvd_right ..
  have gd : Int.gcd a b ∣ a := Int.natCast_dvd_natCast.mp (Int.gcd_dvd_left ..)
  obtain ⟨k, hk⟩ := gd
  have g1 : 0 < Int.gcd a b := Int.gcd_pos_of_ne_zero_left _ (by omega)
  generalize Int.gcd (a : Int) b = g at *
  have ek : a / g = k := by rw [hk]; exact Nat.mul_div_cancel_left _ g1
  rw [ek]
  have q := (P2.smul (k : Int)).sub (P1.smul m)
  rw [Int.mul_zero, Int.sub_zero] at q
  have e0 : (k : Int) * b - m * (a : Int) = 0 := by
    rw [hm, hk, Int.natCast_mul]
    have h1 : (k : Int) * ((g : Int) * m) = m * ((g : Int) * k) := by
      rw [Int.mul_comm (k : Int), Int.mul_comm (g : Int) m, Int.mul_assoc]
    omega
  rw [e0] at q
  rw [Int.natCast_mul, Int.mul_comm]
  exact q
theorem same_rows {C C' : Int → Int → Nat} {n n' : Nat} (n1 : 1 ≤ n) (n1' : 1 ≤ n') (P : Per C 0 n) (P' : Per C' 0 n') (h : ∀ j : Nat, j < n + n' → ∀ x, C x j = C' x j) : C = C' := by
  funext x y
  exact congrFun (two_per (f := fun y => fun x => C x y) (g := fun y => fun x => C' x y) n1 n1' P.col P'.col (fun i hi => funext fun x => h i hi x) y) x
theorem same_latt {C C' : Int → Int → Nat} {a d : Nat} {b : Int} (a1 : 1 ≤ a) (d1 : 1 ≤ d) (P1 : Per C a 0) (P2 : Per C b d) (Q1 : Per C' a 0) (Q2 : Per C' b d) (h : ∀ j : Nat, j < d → ∀ x, C x j = C' x j) : C = C' := by
  funext x y
  obtain ⟨q, hq⟩ : ∃ q, q = y / (d : Int) := ⟨_, rfl⟩
  have m0 := Int.emod_nonneg y (b := (d : Int)) (by omega)
  have m1 := Int.emod_lt_of_pos y (b := (d : Int)) (by omega)
  have ez : y = (y % (d : Int)) + q * d := by have := Int.emod_add_mul_ediv y d; rw [← hq] at this; rw [Int.mul_comm q]; exact this.symm
  have e1 := (P2.smul q) (x - q * b) (y % (d : Int))
  have e2 := (Q2.smul q) (x - q * b) (y % (d : Int))
  rw [show x - q * b + q * b = x by omega, ← ez] at e1 e2
  rw [e1, e2]
  have := h (y % (d : Int)).toNat (by omega) (x - q * b)
  rwa [Int.toNat_of_nonneg m0] at this
/-- unlike, if at all, in a row not too high -/
def Near (C C' : Int → Int → Nat) (n : Nat) : Prop := (∀ j : Nat, j < n → ∀ x, C x j = C' x j) → C = C'
theorem Near.up {C C' : Int → Int → Nat} {n m : Nat} (h : Near C C' n) (k : n ≤ m) : Near C C' m := fun e => h fun j hj => e j (by omega)
end Iz
/-! Mx -/
namespace Iz
/-! ### how great a number is -/
def lg (x : Int) : Nat := if x = 0 then 0 else x.natAbs.log2 + 1
theorem lg_lt {x : Int} {n : Nat} (h : x.natAbs < 2 ^ n) : lg x ≤ n := by
  unfold lg
  split
  · omega
  · rename_i hx
    have := (Nat.log2_lt (n := x.natAbs) (k := n) (by omega)).mpr h
    omega
theorem lg_self (x : Int) : x.natAbs < 2 ^ lg x := by
  unfold lg
  split
  · rename_i h; subst h; decide
  · exact Nat.lt_log2_self
theorem lg_mono {x y : Int} (h : x.natAbs ≤ y.natAbs) : lg x ≤ lg y := lg_lt (Nat.lt_of_le_of_lt h (lg_self y))
theorem lg_half {x y : Int} (h : 2 * x.natAbs < y.natAbs) : lg x + 1 ≤ lg y := by
  have h1 := lg_self y
  have hy : 0 < lg y := by unfold lg; split <;> omega
  obtain ⟨n, hn⟩ : ∃ n, lg y = n + 1 := ⟨lg y - 1, by omega⟩
  rw [hn] at h1 ⊢
  have h2 : x.natAbs < 2 ^ n := by rw [Nat.pow_succ] at h1; omega
  have := lg_lt h2
  omega
def same (d r : Int) : Prop := (0 ≤ d ∧ 0 ≤ r) ∨ (d ≤ 0 ∧ r ≤ 0)
instance (d r : Int) : Decidable (same d r) := by unfold same; infer_instance
def bud (d r : Int) : Nat := if same d r then lg d + lg r + (if d.natAbs < r.natAbs then 1 else 0) else 2 * lg r + 1
/-- the rest of a division by floors -/
theorem rest_pos {d r : Int} (h : 0 < r) : 0 ≤ d - d.fdiv r * r ∧ d - d.fdiv r * r < r := by
  rw [Int.fdiv_eq_ediv_of_nonneg d (by omega)]
  have h1 := Int.emod_nonneg d (b := r) (by omega)
  have h2 := Int.emod_lt_of_pos d h
  have h3 := Int.emod_add_mul_ediv d r
  rw [Int.mul_comm] at h3
  omega
theorem rest_neg {d r : Int} (h : r < 0) : r < d - d.fdiv r * r ∧ d - d.fdiv r * r ≤ 0 := by
  have h1 := rest_pos (d := -d) (r := -r) (by omega)
  rw [Int.neg_fdiv_neg, Int.mul_neg] at h1
  omega
theorem fdiv_le (d r : Int) : (d.fdiv r).natAbs ≤ d.natAbs := by
  by_cases h : 0 ≤ r
  · rw [Int.fdiv_eq_ediv_of_nonneg d h]; exact Int.natAbs_ediv_le_natAbs _ _
  · rw [← Int.neg_fdiv_neg, Int.fdiv_eq_ediv_of_nonneg _ (by omega), ← Int.natAbs_neg d]; exact Int.natAbs_ediv_le_natAbs _ _
theorem fdiv_same {d r : Int} (hr : r ≠ 0) (hs : same d r) (hl : r.natAbs ≤ d.natAbs) : 2 * (d - d.fdiv r * r).natAbs < d.natAbs := by
  rcases Int.lt_or_gt_of_ne hr with h | h
  · have hd : d < 0 := by rcases hs with hs | hs <;> omega
    have h1 := rest_neg (d := d) h
    have ht : 1 ≤ d.fdiv r := by
      rw [← Int.neg_fdiv_neg, Int.fdiv_eq_ediv_of_nonneg _ (by omega)]
      exact (Int.le_ediv_iff_mul_le (by omega)).mpr (by omega)
    have h2 : d.fdiv r * r ≤ 1 * r := Int.mul_le_mul_of_nonpos_right ht (by omega)
    omega
  · have hd : 0 < d := by rcases hs with hs | hs <;> omega
    have h1 := rest_pos (d := d) h
    have ht : 1 ≤ d.fdiv r := by
      rw [Int.fdiv_eq_ediv_of_nonneg _ (by omega)]
      exact (Int.le_ediv_iff_mul_le (by omega)).mpr (by omega)
    have h2 : 1 * r ≤ d.fdiv r * r := Int.mul_le_mul_of_nonneg_right ht (by omega)
    omega
theorem fdiv_small {d r : Int} (hr : r ≠ 0) (hs : same d r) (hl : d.natAbs < r.natAbs) : d - d.fdiv r * r = d := by
  have : d.fdiv r = 0 := by
    rcases Int.lt_or_gt_of_ne hr with h | h
    · rw [← Int.neg_fdiv_neg, Int.fdiv_eq_ediv_of_nonneg _ (by omega)]
      exact Int.ediv_eq_zero_of_lt (by rcases hs with hs | hs <;> omega) (by rcases hs with hs | hs <;> omega)
    · rw [Int.fdiv_eq_ediv_of_nonneg _ (by omega)]
      exact Int.ediv_eq_zero_of_lt (by rcases hs with hs | hs <;> omega) (by rcases hs with hs | hs <;> omega)
  rw [this]; omega
theorem bud_step {d r : Int} (hr : r ≠ 0) : bud r (d - d.fdiv r * r) < bud d r := by
  have hlt : (d - d.fdiv r * r).natAbs < r.natAbs := by
    rcases Int.lt_or_gt_of_ne hr with h | h
    · have := rest_neg (d := d) h; omega
    · have := rest_pos (d := d) h; omega
  have hs' : same r (d - d.fdiv r * r) := by
    rcases Int.lt_or_gt_of_ne hr with h | h
    · have := rest_neg (d := d) h; exact .inr ⟨by omega, by omega⟩
    · have := rest_pos (d := d) h; exact .inl ⟨by omega, by omega⟩
  unfold bud
  rw [if_pos hs', if_neg (by omega)]
  by_cases hs : same d r
  · rw [if_pos hs]
    by_cases hl : d.natAbs < r.natAbs
    · rw [if_pos hl, fdiv_small hr hs hl]; omega
    · rw [if_neg hl]
      have := lg_half (fdiv_same hr hs (by omega))
      omega
  · rw [if_neg hs]
    have := lg_mono (x := d - d.fdiv r * r) (y := r) (by omega)
    omega
theorem bud_le {d r : Int} {n : Nat} (hd : d.natAbs < 2 ^ n) (hr : r.natAbs < 2 ^ n) : bud d r ≤ 2 * n + 1 := by
  have h1 := lg_lt hd
  have h2 := lg_lt hr
  unfold bud
  split
  · split <;> omega
  · omega
/-! ### the weighed divisor's loop -/
structure EI (one other d u v r nu nv : Int) (k : Nat) : Prop where
  e1 : u * one + v * other = d
  e2 : nu * one + nv * other = r
  g : Int.gcd d r = Int.gcd one other
  hd : d.natAbs < 2 ^ 250
  hr : r.natAbs < 2 ^ 250
  bu : u.natAbs ≤ 2 ^ (251 * k)
  bv : v.natAbs ≤ 2 ^ (251 * k)
  bnu : nu.natAbs ≤ 2 ^ (251 * k)
  bnv : nv.natAbs ≤ 2 ^ (251 * k)
  kb : k + bud d r ≤ 501
theorem EI.start {one other : Int} (h1 : one.natAbs < 2 ^ 250) (h2 : other.natAbs < 2 ^ 250) : EI one other one 1 0 other 0 1 0 :=
  ⟨by omega, by omega, rfl, h1, h2, by decide, by decide, by decide, by decide, by have := bud_le h1 h2; omega⟩
theorem grow {u t nu : Int} {k : Nat} (hu : u.natAbs ≤ 2 ^ (251 * k)) (hn : nu.natAbs ≤ 2 ^ (251 * k)) (ht : t.natAbs < 2 ^ 250) : (u - t * nu).natAbs ≤ 2 ^ (251 * (k + 1)) := by
  have h1 : (t * nu).natAbs ≤ 2 ^ 250 * 2 ^ (251 * k) := by rw [Int.natAbs_mul]; exact Nat.mul_le_mul (Nat.le_of_lt ht) hn
  have h2 : (u - t * nu).natAbs ≤ u.natAbs + (t * nu).natAbs := by omega
  have h3 : 2 ^ (251 * (k + 1)) = 2 * 2 ^ 250 * 2 ^ (251 * k) := by rw [Nat.mul_succ, Nat.pow_add, show (251 : Nat) = 250 + 1 from rfl, Nat.pow_succ]; rw [Nat.mul_comm, Nat.mul_comm (2 ^ 250) 2]
  have h4 : (1 : Nat) * 2 ^ (251 * k) ≤ 2 ^ 250 * 2 ^ (251 * k) := Nat.mul_le_mul_right _ (Nat.one_le_two_pow)
  rw [h3, Nat.mul_assoc]
  generalize 2 ^ 250 * 2 ^ (251 * k) = A at *
  omega
theorem EI.next {one other d u v r nu nv : Int} {k : Nat} (I : EI one other d u v r nu nv k) (h : r ≠ 0) :
    EI one other r nu nv (d - d.fdiv r * r) (u - d.fdiv r * nu) (v - d.fdiv r * nv) (k + 1) := by
  have ht : (d.fdiv r).natAbs < 2 ^ 250 := Nat.lt_of_le_of_lt (fdiv_le d r) I.hd
  have hm : ∀ {z : Int}, z.natAbs ≤ 2 ^ (251 * k) → z.natAbs ≤ 2 ^ (251 * (k + 1)) := fun hz => Nat.le_trans hz (Nat.pow_le_pow_right (by decide) (by omega))
  refine ⟨I.e2, ?_, ?_, I.hr, ?_, hm I.bnu, hm I.bnv, grow I.bu I.bnu ht, grow I.bv I.bnv ht, ?_⟩
  · generalize d.fdiv r = t
    rw [← I.e1, ← I.e2, Int.sub_mul, Int.sub_mul, Int.mul_add, Int.mul_assoc, Int.mul_assoc]; omega
  · rw [← I.g, Int.gcd_comm d r, Int.mul_comm]; exact Int.gcd_sub_mul_left_right _ _ _
  · refine Nat.lt_trans (?_ : _ < r.natAbs) I.hr
    rcases Int.lt_or_gt_of_ne h with h | h
    · have := rest_neg (d := d) h; omega
    · have := rest_pos (d := d) h; omega
  · have := bud_step (d := d) h
    have := I.kb
    omega
theorem EI.done {one other d u v nu nv : Int} {k : Nat} (I : EI one other d u v 0 nu nv k) : d.natAbs = Int.gcd one other ∧ u * one + v * other = d ∧ u.natAbs ≤ 2 ^ 130000 := by
  refine ⟨?_, I.e1, Nat.le_trans I.bu (Nat.pow_le_pow_right (by decide) (by have := I.kb; omega))⟩
  have := I.g
  rw [Int.gcd_zero_right] at this
  exact this
theorem EI.quo {one other d u v r nu nv : Int} {k : Nat} (I : EI one other d u v r nu nv k) : (d.fdiv r).natAbs < 2 ^ 250 := Nat.lt_of_le_of_lt (fdiv_le d r) I.hd
theorem EI.big {one other d u v r nu nv z : Int} {k : Nat} (I : EI one other d u v r nu nv k) (h : z.natAbs ≤ 2 ^ (251 * k)) : z.natAbs < 2 ^ 130000 := Nat.lt_of_le_of_lt h (Nat.pow_lt_pow_right (by decide) (by have := I.kb; omega))
end Iz
/-! My -/
namespace Iz
theorem gpos {b p : Int} (hp : 1 ≤ p) : 0 < (Int.gcd b p : Int) := by have := Int.gcd_pos_of_ne_zero_right b (show p ≠ 0 by omega); omega
theorem qpos {b p : Int} (hp : 1 ≤ p) : 0 < p / (Int.gcd b p : Int) := Int.ediv_pos_of_pos_of_dvd (by omega) (by omega) (Int.gcd_dvd_right b p)
theorem line_sol {a b r p u v : Int} (hp : 1 ≤ p) (h : u * b + v * p = (Int.gcd b p : Int)) (hd : (r - a) % (Int.gcd b p : Int) = 0) :
    (a + b * ((r - a) / (Int.gcd b p : Int) * u % (p / (Int.gcd b p : Int))) - r) % p = 0 := by
  have hg := gpos (b := b) hp
  have e1 : (Int.gcd b p : Int) * (p / (Int.gcd b p : Int)) = p := Int.mul_ediv_cancel' (Int.gcd_dvd_right b p)
  have e2 : (Int.gcd b p : Int) * (b / (Int.gcd b p : Int)) = b := Int.mul_ediv_cancel' (Int.gcd_dvd_left b p)
  have e3 : (Int.gcd b p : Int) * ((r - a) / (Int.gcd b p : Int)) = r - a := Int.mul_ediv_cancel' (Int.dvd_of_emod_eq_zero hd)
  generalize (Int.gcd b p : Int) = g at *
  generalize hq : p / g = q at *
  generalize hk : (r - a) / g = k at *
  generalize hb : b / g = b' at *
  have e4 := Int.emod_add_mul_ediv (k * u) q
  generalize k * u % q = s at *
  generalize k * u / q = m at *
  refine Int.emod_eq_zero_of_dvd ⟨-(k * v + b' * m), ?_⟩
  have e5 : s = k * u - q * m := by omega
  have e6 : b * s = b * (k * u) - b * (q * m) := by rw [e5, Int.mul_sub]
  have e7 : b * (q * m) = p * (b' * m) := by rw [← e1, ← e2, Int.mul_assoc g b', Int.mul_assoc g q]; congr 1; rw [← Int.mul_assoc, ← Int.mul_assoc, Int.mul_comm b' q, Int.mul_assoc]
  have e8 : b * (k * u) = k * (u * b) := by rw [Int.mul_comm b, Int.mul_assoc]
  have e9 : k * (u * b) = k * g - k * (v * p) := by rw [← Int.mul_sub]; congr 1; omega
  have e10 : k * (v * p) = p * (k * v) := by rw [← Int.mul_assoc, Int.mul_comm]
  have e11 : k * g = r - a := by rw [Int.mul_comm]; exact e3
  rw [Int.mul_neg, Int.mul_add]
  omega
theorem dvd_line {b p k : Int} (hp : 1 ≤ p) : p ∣ b * k ↔ p / (Int.gcd b p : Int) ∣ k := by
  have hg := gpos (b := b) hp
  have e1 : (Int.gcd b p : Int) * (p / (Int.gcd b p : Int)) = p := Int.mul_ediv_cancel' (Int.gcd_dvd_right b p)
  have e2 : (Int.gcd b p : Int) * (b / (Int.gcd b p : Int)) = b := Int.mul_ediv_cancel' (Int.gcd_dvd_left b p)
  have co := Int.gcd_ediv_gcd_ediv_gcd (i := b) (j := p) (by omega)
  generalize (Int.gcd b p : Int) = g at *
  generalize p / g = q at *
  generalize b / g = b' at *
  rw [← e1, ← e2, Int.mul_assoc, Int.mul_dvd_mul_iff_left (by omega)]
  constructor
  · intro h
    have h2 : q.natAbs ∣ b'.natAbs * k.natAbs := by rw [← Int.natAbs_mul]; exact Int.natAbs_dvd_natAbs.mpr h
    have h3 : Nat.Coprime q.natAbs b'.natAbs := by
      rw [Int.gcd_eq_natAbs_gcd_natAbs, Nat.gcd_comm] at co; exact co
    exact Int.natAbs_dvd_natAbs.mp (h3.dvd_of_dvd_mul_left h2)
  · exact fun h => Int.dvd_mul_of_dvd_right h
/-- of which i a + b i is r modulo p -/
theorem line_iff {a b r p s i : Int} (hp : 1 ≤ p) (h : (a + b * s - r) % p = 0) : (a + b * i - r) % p = 0 ↔ (i - s) % (p / (Int.gcd b p : Int)) = 0 := by
  have h1 := Int.dvd_of_emod_eq_zero h
  have e : a + b * i - r = (a + b * s - r) + b * (i - s) := by rw [Int.mul_sub]; omega
  rw [← Int.dvd_iff_emod_eq_zero, ← Int.dvd_iff_emod_eq_zero, e, ← dvd_line hp]
  exact Int.dvd_add_right h1
theorem gcd_small {b p : Int} {n : Nat} (hp : 1 ≤ p) (h : p.natAbs < 2 ^ n) : (Int.gcd b p : Int).natAbs < 2 ^ n := by
  have := Int.le_of_dvd (by omega) (Int.gcd_dvd_right b p)
  have := gpos (b := b) hp
  omega
theorem ediv_small {x g : Int} {n : Nat} (h : x.natAbs < 2 ^ n) : (x / g).natAbs < 2 ^ n := Nat.lt_of_le_of_lt (Int.natAbs_ediv_le_natAbs _ _) h
theorem pow_small {x m n : Nat} (h : x < 2 ^ m) (hm : m ≤ n) : x < 2 ^ n := Nat.lt_of_lt_of_le h (Nat.pow_le_pow_right (by decide) hm)
theorem mod_sub {a m n r : Int} (h : n ∣ m) (hr : n ∣ a - r) : (a % m - r) % n = 0 := by
  refine Int.emod_eq_zero_of_dvd ?_
  have h1 : n ∣ a - a % m := Int.dvd_trans h Int.dvd_self_sub_emod
  have e : a % m - r = (a - r) - (a - a % m) := by omega
  rw [e]; exact Int.dvd_sub hr h1
theorem both_sol {r p o q s : Int} (hq : 1 ≤ q) (h : (r + p * s - o) % q = 0) :
    ((r + p * s) % (p * (q / (Int.gcd p q : Int))) - r) % p = 0 ∧ ((r + p * s) % (p * (q / (Int.gcd p q : Int))) - o) % q = 0 := by
  refine ⟨mod_sub (Int.dvd_mul_right _ _) (by rw [show r + p * s - r = p * s by omega]; exact Int.dvd_mul_right _ _), mod_sub ?_ (Int.dvd_of_emod_eq_zero h)⟩
  have e1 : (Int.gcd p q : Int) * (q / (Int.gcd p q : Int)) = q := Int.mul_ediv_cancel' (Int.gcd_dvd_right p q)
  obtain ⟨c, hc⟩ := Int.gcd_dvd_left p q
  refine ⟨c, ?_⟩
  have : p * (q / (Int.gcd p q : Int)) = (Int.gcd p q : Int) * (q / (Int.gcd p q : Int)) * c := by
    conv => lhs; rw [hc]
    rw [Int.mul_assoc, Int.mul_assoc, Int.mul_comm c]
    congr 2
    rw [← hc]
  rw [this, e1]
/-! ### Euclid's steps -/
theorem bud_mod {d r : Int} (h : 0 < r) : bud r (d % r) < bud d r := by
  have := bud_step (d := d) (r := r) (by omega)
  rw [Int.fdiv_eq_ediv_of_nonneg d (by omega)] at this
  have e := Int.emod_def d r
  rw [Int.mul_comm] at e
  rw [e]; exact this
theorem mod_swap {a b g : Int} : (a - b) % g = 0 ↔ (b - a) % g = 0 := by
  rw [← Int.dvd_iff_emod_eq_zero, ← Int.dvd_iff_emod_eq_zero, ← Int.dvd_neg]
  rw [show -(a - b) = b - a by omega]
theorem mul_div_gcd {p q : Int} : p * (q / (Int.gcd p q : Int)) = p / (Int.gcd p q : Int) * q := by
  rw [← Int.mul_ediv_assoc _ (Int.gcd_dvd_right p q), Int.mul_comm p q, Int.mul_ediv_assoc _ (Int.gcd_dvd_left p q), Int.mul_comm]
theorem lcm_abs {x y : Int} : (x.natAbs : Int) / (Int.gcd (x.natAbs : Int) (y.natAbs : Int) : Int) * (y.natAbs : Int) = ((x * y).natAbs : Int) / (Int.gcd x y : Int) := by
  have e : Int.gcd (x.natAbs : Int) (y.natAbs : Int) = Int.gcd x y := by rw [Int.gcd_eq_natAbs_gcd_natAbs, Int.gcd_eq_natAbs_gcd_natAbs]; rfl
  have d : (Int.gcd x y : Int) ∣ (y.natAbs : Int) := Int.dvd_natAbs.mpr (Int.gcd_dvd_right x y)
  have d2 : (Int.gcd x y : Int) ∣ (x.natAbs : Int) := Int.dvd_natAbs.mpr (Int.gcd_dvd_left x y)
  rw [e, Int.natAbs_mul, Int.natCast_mul, Int.mul_comm (x.natAbs : Int) (y.natAbs : Int), Int.mul_ediv_assoc _ d2, Int.mul_comm]
end Iz
/-! Lm -/
namespace Iz
theorem EI.doneV {one other d u v nu nv : Int} {k : Nat} (I : EI one other d u v 0 nu nv k) : v.natAbs ≤ 2 ^ 130000 := Nat.le_trans I.bv (Nat.pow_le_pow_right (by decide) (by have := I.kb; omega))
/-! ### lattices as sets of shifts -/
/-- the place of a cell -/
def plX (a b d x y : Int) : Int := (x - b * (y / d)) % a
def plY (d y : Int) : Int := y - d * (y / d)
def inL (a b d : Int) : Option (Int × Int) → Bool
  | none => false
  | some (x, y) => decide (plX a b d x y = 0 ∧ plY d y = 0)
structure LB (a b d : Int) : Prop where
  a1 : 1 ≤ a
  b0 : 0 ≤ b
  ba : b < a
  d1 : 1 ≤ d
  aS : a.natAbs < 2 ^ 500
  dS : d.natAbs < 2 ^ 500
theorem LB.bS {a b d : Int} (h : LB a b d) : b.natAbs < 2 ^ 500 := by have := h.aS; have := h.ba; have := h.b0; omega
/-- j (a, 0) + k (b, d) -/
def Ml (a b d x y : Int) : Prop := ∃ j k : Int, x = a * j + b * k ∧ y = d * k
theorem inL_iff {a b d x y : Int} (a1 : 1 ≤ a) (d1 : 1 ≤ d) : inL a b d (some (x, y)) = true ↔ Ml a b d x y := by
  unfold inL plX plY
  rw [decide_eq_true_eq]
  constructor
  · rintro ⟨h1, h2⟩
    obtain ⟨j, hj⟩ := Int.dvd_of_emod_eq_zero h1
    exact ⟨j, y / d, by omega, by omega⟩
  · rintro ⟨j, k, rfl, rfl⟩
    rw [Int.mul_ediv_cancel_left _ (by omega)]
    exact ⟨Int.emod_eq_zero_of_dvd ⟨j, by omega⟩, by omega⟩
theorem Ml.a {a b d : Int} : Ml a b d a 0 := ⟨1, 0, by omega, by omega⟩
theorem Ml.b {a b d : Int} : Ml a b d b d := ⟨0, 1, by omega, by omega⟩
theorem Ml.zero {a b d : Int} : Ml a b d 0 0 := ⟨0, 0, by omega, by omega⟩
theorem Ml.add {a b d x y u v : Int} (h : Ml a b d x y) (g : Ml a b d u v) : Ml a b d (x + u) (y + v) := by
  obtain ⟨j, k, rfl, rfl⟩ := h
  obtain ⟨m, n, rfl, rfl⟩ := g
  exact ⟨j + m, k + n, by rw [Int.mul_add, Int.mul_add]; omega, by rw [Int.mul_add]⟩
theorem Ml.smul {a b d x y : Int} (n : Int) (h : Ml a b d x y) : Ml a b d (n * x) (n * y) := by
  obtain ⟨j, k, rfl, rfl⟩ := h
  exact ⟨n * j, n * k, by rw [Int.mul_add, Int.mul_left_comm, Int.mul_left_comm n b], by rw [Int.mul_left_comm]⟩
theorem Ml.uniq {a b d a' b' d' : Int} (B : LB a b d) (B' : LB a' b' d') (h : ∀ x y, Ml a b d x y ↔ Ml a' b' d' x y) : a = a' ∧ b = b' ∧ d = d' := by
  have half : ∀ {a b d a' b' d' : Int}, LB a b d → LB a' b' d' → (∀ x y, Ml a b d x y → Ml a' b' d' x y) → a' ∣ a ∧ d' ∣ d := by
    intro a b d a' b' d' B B' h
    obtain ⟨j, k, h1, h2⟩ := h _ _ Ml.a
    have d1 := B'.d1
    have : k = 0 := by rcases Int.mul_eq_zero.mp h2.symm with e | e <;> omega
    subst this
    obtain ⟨j', k', _, h3⟩ := h _ _ Ml.b
    exact ⟨⟨j, by omega⟩, ⟨k', h3⟩⟩
  obtain ⟨p1, p2⟩ := half B B' fun x y => (h x y).mp
  obtain ⟨q1, q2⟩ := half B' B fun x y => (h x y).mpr
  have a1 := B.a1; have a1' := B'.a1; have d1 := B.d1; have d1' := B'.d1
  have ea : a = a' := Int.le_antisymm (Int.le_of_dvd (by omega) q1) (Int.le_of_dvd (by omega) p1)
  have ed : d = d' := Int.le_antisymm (Int.le_of_dvd (by omega) q2) (Int.le_of_dvd (by omega) p2)
  subst ea ed
  obtain ⟨j, k, h1, h2⟩ := (h _ _).mp (Ml.b (a := a) (b := b) (d := d))
  have : k = 1 := by
    have : d * k = d * 1 := by omega
    exact Int.eq_of_mul_eq_mul_left (by omega) this
  subst this
  refine ⟨rfl, ?_, rfl⟩
  have b0 := B.b0; have ba := B.ba; have b0' := B'.b0; have ba' := B'.ba
  have e : b - b' = a * j := by omega
  have : j = 0 := by
    rcases Int.lt_trichotomy j 0 with g | g | g
    · have := Int.mul_le_mul_of_nonneg_left (show j ≤ -1 by omega) (show 0 ≤ a by omega); omega
    · exact g
    · have := Int.mul_le_mul_of_nonneg_left (show 1 ≤ j by omega) (show 0 ≤ a by omega); omega
  subst this
  omega
theorem le_iff {a b d a' b' d' : Int} (B' : LB a' b' d') : (inL a' b' d' (some (a, 0)) && inL a' b' d' (some (b, d))) = true ↔ ∀ x y, Ml a b d x y → Ml a' b' d' x y := by
  rw [Bool.and_eq_true, inL_iff B'.a1 B'.d1, inL_iff B'.a1 B'.d1]
  constructor
  · rintro ⟨h1, h2⟩ x y ⟨j, k, rfl, rfl⟩
    have := (h1.smul j).add (h2.smul k)
    rw [Int.mul_comm a, Int.mul_comm b, Int.mul_comm d]
    rw [show j * 0 + k * d = k * d by omega] at this
    exact this
  · exact fun h => ⟨h _ _ Ml.a, h _ _ Ml.b⟩
theorem bez (x y : Int) : ∃ u v : Int, u * x + v * y = (Int.gcd x y : Int) := by
  have nat : ∀ m n : Nat, ∃ u v : Int, u * m + v * n = (Nat.gcd m n : Int) := by
    intro m n
    induction m, n using Nat.gcd.induction with
    | H0 n => exact ⟨0, 1, by simp⟩
    | H1 m n hm ih =>
      obtain ⟨u, v, h⟩ := ih
      rw [Nat.gcd_rec]
      refine ⟨v - u * ((n / m : Nat) : Int), u, ?_⟩
      have e : ((n % m : Nat) : Int) = (n : Int) - (m : Int) * ((n / m : Nat) : Int) := by
        have := Nat.mod_add_div n m
        have h2 : ((n % m + m * (n / m) : Nat) : Int) = (n : Int) := by rw [this]
        rw [Int.natCast_add, Int.natCast_mul] at h2
        omega
      rw [← h, e, Int.mul_sub, Int.sub_mul, Int.mul_comm (m : Int) _, Int.mul_assoc]
      omega
  obtain ⟨u, v, h⟩ := nat x.natAbs y.natAbs
  have s : ∀ z : Int, ∃ e : Int, e * z = (z.natAbs : Int) := fun z => by
    rcases Int.le_total 0 z with g | g
    · exact ⟨1, by omega⟩
    · exact ⟨-1, by omega⟩
  obtain ⟨e, he⟩ := s x
  obtain ⟨f, hf⟩ := s y
  exact ⟨u * e, v * f, by rw [Int.mul_assoc, Int.mul_assoc, he, hf]; exact h⟩
/-! ### the lattice that two shifts span -/
section
variable {p q r s u v : Int}
/-- the sums of multiples of both -/
def Sp2 (p q r s x y : Int) : Prop := ∃ m n : Int, x = m * p + n * r ∧ y = m * q + n * s
theorem span_iff (hW : p * s - r * q ≠ 0) (h : u * q + v * s = (Int.gcd q s : Int)) : 1 ≤ (Int.gcd q s : Int) ∧ 1 ≤ ((p * s - r * q).natAbs : Int) / (Int.gcd q s : Int) ∧ ((p * s - r * q).natAbs : Int) / (Int.gcd q s : Int) * (Int.gcd q s : Int) = ((p * s - r * q).natAbs : Int) ∧
    ∀ x y, Ml (((p * s - r * q).natAbs : Int) / (Int.gcd q s : Int)) ((u * p + v * r) % (((p * s - r * q).natAbs : Int) / (Int.gcd q s : Int))) (Int.gcd q s : Int) x y ↔ Sp2 p q r s x y := by
  have hD : 1 ≤ (Int.gcd q s : Int) := by
    have : Int.gcd q s ≠ 0 := fun e => by
      obtain ⟨h1, h2⟩ := Int.gcd_eq_zero_iff.mp e
      subst h1 h2
      simp at hW
    omega
  obtain ⟨q', hq⟩ := Int.gcd_dvd_left q s
  obtain ⟨s', hs⟩ := Int.gcd_dvd_right q s
  generalize (Int.gcd q s : Int) = D at *
  subst hq hs
  have e1 : u * q' + v * s' = 1 := by
    have : D * (u * q' + v * s') = D * 1 := by rw [Int.mul_add, Int.mul_left_comm D u, Int.mul_left_comm D v]; omega
    exact Int.eq_of_mul_eq_mul_left (by omega) this
  have eW : p * (D * s') - r * (D * q') = D * (p * s' - r * q') := by rw [Int.mul_sub, Int.mul_left_comm p, Int.mul_left_comm r]
  rw [eW] at hW ⊢
  generalize hw : p * s' - r * q' = w at *
  have hw0 : w ≠ 0 := fun e => by subst e; simp at hW
  have eA : ((D * w).natAbs : Int) = D * (w.natAbs : Int) := by rw [Int.natAbs_mul, Int.natCast_mul]; congr 1; omega
  rw [eA, Int.mul_ediv_cancel_left _ (by omega)]
  obtain ⟨e, he, he2⟩ : ∃ e : Int, (w.natAbs : Int) = e * w ∧ e * e = 1 := by
    rcases Int.le_total 0 w with g | g
    · exact ⟨1, by omega, rfl⟩
    · exact ⟨-1, by omega, rfl⟩
  refine ⟨hD, by omega, Int.mul_comm _ _, fun x y => ?_⟩
  have hA : (w.natAbs : Int) ≠ 0 := by omega
  generalize (w.natAbs : Int) = A at *
  have hB := Int.emod_add_mul_ediv (u * p + v * r) A
  generalize (u * p + v * r) % A = B at *
  generalize (u * p + v * r) / A = t at *
  have hB : B = u * p + v * r - A * t := by omega
  subst hB
  constructor
  · rintro ⟨j, k, rfl, rfl⟩
    exact ⟨u * k + e * s' * (j - t * k), v * k - e * q' * (j - t * k), by grind, by grind⟩
  · rintro ⟨m, n, rfl, rfl⟩
    exact ⟨t * (m * q' + n * s') + e * (m * v - n * u), m * q' + n * s', by grind, by grind⟩
/-- a sum of multiples, told by remainders -/
theorem sum_iff {x y : Int} (hW : p * s - r * q ≠ 0) : ((x * s - y * r) % (p * s - r * q) = 0 ∧ (y * p - x * q) % (p * s - r * q) = 0) ↔ Sp2 p q r s x y := by
  constructor
  · rintro ⟨h1, h2⟩
    obtain ⟨m, hm⟩ := Int.dvd_of_emod_eq_zero h1
    obtain ⟨n, hn⟩ := Int.dvd_of_emod_eq_zero h2
    have e1 : (p * s - r * q) * x = (p * s - r * q) * (m * p + n * r) := by grind
    have e2 : (p * s - r * q) * y = (p * s - r * q) * (m * q + n * s) := by grind
    exact ⟨m, n, Int.eq_of_mul_eq_mul_left hW e1, Int.eq_of_mul_eq_mul_left hW e2⟩
  · rintro ⟨m, n, rfl, rfl⟩
    exact ⟨Int.emod_eq_zero_of_dvd ⟨m, by grind⟩, Int.emod_eq_zero_of_dvd ⟨n, by grind⟩⟩
theorem Sp2.swap {x y : Int} : Sp2 p q r s x y ↔ Sp2 r s p q x y := ⟨fun ⟨m, n, h1, h2⟩ => ⟨n, m, by omega, by omega⟩, fun ⟨m, n, h1, h2⟩ => ⟨n, m, by omega, by omega⟩⟩
theorem Sp2.turn {x y : Int} : Sp2 (p + r) (q + s) (0 - r) (0 - s) x y ↔ Sp2 p q r s x y := by
  constructor
  · rintro ⟨m, n, h1, h2⟩
    exact ⟨m, m - n, by grind, by grind⟩
  · rintro ⟨m, n, h1, h2⟩
    exact ⟨m, m - n, by grind, by grind⟩
end
/-! ### the lattice that two have in common, and the one that both span -/
section
variable {a1 b1 d1 a2 b2 d2 : Int}
theorem lcm_dvd {x y z : Int} (hy : 1 ≤ y) (h1 : x ∣ z) (h2 : y ∣ z) : x * (y / (Int.gcd x y : Int)) ∣ z := by
  obtain ⟨m, rfl⟩ := h1
  exact Int.mul_dvd_mul_left x ((dvd_line hy).mp h2)
theorem lcm_facts {x y : Int} (hx : 1 ≤ x) (hy : 1 ≤ y) : x / (Int.gcd x y : Int) * y = x * (y / (Int.gcd x y : Int)) ∧ x ∣ x * (y / (Int.gcd x y : Int)) ∧ y ∣ x * (y / (Int.gcd x y : Int)) := by
  have e := mul_div_gcd (p := x) (q := y)
  exact ⟨e.symm, Int.dvd_mul_right _ _, by rw [e]; exact Int.dvd_mul_left _ _⟩
theorem div_of {d g e : Int} (hg : g ≠ 0) (h : d = g * e) : d / g = e := by rw [h, Int.mul_ediv_cancel_left _ hg]
theorem cm1 {e1 b1 e2 b2 t a1 j1 a2 j2 g h1 h2 x : Int} (hx1 : x = a1 * j1 + b1 * (e1 * t)) (hx2 : x = a2 * j2 + b2 * (e2 * t)) (hh1 : a1 = g * h1) (hh2 : a2 = g * h2) : (e1 * b1 - e2 * b2) * t = g * (h2 * j2 - h1 * j1) := by subst hh1 hh2; grind
theorem cm2 {x a j b e tm k c c1 : Int} (hx : x = a * j + b * (e * (tm * k))) (hc : c - tm * (e * b) = a * c1) : x - c * k = a * (j - c1 * k) := by
  have : c = tm * (e * b) + a * c1 := by omega
  subst this hx
  grind
/-- lv: the least multiple of both heights -/
theorem common_iff {lv c : Int} (A1 : 1 ≤ a1) (D1 : 1 ≤ d1) (A2 : 1 ≤ a2) (D2 : 1 ≤ d2) (hlv : lv = d1 * (d2 / (Int.gcd d1 d2 : Int)))
    (hc1 : (c - (Int.gcd a1 a2 : Int) / (Int.gcd (Int.gcd a1 a2 : Int) (lv / d1 * b1 - lv / d2 * b2) : Int) * (lv / d1 * b1)) % a1 = 0) (hc2 : (c - (Int.gcd a1 a2 : Int) / (Int.gcd (Int.gcd a1 a2 : Int) (lv / d1 * b1 - lv / d2 * b2) : Int) * (lv / d2 * b2)) % a2 = 0) :
    ∀ x y, Ml (a1 * (a2 / (Int.gcd a1 a2 : Int))) c ((Int.gcd a1 a2 : Int) / (Int.gcd (Int.gcd a1 a2 : Int) (lv / d1 * b1 - lv / d2 * b2) : Int) * lv) x y ↔ Ml a1 b1 d1 x y ∧ Ml a2 b2 d2 x y := by
  obtain ⟨_, l1, l2⟩ := lcm_facts A1 A2
  obtain ⟨_, m1, m2⟩ := lcm_facts D1 D2
  have hld := fun z => lcm_dvd (x := a1) (y := a2) (z := z) A2
  have hmd := fun z => lcm_dvd (x := d1) (y := d2) (z := z) D2
  rw [← hlv] at m1 m2 hmd
  have g1 : (Int.gcd a1 a2 : Int) ∣ a1 := Int.gcd_dvd_left a1 a2
  have g2 : (Int.gcd a1 a2 : Int) ∣ a2 := Int.gcd_dvd_right a1 a2
  have hg : 1 ≤ (Int.gcd a1 a2 : Int) := by have := Int.gcd_pos_of_ne_zero_left a2 (show a1 ≠ 0 by omega); omega
  generalize a1 * (a2 / (Int.gcd a1 a2 : Int)) = A at *
  generalize (Int.gcd a1 a2 : Int) = g at *
  have key := fun t => dvd_line (b := lv / d1 * b1 - lv / d2 * b2) (p := g) (k := t) hg
  rw [Int.gcd_comm _ g] at key
  generalize g / (Int.gcd g (lv / d1 * b1 - lv / d2 * b2) : Int) = tm at *
  obtain ⟨e1, he1⟩ := m1
  obtain ⟨e2, he2⟩ := m2
  have q1 : lv / d1 = e1 := by rw [he1, Int.mul_ediv_cancel_left _ (by omega)]
  have q2 : lv / d2 = e2 := by rw [he2, Int.mul_ediv_cancel_left _ (by omega)]
  rw [q1, q2] at key
  rw [q1] at hc1
  rw [q2] at hc2
  obtain ⟨c1, hc1⟩ := Int.dvd_of_emod_eq_zero hc1
  obtain ⟨c2, hc2⟩ := Int.dvd_of_emod_eq_zero hc2
  obtain ⟨f1, hf1⟩ := l1
  obtain ⟨f2, hf2⟩ := l2
  intro x y
  constructor
  · rintro ⟨j, k, rfl, rfl⟩
    exact ⟨⟨f1 * j + c1 * k, tm * e1 * k, by grind, by grind⟩, ⟨f2 * j + c2 * k, tm * e2 * k, by grind, by grind⟩⟩
  · rintro ⟨⟨j1, k1, hx1, hy1⟩, j2, k2, hx2, hy2⟩
    obtain ⟨t, ht⟩ := hmd y ⟨k1, hy1⟩ ⟨k2, hy2⟩
    have hk1 : k1 = e1 * t := Int.eq_of_mul_eq_mul_left (show d1 ≠ 0 by omega) (by rw [← hy1, ht, he1, Int.mul_assoc])
    have hk2 : k2 = e2 * t := Int.eq_of_mul_eq_mul_left (show d2 ≠ 0 by omega) (by rw [← hy2, ht, he2, Int.mul_assoc])
    obtain ⟨h1, hh1⟩ := g1
    obtain ⟨h2, hh2⟩ := g2
    have hg : g ∣ (e1 * b1 - e2 * b2) * t := ⟨h2 * j2 - h1 * j1, cm1 (x := x) (by rw [← hk1]; exact hx1) (by rw [← hk2]; exact hx2) hh1 hh2⟩
    obtain ⟨k, hk⟩ := (key t).mp hg
    obtain ⟨j, hj⟩ := hld (x - c * k) ⟨j1 - c1 * k, cm2 (x := x) (by rw [← hk, ← hk1]; exact hx1) hc1⟩ ⟨j2 - c2 * k, cm2 (x := x) (by rw [← hk, ← hk2]; exact hx2) hc2⟩
    exact ⟨j, k, by omega, by rw [ht, hk, ← Int.mul_assoc, Int.mul_comm lv tm]⟩
theorem joined_iff {u v a c : Int} (D1 : 1 ≤ d1) (h : u * d1 + v * d2 = (Int.gcd d1 d2 : Int)) (ha : a = (Int.gcd (Int.gcd a1 a2 : Int) (d2 / (Int.gcd d1 d2 : Int) * b1 - d1 / (Int.gcd d1 d2 : Int) * b2) : Int)) (hc : c = (u * b1 + v * b2) % a) :
    ∀ x y, Ml a c (Int.gcd d1 d2 : Int) x y ↔ ∃ x1 y1 x2 y2, Ml a1 b1 d1 x1 y1 ∧ Ml a2 b2 d2 x2 y2 ∧ x = x1 + x2 ∧ y = y1 + y2 := by
  obtain ⟨e1, he1⟩ := Int.gcd_dvd_left d1 d2
  obtain ⟨e2, he2⟩ := Int.gcd_dvd_right d1 d2
  have hg : 1 ≤ (Int.gcd d1 d2 : Int) := by have := Int.gcd_pos_of_ne_zero_left d2 (show d1 ≠ 0 by omega); omega
  have q1 : d1 / (Int.gcd d1 d2 : Int) = e1 := div_of (by omega) he1
  have q2 : d2 / (Int.gcd d1 d2 : Int) = e2 := div_of (by omega) he2
  rw [q1, q2] at ha
  generalize (Int.gcd d1 d2 : Int) = g at *
  have ee : u * e1 + v * e2 = 1 := Int.eq_of_mul_eq_mul_left (show g ≠ 0 by omega) (by grind)
  obtain ⟨α, β, h1⟩ := bez a1 a2
  obtain ⟨γ, δ, h2⟩ := bez (Int.gcd a1 a2 : Int) (e2 * b1 - e1 * b2)
  have k1 : (Int.gcd a1 a2 : Int) ∣ a1 := Int.gcd_dvd_left a1 a2
  have k2 : (Int.gcd a1 a2 : Int) ∣ a2 := Int.gcd_dvd_right a1 a2
  have k3 : a ∣ (Int.gcd a1 a2 : Int) := by rw [ha]; exact Int.gcd_dvd_left _ _
  have k4 : a ∣ e2 * b1 - e1 * b2 := by rw [ha]; exact Int.gcd_dvd_right _ _
  rw [← ha] at h2
  generalize (Int.gcd a1 a2 : Int) = f at *
  obtain ⟨r1, k1⟩ := Int.dvd_trans k3 k1
  obtain ⟨r2, k2⟩ := Int.dvd_trans k3 k2
  obtain ⟨r4, k4⟩ := k4
  have hB := Int.emod_add_mul_ediv (u * b1 + v * b2) a
  rw [← hc] at hB
  generalize (u * b1 + v * b2) / a = t at *
  intro x y
  constructor
  · rintro ⟨j, k, rfl, rfl⟩
    generalize hz : j - t * k = z
    refine ⟨a1 * (γ * α * z) + b1 * (u * k + δ * e2 * z), d1 * (u * k + δ * e2 * z), a2 * (γ * β * z) + b2 * (v * k - δ * e1 * z), d2 * (v * k - δ * e1 * z), ⟨_, _, rfl, rfl⟩, ⟨_, _, rfl, rfl⟩, ?_, ?_⟩
    · grind
    · grind
  · rintro ⟨_, _, _, _, ⟨j1, k1', rfl, rfl⟩, ⟨j2, k2', rfl, rfl⟩, rfl, rfl⟩
    exact ⟨r1 * j1 + r2 * j2 + r4 * (k1' * v - k2' * u) + t * (e1 * k1' + e2 * k2'), e1 * k1' + e2 * k2', by grind, by grind⟩
/-- the areas go together -/
theorem areas {w w2 h h2 z : Int} (hw : 1 ≤ w) (hh : 1 ≤ h) : w * (w2 / (Int.gcd w w2 : Int)) * ((Int.gcd w w2 : Int) / (Int.gcd (Int.gcd w w2 : Int) z : Int) * (h * (h2 / (Int.gcd h h2 : Int)))) * ((Int.gcd (Int.gcd w w2 : Int) z : Int) * (Int.gcd h h2 : Int)) = w * h * (w2 * h2) := by
  have e1 : (Int.gcd w w2 : Int) * (w2 / (Int.gcd w w2 : Int)) = w2 := Int.mul_ediv_cancel' (Int.gcd_dvd_right w w2)
  have e2 : (Int.gcd (Int.gcd w w2 : Int) z : Int) * ((Int.gcd w w2 : Int) / (Int.gcd (Int.gcd w w2 : Int) z : Int)) = (Int.gcd w w2 : Int) := Int.mul_ediv_cancel' (Int.gcd_dvd_left _ _)
  have e3 : (Int.gcd h h2 : Int) * (h2 / (Int.gcd h h2 : Int)) = h2 := Int.mul_ediv_cancel' (Int.gcd_dvd_right h h2)
  generalize (Int.gcd (Int.gcd w w2 : Int) z : Int) = y at *
  generalize (Int.gcd w w2 : Int) / y = x at *
  generalize w2 / (Int.gcd w w2 : Int) = v at *
  generalize (Int.gcd w w2 : Int) = g at *
  generalize h2 / (Int.gcd h h2 : Int) = u at *
  generalize (Int.gcd h h2 : Int) = k at *
  subst e1 e2 e3
  grind
end
theorem com_eq {A C D w s h w2 s2 h2 : Int} (BC : LB A C D) (B1 : LB w s h) (B2 : LB w2 s2 h2) (mem : ∀ x y, Ml A C D x y ↔ Ml w s h x y ∧ Ml w2 s2 h2 x y) :
    decide (A = w ∧ C = s ∧ D = h) = (inL w2 s2 h2 (some (w, 0)) && inL w2 s2 h2 (some (s, h))) := by
  rw [Bool.eq_iff_iff, decide_eq_true_iff, le_iff B2]
  constructor
  · rintro ⟨e1, e2, e3⟩ x y m
    have := (mem x y).mp (by rw [e1, e2, e3]; exact m)
    exact this.2
  · intro g
    exact Ml.uniq BC B1 fun x y => (mem x y).trans ⟨fun m => m.1, fun m => ⟨m, g _ _ m⟩⟩
theorem joi_eq {J I G w s h w2 s2 h2 : Int} (BJ : LB J I G) (B1 : LB w s h) (mem : ∀ x y, Ml J I G x y ↔ ∃ x1 y1 x2 y2, Ml w s h x1 y1 ∧ Ml w2 s2 h2 x2 y2 ∧ x = x1 + x2 ∧ y = y1 + y2) :
    decide (J = w ∧ I = s ∧ G = h) = (inL w s h (some (w2, 0)) && inL w s h (some (s2, h2))) := by
  rw [Bool.eq_iff_iff, decide_eq_true_iff, le_iff B1]
  constructor
  · rintro ⟨e1, e2, e3⟩ x y m
    have := (mem x y).mpr ⟨0, 0, x, y, Ml.zero, m, by omega, by omega⟩
    rwa [e1, e2, e3] at this
  · intro g
    exact Ml.uniq BJ B1 fun x y => (mem x y).trans ⟨fun ⟨x1, y1, x2, y2, m1, m2, ex, ey⟩ => by rw [ex, ey]; exact m1.add (g _ _ m2), fun m => ⟨x, y, 0, 0, m, Ml.zero, by omega, by omega⟩⟩
end Iz
/-! k12_text -/
set_option Elab.async false
set_option linter.all false
set_option maxRecDepth 100000
set_option maxHeartbeats 4000000
namespace Iz
open PySem PySem.Spec PyProof.Rows L2
open He (ga)
open SX (S S_len)
local macro_rules | `(tactic| walk_at "wp") => `(tactic| simp only [S_eq, tD1, rTupN, rAddZ, rSlZ, rIxZ, rInZ, rIntZ, rStrZ, rLenZ, rRepZ, tJoinZ, tJoinG, rCntZ, rTupG, rAll, rMax2, rMin2, tSl, tPart, tNoPart, rSlLN, rSlG, gUnlN, tYes, rLenS, rRepN, unset, calmS, cx_K, Value.ref.injEq, HO.xd.injEq, lk0, tSeq, tPar3, tPar, tCons, tNil, tVar, tC, tAsg, gName, gCons, gNil, gTupN, gSub, tOp, rI, rI0, rU, tTest, rNe, rEq, rIxTN, rIxLN, rLenL, rLenT, rIntI, rIntB, rAbs, rSetLN, tTruL, tRaiseX, rIsTy, rIsOw, ixN0, ixN1, tRet, tIf, tIfS, tNext, tBreak, tCont, tDrop, tTupN, tLstN, tUn, tCB, tCall, tNot, tAnd, tOr, tB, tAndV, tOrV, tNotV, tChain, tApp, LamX.tLam, tRevLN, rCatN, rInTN, rInLN, flatV, inV, List.all_cons, List.all_nil, List.any_cons, List.any_nil, Bool.and_self, Bool.and_true, if_true, Bool.false_eq_true, if_false, tMt, tFldN, tSto, HO.ins.injEq, lkh, List.drop_zero, List.drop_succ_cons, List.drop_nil, rListS, wipe, L2.start, List.map_cons, List.map_nil, List.length_cons, List.length_nil, List.replicate, List.cons_append, List.nil_append, List.append_nil, Nat.reduceAdd, Nat.reduceSub, Nat.zero_add, List.replicate_succ, List.replicate_zero, List.getElem?_cons_zero, List.getElem?_cons_succ, List.set_cons_zero, List.set_cons_succ, Option.some.injEq, V.int.injEq, V.bl.injEq, V.ref.injEq, V.str.injEq, V.ty.injEq, List.cons.injEq, HO.tup.injEq, HO.lst.injEq, and_true, true_and, and_assoc, exists_eq_left, exists_eq_left', exists_and_left, exists_eq', atI0, atI1, atI2, atI3, Int.cast_ofNat_Int, Int.reduceToNat, scal_ii, scal_in, scal_ni, scal_nn, scal_bb, scal_ss, scal_sn, scal_ns, scal_bn, scal_nb, ite_iff, decide_eq_true_eq, decide_eq_false_iff_not, Bool.not_eq_true', Classical.not_not, ne_eq, not_false_eq_true, not_true_eq_false, forall_const, true_implies, false_implies, imp_self, sizeLine_eq, Nat.reduceLeDiff, reduceCtorEq, decide_true, decide_false])
def top (i : Nat) : Stmt := PySem.Challenge.pw_endlessplane_k12_whole_parting_and_break.main.body.getD i (.Pass ⟨0, 0, 0, 0⟩)
abbrev s_is_whole : Stmt := top 9
abbrev N_is_whole : List Str := ["value"]
theorem sc_is_whole : FnScope ["value"] ["value"] (defScope s_is_whole) := ⟨rfl, rfl, rfl, by decide +kernel, rfl, by decide +kernel, by decide +kernel⟩
abbrev s_is_from : Stmt := top 10
abbrev N_is_from : List Str := ["value", "least"]
theorem sc_is_from : FnScope ["value", "least"] ["value", "least"] (defScope s_is_from) := ⟨rfl, rfl, rfl, by decide +kernel, rfl, by decide +kernel, by decide +kernel⟩
abbrev s_is_row : Stmt := top 11
abbrev N_is_row : List Str := ["value"]
theorem sc_is_row : FnScope ["value"] ["value"] (defScope s_is_row) := ⟨rfl, rfl, rfl, by decide +kernel, rfl, by decide +kernel, by decide +kernel⟩
abbrev s_is_pair : Stmt := top 12
abbrev N_is_pair : List Str := ["value"]
theorem sc_is_pair : FnScope ["value"] ["value"] (defScope s_is_pair) := ⟨rfl, rfl, rfl, by decide +kernel, rfl, by decide +kernel, by decide +kernel⟩
abbrev s_is_shift : Stmt := top 19
abbrev N_is_shift : List Str := ["value"]
theorem sc_is_shift : FnScope ["value"] ["value"] (defScope s_is_shift) := ⟨rfl, rfl, rfl, by decide +kernel, rfl, by decide +kernel, by decide +kernel⟩
abbrev s_require_whole : Stmt := top 13
abbrev N_require_whole : List Str := ["value"]
theorem sc_require_whole : FnScope ["value"] ["value"] (defScope s_require_whole) := ⟨rfl, rfl, rfl, by decide +kernel, rfl, by decide +kernel, by decide +kernel⟩
abbrev s_require_pair : Stmt := top 14
abbrev N_require_pair : List Str := ["value", "part"]
theorem sc_require_pair : FnScope ["value", "part"] ["value", "part"] (defScope s_require_pair) := ⟨rfl, rfl, rfl, by decide +kernel, rfl, by decide +kernel, by decide +kernel⟩
abbrev s_greatest_divisor : Stmt := top 16
abbrev N_greatest_divisor : List Str := ["one", "other"]
theorem sc_greatest_divisor : FnScope ["one", "other"] ["one", "other"] (defScope s_greatest_divisor) := ⟨rfl, rfl, rfl, by decide +kernel, rfl, by decide +kernel, by decide +kernel⟩
abbrev s_weighed_divisor : Stmt := top 17
abbrev N_weighed_divisor : List Str := ["one", "other", "divisor", "u", "v", "rest", "next_u", "next_v", "times"]
theorem sc_weighed_divisor : FnScope ["one", "other", "divisor", "u", "v", "rest", "next_u", "next_v", "times"] ["one", "other"] (defScope s_weighed_divisor) := ⟨rfl, rfl, rfl, by decide +kernel, rfl, by decide +kernel, by decide +kernel⟩
abbrev s_Lattice___init__ : Stmt := inClass (top 20) 0
abbrev N_Lattice___init__ : List Str := ["self", "a", "b", "d"]
theorem sc_Lattice___init__ : FnScope ["self", "a", "b", "d"] ["self", "a", "b", "d"] (defScope s_Lattice___init__) := ⟨rfl, rfl, rfl, by decide +kernel, rfl, by decide +kernel, by decide +kernel⟩
abbrev s_Lattice___contains__ : Stmt := inClass (top 20) 3
abbrev N_Lattice___contains__ : List Str := ["self", "shift"]
theorem sc_Lattice___contains__ : FnScope ["self", "shift"] ["self", "shift"] (defScope s_Lattice___contains__) := ⟨rfl, rfl, rfl, by decide +kernel, rfl, by decide +kernel, by decide +kernel⟩
abbrev s_Lattice_place : Stmt := inClass (top 20) 5
abbrev N_Lattice_place : List Str := ["self", "cell", "x", "y", "up"]
theorem sc_Lattice_place : FnScope ["self", "cell", "x", "y", "up"] ["self", "cell"] (defScope s_Lattice_place) := ⟨rfl, rfl, rfl, by decide +kernel, rfl, by decide +kernel, by decide +kernel⟩
abbrev s_require_lattice_numbers : Stmt := top 21
abbrev N_require_lattice_numbers : List Str := ["a", "b", "d"]
theorem sc_require_lattice_numbers : FnScope ["a", "b", "d"] ["a", "b", "d"] (defScope s_require_lattice_numbers) := ⟨rfl, rfl, rfl, by decide +kernel, rfl, by decide +kernel, by decide +kernel⟩
abbrev s_Carpet___init__ : Stmt := inClass (top 25) 0
abbrev N_Carpet___init__ : List Str := ["self", "a", "b", "d", "rows", "index", "row"]
theorem sc_Carpet___init__ : FnScope ["self", "a", "b", "d", "rows", "index", "row"] ["self", "a", "b", "d", "rows"] (defScope s_Carpet___init__) := ⟨rfl, rfl, rfl, by decide +kernel, rfl, by decide +kernel, by decide +kernel⟩
abbrev s_Carpet___eq__ : Stmt := inClass (top 25) 1
abbrev N_Carpet___eq__ : List Str := ["self", "other"]
theorem sc_Carpet___eq__ : FnScope ["self", "other"] ["self", "other"] (defScope s_Carpet___eq__) := ⟨rfl, rfl, rfl, by decide +kernel, rfl, by decide +kernel, by decide +kernel⟩
abbrev s_Carpet_colour : Stmt := inClass (top 25) 2
abbrev N_Carpet_colour : List Str := ["self", "cell", "x", "y"]
theorem sc_Carpet_colour : FnScope ["self", "cell", "x", "y"] ["self", "cell"] (defScope s_Carpet_colour) := ⟨rfl, rfl, rfl, by decide +kernel, rfl, by decide +kernel, by decide +kernel⟩
abbrev s_Carpet_lattice : Stmt := inClass (top 25) 3
abbrev N_Carpet_lattice : List Str := ["self"]
theorem sc_Carpet_lattice : FnScope ["self"] ["self"] (defScope s_Carpet_lattice) := ⟨rfl, rfl, rfl, by decide +kernel, rfl, by decide +kernel, by decide +kernel⟩
abbrev s_Carpet_least : Stmt := inClass (top 25) 4
abbrev N_Carpet_least : List Str := ["self", "a", "b", "d", "_"]
theorem sc_Carpet_least : FnScope ["self", "a", "b", "d", "_"] ["self"] (defScope s_Carpet_least) := ⟨rfl, rfl, rfl, by decide +kernel, rfl, by decide +kernel, by decide +kernel⟩
abbrev s_Carpet_normal : Stmt := inClass (top 25) 5
abbrev N_Carpet_normal : List Str := ["self"]
theorem sc_Carpet_normal : FnScope ["self"] ["self"] (defScope s_Carpet_normal) := ⟨rfl, rfl, rfl, by decide +kernel, rfl, by decide +kernel, by decide +kernel⟩
abbrev s_Carpet_moved_by : Stmt := inClass (top 25) 8
abbrev N_Carpet_moved_by : List Str := ["self", "shift", "a", "b", "d", "_", "rows", "y"]
theorem sc_Carpet_moved_by : FnScope ["self", "shift", "a", "b", "d", "_", "rows", "y"] ["self", "shift"] (defScope s_Carpet_moved_by) := ⟨rfl, rfl, rfl, by decide +kernel, rfl, by decide +kernel, by decide +kernel⟩
abbrev s_Carpet_is_period : Stmt := inClass (top 25) 9
abbrev N_Carpet_is_period : List Str := ["self", "shift"]
theorem sc_Carpet_is_period : FnScope ["self", "shift"] ["self", "shift"] (defScope s_Carpet_is_period) := ⟨rfl, rfl, rfl, by decide +kernel, rfl, by decide +kernel, by decide +kernel⟩
abbrev s_require_carpet : Stmt := top 26
abbrev N_require_carpet : List Str := ["value"]
theorem sc_require_carpet : FnScope ["value"] ["value"] (defScope s_require_carpet) := ⟨rfl, rfl, rfl, by decide +kernel, rfl, by decide +kernel, by decide +kernel⟩
abbrev s_row_text : Stmt := top 27
abbrev N_row_text : List Str := ["carpet", "cell", "wide", "x", "y", "row"]
theorem sc_row_text : FnScope ["carpet", "cell", "wide", "x", "y", "row"] ["carpet", "cell", "wide"] (defScope s_row_text) := ⟨rfl, rfl, rfl, by decide +kernel, rfl, by decide +kernel, by decide +kernel⟩
abbrev s__is_row_of_figures : Stmt := top 28
abbrev N__is_row_of_figures : List Str := ["row", "many", "sign"]
theorem sc__is_row_of_figures : FnScope ["row", "many", "sign"] ["row", "many"] (defScope s__is_row_of_figures) := ⟨rfl, rfl, rfl, by decide +kernel, rfl, by decide +kernel, by decide +kernel⟩
abbrev s__turned_row : Stmt := top 29
abbrev N__turned_row : List Str := ["row", "by"]
theorem sc__turned_row : FnScope ["row", "by"] ["row", "by"] (defScope s__turned_row) := ⟨rfl, rfl, rfl, by decide +kernel, rfl, by decide +kernel, by decide +kernel⟩
abbrev s__normal_form : Stmt := top 30
abbrev N__normal_form : List Str := ["b", "d", "rows", "a", "slant", "height", "row"]
theorem sc__normal_form : FnScope ["b", "d", "rows", "a", "slant", "height", "row"] ["b", "d", "rows"] (defScope s__normal_form) := ⟨rfl, rfl, rfl, by decide +kernel, rfl, by decide +kernel, by decide +kernel⟩
abbrev s__least_width : Stmt := top 31
abbrev N__least_width : List Str := ["rows", "wide", "row"]
theorem sc__least_width : FnScope ["rows", "wide", "row"] ["rows"] (defScope s__least_width) := ⟨rfl, rfl, rfl, by decide +kernel, rfl, by decide +kernel, by decide +kernel⟩
abbrev s__least_rise : Stmt := top 32
abbrev N__least_rise : List Str := ["wide", "b", "d", "rows", "y", "heights", "s"]
theorem sc__least_rise : FnScope ["wide", "b", "d", "rows", "y", "heights", "s"] ["wide", "b", "d", "rows"] (defScope s__least_rise) := ⟨rfl, rfl, rfl, by decide +kernel, rfl, by decide +kernel, by decide +kernel⟩
abbrev s__comes_again : Stmt := top 33
abbrev N__comes_again : List Str := ["b", "rows", "s", "y", "many", "index", "row", "up", "other"]
theorem sc__comes_again : FnScope ["b", "rows", "s", "y", "many", "index", "row", "up", "other"] ["b", "rows", "s", "y"] (defScope s__comes_again) := ⟨rfl, rfl, rfl, by decide +kernel, rfl, by decide +kernel, by decide +kernel⟩
abbrev s_parting_cell : Stmt := top 35
abbrev N_parting_cell : List Str := ["one", "other", "wide", "y", "texts"]
theorem sc_parting_cell : FnScope ["one", "other", "wide", "y", "texts"] ["one", "other"] (defScope s_parting_cell) := ⟨rfl, rfl, rfl, by decide +kernel, rfl, by decide +kernel, by decide +kernel⟩
abbrev s_breaking_cell : Stmt := top 36
abbrev N_breaking_cell : List Str := ["carpet", "shift"]
theorem sc_breaking_cell : FnScope ["carpet", "shift"] ["carpet", "shift"] (defScope s_breaking_cell) := ⟨rfl, rfl, rfl, by decide +kernel, rfl, by decide +kernel, by decide +kernel⟩
abbrev s__column_length : Stmt := top 37
abbrev N__column_length : List Str := ["carpet"]
theorem sc__column_length : FnScope ["carpet"] ["carpet"] (defScope s__column_length) := ⟨rfl, rfl, rfl, by decide +kernel, rfl, by decide +kernel, by decide +kernel⟩
abbrev s__unlike_index : Stmt := top 38
abbrev N__unlike_index : List Str := ["one", "other", "index"]
theorem sc__unlike_index : FnScope ["one", "other", "index"] ["one", "other"] (defScope s__unlike_index) := ⟨rfl, rfl, rfl, by decide +kernel, rfl, by decide +kernel, by decide +kernel⟩
abbrev s__law_opened : Stmt := top 40
abbrev N__law_opened : List Str := ["_law_script", "_law_k", "_law_start", "_law_whole", "_law_seed"]
theorem sc__law_opened : FnScope ["_law_script", "_law_k", "_law_start", "_law_whole", "_law_seed"] ["_law_script", "_law_k"] (defScope s__law_opened) := ⟨rfl, rfl, rfl, by decide +kernel, rfl, by decide +kernel, by decide +kernel⟩
abbrev s__law_draw : Stmt := top 41
abbrev N__law_draw : List Str := ["_law_pool", "_law_many", "_law_found"]
theorem sc__law_draw : FnScope ["_law_pool", "_law_many", "_law_found"] ["_law_pool", "_law_many"] (defScope s__law_draw) := ⟨rfl, rfl, rfl, by decide +kernel, rfl, by decide +kernel, by decide +kernel⟩
abbrev s__law_pick : Stmt := top 42
abbrev N__law_pick : List Str := ["_law_pool", "_law_some"]
theorem sc__law_pick : FnScope ["_law_pool", "_law_some"] ["_law_pool", "_law_some"] (defScope s__law_pick) := ⟨rfl, rfl, rfl, by decide +kernel, rfl, by decide +kernel, by decide +kernel⟩
abbrev s__law_three : Stmt := top 43
abbrev N__law_three : List Str := ["_law_pool", "_law_most", "_law_wide"]
theorem sc__law_three : FnScope ["_law_pool", "_law_most", "_law_wide"] ["_law_pool", "_law_most"] (defScope s__law_three) := ⟨rfl, rfl, rfl, by decide +kernel, rfl, by decide +kernel, by decide +kernel⟩
abbrev s__law_place : Stmt := top 44
abbrev N__law_place : List Str := ["_law_three_here", "_law_x", "_law_y", "_law_wide", "_law_slant", "_law_high"]
theorem sc__law_place : FnScope ["_law_three_here", "_law_x", "_law_y", "_law_wide", "_law_slant", "_law_high"] ["_law_three_here", "_law_x", "_law_y"] (defScope s__law_place) := ⟨rfl, rfl, rfl, by decide +kernel, rfl, by decide +kernel, by decide +kernel⟩
abbrev s__law_rows : Stmt := top 45
abbrev N__law_rows : List Str := ["_law_pool", "_law_three_here", "_law_signs", "_law_lines", "_law_j", "_law_i"]
theorem sc__law_rows : FnScope ["_law_pool", "_law_three_here", "_law_signs", "_law_lines", "_law_j", "_law_i"] ["_law_pool", "_law_three_here"] (defScope s__law_rows) := ⟨rfl, rfl, rfl, by decide +kernel, rfl, by decide +kernel, by decide +kernel⟩
abbrev s__law_colour : Stmt := top 46
abbrev N__law_colour : List Str := ["_law_told", "_law_x", "_law_y", "_law_place_here"]
theorem sc__law_colour : FnScope ["_law_told", "_law_x", "_law_y", "_law_place_here"] ["_law_told", "_law_x", "_law_y"] (defScope s__law_colour) := ⟨rfl, rfl, rfl, by decide +kernel, rfl, by decide +kernel, by decide +kernel⟩
abbrev s__law_coarser : Stmt := top 47
abbrev N__law_coarser : List Str := ["_law_pool", "_law_told", "_law_wide", "_law_slant", "_law_high", "_law_across", "_law_up", "_law_three_here", "_law_lines", "_law_y", "_law_x"]
theorem sc__law_coarser : FnScope ["_law_pool", "_law_told", "_law_wide", "_law_slant", "_law_high", "_law_across", "_law_up", "_law_three_here", "_law_lines", "_law_y", "_law_x"] ["_law_pool", "_law_told"] (defScope s__law_coarser) := ⟨rfl, rfl, rfl, by decide +kernel, rfl, by decide +kernel, by decide +kernel⟩
abbrev s__law_parting : Stmt := top 48
abbrev N__law_parting : List Str := ["_law_one", "_law_other", "_law_wide", "_law_high", "_law_y", "_law_x"]
theorem sc__law_parting : FnScope ["_law_one", "_law_other", "_law_wide", "_law_high", "_law_y", "_law_x"] ["_law_one", "_law_other", "_law_wide", "_law_high"] (defScope s__law_parting) := ⟨rfl, rfl, rfl, by decide +kernel, rfl, by decide +kernel, by decide +kernel⟩
abbrev s__law_bent : Stmt := top 49
abbrev N__law_bent : List Str := ["_law_pool", "_law_told", "_law_rows_here", "_law_y", "_law_x"]
theorem sc__law_bent : FnScope ["_law_pool", "_law_told", "_law_rows_here", "_law_y", "_law_x"] ["_law_pool", "_law_told"] (defScope s__law_bent) := ⟨rfl, rfl, rfl, by decide +kernel, rfl, by decide +kernel, by decide +kernel⟩
abbrev s__law_refused : Stmt := top 50
abbrev N__law_refused : List Str := ["_law_call", "e"]
theorem sc__law_refused : FnScope ["_law_call", "e"] ["_law_call"] (defScope s__law_refused) := ⟨rfl, rfl, rfl, by decide +kernel, rfl, by decide +kernel, by decide +kernel⟩
abbrev s__law_made : Stmt := top 51
abbrev N__law_made : List Str := ["_law_told"]
theorem sc__law_made : FnScope ["_law_told"] ["_law_told"] (defScope s__law_made) := ⟨rfl, rfl, rfl, by decide +kernel, rfl, by decide +kernel, by decide +kernel⟩
abbrev s__law_window : Stmt := top 52
abbrev N__law_window : List Str := ["_law_one", "_law_other", "_law_wide"]
theorem sc__law_window : FnScope ["_law_one", "_law_other", "_law_wide"] ["_law_one", "_law_other"] (defScope s__law_window) := ⟨rfl, rfl, rfl, by decide +kernel, rfl, by decide +kernel, by decide +kernel⟩
abbrev s__law_pair_right : Stmt := top 53
abbrev N__law_pair_right : List Str := ["_law_one", "_law_other", "_law_first", "_law_second", "_law_wide", "_law_high", "_law_due"]
theorem sc__law_pair_right : FnScope ["_law_one", "_law_other", "_law_first", "_law_second", "_law_wide", "_law_high", "_law_due"] ["_law_one", "_law_other"] (defScope s__law_pair_right) := ⟨rfl, rfl, rfl, by decide +kernel, rfl, by decide +kernel, by decide +kernel⟩
abbrev s__law_breaking_right : Stmt := top 54
abbrev N__law_breaking_right : List Str := ["_law_pool", "_law_told", "_law_carpet", "_law_a", "_law_d", "_law_step", "_law_x", "_law_y", "_law_due", "_law_j", "_law_some", "_law_i"]
theorem sc__law_breaking_right : FnScope ["_law_pool", "_law_told", "_law_carpet", "_law_a", "_law_d", "_law_step", "_law_x", "_law_y", "_law_due", "_law_j", "_law_some", "_law_i"] ["_law_pool", "_law_told"] (defScope s__law_breaking_right) := ⟨rfl, rfl, rfl, by decide +kernel, rfl, by decide +kernel, by decide +kernel⟩
abbrev s_law : Stmt := top 55
abbrev N_law : List Str := ["_law_script", "_law_k", "_law_pool", "_law_three_here", "_law_told", "_law_others", "_law_other", "_law_rows_here", "_law_carpet", "_law_odd"]
theorem sc_law : FnScope ["_law_script", "_law_k", "_law_pool", "_law_three_here", "_law_told", "_law_others", "_law_other", "_law_rows_here", "_law_carpet", "_law_odd"] ["_law_script"] (defScope s_law) := ⟨rfl, rfl, rfl, by decide +kernel, rfl, by decide +kernel, by decide +kernel⟩
abbrev s_BadNumber___init__ : Stmt := inClass (top 4) 0
abbrev N_BadNumber___init__ : List Str := ["self", "number"]
theorem sc_BadNumber___init__ : FnScope ["self", "number"] ["self", "number"] (defScope s_BadNumber___init__) := ⟨rfl, rfl, rfl, by decide +kernel, rfl, by decide +kernel, by decide +kernel⟩
abbrev s_BadPart___init__ : Stmt := inClass (top 3) 0
abbrev N_BadPart___init__ : List Str := ["self", "part"]
theorem sc_BadPart___init__ : FnScope ["self", "part"] ["self", "part"] (defScope s_BadPart___init__) := ⟨rfl, rfl, rfl, by decide +kernel, rfl, by decide +kernel, by decide +kernel⟩
abbrev s_BadIndex___init__ : Stmt := inClass (top 5) 0
abbrev N_BadIndex___init__ : List Str := ["self", "index"]
theorem sc_BadIndex___init__ : FnScope ["self", "index"] ["self", "index"] (defScope s_BadIndex___init__) := ⟨rfl, rfl, rfl, by decide +kernel, rfl, by decide +kernel, by decide +kernel⟩
abbrev s_TooMany___init__ : Stmt := inClass (top 7) 0
abbrev N_TooMany___init__ : List Str := ["self", "limit"]
theorem sc_TooMany___init__ : FnScope ["self", "limit"] ["self", "limit"] (defScope s_TooMany___init__) := ⟨rfl, rfl, rfl, by decide +kernel, rfl, by decide +kernel, by decide +kernel⟩
theorem b_Lattice___init__ {K : PySem.W.Frag} {f : Addr} {fd : FuncData} (F : FunD K "__init__" "Lattice.__init__" (defArgs s_Lattice___init__) (defBody s_Lattice___init__) (defScope s_Lattice___init__) [] [] f fd) : BindD K fd ["self", "a", "b", "d"] [] := BindD.none (F.bindsN fun _ _ _ _ _ _ us hl => match us, hl with | [_, _, _, _], _ => rfl)
theorem b_Lattice___contains__ {K : PySem.W.Frag} {f : Addr} {fd : FuncData} (F : FunD K "__contains__" "Lattice.__contains__" (defArgs s_Lattice___contains__) (defBody s_Lattice___contains__) (defScope s_Lattice___contains__) [] [] f fd) : BindD K fd ["self", "shift"] [] := BindD.none (F.bindsN fun _ _ _ _ _ _ us hl => match us, hl with | [_, _], _ => rfl)
theorem b_Lattice_place {K : PySem.W.Frag} {f : Addr} {fd : FuncData} (F : FunD K "place" "Lattice.place" (defArgs s_Lattice_place) (defBody s_Lattice_place) (defScope s_Lattice_place) [] [] f fd) : BindD K fd ["self", "cell"] [] := BindD.none (F.bindsN fun _ _ _ _ _ _ us hl => match us, hl with | [_, _], _ => rfl)
theorem b_Carpet___init__ {K : PySem.W.Frag} {f : Addr} {fd : FuncData} (F : FunD K "__init__" "Carpet.__init__" (defArgs s_Carpet___init__) (defBody s_Carpet___init__) (defScope s_Carpet___init__) [] [] f fd) : BindD K fd ["self", "a", "b", "d", "rows"] [] := BindD.none (F.bindsN fun _ _ _ _ _ _ us hl => match us, hl with | [_, _, _, _, _], _ => rfl)
theorem b_Carpet___eq__ {K : PySem.W.Frag} {f : Addr} {fd : FuncData} (F : FunD K "__eq__" "Carpet.__eq__" (defArgs s_Carpet___eq__) (defBody s_Carpet___eq__) (defScope s_Carpet___eq__) [] [] f fd) : BindD K fd ["self", "other"] [] := BindD.none (F.bindsN fun _ _ _ _ _ _ us hl => match us, hl with | [_, _], _ => rfl)
theorem b_Carpet_colour {K : PySem.W.Frag} {f : Addr} {fd : FuncData} (F : FunD K "colour" "Carpet.colour" (defArgs s_Carpet_colour) (defBody s_Carpet_colour) (defScope s_Carpet_colour) [] [] f fd) : BindD K fd ["self", "cell"] [] := BindD.none (F.bindsN fun _ _ _ _ _ _ us hl => match us, hl with | [_, _], _ => rfl)
theorem b_Carpet_lattice {K : PySem.W.Frag} {f : Addr} {fd : FuncData} (F : FunD K "lattice" "Carpet.lattice" (defArgs s_Carpet_lattice) (defBody s_Carpet_lattice) (defScope s_Carpet_lattice) [] [] f fd) : BindD K fd ["self"] [] := BindD.none (F.bindsN fun _ _ _ _ _ _ us hl => match us, hl with | [_], _ => rfl)
theorem b_Carpet_least {K : PySem.W.Frag} {f : Addr} {fd : FuncData} (F : FunD K "least" "Carpet.least" (defArgs s_Carpet_least) (defBody s_Carpet_least) (defScope s_Carpet_least) [] [] f fd) : BindD K fd ["self"] [] := BindD.none (F.bindsN fun _ _ _ _ _ _ us hl => match us, hl with | [_], _ => rfl)
theorem b_Carpet_normal {K : PySem.W.Frag} {f : Addr} {fd : FuncData} (F : FunD K "normal" "Carpet.normal" (defArgs s_Carpet_normal) (defBody s_Carpet_normal) (defScope s_Carpet_normal) [] [] f fd) : BindD K fd ["self"] [] := BindD.none (F.bindsN fun _ _ _ _ _ _ us hl => match us, hl with | [_], _ => rfl)
theorem b_Carpet_moved_by {K : PySem.W.Frag} {f : Addr} {fd : FuncData} (F : FunD K "moved_by" "Carpet.moved_by" (defArgs s_Carpet_moved_by) (defBody s_Carpet_moved_by) (defScope s_Carpet_moved_by) [] [] f fd) : BindD K fd ["self", "shift"] [] := BindD.none (F.bindsN fun _ _ _ _ _ _ us hl => match us, hl with | [_, _], _ => rfl)
theorem b_Carpet_is_period {K : PySem.W.Frag} {f : Addr} {fd : FuncData} (F : FunD K "is_period" "Carpet.is_period" (defArgs s_Carpet_is_period) (defBody s_Carpet_is_period) (defScope s_Carpet_is_period) [] [] f fd) : BindD K fd ["self", "shift"] [] := BindD.none (F.bindsN fun _ _ _ _ _ _ us hl => match us, hl with | [_, _], _ => rfl)
structure Txt (K : PySem.W.Frag) (mg : Str → Option Value) : Prop where
  d_is_whole : ∃ (f : Addr) (fd : FuncData), mg "is_whole" = some (.ref f) ∧ Fun K "is_whole" "is_whole" s_is_whole f fd
  d_is_from : ∃ (f : Addr) (fd : FuncData), mg "is_from" = some (.ref f) ∧ Fun K "is_from" "is_from" s_is_from f fd
  d_is_row : ∃ (f : Addr) (fd : FuncData), mg "is_row" = some (.ref f) ∧ Fun K "is_row" "is_row" s_is_row f fd
  d_is_pair : ∃ (f : Addr) (fd : FuncData), mg "is_pair" = some (.ref f) ∧ Fun K "is_pair" "is_pair" s_is_pair f fd
  d_is_shift : ∃ (f : Addr) (fd : FuncData), mg "is_shift" = some (.ref f) ∧ Fun K "is_shift" "is_shift" s_is_shift f fd
  d_require_whole : ∃ (f : Addr) (fd : FuncData), mg "require_whole" = some (.ref f) ∧ Fun K "require_whole" "require_whole" s_require_whole f fd
  d_require_pair : ∃ (f : Addr) (fd : FuncData), mg "require_pair" = some (.ref f) ∧ Fun K "require_pair" "require_pair" s_require_pair f fd
  d_greatest_divisor : ∃ (f : Addr) (fd : FuncData), mg "greatest_divisor" = some (.ref f) ∧ Fun K "greatest_divisor" "greatest_divisor" s_greatest_divisor f fd
  d_weighed_divisor : ∃ (f : Addr) (fd : FuncData), mg "weighed_divisor" = some (.ref f) ∧ Fun K "weighed_divisor" "weighed_divisor" s_weighed_divisor f fd
  d_require_lattice_numbers : ∃ (f : Addr) (fd : FuncData), mg "require_lattice_numbers" = some (.ref f) ∧ Fun K "require_lattice_numbers" "require_lattice_numbers" s_require_lattice_numbers f fd
  d_require_carpet : ∃ (f : Addr) (fd : FuncData), mg "require_carpet" = some (.ref f) ∧ Fun K "require_carpet" "require_carpet" s_require_carpet f fd
  d_row_text : ∃ (f : Addr) (fd : FuncData), mg "row_text" = some (.ref f) ∧ Fun K "row_text" "row_text" s_row_text f fd
  d__is_row_of_figures : ∃ (f : Addr) (fd : FuncData), mg "_is_row_of_figures" = some (.ref f) ∧ Fun K "_is_row_of_figures" "_is_row_of_figures" s__is_row_of_figures f fd
  d__turned_row : ∃ (f : Addr) (fd : FuncData), mg "_turned_row" = some (.ref f) ∧ Fun K "_turned_row" "_turned_row" s__turned_row f fd
  d__normal_form : ∃ (f : Addr) (fd : FuncData), mg "_normal_form" = some (.ref f) ∧ Fun K "_normal_form" "_normal_form" s__normal_form f fd
  d__least_width : ∃ (f : Addr) (fd : FuncData), mg "_least_width" = some (.ref f) ∧ Fun K "_least_width" "_least_width" s__least_width f fd
  d__least_rise : ∃ (f : Addr) (fd : FuncData), mg "_least_rise" = some (.ref f) ∧ Fun K "_least_rise" "_least_rise" s__least_rise f fd
  d__comes_again : ∃ (f : Addr) (fd : FuncData), mg "_comes_again" = some (.ref f) ∧ Fun K "_comes_again" "_comes_again" s__comes_again f fd
  d_parting_cell : ∃ (f : Addr) (fd : FuncData), mg "parting_cell" = some (.ref f) ∧ Fun K "parting_cell" "parting_cell" s_parting_cell f fd
  d_breaking_cell : ∃ (f : Addr) (fd : FuncData), mg "breaking_cell" = some (.ref f) ∧ Fun K "breaking_cell" "breaking_cell" s_breaking_cell f fd
  d__column_length : ∃ (f : Addr) (fd : FuncData), mg "_column_length" = some (.ref f) ∧ Fun K "_column_length" "_column_length" s__column_length f fd
  d__unlike_index : ∃ (f : Addr) (fd : FuncData), mg "_unlike_index" = some (.ref f) ∧ Fun K "_unlike_index" "_unlike_index" s__unlike_index f fd
  d__law_opened : ∃ (f : Addr) (fd : FuncData), mg "_law_opened" = some (.ref f) ∧ Fun K "_law_opened" "_law_opened" s__law_opened f fd
  d__law_draw : ∃ (f : Addr) (fd : FuncData), mg "_law_draw" = some (.ref f) ∧ Fun K "_law_draw" "_law_draw" s__law_draw f fd
  d__law_pick : ∃ (f : Addr) (fd : FuncData), mg "_law_pick" = some (.ref f) ∧ Fun K "_law_pick" "_law_pick" s__law_pick f fd
  d__law_three : ∃ (f : Addr) (fd : FuncData), mg "_law_three" = some (.ref f) ∧ Fun K "_law_three" "_law_three" s__law_three f fd
  d__law_place : ∃ (f : Addr) (fd : FuncData), mg "_law_place" = some (.ref f) ∧ Fun K "_law_place" "_law_place" s__law_place f fd
  d__law_rows : ∃ (f : Addr) (fd : FuncData), mg "_law_rows" = some (.ref f) ∧ Fun K "_law_rows" "_law_rows" s__law_rows f fd
  d__law_colour : ∃ (f : Addr) (fd : FuncData), mg "_law_colour" = some (.ref f) ∧ Fun K "_law_colour" "_law_colour" s__law_colour f fd
  d__law_coarser : ∃ (f : Addr) (fd : FuncData), mg "_law_coarser" = some (.ref f) ∧ Fun K "_law_coarser" "_law_coarser" s__law_coarser f fd
  d__law_parting : ∃ (f : Addr) (fd : FuncData), mg "_law_parting" = some (.ref f) ∧ Fun K "_law_parting" "_law_parting" s__law_parting f fd
  d__law_bent : ∃ (f : Addr) (fd : FuncData), mg "_law_bent" = some (.ref f) ∧ Fun K "_law_bent" "_law_bent" s__law_bent f fd
  d__law_refused : ∃ (f : Addr) (fd : FuncData), mg "_law_refused" = some (.ref f) ∧ Fun K "_law_refused" "_law_refused" s__law_refused f fd
  d__law_made : ∃ (f : Addr) (fd : FuncData), mg "_law_made" = some (.ref f) ∧ Fun K "_law_made" "_law_made" s__law_made f fd
  d__law_window : ∃ (f : Addr) (fd : FuncData), mg "_law_window" = some (.ref f) ∧ Fun K "_law_window" "_law_window" s__law_window f fd
  d__law_pair_right : ∃ (f : Addr) (fd : FuncData), mg "_law_pair_right" = some (.ref f) ∧ Fun K "_law_pair_right" "_law_pair_right" s__law_pair_right f fd
  d__law_breaking_right : ∃ (f : Addr) (fd : FuncData), mg "_law_breaking_right" = some (.ref f) ∧ Fun K "_law_breaking_right" "_law_breaking_right" s__law_breaking_right f fd
  lam_law : LamF K mg "law" s_law
  ci_Lattice : ClsI K (ga K "Lattice")
  c_Lattice : Cls K (ga K "Lattice")
  g_Lattice : mg "Lattice" = some (.ref (ga K "Lattice"))
  na_Lattice_a : NoAttr K (ga K "Lattice") "a"
  na_Lattice_b : NoAttr K (ga K "Lattice") "b"
  na_Lattice_d : NoAttr K (ga K "Lattice") "d"
  ci_Carpet : ClsI K (ga K "Carpet")
  c_Carpet : Cls K (ga K "Carpet")
  g_Carpet : mg "Carpet" = some (.ref (ga K "Carpet"))
  na_Carpet_a : NoAttr K (ga K "Carpet") "a"
  na_Carpet_b : NoAttr K (ga K "Carpet") "b"
  na_Carpet_d : NoAttr K (ga K "Carpet") "d"
  na_Carpet_rows : NoAttr K (ga K "Carpet") "rows"
  na_Carpet__normal : NoAttr K (ga K "Carpet") "_normal"
  d_Lattice___init__ : ∃ (f : Addr) (fd : FuncData), Mk K (ga K "Lattice") f ∧ FunD K "__init__" "Lattice.__init__" (defArgs s_Lattice___init__) (defBody s_Lattice___init__) (defScope s_Lattice___init__) [] [] f fd
  d_Lattice___contains__ : ∃ (f : Addr) (fd : FuncData), Meth K (ga K "Lattice") "__contains__" f ∧ FunD K "__contains__" "Lattice.__contains__" (defArgs s_Lattice___contains__) (defBody s_Lattice___contains__) (defScope s_Lattice___contains__) [] [] f fd
  d_Lattice_place : ∃ (f : Addr) (fd : FuncData), Meth K (ga K "Lattice") "place" f ∧ FunD K "place" "Lattice.place" (defArgs s_Lattice_place) (defBody s_Lattice_place) (defScope s_Lattice_place) [] [] f fd
  d_Carpet___init__ : ∃ (f : Addr) (fd : FuncData), Mk K (ga K "Carpet") f ∧ FunD K "__init__" "Carpet.__init__" (defArgs s_Carpet___init__) (defBody s_Carpet___init__) (defScope s_Carpet___init__) [] [] f fd
  d_Carpet___eq__ : ∃ (f : Addr) (fd : FuncData), Meth K (ga K "Carpet") "__eq__" f ∧ FunD K "__eq__" "Carpet.__eq__" (defArgs s_Carpet___eq__) (defBody s_Carpet___eq__) (defScope s_Carpet___eq__) [] [] f fd
  d_Carpet_colour : ∃ (f : Addr) (fd : FuncData), Meth K (ga K "Carpet") "colour" f ∧ FunD K "colour" "Carpet.colour" (defArgs s_Carpet_colour) (defBody s_Carpet_colour) (defScope s_Carpet_colour) [] [] f fd
  d_Carpet_lattice : ∃ (f : Addr) (fd : FuncData), Meth K (ga K "Carpet") "lattice" f ∧ FunD K "lattice" "Carpet.lattice" (defArgs s_Carpet_lattice) (defBody s_Carpet_lattice) (defScope s_Carpet_lattice) [] [] f fd
  d_Carpet_least : ∃ (f : Addr) (fd : FuncData), Meth K (ga K "Carpet") "least" f ∧ FunD K "least" "Carpet.least" (defArgs s_Carpet_least) (defBody s_Carpet_least) (defScope s_Carpet_least) [] [] f fd
  d_Carpet_normal : ∃ (f : Addr) (fd : FuncData), Meth K (ga K "Carpet") "normal" f ∧ FunD K "normal" "Carpet.normal" (defArgs s_Carpet_normal) (defBody s_Carpet_normal) (defScope s_Carpet_normal) [] [] f fd
  d_Carpet_moved_by : ∃ (f : Addr) (fd : FuncData), Meth K (ga K "Carpet") "moved_by" f ∧ FunD K "moved_by" "Carpet.moved_by" (defArgs s_Carpet_moved_by) (defBody s_Carpet_moved_by) (defScope s_Carpet_moved_by) [] [] f fd
  d_Carpet_is_period : ∃ (f : Addr) (fd : FuncData), Meth K (ga K "Carpet") "is_period" f ∧ FunD K "is_period" "Carpet.is_period" (defArgs s_Carpet_is_period) (defBody s_Carpet_is_period) (defScope s_Carpet_is_period) [] [] f fd
  k_FIGURES : ∃ t, mg "FIGURES" = some (.str (SX.S [48, 49, 50, 51, 52, 53, 54, 55, 56, 57]) t)
  k_MOST_PLACES : ∃ t, mg "MOST_PLACES" = some (.int 144 t)
  m_isinstance : mg "isinstance" = none
  m_int : mg "int" = none
  m_bool : mg "bool" = none
  m_tuple : mg "tuple" = none
  m_len : mg "len" = none
  m_abs : mg "abs" = none
  m_list : mg "list" = none
  m_range : mg "range" = none
  m_repr : mg "repr" = none
  m_max : mg "max" = none
  m_min : mg "min" = none
  m_str : mg "str" = none
  m_all : mg "all" = none
  m_enumerate : mg "enumerate" = none
  x_BadNumber : ExT K mg "BadNumber" "number"
  x_BadPart : ExT K mg "BadPart" "part"
  x_BadIndex : ExT K mg "BadIndex" "index"
  x_TooMany : ExTO K mg "TooMany" "limit"
  kC_int : PySem.W.kitOne K (.type "int") (.ref (ga K "Carpet")) = some false
  kC_list : PySem.W.kitOne K (.type "list") (.ref (ga K "Carpet")) = some false
  kC_NoneType : PySem.W.kitOne K (.type "NoneType") (.ref (ga K "Carpet")) = some false
  kC_str : PySem.W.kitOne K (.type "str") (.ref (ga K "Carpet")) = some false
  gS : mg "NotSo" = some (.ref (ga K "NotSo"))
  mPP : PySem.W.exmOne K (.ref (ga K "BadPart")) (.ref (ga K "BadPart")) = some true
  mNP : PySem.W.exmOne K (.ref (ga K "BadNumber")) (.ref (ga K "BadPart")) = some false
  mNN : PySem.W.exmOne K (.ref (ga K "BadNumber")) (.ref (ga K "BadNumber")) = some true
  mIP : PySem.W.exmOne K (.ref (ga K "BadIndex")) (.ref (ga K "BadPart")) = some false
  mIN : PySem.W.exmOne K (.ref (ga K "BadIndex")) (.ref (ga K "BadNumber")) = some false
  mII : PySem.W.exmOne K (.ref (ga K "BadIndex")) (.ref (ga K "BadIndex")) = some true
  mMP : PySem.W.exmOne K (.ref (ga K "TooMany")) (.ref (ga K "BadPart")) = some false
  mMN : PySem.W.exmOne K (.ref (ga K "TooMany")) (.ref (ga K "BadNumber")) = some false
  mMI : PySem.W.exmOne K (.ref (ga K "TooMany")) (.ref (ga K "BadIndex")) = some false
  mMS : PySem.W.exmOne K (.ref (ga K "TooMany")) (.ref (ga K "NotSo")) = some false
  mMM : PySem.W.exmOne K (.ref (ga K "TooMany")) (.ref (ga K "TooMany")) = some true
end Iz
/-! k12_a -/
set_option Elab.async false
set_option linter.all false
set_option maxRecDepth 100000
set_option maxHeartbeats 4000000
namespace Iz
open PySem PySem.Spec PyProof.Rows L2
open He (ga)
open SX (S S_len)
local macro_rules | `(tactic| walk_at "wp") => `(tactic| simp only [S_eq, tD1, rTupN, rAddZ, rSlZ, rIxZ, rInZ, rIntZ, rStrZ, rLenZ, rRepZ, tJoinZ, tJoinG, rCntZ, rTupG, rAll, rMax2, rMin2, tSl, tPart, tNoPart, rSlLN, rSlG, gUnlN, tYes, rLenS, rRepN, unset, calmS, cx_K, Value.ref.injEq, HO.xd.injEq, lk0, tSeq, tPar3, tPar, tCons, tNil, tVar, tC, tAsg, gName, gCons, gNil, gTupN, gSub, tOp, rI, rI0, rU, tTest, rNe, rEq, rIxTN, rIxLN, rLenL, rLenT, rIntI, rIntB, rAbs, rSetLN, tTruL, tRaiseX, rIsTy, rIsOw, ixN0, ixN1, tRet, tIf, tIfS, tNext, tBreak, tCont, tDrop, tTupN, tLstN, tUn, tCB, tCall, tNot, tAnd, tOr, tB, tAndV, tOrV, tNotV, tChain, tApp, LamX.tLam, tRevLN, rCatN, rInTN, rInLN, flatV, inV, List.all_cons, List.all_nil, List.any_cons, List.any_nil, Bool.and_self, Bool.and_true, if_true, Bool.false_eq_true, if_false, tMt, tFldN, tSto, HO.ins.injEq, lkh, List.drop_zero, List.drop_succ_cons, List.drop_nil, rListS, wipe, L2.start, List.map_cons, List.map_nil, List.length_cons, List.length_nil, List.replicate, List.cons_append, List.nil_append, List.append_nil, Nat.reduceAdd, Nat.reduceSub, Nat.zero_add, List.replicate_succ, List.replicate_zero, List.getElem?_cons_zero, List.getElem?_cons_succ, List.set_cons_zero, List.set_cons_succ, Option.some.injEq, V.int.injEq, V.bl.injEq, V.ref.injEq, V.str.injEq, V.ty.injEq, List.cons.injEq, HO.tup.injEq, HO.lst.injEq, and_true, true_and, and_assoc, exists_eq_left, exists_eq_left', exists_and_left, exists_eq', atI0, atI1, atI2, atI3, Int.cast_ofNat_Int, Int.reduceToNat, scal_ii, scal_in, scal_ni, scal_nn, scal_bb, scal_ss, scal_sn, scal_ns, scal_bn, scal_nb, ite_iff, decide_eq_true_eq, decide_eq_false_iff_not, Bool.not_eq_true', Classical.not_not, ne_eq, not_false_eq_true, not_true_eq_false, forall_const, true_implies, false_implies, imp_self, sizeLine_eq, Nat.reduceLeDiff, reduceCtorEq, decide_true, decide_false])
section
variable {P : Program} {w : World} {K : PySem.W.Frag} {mg : Str → Option Value} {base : Heap}
/-! ### basics -/
def spWhole (K : PySem.W.Frag) : Sp := fun vs H Q _ => ∃ x, vs = [x] ∧ Wh K H x ∧ Q (.bl (isI x)) H
theorem o_is_whole (T : Txt K mg) : OkF P w K mg base CX0 1 "is_whole" ["value"] (spWhole K) := by
  obtain ⟨f, fd, g, F⟩ := T.d_is_whole
  refine ⟨f, fd, g, F.kp, F.binds (fun _ _ _ _ _ _ us hl => match us, hl with | [_], _ => rfl), F.ok sc_is_whole (fun vs H Q E h => ?_) (fun cdv A outer s H vs Q E hr h => ?_)⟩
  · obtain ⟨x, rfl, _⟩ := h; rfl
  · obtain ⟨x, rfl, ⟨t, b1, b2, ty, k1, k2, e⟩, kk⟩ := h
    refine ⟨_, pss_one (ps_ret (pe_and (pe_callB call_isTy (by rfl) T.m_isinstance (by decide +kernel) (pa_cons (pv 0) (pa_cons ((pe_bltn (v := .ty "int") (by rfl) T.m_int (by decide +kernel) rfl)) pa_nil))) (pe_one (pe_not (pe_callB call_isTy (by rfl) T.m_isinstance (by decide +kernel) (pa_cons (pv 0) (pa_cons ((pe_bltn (v := .ty "bool") (by rfl) T.m_bool (by decide +kernel) rfl)) pa_nil))))))), ?_⟩
    walk_at "wp"
    rw [← e] at kk
    refine ⟨t, ty, b1, k1, fun h => ⟨t, ty, b2, k2, ?_⟩, fun h => ?_⟩
    · subst h; exact kk
    · cases b1
      · exact kk
      · exact absurd rfl h
def spFrom (K : PySem.W.Frag) : Sp := fun vs H Q _ => ∃ x l, vs = [x, .int l] ∧ Wh K H x ∧ (isI x = false → Q (.bl false) H) ∧ (∀ i, x = .int i → Q (.bl (decide (l ≤ i))) H)
theorem o_is_from (T : Txt K mg) : OkF P w K mg base CX0 2 "is_from" ["value", "least"] (spFrom K) := by
  have o_is_whole := o_is_whole (P := P) (w := w) (base := base) T
  obtain ⟨f, fd, g, F⟩ := T.d_is_from
  refine ⟨f, fd, g, F.kp, F.binds (fun _ _ _ _ _ _ us hl => match us, hl with | [_, _], _ => rfl), F.ok sc_is_from (fun vs H Q E h => ?_) (fun cdv A outer s H vs Q E hr h => ?_)⟩
  · obtain ⟨x, l, rfl, _⟩ := h; rfl
  · obtain ⟨x, l, rfl, W, k1, k2⟩ := h
    refine ⟨_, pss_one (ps_ret (pe_and (pcl o_is_whole (hr.mono (by decide)) pass0 (pa_cons (pv 0) pa_nil)) (pe_one (pe_cmpR op_ge (pv 0) (pv 1) (nomark _))))), ?_⟩
    walk_at "wp"
    simp only [spWhole, List.cons.injEq, and_true, exists_eq_left']
    refine ⟨W, _, rfl, ?_⟩
    cases e : isI x
    · exact ⟨fun h => (by cases h), fun _ => k1 e⟩
    · obtain ⟨i, rfl⟩ := isI_int e
      exact ⟨fun _ => ⟨i, rfl, k2 i rfl⟩, fun h => absurd rfl h⟩
def spReqW (K : PySem.W.Frag) : Sp := fun vs H Q E => ∃ x, vs = [x] ∧ Wh K H x ∧ (isI x = true → Q .non H) ∧ (isI x = false → Rse K E H "BadNumber" "number" x)
theorem o_require_whole (T : Txt K mg) : OkF P w K mg base (L2.CX P w) 3 "require_whole" ["value"] (spReqW K) := by
  have o_is_whole := o_is_whole (P := P) (w := w) (base := base) T
  obtain ⟨f, fd, g, F⟩ := T.d_require_whole
  refine ⟨f, fd, g, F.kp, F.binds (fun _ _ _ _ _ _ us hl => match us, hl with | [_], _ => rfl), F.okX sc_require_whole (fun vs H Q E h => ?_) (fun cdv A outer s H vs Q E hr h => ?_)⟩
  · obtain ⟨x, rfl, _⟩ := h; rfl
  · obtain ⟨x, rfl, W, k1, k2⟩ := h
    refine ⟨_, pss_one (ps_if (pt_not (pt_val (pcl o_is_whole (hr.mono (by decide)) pass0 (pa_cons (pv 0) pa_nil)))) (pss_one (ps_raiseX (T.x_BadNumber) (hr.mono (by decide)) takesE (pv 0))) (pss_nil)), ?_⟩
    walk_at "wp"
    simp only [spWhole, List.cons.injEq, and_true, exists_eq_left']
    exact ⟨W, _, rfl, ⟨k2, fun h => k1 (by cases e : isI x <;> simp_all)⟩⟩
/-- one is an int of 1 or more -/
def isP : V → Bool
  | .int i => decide (1 ≤ i)
  | _ => false
theorem isP_int {x : V} (h : isP x = true) : ∃ i, x = .int i ∧ 1 ≤ i := by cases x <;> simp_all [isP]

/-! ### pairs -/
def spPair (K : PySem.W.Frag) : Sp := fun vs H Q _ => ∃ x, vs = [x] ∧ PairK K H x ∧ Q (.bl (pairV H x).isSome) H
theorem o_is_pair (T : Txt K mg) : OkF P w K mg base CX0 2 "is_pair" ["value"] (spPair K) := by
  have o_is_whole := o_is_whole (P := P) (w := w) (base := base) T
  obtain ⟨f, fd, g, F⟩ := T.d_is_pair
  refine ⟨f, fd, g, F.kp, F.binds (fun _ _ _ _ _ _ us hl => match us, hl with | [_], _ => rfl), F.ok sc_is_pair (fun vs H Q E h => ?_) (fun cdv A outer s H vs Q E hr h => ?_)⟩
  · first | (obtain ⟨_, rfl, _⟩ := h; rfl) | (obtain ⟨_, _, rfl, _⟩ := h; rfl) | (obtain ⟨_, _, _, rfl, _⟩ := h; rfl) | (obtain ⟨_, _, _, _, rfl, _⟩ := h; rfl) | (obtain ⟨_, _, _, _, _, rfl, _⟩ := h; rfl) | (obtain ⟨_, _, _, _, _, _, rfl, _⟩ := h; rfl) | (obtain ⟨_, _, _, _, _, _, _, rfl, _⟩ := h; rfl)
  have hu64 := hr.units
  refine ⟨_, pss_one (ps_ret (pe_and (pe_callB call_isTy (by rfl) T.m_isinstance (by decide +kernel) (pa_cons (pv 0) (pa_cons ((pe_bltn (v := .ty "tuple") (by rfl) T.m_tuple (by decide +kernel) rfl)) pa_nil))) (pe_and (pe_cmpR op_eq (pe_callB call_lenT (by rfl) T.m_len (by decide +kernel) (pa_cons (pv 0) pa_nil)) (pe_int) (nomark _)) (pe_and (pcl o_is_whole (hr.mono (by decide)) pass0 (pa_cons (pe_ix ix_tupN (pv 0) (pe_int) (fun _ _ => rfl)) pa_nil)) (pe_one (pcl o_is_whole (hr.mono (by decide)) pass0 (pa_cons (pe_ix ix_tupN (pv 0) (pe_int) (fun _ _ => rfl)) pa_nil))))))), ?_⟩
  obtain ⟨x, rfl, hk, k⟩ := h
  simp only [spWhole, exists_and_left, S_eq, tD1, rTupN, rAddZ, rSlZ, rIxZ, rInZ, rIntZ, rStrZ, rLenZ, rRepZ, tJoinZ, tJoinG, rCntZ, rTupG, rAll, rMax2, rMin2, tSl, tPart, tNoPart, rSlLN, rSlG, gUnlN, tYes, rLenS, rRepN, unset, calmS, cx_K, Value.ref.injEq, HO.xd.injEq, lk0, tSeq, tPar3, tPar, tCons, tNil, tVar, tC, tAsg, gName, gCons, gNil, gTupN, gSub, tOp, rI, rI0, rU, tTest, rNe, rEq, rIxTN, rIxLN, rLenL, rLenT, rIntI, rIntB, rAbs, rSetLN, tTruL, tRaiseX, rIsTy, rIsOw, ixN0, ixN1, tRet, tIf, tIfS, tNext, tBreak, tCont, tDrop, tTupN, tLstN, tUn, tCB, tCall, tNot, tAnd, tOr, tB, tAndV, tOrV, tNotV, tChain, tApp, LamX.tLam, tRevLN, rCatN, rInTN, rInLN, flatV, inV, List.all_cons, List.all_nil, List.any_cons, List.any_nil, Bool.and_self, Bool.and_true, if_true, Bool.false_eq_true, if_false, tMt, tFldN, tSto, HO.ins.injEq, lkh, List.drop_zero, List.drop_succ_cons, List.drop_nil, rListS, wipe, L2.start, List.map_cons, List.map_nil, List.length_cons, List.length_nil, List.replicate, List.cons_append, List.nil_append, List.append_nil, Nat.reduceAdd, Nat.reduceSub, Nat.zero_add, List.replicate_succ, List.replicate_zero, List.getElem?_cons_zero, List.getElem?_cons_succ, List.set_cons_zero, List.set_cons_succ, Option.some.injEq, V.int.injEq, V.bl.injEq, V.ref.injEq, V.str.injEq, V.ty.injEq, List.cons.injEq, HO.tup.injEq, HO.lst.injEq, and_true, true_and, and_assoc, exists_eq_left, exists_eq_left', exists_and_left, exists_eq', atI0, atI1, atI2, atI3, Int.cast_ofNat_Int, Int.reduceToNat, scal_ii, scal_in, scal_ni, scal_nn, scal_bb, scal_ss, scal_sn, scal_ns, scal_bn, scal_nb, ite_iff, decide_eq_true_eq, decide_eq_false_iff_not, Bool.not_eq_true', Classical.not_not, ne_eq, not_false_eq_true, not_true_eq_false, forall_const, true_implies, false_implies, imp_self, sizeLine_eq, Nat.reduceLeDiff, reduceCtorEq, decide_true, decide_false]
  rcases hk.ty with ⟨p, xs, rfl, hx, hw⟩ | ⟨t, ty, e, no⟩
  · refine ⟨_, .base (.tup hx), true, kit_ty (by decide +kernel), fun _ => ?_, fun h => absurd rfl h⟩
    simp only [hx, exists_and_left, S_eq, tD1, rTupN, rAddZ, rSlZ, rIxZ, rInZ, rIntZ, rStrZ, rLenZ, rRepZ, tJoinZ, tJoinG, rCntZ, rTupG, rAll, rMax2, rMin2, tSl, tPart, tNoPart, rSlLN, rSlG, gUnlN, tYes, rLenS, rRepN, unset, calmS, cx_K, Value.ref.injEq, HO.xd.injEq, lk0, tSeq, tPar3, tPar, tCons, tNil, tVar, tC, tAsg, gName, gCons, gNil, gTupN, gSub, tOp, rI, rI0, rU, tTest, rNe, rEq, rIxTN, rIxLN, rLenL, rLenT, rIntI, rIntB, rAbs, rSetLN, tTruL, tRaiseX, rIsTy, rIsOw, ixN0, ixN1, tRet, tIf, tIfS, tNext, tBreak, tCont, tDrop, tTupN, tLstN, tUn, tCB, tCall, tNot, tAnd, tOr, tB, tAndV, tOrV, tNotV, tChain, tApp, LamX.tLam, tRevLN, rCatN, rInTN, rInLN, flatV, inV, List.all_cons, List.all_nil, List.any_cons, List.any_nil, Bool.and_self, Bool.and_true, if_true, Bool.false_eq_true, if_false, tMt, tFldN, tSto, HO.ins.injEq, lkh, List.drop_zero, List.drop_succ_cons, List.drop_nil, rListS, wipe, L2.start, List.map_cons, List.map_nil, List.length_cons, List.length_nil, List.replicate, List.cons_append, List.nil_append, List.append_nil, Nat.reduceAdd, Nat.reduceSub, Nat.zero_add, List.replicate_succ, List.replicate_zero, List.getElem?_cons_zero, List.getElem?_cons_succ, List.set_cons_zero, List.set_cons_succ, Option.some.injEq, V.int.injEq, V.bl.injEq, V.ref.injEq, V.str.injEq, V.ty.injEq, List.cons.injEq, HO.tup.injEq, HO.lst.injEq, and_true, true_and, and_assoc, exists_eq_left, exists_eq_left', exists_and_left, exists_eq', atI0, atI1, atI2, atI3, Int.cast_ofNat_Int, Int.reduceToNat, scal_ii, scal_in, scal_ni, scal_nn, scal_bb, scal_ss, scal_sn, scal_ns, scal_bn, scal_nb, ite_iff, decide_eq_true_eq, decide_eq_false_iff_not, Bool.not_eq_true', Classical.not_not, ne_eq, not_false_eq_true, not_true_eq_false, forall_const, true_implies, false_implies, imp_self, sizeLine_eq, Nat.reduceLeDiff, reduceCtorEq, decide_true, decide_false]
    have pv : pairV H (.ref p) = pairL xs := by simp only [pairV, hx]
    rw [pv] at k
    refine ⟨fun h2 => ?_, fun h2 => ?_⟩
    · obtain ⟨x, y, rfl⟩ : ∃ x y, xs = [x, y] := by
        match xs, h2 with
        | [x, y], _ => exact ⟨x, y, rfl⟩
        | [], h => simp at h
        | [x], h => simp at h
        | x :: y :: z :: r, h => simp at h; omega
      refine ⟨x, atI0, hw x (by simp), fun h => ⟨y, atI1, hw y (by simp), ?_⟩, fun h => ?_⟩
      · obtain ⟨i, rfl⟩ := isI_int h
        cases y <;> exact k
      · cases x <;> first | exact k | exact absurd rfl h
    · rw [pairL_none h2] at k; exact k
  · refine ⟨t, ty, false, e, fun h => (by cases h), fun _ => ?_⟩
    rw [no] at k; exact k
def spReqP (K : PySem.W.Frag) : Sp := fun vs H Q E => ∃ x y, vs = [x, y] ∧ PairK K H x ∧ ((pairV H x).isSome = true → Q .non H) ∧ (pairV H x = none → Rse K E H "BadPart" "part" y)
theorem o_require_pair (T : Txt K mg) : OkF P w K mg base (L2.CX P w) 3 "require_pair" ["value", "part"] (spReqP K) := by
  have o_is_pair := o_is_pair (P := P) (w := w) (base := base) T
  obtain ⟨f, fd, g, F⟩ := T.d_require_pair
  refine ⟨f, fd, g, F.kp, F.binds (fun _ _ _ _ _ _ us hl => match us, hl with | [_, _], _ => rfl), F.okX sc_require_pair (fun vs H Q E h => ?_) (fun cdv A outer s H vs Q E hr h => ?_)⟩
  · first | (obtain ⟨_, rfl, _⟩ := h; rfl) | (obtain ⟨_, _, rfl, _⟩ := h; rfl) | (obtain ⟨_, _, _, rfl, _⟩ := h; rfl) | (obtain ⟨_, _, _, _, rfl, _⟩ := h; rfl) | (obtain ⟨_, _, _, _, _, rfl, _⟩ := h; rfl) | (obtain ⟨_, _, _, _, _, _, rfl, _⟩ := h; rfl) | (obtain ⟨_, _, _, _, _, _, _, rfl, _⟩ := h; rfl)
  have hu64 := hr.units
  refine ⟨_, pss_one (ps_if (pt_not (pt_val (pcl o_is_pair (hr.mono (by decide)) pass0 (pa_cons (pv 0) pa_nil)))) (pss_one (ps_raiseX (T.x_BadPart) (hr.mono (by decide)) takesE (pv 1))) (pss_nil)), ?_⟩
  obtain ⟨x, y, rfl, hk, k1, k2⟩ := h
  simp only [spPair, exists_and_left, S_eq, tD1, rTupN, rAddZ, rSlZ, rIxZ, rInZ, rIntZ, rStrZ, rLenZ, rRepZ, tJoinZ, tJoinG, rCntZ, rTupG, rAll, rMax2, rMin2, tSl, tPart, tNoPart, rSlLN, rSlG, gUnlN, tYes, rLenS, rRepN, unset, calmS, cx_K, Value.ref.injEq, HO.xd.injEq, lk0, tSeq, tPar3, tPar, tCons, tNil, tVar, tC, tAsg, gName, gCons, gNil, gTupN, gSub, tOp, rI, rI0, rU, tTest, rNe, rEq, rIxTN, rIxLN, rLenL, rLenT, rIntI, rIntB, rAbs, rSetLN, tTruL, tRaiseX, rIsTy, rIsOw, ixN0, ixN1, tRet, tIf, tIfS, tNext, tBreak, tCont, tDrop, tTupN, tLstN, tUn, tCB, tCall, tNot, tAnd, tOr, tB, tAndV, tOrV, tNotV, tChain, tApp, LamX.tLam, tRevLN, rCatN, rInTN, rInLN, flatV, inV, List.all_cons, List.all_nil, List.any_cons, List.any_nil, Bool.and_self, Bool.and_true, if_true, Bool.false_eq_true, if_false, tMt, tFldN, tSto, HO.ins.injEq, lkh, List.drop_zero, List.drop_succ_cons, List.drop_nil, rListS, wipe, L2.start, List.map_cons, List.map_nil, List.length_cons, List.length_nil, List.replicate, List.cons_append, List.nil_append, List.append_nil, Nat.reduceAdd, Nat.reduceSub, Nat.zero_add, List.replicate_succ, List.replicate_zero, List.getElem?_cons_zero, List.getElem?_cons_succ, List.set_cons_zero, List.set_cons_succ, Option.some.injEq, V.int.injEq, V.bl.injEq, V.ref.injEq, V.str.injEq, V.ty.injEq, List.cons.injEq, HO.tup.injEq, HO.lst.injEq, and_true, true_and, and_assoc, exists_eq_left, exists_eq_left', exists_and_left, exists_eq', atI0, atI1, atI2, atI3, Int.cast_ofNat_Int, Int.reduceToNat, scal_ii, scal_in, scal_ni, scal_nn, scal_bb, scal_ss, scal_sn, scal_ns, scal_bn, scal_nb, ite_iff, decide_eq_true_eq, decide_eq_false_iff_not, Bool.not_eq_true', Classical.not_not, ne_eq, not_false_eq_true, not_true_eq_false, forall_const, true_implies, false_implies, imp_self, sizeLine_eq, Nat.reduceLeDiff, reduceCtorEq, decide_true, decide_false]
  exact ⟨hk, fun h => k2 (by simpa using h), fun h => k1 (by cases e : pairV H x <;> simp_all)⟩

theorem o_is_shift (T : Txt K mg) : OkF P w K mg base CX0 3 "is_shift" ["value"] (spPair K) := by
  have o_is_pair := o_is_pair (P := P) (w := w) (base := base) T
  obtain ⟨f, fd, g, F⟩ := T.d_is_shift
  refine ⟨f, fd, g, F.kp, F.binds (fun _ _ _ _ _ _ us hl => match us, hl with | [_], _ => rfl), F.ok sc_is_shift (fun vs H Q E h => ?_) (fun cdv A outer s H vs Q E hr h => ?_)⟩
  · first | (obtain ⟨_, rfl, _⟩ := h; rfl) | (obtain ⟨_, _, rfl, _⟩ := h; rfl) | (obtain ⟨_, _, _, rfl, _⟩ := h; rfl) | (obtain ⟨_, _, _, _, rfl, _⟩ := h; rfl) | (obtain ⟨_, _, _, _, _, rfl, _⟩ := h; rfl) | (obtain ⟨_, _, _, _, _, _, rfl, _⟩ := h; rfl) | (obtain ⟨_, _, _, _, _, _, _, rfl, _⟩ := h; rfl)
  have hu64 := hr.units
  refine ⟨_, pss_one (ps_ret (pcl o_is_pair (hr.mono (by decide)) pass0 (pa_cons (pv 0) pa_nil))), ?_⟩
  obtain ⟨x, rfl, hk, k⟩ := h
  simp only [spPair, exists_and_left, S_eq, tD1, rTupN, rAddZ, rSlZ, rIxZ, rInZ, rIntZ, rStrZ, rLenZ, rRepZ, tJoinZ, tJoinG, rCntZ, rTupG, rAll, rMax2, rMin2, tSl, tPart, tNoPart, rSlLN, rSlG, gUnlN, tYes, rLenS, rRepN, unset, calmS, cx_K, Value.ref.injEq, HO.xd.injEq, lk0, tSeq, tPar3, tPar, tCons, tNil, tVar, tC, tAsg, gName, gCons, gNil, gTupN, gSub, tOp, rI, rI0, rU, tTest, rNe, rEq, rIxTN, rIxLN, rLenL, rLenT, rIntI, rIntB, rAbs, rSetLN, tTruL, tRaiseX, rIsTy, rIsOw, ixN0, ixN1, tRet, tIf, tIfS, tNext, tBreak, tCont, tDrop, tTupN, tLstN, tUn, tCB, tCall, tNot, tAnd, tOr, tB, tAndV, tOrV, tNotV, tChain, tApp, LamX.tLam, tRevLN, rCatN, rInTN, rInLN, flatV, inV, List.all_cons, List.all_nil, List.any_cons, List.any_nil, Bool.and_self, Bool.and_true, if_true, Bool.false_eq_true, if_false, tMt, tFldN, tSto, HO.ins.injEq, lkh, List.drop_zero, List.drop_succ_cons, List.drop_nil, rListS, wipe, L2.start, List.map_cons, List.map_nil, List.length_cons, List.length_nil, List.replicate, List.cons_append, List.nil_append, List.append_nil, Nat.reduceAdd, Nat.reduceSub, Nat.zero_add, List.replicate_succ, List.replicate_zero, List.getElem?_cons_zero, List.getElem?_cons_succ, List.set_cons_zero, List.set_cons_succ, Option.some.injEq, V.int.injEq, V.bl.injEq, V.ref.injEq, V.str.injEq, V.ty.injEq, List.cons.injEq, HO.tup.injEq, HO.lst.injEq, and_true, true_and, and_assoc, exists_eq_left, exists_eq_left', exists_and_left, exists_eq', atI0, atI1, atI2, atI3, Int.cast_ofNat_Int, Int.reduceToNat, scal_ii, scal_in, scal_ni, scal_nn, scal_bb, scal_ss, scal_sn, scal_ns, scal_bn, scal_nb, ite_iff, decide_eq_true_eq, decide_eq_false_iff_not, Bool.not_eq_true', Classical.not_not, ne_eq, not_false_eq_true, not_true_eq_false, forall_const, true_implies, false_implies, imp_self, sizeLine_eq, Nat.reduceLeDiff, reduceCtorEq, decide_true, decide_false]
  exact ⟨hk, k⟩

end
end Iz
/-! k12_b -/
set_option Elab.async false
set_option linter.all false
set_option maxRecDepth 100000
set_option maxHeartbeats 4000000
namespace Iz
open PySem PySem.Spec PyProof.Rows L2
open He (ga)
open SX (S S_len)
local macro_rules | `(tactic| walk_at "wp") => `(tactic| simp only [S_eq, tD1, rTupN, rAddZ, rSlZ, rIxZ, rInZ, rIntZ, rStrZ, rLenZ, rRepZ, tJoinZ, tJoinG, rCntZ, rTupG, rAll, rMax2, rMin2, tSl, tPart, tNoPart, rSlLN, rSlG, gUnlN, tYes, rLenS, rRepN, unset, calmS, cx_K, Value.ref.injEq, HO.xd.injEq, lk0, tSeq, tPar3, tPar, tCons, tNil, tVar, tC, tAsg, gName, gCons, gNil, gTupN, gSub, tOp, rI, rI0, rU, tTest, rNe, rEq, rIxTN, rIxLN, rLenL, rLenT, rIntI, rIntB, rAbs, rSetLN, tTruL, tRaiseX, rIsTy, rIsOw, ixN0, ixN1, tRet, tIf, tIfS, tNext, tBreak, tCont, tDrop, tTupN, tLstN, tUn, tCB, tCall, tNot, tAnd, tOr, tB, tAndV, tOrV, tNotV, tChain, tApp, LamX.tLam, tRevLN, rCatN, rInTN, rInLN, flatV, inV, List.all_cons, List.all_nil, List.any_cons, List.any_nil, Bool.and_self, Bool.and_true, if_true, Bool.false_eq_true, if_false, tMt, tFldN, tSto, HO.ins.injEq, lkh, List.drop_zero, List.drop_succ_cons, List.drop_nil, rListS, wipe, L2.start, List.map_cons, List.map_nil, List.length_cons, List.length_nil, List.replicate, List.cons_append, List.nil_append, List.append_nil, Nat.reduceAdd, Nat.reduceSub, Nat.zero_add, List.replicate_succ, List.replicate_zero, List.getElem?_cons_zero, List.getElem?_cons_succ, List.set_cons_zero, List.set_cons_succ, Option.some.injEq, V.int.injEq, V.bl.injEq, V.ref.injEq, V.str.injEq, V.ty.injEq, List.cons.injEq, HO.tup.injEq, HO.lst.injEq, and_true, true_and, and_assoc, exists_eq_left, exists_eq_left', exists_and_left, exists_eq', atI0, atI1, atI2, atI3, Int.cast_ofNat_Int, Int.reduceToNat, scal_ii, scal_in, scal_ni, scal_nn, scal_bb, scal_ss, scal_sn, scal_ns, scal_bn, scal_nb, ite_iff, decide_eq_true_eq, decide_eq_false_iff_not, Bool.not_eq_true', Classical.not_not, ne_eq, not_false_eq_true, not_true_eq_false, forall_const, true_implies, false_implies, imp_self, sizeLine_eq, Nat.reduceLeDiff, reduceCtorEq, decide_true, decide_false])
section
variable {P : Program} {w : World} {K : PySem.W.Frag} {mg : Str → Option Value} {base : Heap}
/-! ### lattices -/
theorem lk3 {f g h : Str} {v w z : V} (h1 : (f == g) = false) (h2 : (f == h) = false) : List.lookup f [(g, w), (h, z), (f, v)] = some v := by simp [List.lookup, h1, h2]
theorem lk2 {f g : Str} {v w : V} {l : List (Str × V)} (h1 : (f == g) = false) : List.lookup f ((g, w) :: (f, v) :: l) = some v := by simp [List.lookup, h1]
theorem lkn3 {f g h k : Str} {v w z : V} (h1 : (f == g) = false) (h2 : (f == h) = false) (h3 : (f == k) = false) : List.lookup f [(g, v), (h, w), (k, z)] = none := by simp [List.lookup, h1, h2, h3]
theorem lkLa {x y z : V} : List.lookup ("a" : Str) [(("a" : Str), x), (("b" : Str), y), (("d" : Str), z)] = some x := lkh
theorem lkLb {x y z : V} : List.lookup ("b" : Str) [(("a" : Str), x), (("b" : Str), y), (("d" : Str), z)] = some y := lk2 (by decide +kernel)
theorem lkLd {x y z : V} : List.lookup ("d" : Str) [(("a" : Str), x), (("b" : Str), y), (("d" : Str), z)] = some z := lk3 (by decide +kernel) (by decide +kernel)
theorem lkLn_area {x y z : V} : List.lookup ("area" : Str) [(("a" : Str), x), (("b" : Str), y), (("d" : Str), z)] = none := lkn3 (by decide +kernel) (by decide +kernel) (by decide +kernel)
theorem lkLn_place {x y z : V} : List.lookup ("place" : Str) [(("a" : Str), x), (("b" : Str), y), (("d" : Str), z)] = none := lkn3 (by decide +kernel) (by decide +kernel) (by decide +kernel)
theorem lkLn_order {x y z : V} : List.lookup ("order" : Str) [(("a" : Str), x), (("b" : Str), y), (("d" : Str), z)] = none := lkn3 (by decide +kernel) (by decide +kernel) (by decide +kernel)
theorem lkLn_places {x y z : V} : List.lookup ("places" : Str) [(("a" : Str), x), (("b" : Str), y), (("d" : Str), z)] = none := lkn3 (by decide +kernel) (by decide +kernel) (by decide +kernel)
def okL3 : V → V → Bool
  | .int i, .int j => decide (0 ≤ j ∧ j < i)
  | _, _ => false
def RL (K : PySem.W.Frag) (H : Hp) (E : XK) (a b d : V) (G : Prop) : Prop := Wh K H a ∧ (isP a = false → Rse K E H "BadPart" "part" (.str "a")) ∧ (isP a = true → Wh K H b ∧ (okL3 a b = false → Rse K E H "BadPart" "part" (.str "b")) ∧
  (okL3 a b = true → Wh K H d ∧ (isP d = false → Rse K E H "BadPart" "part" (.str "d")) ∧ (isP d = true → G)))
theorem RL.ints {K : PySem.W.Frag} {H : Hp} {E : XK} {a b d : Int} {G : Prop} (a1 : 1 ≤ a) (b0 : 0 ≤ b) (b1 : b < a) (d1 : 1 ≤ d) (g : G) : RL K H E (.int a) (.int b) (.int d) G :=
  ⟨wh_int, fun h => (by simp [isP] at h; omega), fun _ => ⟨wh_int, fun h => (by simp [okL3] at h; omega), fun _ => ⟨wh_int, fun h => (by simp [isP] at h; omega), fun _ => g⟩⟩⟩
theorem RL.imp {K : PySem.W.Frag} {H H' : Hp} {E : XK} {a b d : V} {G G' : Prop} (h : RL K H E a b d G) (s : Same H H') (g : isP a = true → okL3 a b = true → isP d = true → G → G') : RL K H' E a b d G' :=
  ⟨wh_mono h.1 s, fun e => (h.2.1 e).mono s, fun e => ⟨wh_mono (h.2.2 e).1 s, fun f => ((h.2.2 e).2.1 f).mono s, fun f => ⟨wh_mono ((h.2.2 e).2.2 f).1 s, fun k => (((h.2.2 e).2.2 f).2.1 k).mono s, fun k => g e f k (((h.2.2 e).2.2 f).2.2 k)⟩⟩⟩
def spRL (K : PySem.W.Frag) : Sp := fun vs H Q E => ∃ a b d, vs = [a, b, d] ∧ RL K H E a b d (Q .non H)
theorem from1b {K : PySem.W.Frag} {H : Hp} {x : V} {Q : VK} {E : XK} (W : Wh K H x) (q : Q (.bl (isP x)) H) : spFrom K [x, .int 1] H Q E :=
  ⟨x, 1, rfl, W, fun h => (by cases x <;> first | exact q | cases h), fun i e => by subst e; exact q⟩
theorem o_require_lattice_numbers (T : Txt K mg) : OkF P w K mg base (L2.CX P w) 3 "require_lattice_numbers" ["a", "b", "d"] (spRL K) := by
  have o_is_whole := o_is_whole (P := P) (w := w) (base := base) T
  have o_is_from := o_is_from (P := P) (w := w) (base := base) T
  obtain ⟨f, fd, g, F⟩ := T.d_require_lattice_numbers
  refine ⟨f, fd, g, F.kp, F.binds (fun _ _ _ _ _ _ us hl => match us, hl with | [_, _, _], _ => rfl), F.okX sc_require_lattice_numbers (fun vs H Q E h => ?_) (fun cdv A outer s H vs Q E hr h => ?_)⟩
  · first | (obtain ⟨_, rfl, _⟩ := h; rfl) | (obtain ⟨_, _, rfl, _⟩ := h; rfl) | (obtain ⟨_, _, _, rfl, _⟩ := h; rfl) | (obtain ⟨_, _, _, _, rfl, _⟩ := h; rfl) | (obtain ⟨_, _, _, _, _, rfl, _⟩ := h; rfl) | (obtain ⟨_, _, _, _, _, _, rfl, _⟩ := h; rfl) | (obtain ⟨_, _, _, _, _, _, _, rfl, _⟩ := h; rfl)
  have hu64 := hr.units
  refine ⟨_, pss_cons (ps_if (pt_not (pt_val (pcl o_is_from (hr.mono (by decide)) pass0 (pa_cons (pv 0) (pa_cons (pe_int) pa_nil))))) (pss_one (ps_raiseX (T.x_BadPart) (hr.mono (by decide)) takesE (pe_str))) (pss_nil))
      (pss_cons (ps_if (PW.pt (pw_or (pt_not (pt_val (pcl o_is_whole (hr.mono (by decide)) pass0 (pa_cons (pv 1) pa_nil)))) (pw_or1 (pt_not (pt_chain op_le op_lt (pe_int) (pv 1) (pv 0)))))) (pss_one (ps_raiseX (T.x_BadPart) (hr.mono (by decide)) takesE (pe_str))) (pss_nil))
      (pss_one (ps_if (pt_not (pt_val (pcl o_is_from (hr.mono (by decide)) pass0 (pa_cons (pv 2) (pa_cons (pe_int) pa_nil))))) (pss_one (ps_raiseX (T.x_BadPart) (hr.mono (by decide)) takesE (pe_str))) (pss_nil)))), ?_⟩
  obtain ⟨a, b, d, rfl, Wa, ka, hb⟩ := h
  simp only [spWhole, exists_and_left, S_eq, tD1, rTupN, rAddZ, rSlZ, rIxZ, rInZ, rIntZ, rStrZ, rLenZ, rRepZ, tJoinZ, tJoinG, rCntZ, rTupG, rAll, rMax2, rMin2, tSl, tPart, tNoPart, rSlLN, rSlG, gUnlN, tYes, rLenS, rRepN, unset, calmS, cx_K, Value.ref.injEq, HO.xd.injEq, lk0, tSeq, tPar3, tPar, tCons, tNil, tVar, tC, tAsg, gName, gCons, gNil, gTupN, gSub, tOp, rI, rI0, rU, tTest, rNe, rEq, rIxTN, rIxLN, rLenL, rLenT, rIntI, rIntB, rAbs, rSetLN, tTruL, tRaiseX, rIsTy, rIsOw, ixN0, ixN1, tRet, tIf, tIfS, tNext, tBreak, tCont, tDrop, tTupN, tLstN, tUn, tCB, tCall, tNot, tAnd, tOr, tB, tAndV, tOrV, tNotV, tChain, tApp, LamX.tLam, tRevLN, rCatN, rInTN, rInLN, flatV, inV, List.all_cons, List.all_nil, List.any_cons, List.any_nil, Bool.and_self, Bool.and_true, if_true, Bool.false_eq_true, if_false, tMt, tFldN, tSto, HO.ins.injEq, lkh, List.drop_zero, List.drop_succ_cons, List.drop_nil, rListS, wipe, L2.start, List.map_cons, List.map_nil, List.length_cons, List.length_nil, List.replicate, List.cons_append, List.nil_append, List.append_nil, Nat.reduceAdd, Nat.reduceSub, Nat.zero_add, List.replicate_succ, List.replicate_zero, List.getElem?_cons_zero, List.getElem?_cons_succ, List.set_cons_zero, List.set_cons_succ, Option.some.injEq, V.int.injEq, V.bl.injEq, V.ref.injEq, V.str.injEq, V.ty.injEq, List.cons.injEq, HO.tup.injEq, HO.lst.injEq, and_true, true_and, and_assoc, exists_eq_left, exists_eq_left', exists_and_left, exists_eq', atI0, atI1, atI2, atI3, Int.cast_ofNat_Int, Int.reduceToNat, scal_ii, scal_in, scal_ni, scal_nn, scal_bb, scal_ss, scal_sn, scal_ns, scal_bn, scal_nb, ite_iff, decide_eq_true_eq, decide_eq_false_iff_not, Bool.not_eq_true', Classical.not_not, ne_eq, not_false_eq_true, not_true_eq_false, forall_const, true_implies, false_implies, imp_self, sizeLine_eq, Nat.reduceLeDiff, reduceCtorEq, decide_true, decide_false]
  refine from1b Wa ⟨_, rfl, fun h => ka (by simpa using h), fun h => ?_⟩
  have h : isP a = true := by cases e : isP a <;> simp_all
  obtain ⟨Wb, kb, hd⟩ := hb h
  obtain ⟨i, rfl, i1⟩ := isP_int h
  refine ⟨Wb, fun e => kb (by cases b <;> first | rfl | cases e), fun e => ?_⟩
  obtain ⟨j, rfl⟩ := isI_int (by cases e2 : isI b <;> simp_all)
  refine ⟨j, rfl, fun j0 => ⟨j, rfl, i, rfl, fun e => kb (by simp [okL3]; omega), fun ji => ?_⟩, fun e => kb (by simp [okL3]; omega)⟩
  obtain ⟨Wd, kd, g⟩ := hd (by simp [okL3]; omega)
  exact from1b Wd ⟨_, rfl, fun h => kd (by simpa using h), fun h => g (by cases e : isP d <;> simp_all)⟩
/-- a call of Lattice -/
def spLat (K : PySem.W.Frag) : Sp := fun vs H Q E => ∃ a b d, vs = [a, b, d] ∧ RL K H E a b d (NewsI H (ga K "Lattice") [("a", a), ("b", b), ("d", d)] Q)
def spLatI (K : PySem.W.Frag) : Sp := fun vs H Q E => ∃ p a b d, vs = [.ref p, a, b, d] ∧ ∃ dx, H p = some (.ins (ga K "Lattice") dx []) ∧
  RL K H E a b d (∀ H', (∀ b, b ≠ p → H' b = H b) → H' p = some (.ins (ga K "Lattice") dx [("a", a), ("b", b), ("d", d)]) → Q .non H')
theorem i_Lattice___init__ (T : Txt K mg) {f : Addr} {fd : FuncData} (F : FunD K "__init__" "Lattice.__init__" (defArgs s_Lattice___init__) (defBody s_Lattice___init__) (defScope s_Lattice___init__) [] [] f fd) : FnOk P w K mg base (L2.CX P w) 4 f fd ["self", "a", "b", "d"] (spLatI K) := by
  have o_require_lattice_numbers := o_require_lattice_numbers (P := P) (w := w) (base := base) T
  refine F.ok (CX := (L2.CX P w)) sc_Lattice___init__ (fun vs H Q E h => ?_) (fun cdv A outer s H vs Q E hr h => ?_)
  · first | (obtain ⟨_, rfl, _⟩ := h; rfl) | (obtain ⟨_, _, rfl, _⟩ := h; rfl) | (obtain ⟨_, _, _, rfl, _⟩ := h; rfl) | (obtain ⟨_, _, _, _, rfl, _⟩ := h; rfl) | (obtain ⟨_, _, _, _, _, rfl, _⟩ := h; rfl) | (obtain ⟨_, _, _, _, _, _, rfl, _⟩ := h; rfl) | (obtain ⟨_, _, _, _, _, _, _, rfl, _⟩ := h; rfl)
  have hu64 := hr.units
  refine ⟨_, (pss_cons (ps_expr (pcl o_require_lattice_numbers (hr.mono (by decide)) passE (pa_cons (pv 1) (pa_cons (pv 2) (pa_cons (pv 3) pa_nil)))))
      (pss_cons (ps_fldN T.c_Lattice T.na_Lattice_a (pv 0) (pv 1))
      (pss_cons (ps_fldN T.c_Lattice T.na_Lattice_b (pv 0) (pv 2))
      (pss_one (ps_fldN T.c_Lattice T.na_Lattice_d (pv 0) (pv 3)))))), ?_⟩
  obtain ⟨p, a, b, d, rfl, dx, hp, hR⟩ := h
  simp only [spRL, exists_and_left, S_eq, tD1, rTupN, rAddZ, rSlZ, rIxZ, rInZ, rIntZ, rStrZ, rLenZ, rRepZ, tJoinZ, tJoinG, rCntZ, rTupG, rAll, rMax2, rMin2, tSl, tPart, tNoPart, rSlLN, rSlG, gUnlN, tYes, rLenS, rRepN, unset, calmS, cx_K, Value.ref.injEq, HO.xd.injEq, lk0, tSeq, tPar3, tPar, tCons, tNil, tVar, tC, tAsg, gName, gCons, gNil, gTupN, gSub, tOp, rI, rI0, rU, tTest, rNe, rEq, rIxTN, rIxLN, rLenL, rLenT, rIntI, rIntB, rAbs, rSetLN, tTruL, tRaiseX, rIsTy, rIsOw, ixN0, ixN1, tRet, tIf, tIfS, tNext, tBreak, tCont, tDrop, tTupN, tLstN, tUn, tCB, tCall, tNot, tAnd, tOr, tB, tAndV, tOrV, tNotV, tChain, tApp, LamX.tLam, tRevLN, rCatN, rInTN, rInLN, flatV, inV, List.all_cons, List.all_nil, List.any_cons, List.any_nil, Bool.and_self, Bool.and_true, if_true, Bool.false_eq_true, if_false, tMt, tFldN, tSto, HO.ins.injEq, lkh, List.drop_zero, List.drop_succ_cons, List.drop_nil, rListS, wipe, L2.start, List.map_cons, List.map_nil, List.length_cons, List.length_nil, List.replicate, List.cons_append, List.nil_append, List.append_nil, Nat.reduceAdd, Nat.reduceSub, Nat.zero_add, List.replicate_succ, List.replicate_zero, List.getElem?_cons_zero, List.getElem?_cons_succ, List.set_cons_zero, List.set_cons_succ, Option.some.injEq, V.int.injEq, V.bl.injEq, V.ref.injEq, V.str.injEq, V.ty.injEq, List.cons.injEq, HO.tup.injEq, HO.lst.injEq, and_true, true_and, and_assoc, exists_eq_left, exists_eq_left', exists_and_left, exists_eq', atI0, atI1, atI2, atI3, Int.cast_ofNat_Int, Int.reduceToNat, scal_ii, scal_in, scal_ni, scal_nn, scal_bb, scal_ss, scal_sn, scal_ns, scal_bn, scal_nb, ite_iff, decide_eq_true_eq, decide_eq_false_iff_not, Bool.not_eq_true', Classical.not_not, ne_eq, not_false_eq_true, not_true_eq_false, forall_const, true_implies, false_implies, imp_self, sizeLine_eq, Nat.reduceLeDiff, reduceCtorEq, decide_true, decide_false]
  refine hR.imp (fun _ _ h => h) fun _ _ _ k1 => ⟨dx, [], hp, by decide, fun H1 p1 => ⟨dx, _, p1.1, by rw [putF_nil]; exact (by decide : 1 < 1000), fun H2 p2 => ⟨dx, _, p2.1, ?_, fun H3 p3 => ?_⟩⟩⟩
  · rw [putF_nil, putF_cons (by decide +kernel), putF_nil]; exact (by decide : 2 < 1000)
  · refine k1 H3 (fun b hb => by rw [p3.2 b hb, p2.2 b hb, p1.2 b hb]) ?_
    rw [p3.1, putF_nil, putF_cons (by decide +kernel), putF_nil, putF_cons (by decide +kernel), putF_cons (by decide +kernel), putF_nil]
theorem o_Lattice (T : Txt K mg) : OkK P w K mg base (L2.CX P w) 4 "Lattice" ["a", "b", "d"] [] (spLat K) := by
  obtain ⟨f, fd, M, F⟩ := T.d_Lattice___init__
  refine ⟨f, fd, spLatI K, M, T.g_Lattice, b_Lattice___init__ F, i_Lattice___init__ T F, fun vs H Q E h p dx hp hdx hne => ?_⟩
  obtain ⟨a, b, d, rfl, hR⟩ := h
  have s := same_made (H' := upd (upd H dx (.own p)) p (.ins (ga K "Lattice") dx [])) hp hdx fun b _ => rfl
  exact ⟨p, a, b, d, rfl, dx, upd_same, hR.imp s fun _ _ _ k H' hk hp' => ⟨rfl, k p dx H' hp (same_made hp hdx hk) hp'⟩⟩
/-- the lattice at p -/
abbrev LAt (K : PySem.W.Frag) (H : Hp) (p dx : Addr) (a b d : Int) : Prop := H p = some (.ins (ga K "Lattice") dx [("a", .int a), ("b", .int b), ("d", .int d)])

def Small (n : Nat) (q : Option (Int × Int)) : Prop := ∀ x y, q = some (x, y) → x.natAbs < 2 ^ n ∧ y.natAbs < 2 ^ n
def spPlace (K : PySem.W.Frag) : Sp := fun vs H Q E => ∃ p v, vs = [.ref p, v] ∧ ∃ dx a b d, LAt K H p dx a b d ∧ LB a b d ∧ PairK K H v ∧ (pairV H v = none → Rse K E H "BadPart" "part" (.str "cell")) ∧ Small 2000 (pairV H v) ∧
  ∀ x y, pairV H v = some (x, y) → ∀ t H', Same H H' → P2 H' t (plX a b d x y) (plY d y) → Q (.ref t) H'
theorem o_Lattice_place (T : Txt K mg) : OkM P w K mg base (L2.CX P w) 4 "Lattice" "place" ["self", "cell"] [] (spPlace K) := by
  have o_require_pair := o_require_pair (P := P) (w := w) (base := base) T
  obtain ⟨f, fd, M, F⟩ := T.d_Lattice_place
  refine ⟨f, fd, M, b_Lattice_place F, F.ok (CX := (L2.CX P w)) sc_Lattice_place (fun vs H Q E h => ?_) (fun cdv A outer s H vs Q E hr h => ?_)⟩
  · first | (obtain ⟨_, rfl, _⟩ := h; rfl) | (obtain ⟨_, _, rfl, _⟩ := h; rfl) | (obtain ⟨_, _, _, rfl, _⟩ := h; rfl) | (obtain ⟨_, _, _, _, rfl, _⟩ := h; rfl) | (obtain ⟨_, _, _, _, _, rfl, _⟩ := h; rfl) | (obtain ⟨_, _, _, _, _, _, rfl, _⟩ := h; rfl) | (obtain ⟨_, _, _, _, _, _, _, rfl, _⟩ := h; rfl)
  have hu64 := hr.units
  refine ⟨_, (pss_cons (ps_expr (pcl o_require_pair (hr.mono (by decide)) passE (pa_cons (pv 1) (pa_cons (pe_str) pa_nil))))
      (pss_cons (ps_asg (pv 1) (pg_tupN (n := 2) (by rfl) (pgs_cons (pg_name (i := 2) sc_Lattice_place.nd rfl (Or.inl rfl)) (pgs_cons (pg_name (i := 3) sc_Lattice_place.nd rfl (Or.inl rfl)) pgs_nil))))
      (pss_cons (ps_set (i := 4) sc_Lattice_place.nd rfl (Or.inl rfl) (pe_op op_fdivW (pv 3) (pe_fldN T.c_Lattice T.na_Lattice_d (pv 0))))
      (pss_one (ps_ret (pe_tupN (pa_cons (pe_op op_mod (pe_op op_sub (pv 2) (pe_op op_mulW (pe_fldN T.c_Lattice T.na_Lattice_b (pv 0)) (pv 4))) (pe_fldN T.c_Lattice T.na_Lattice_a (pv 0))) (pa_cons (pe_op op_sub (pv 3) (pe_op op_mulW (pe_fldN T.c_Lattice T.na_Lattice_d (pv 0)) (pv 4))) pa_nil)))))))), ?_⟩
  obtain ⟨p, v, rfl, dx, a, b, d, hp, B, hk, kn, ks, k⟩ := h
  simp only [spReqP, exists_and_left, S_eq, tD1, rTupN, rAddZ, rSlZ, rIxZ, rInZ, rIntZ, rStrZ, rLenZ, rRepZ, tJoinZ, tJoinG, rCntZ, rTupG, rAll, rMax2, rMin2, tSl, tPart, tNoPart, rSlLN, rSlG, gUnlN, tYes, rLenS, rRepN, unset, calmS, cx_K, Value.ref.injEq, HO.xd.injEq, lk0, tSeq, tPar3, tPar, tCons, tNil, tVar, tC, tAsg, gName, gCons, gNil, gTupN, gSub, tOp, rI, rI0, rU, tTest, rNe, rEq, rIxTN, rIxLN, rLenL, rLenT, rIntI, rIntB, rAbs, rSetLN, tTruL, tRaiseX, rIsTy, rIsOw, ixN0, ixN1, tRet, tIf, tIfS, tNext, tBreak, tCont, tDrop, tTupN, tLstN, tUn, tCB, tCall, tNot, tAnd, tOr, tB, tAndV, tOrV, tNotV, tChain, tApp, LamX.tLam, tRevLN, rCatN, rInTN, rInLN, flatV, inV, List.all_cons, List.all_nil, List.any_cons, List.any_nil, Bool.and_self, Bool.and_true, if_true, Bool.false_eq_true, if_false, tMt, tFldN, tSto, HO.ins.injEq, lkh, List.drop_zero, List.drop_succ_cons, List.drop_nil, rListS, wipe, L2.start, List.map_cons, List.map_nil, List.length_cons, List.length_nil, List.replicate, List.cons_append, List.nil_append, List.append_nil, Nat.reduceAdd, Nat.reduceSub, Nat.zero_add, List.replicate_succ, List.replicate_zero, List.getElem?_cons_zero, List.getElem?_cons_succ, List.set_cons_zero, List.set_cons_succ, Option.some.injEq, V.int.injEq, V.bl.injEq, V.ref.injEq, V.str.injEq, V.ty.injEq, List.cons.injEq, HO.tup.injEq, HO.lst.injEq, and_true, true_and, and_assoc, exists_eq_left, exists_eq_left', exists_and_left, exists_eq', atI0, atI1, atI2, atI3, Int.cast_ofNat_Int, Int.reduceToNat, scal_ii, scal_in, scal_ni, scal_nn, scal_bb, scal_ss, scal_sn, scal_ns, scal_bn, scal_nb, ite_iff, decide_eq_true_eq, decide_eq_false_iff_not, Bool.not_eq_true', Classical.not_not, ne_eq, not_false_eq_true, not_true_eq_false, forall_const, true_implies, false_implies, imp_self, sizeLine_eq, Nat.reduceLeDiff, reduceCtorEq, decide_true, decide_false]
  refine ⟨hk, fun h => ?_, kn⟩
  obtain ⟨⟨x, y⟩, e⟩ := Option.isSome_iff_exists.mp h
  obtain ⟨t, rfl, ht⟩ := pairV_some e
  obtain ⟨xs, ys⟩ := ks x y e
  have hd : d.natAbs < 2 ^ 500 := B.dS
  have hq : (y / d).natAbs < 2 ^ 2000 := Nat.lt_of_le_of_lt (Int.natAbs_ediv_le_natAbs _ _) ys
  have d0 : 0 < d := by have := B.d1; omega
  have a0 : 0 < a := by have := B.a1; omega
  have ht' : H t = some (.tup [.int x, .int y]) := ht
  simp only [ht', hp, lkLa, lkLb, lkLd, lkLn_place, exists_and_left, S_eq, tD1, rTupN, rAddZ, rSlZ, rIxZ, rInZ, rIntZ, rStrZ, rLenZ, rRepZ, tJoinZ, tJoinG, rCntZ, rTupG, rAll, rMax2, rMin2, tSl, tPart, tNoPart, rSlLN, rSlG, gUnlN, tYes, rLenS, rRepN, unset, calmS, cx_K, Value.ref.injEq, HO.xd.injEq, lk0, tSeq, tPar3, tPar, tCons, tNil, tVar, tC, tAsg, gName, gCons, gNil, gTupN, gSub, tOp, rI, rI0, rU, tTest, rNe, rEq, rIxTN, rIxLN, rLenL, rLenT, rIntI, rIntB, rAbs, rSetLN, tTruL, tRaiseX, rIsTy, rIsOw, ixN0, ixN1, tRet, tIf, tIfS, tNext, tBreak, tCont, tDrop, tTupN, tLstN, tUn, tCB, tCall, tNot, tAnd, tOr, tB, tAndV, tOrV, tNotV, tChain, tApp, LamX.tLam, tRevLN, rCatN, rInTN, rInLN, flatV, inV, List.all_cons, List.all_nil, List.any_cons, List.any_nil, Bool.and_self, Bool.and_true, if_true, Bool.false_eq_true, if_false, tMt, tFldN, tSto, HO.ins.injEq, lkh, List.drop_zero, List.drop_succ_cons, List.drop_nil, rListS, wipe, L2.start, List.map_cons, List.map_nil, List.length_cons, List.length_nil, List.replicate, List.cons_append, List.nil_append, List.append_nil, Nat.reduceAdd, Nat.reduceSub, Nat.zero_add, List.replicate_succ, List.replicate_zero, List.getElem?_cons_zero, List.getElem?_cons_succ, List.set_cons_zero, List.set_cons_succ, Option.some.injEq, V.int.injEq, V.bl.injEq, V.ref.injEq, V.str.injEq, V.ty.injEq, List.cons.injEq, HO.tup.injEq, HO.lst.injEq, and_true, true_and, and_assoc, exists_eq_left, exists_eq_left', exists_and_left, exists_eq', atI0, atI1, atI2, atI3, Int.cast_ofNat_Int, Int.reduceToNat, scal_ii, scal_in, scal_ni, scal_nn, scal_bb, scal_ss, scal_sn, scal_ns, scal_bn, scal_nb, ite_iff, decide_eq_true_eq, decide_eq_false_iff_not, Bool.not_eq_true', Classical.not_not, ne_eq, not_false_eq_true, not_true_eq_false, forall_const, true_implies, false_implies, imp_self, sizeLine_eq, Nat.reduceLeDiff, reduceCtorEq, decide_true, decide_false]
  refine ⟨wide_div d0 hd (by decide) (by decide), wide_mul B.bS hq (by decide) (by decide) (by decide), a0, wide_mul hd hq (by decide) (by decide) (by decide), ?_⟩
  exact fun q H' _ s hq => k x y e q H' s hq

def spCont (K : PySem.W.Frag) : Sp := fun vs H Q _ => ∃ p v, vs = [.ref p, v] ∧ ∃ dx a b d, LAt K H p dx a b d ∧ LB a b d ∧ PairK K H v ∧ Small 2000 (pairV H v) ∧ ∀ H', Same H H' → Q (.bl (inL a b d (pairV H v))) H'
theorem o_Lattice___contains__ (T : Txt K mg) : OkM P w K mg base (L2.CX P w) 5 "Lattice" "__contains__" ["self", "shift"] [] (spCont K) := by
  have o_is_shift := o_is_shift (P := P) (w := w) (base := base) T
  have o_Lattice_place := o_Lattice_place (P := P) (w := w) (base := base) T
  obtain ⟨f, fd, M, F⟩ := T.d_Lattice___contains__
  refine ⟨f, fd, M, b_Lattice___contains__ F, F.ok (CX := (L2.CX P w)) sc_Lattice___contains__ (fun vs H Q E h => ?_) (fun cdv A outer s H vs Q E hr h => ?_)⟩
  · first | (obtain ⟨_, rfl, _⟩ := h; rfl) | (obtain ⟨_, _, rfl, _⟩ := h; rfl) | (obtain ⟨_, _, _, rfl, _⟩ := h; rfl) | (obtain ⟨_, _, _, _, rfl, _⟩ := h; rfl) | (obtain ⟨_, _, _, _, _, rfl, _⟩ := h; rfl) | (obtain ⟨_, _, _, _, _, _, rfl, _⟩ := h; rfl) | (obtain ⟨_, _, _, _, _, _, _, rfl, _⟩ := h; rfl)
  have hu64 := hr.units
  refine ⟨_, (pss_one (ps_ret (pe_and (pcl o_is_shift (hr.mono (by decide)) pass0 (pa_cons (pv 1) pa_nil)) (pe_one (pe_cmpR (op_eqDk (K := K) rfl hu64) (pmt (j := 0) o_Lattice_place T.c_Lattice (pv 0) (by decide) (hr.mono (by decide)) passE (pa_cons (pv 1) pa_nil)) (pe_tupN (pa_cons (pe_int) (pa_cons (pe_int) pa_nil))) (nomark _)))))), ?_⟩
  obtain ⟨p, v, rfl, dx, a, b, d, hp, B, hk, ks, k⟩ := h
  simp only [spPair, hp, lkLa, lkLb, lkLd, lkLn_place, exists_and_left, S_eq, tD1, rTupN, rAddZ, rSlZ, rIxZ, rInZ, rIntZ, rStrZ, rLenZ, rRepZ, tJoinZ, tJoinG, rCntZ, rTupG, rAll, rMax2, rMin2, tSl, tPart, tNoPart, rSlLN, rSlG, gUnlN, tYes, rLenS, rRepN, unset, calmS, cx_K, Value.ref.injEq, HO.xd.injEq, lk0, tSeq, tPar3, tPar, tCons, tNil, tVar, tC, tAsg, gName, gCons, gNil, gTupN, gSub, tOp, rI, rI0, rU, tTest, rNe, rEq, rIxTN, rIxLN, rLenL, rLenT, rIntI, rIntB, rAbs, rSetLN, tTruL, tRaiseX, rIsTy, rIsOw, ixN0, ixN1, tRet, tIf, tIfS, tNext, tBreak, tCont, tDrop, tTupN, tLstN, tUn, tCB, tCall, tNot, tAnd, tOr, tB, tAndV, tOrV, tNotV, tChain, tApp, LamX.tLam, tRevLN, rCatN, rInTN, rInLN, flatV, inV, List.all_cons, List.all_nil, List.any_cons, List.any_nil, Bool.and_self, Bool.and_true, if_true, Bool.false_eq_true, if_false, tMt, tFldN, tSto, HO.ins.injEq, lkh, List.drop_zero, List.drop_succ_cons, List.drop_nil, rListS, wipe, L2.start, List.map_cons, List.map_nil, List.length_cons, List.length_nil, List.replicate, List.cons_append, List.nil_append, List.append_nil, Nat.reduceAdd, Nat.reduceSub, Nat.zero_add, List.replicate_succ, List.replicate_zero, List.getElem?_cons_zero, List.getElem?_cons_succ, List.set_cons_zero, List.set_cons_succ, Option.some.injEq, V.int.injEq, V.bl.injEq, V.ref.injEq, V.str.injEq, V.ty.injEq, List.cons.injEq, HO.tup.injEq, HO.lst.injEq, and_true, true_and, and_assoc, exists_eq_left, exists_eq_left', exists_and_left, exists_eq', atI0, atI1, atI2, atI3, Int.cast_ofNat_Int, Int.reduceToNat, scal_ii, scal_in, scal_ni, scal_nn, scal_bb, scal_ss, scal_sn, scal_ns, scal_bn, scal_nb, ite_iff, decide_eq_true_eq, decide_eq_false_iff_not, Bool.not_eq_true', Classical.not_not, ne_eq, not_false_eq_true, not_true_eq_false, forall_const, true_implies, false_implies, imp_self, sizeLine_eq, Nat.reduceLeDiff, reduceCtorEq, decide_true, decide_false]
  cases e : pairV H v with
  | none => 
    rw [e] at k
    exact ⟨hk, fun h => (by simp at h), fun _ => k H fun _ _ h => h⟩
  | some q =>
    obtain ⟨x, y⟩ := q
    rw [e] at k
    refine ⟨hk, fun _ => ⟨p, v, rfl, dx, a, b, d, hp, B, hk, fun h => (by rw [e] at h; cases h), ks, fun x' y' e' t H1 s1 h1 => ?_⟩, fun h => absurd rfl h⟩
    rw [e] at e'; cases e'
    intro t2 H2 _ s2 h2
    exact eq_P2 (s2 _ _ h1) h2 (k H2 (s1.trans s2))

end
end Iz
/-! k12_c -/
set_option Elab.async false
set_option linter.all false
set_option maxRecDepth 100000
set_option maxHeartbeats 4000000
namespace Iz
open PySem PySem.Spec PyProof.Rows L2
open He (ga)
open SX (S S_len)
local macro_rules | `(tactic| walk_at "wp") => `(tactic| simp only [S_eq, tD1, rTupN, rAddZ, rSlZ, rIxZ, rInZ, rIntZ, rStrZ, rLenZ, rRepZ, tJoinZ, tJoinG, rCntZ, rTupG, rAll, rMax2, rMin2, tSl, tPart, tNoPart, rSlLN, rSlG, gUnlN, tYes, rLenS, rRepN, unset, calmS, cx_K, Value.ref.injEq, HO.xd.injEq, lk0, tSeq, tPar3, tPar, tCons, tNil, tVar, tC, tAsg, gName, gCons, gNil, gTupN, gSub, tOp, rI, rI0, rU, tTest, rNe, rEq, rIxTN, rIxLN, rLenL, rLenT, rIntI, rIntB, rAbs, rSetLN, tTruL, tRaiseX, rIsTy, rIsOw, ixN0, ixN1, tRet, tIf, tIfS, tNext, tBreak, tCont, tDrop, tTupN, tLstN, tUn, tCB, tCall, tNot, tAnd, tOr, tB, tAndV, tOrV, tNotV, tChain, tApp, LamX.tLam, tRevLN, rCatN, rInTN, rInLN, flatV, inV, List.all_cons, List.all_nil, List.any_cons, List.any_nil, Bool.and_self, Bool.and_true, if_true, Bool.false_eq_true, if_false, tMt, tFldN, tSto, HO.ins.injEq, lkh, List.drop_zero, List.drop_succ_cons, List.drop_nil, rListS, wipe, L2.start, List.map_cons, List.map_nil, List.length_cons, List.length_nil, List.replicate, List.cons_append, List.nil_append, List.append_nil, Nat.reduceAdd, Nat.reduceSub, Nat.zero_add, List.replicate_succ, List.replicate_zero, List.getElem?_cons_zero, List.getElem?_cons_succ, List.set_cons_zero, List.set_cons_succ, Option.some.injEq, V.int.injEq, V.bl.injEq, V.ref.injEq, V.str.injEq, V.ty.injEq, List.cons.injEq, HO.tup.injEq, HO.lst.injEq, and_true, true_and, and_assoc, exists_eq_left, exists_eq_left', exists_and_left, exists_eq', atI0, atI1, atI2, atI3, Int.cast_ofNat_Int, Int.reduceToNat, scal_ii, scal_in, scal_ni, scal_nn, scal_bb, scal_ss, scal_sn, scal_ns, scal_bn, scal_nb, ite_iff, decide_eq_true_eq, decide_eq_false_iff_not, Bool.not_eq_true', Classical.not_not, ne_eq, not_false_eq_true, not_true_eq_false, forall_const, true_implies, false_implies, imp_self, sizeLine_eq, Nat.reduceLeDiff, reduceCtorEq, decide_true, decide_false])
section
variable {P : Program} {w : World} {K : PySem.W.Frag} {mg : Str → Option Value} {base : Heap}
/-! ### rows of figures -/
def figL : List Nat := [48, 49, 50, 51, 52, 53, 54, 55, 56, 57]
def figB (c : Nat) : Bool := decide (c ∈ figL)
theorem figB_iff {c : Nat} : figB c = true ↔ 48 ≤ c ∧ c ≤ 57 := by
  unfold figB figL
  rw [decide_eq_true_eq]
  simp only [List.mem_cons, List.not_mem_nil, or_false]
  omega
def spFig (K : PySem.W.Frag) : Sp := fun vs H Q _ => ∃ v m, vs = [v, .int m] ∧ ((∃ t, TyX K H v t ∧ PySem.W.kitOne K t (.type "str") = some false ∧ Q (.bl false) H) ∨ ∃ l, v = .str (S l) ∧ l.length ≤ 1000 ∧ ∀ H', Same H H' → Q (.bl (decide ((l.length : Int) = m) && l.all figB)) H')
theorem o__is_row_of_figures (T : Txt K mg) : OkF P w K mg base CX0 1 "_is_row_of_figures" ["row", "many"] (spFig K) := by
  obtain ⟨f, fd, g, F⟩ := T.d__is_row_of_figures
  refine ⟨f, fd, g, F.kp, F.binds (fun _ _ _ _ _ _ us hl => match us, hl with | [_, _], _ => rfl), F.ok sc__is_row_of_figures (fun vs H Q E h => ?_) (fun cdv A outer s H vs Q E hr h => ?_)⟩
  · first | (obtain ⟨_, rfl, _⟩ := h; rfl) | (obtain ⟨_, _, rfl, _⟩ := h; rfl) | (obtain ⟨_, _, _, rfl, _⟩ := h; rfl) | (obtain ⟨_, _, _, _, rfl, _⟩ := h; rfl) | (obtain ⟨_, _, _, _, _, rfl, _⟩ := h; rfl) | (obtain ⟨_, _, _, _, _, _, rfl, _⟩ := h; rfl) | (obtain ⟨_, _, _, _, _, _, _, rfl, _⟩ := h; rfl)
  have hu64 := hr.units
  refine ⟨_, pss_one (ps_ret (pe_and (pe_callB call_isTy (by rfl) T.m_isinstance (by decide +kernel) (pa_cons (pv 0) (pa_cons ((pe_bltn (v := .ty "str") (by rfl) T.m_str (by decide +kernel) rfl)) pa_nil))) (pe_and (pe_cmpR op_eq (pe_callB call_lenZ (by rfl) T.m_len (by decide +kernel) (pa_cons (pv 0) pa_nil)) (pv 1) (nomark _)) (pe_one (pe_callB (cr_all rfl) (by rfl) T.m_all (by decide +kernel) (pa_cons (pe_lc (own := [("sign", 2)]) (g := gName 2) (by rfl) sc__is_row_of_figures.nd (pi_str (pv 0)) (blkOk_by (N := ["row", "many", "sign"]) (sc := defScope s__is_row_of_figures) (own := [("sign", 2)]) (by decide +kernel)) (fun _ _ _ _ _ => pg_name (i := 2) sc__is_row_of_figures.nd rfl (Or.inl rfl)) (fun _ _ _ _ _ => pts_nil) (fun _ _ _ _ _ => pe_cmpR op_inZ (pv 2) ((pe_glS T.k_FIGURES)) (by rfl))) pa_nil)))))), ?_⟩
  obtain ⟨v, m, rfl, h⟩ := h
  simp only [exists_and_left, S_eq, tD1, rTupN, rAddZ, rSlZ, rIxZ, rInZ, rIntZ, rStrZ, rLenZ, rRepZ, tJoinZ, tJoinG, rCntZ, rTupG, rAll, rMax2, rMin2, tSl, tPart, tNoPart, rSlLN, rSlG, gUnlN, tYes, rLenS, rRepN, unset, calmS, cx_K, Value.ref.injEq, HO.xd.injEq, lk0, tSeq, tPar3, tPar, tCons, tNil, tVar, tC, tAsg, gName, gCons, gNil, gTupN, gSub, tOp, rI, rI0, rU, tTest, rNe, rEq, rIxTN, rIxLN, rLenL, rLenT, rIntI, rIntB, rAbs, rSetLN, tTruL, tRaiseX, rIsTy, rIsOw, ixN0, ixN1, tRet, tIf, tIfS, tNext, tBreak, tCont, tDrop, tTupN, tLstN, tUn, tCB, tCall, tNot, tAnd, tOr, tB, tAndV, tOrV, tNotV, tChain, tApp, LamX.tLam, tRevLN, rCatN, rInTN, rInLN, flatV, inV, List.all_cons, List.all_nil, List.any_cons, List.any_nil, Bool.and_self, Bool.and_true, if_true, Bool.false_eq_true, if_false, tMt, tFldN, tSto, HO.ins.injEq, lkh, List.drop_zero, List.drop_succ_cons, List.drop_nil, rListS, wipe, L2.start, List.map_cons, List.map_nil, List.length_cons, List.length_nil, List.replicate, List.cons_append, List.nil_append, List.append_nil, Nat.reduceAdd, Nat.reduceSub, Nat.zero_add, List.replicate_succ, List.replicate_zero, List.getElem?_cons_zero, List.getElem?_cons_succ, List.set_cons_zero, List.set_cons_succ, Option.some.injEq, V.int.injEq, V.bl.injEq, V.ref.injEq, V.str.injEq, V.ty.injEq, List.cons.injEq, HO.tup.injEq, HO.lst.injEq, and_true, true_and, and_assoc, exists_eq_left, exists_eq_left', exists_and_left, exists_eq', atI0, atI1, atI2, atI3, Int.cast_ofNat_Int, Int.reduceToNat, scal_ii, scal_in, scal_ni, scal_nn, scal_bb, scal_ss, scal_sn, scal_ns, scal_bn, scal_nb, ite_iff, decide_eq_true_eq, decide_eq_false_iff_not, Bool.not_eq_true', Classical.not_not, ne_eq, not_false_eq_true, not_true_eq_false, forall_const, true_implies, false_implies, imp_self, sizeLine_eq, Nat.reduceLeDiff, reduceCtorEq, decide_true, decide_false]
  rcases h with ⟨t, ty, e, k⟩ | ⟨l, rfl, hl, k⟩
  · exact ⟨t, ty, false, e, fun h => (by cases h), fun _ => k⟩
  · refine ⟨_, .base (.str _), true, kit_ty (by decide +kernel), fun _ => ?_, fun h => absurd rfl h⟩
    simp only [S_len', exists_and_left, S_eq, tD1, rTupN, rAddZ, rSlZ, rIxZ, rInZ, rIntZ, rStrZ, rLenZ, rRepZ, tJoinZ, tJoinG, rCntZ, rTupG, rAll, rMax2, rMin2, tSl, tPart, tNoPart, rSlLN, rSlG, gUnlN, tYes, rLenS, rRepN, unset, calmS, cx_K, Value.ref.injEq, HO.xd.injEq, lk0, tSeq, tPar3, tPar, tCons, tNil, tVar, tC, tAsg, gName, gCons, gNil, gTupN, gSub, tOp, rI, rI0, rU, tTest, rNe, rEq, rIxTN, rIxLN, rLenL, rLenT, rIntI, rIntB, rAbs, rSetLN, tTruL, tRaiseX, rIsTy, rIsOw, ixN0, ixN1, tRet, tIf, tIfS, tNext, tBreak, tCont, tDrop, tTupN, tLstN, tUn, tCB, tCall, tNot, tAnd, tOr, tB, tAndV, tOrV, tNotV, tChain, tApp, LamX.tLam, tRevLN, rCatN, rInTN, rInLN, flatV, inV, List.all_cons, List.all_nil, List.any_cons, List.any_nil, Bool.and_self, Bool.and_true, if_true, Bool.false_eq_true, if_false, tMt, tFldN, tSto, HO.ins.injEq, lkh, List.drop_zero, List.drop_succ_cons, List.drop_nil, rListS, wipe, L2.start, List.map_cons, List.map_nil, List.length_cons, List.length_nil, List.replicate, List.cons_append, List.nil_append, List.append_nil, Nat.reduceAdd, Nat.reduceSub, Nat.zero_add, List.replicate_succ, List.replicate_zero, List.getElem?_cons_zero, List.getElem?_cons_succ, List.set_cons_zero, List.set_cons_succ, Option.some.injEq, V.int.injEq, V.bl.injEq, V.ref.injEq, V.str.injEq, V.ty.injEq, List.cons.injEq, HO.tup.injEq, HO.lst.injEq, and_true, true_and, and_assoc, exists_eq_left, exists_eq_left', exists_and_left, exists_eq', atI0, atI1, atI2, atI3, Int.cast_ofNat_Int, Int.reduceToNat, scal_ii, scal_in, scal_ni, scal_nn, scal_bb, scal_ss, scal_sn, scal_ns, scal_bn, scal_nb, ite_iff, decide_eq_true_eq, decide_eq_false_iff_not, Bool.not_eq_true', Classical.not_not, ne_eq, not_false_eq_true, not_true_eq_false, forall_const, true_implies, false_implies, imp_self, sizeLine_eq, Nat.reduceLeDiff, reduceCtorEq, decide_true, decide_false]
    refine ⟨by omega, fun e => ?_, fun e => ?_⟩
    · refine st_lcZ (fun R r => (by simp only [exists_and_left, S_eq, tD1, rTupN, rAddZ, rSlZ, rIxZ, rInZ, rIntZ, rStrZ, rLenZ, rRepZ, tJoinZ, tJoinG, rCntZ, rTupG, rAll, rMax2, rMin2, tSl, tPart, tNoPart, rSlLN, rSlG, gUnlN, tYes, rLenS, rRepN, unset, calmS, cx_K, Value.ref.injEq, HO.xd.injEq, lk0, tSeq, tPar3, tPar, tCons, tNil, tVar, tC, tAsg, gName, gCons, gNil, gTupN, gSub, tOp, rI, rI0, rU, tTest, rNe, rEq, rIxTN, rIxLN, rLenL, rLenT, rIntI, rIntB, rAbs, rSetLN, tTruL, tRaiseX, rIsTy, rIsOw, ixN0, ixN1, tRet, tIf, tIfS, tNext, tBreak, tCont, tDrop, tTupN, tLstN, tUn, tCB, tCall, tNot, tAnd, tOr, tB, tAndV, tOrV, tNotV, tChain, tApp, LamX.tLam, tRevLN, rCatN, rInTN, rInLN, flatV, inV, List.all_cons, List.all_nil, List.any_cons, List.any_nil, Bool.and_self, Bool.and_true, if_true, Bool.false_eq_true, if_false, tMt, tFldN, tSto, HO.ins.injEq, lkh, List.drop_zero, List.drop_succ_cons, List.drop_nil, rListS, wipe, L2.start, List.map_cons, List.map_nil, List.length_cons, List.length_nil, List.replicate, List.cons_append, List.nil_append, List.append_nil, Nat.reduceAdd, Nat.reduceSub, Nat.zero_add, List.replicate_succ, List.replicate_zero, List.getElem?_cons_zero, List.getElem?_cons_succ, List.set_cons_zero, List.set_cons_succ, Option.some.injEq, V.int.injEq, V.bl.injEq, V.ref.injEq, V.str.injEq, V.ty.injEq, List.cons.injEq, HO.tup.injEq, HO.lst.injEq, and_true, true_and, and_assoc, exists_eq_left, exists_eq_left', exists_and_left, exists_eq', atI0, atI1, atI2, atI3, Int.cast_ofNat_Int, Int.reduceToNat, scal_ii, scal_in, scal_ni, scal_nn, scal_bb, scal_ss, scal_sn, scal_ns, scal_bn, scal_nb, ite_iff, decide_eq_true_eq, decide_eq_false_iff_not, Bool.not_eq_true', Classical.not_not, ne_eq, not_false_eq_true, not_true_eq_false, forall_const, true_implies, false_implies, imp_self, sizeLine_eq, Nat.reduceLeDiff, reduceCtorEq, decide_true, decide_false]; exact r)) hl (fun c => .bl (figB c)) (fun c H1 R R2 hc s1 r => ?_) (fun D H1 s1 h1 => ?_)
      · simp only [exists_and_left, S_eq, tD1, rTupN, rAddZ, rSlZ, rIxZ, rInZ, rIntZ, rStrZ, rLenZ, rRepZ, tJoinZ, tJoinG, rCntZ, rTupG, rAll, rMax2, rMin2, tSl, tPart, tNoPart, rSlLN, rSlG, gUnlN, tYes, rLenS, rRepN, unset, calmS, cx_K, Value.ref.injEq, HO.xd.injEq, lk0, tSeq, tPar3, tPar, tCons, tNil, tVar, tC, tAsg, gName, gCons, gNil, gTupN, gSub, tOp, rI, rI0, rU, tTest, rNe, rEq, rIxTN, rIxLN, rLenL, rLenT, rIntI, rIntB, rAbs, rSetLN, tTruL, tRaiseX, rIsTy, rIsOw, ixN0, ixN1, tRet, tIf, tIfS, tNext, tBreak, tCont, tDrop, tTupN, tLstN, tUn, tCB, tCall, tNot, tAnd, tOr, tB, tAndV, tOrV, tNotV, tChain, tApp, LamX.tLam, tRevLN, rCatN, rInTN, rInLN, flatV, inV, List.all_cons, List.all_nil, List.any_cons, List.any_nil, Bool.and_self, Bool.and_true, if_true, Bool.false_eq_true, if_false, tMt, tFldN, tSto, HO.ins.injEq, lkh, List.drop_zero, List.drop_succ_cons, List.drop_nil, rListS, wipe, L2.start, List.map_cons, List.map_nil, List.length_cons, List.length_nil, List.replicate, List.cons_append, List.nil_append, List.append_nil, Nat.reduceAdd, Nat.reduceSub, Nat.zero_add, List.replicate_succ, List.replicate_zero, List.getElem?_cons_zero, List.getElem?_cons_succ, List.set_cons_zero, List.set_cons_succ, Option.some.injEq, V.int.injEq, V.bl.injEq, V.ref.injEq, V.str.injEq, V.ty.injEq, List.cons.injEq, HO.tup.injEq, HO.lst.injEq, and_true, true_and, and_assoc, exists_eq_left, exists_eq_left', exists_and_left, exists_eq', atI0, atI1, atI2, atI3, Int.cast_ofNat_Int, Int.reduceToNat, scal_ii, scal_in, scal_ni, scal_nn, scal_bb, scal_ss, scal_sn, scal_ns, scal_bn, scal_nb, ite_iff, decide_eq_true_eq, decide_eq_false_iff_not, Bool.not_eq_true', Classical.not_not, ne_eq, not_false_eq_true, not_true_eq_false, forall_const, true_implies, false_implies, imp_self, sizeLine_eq, Nat.reduceLeDiff, reduceCtorEq, decide_true, decide_false]
        exact r
      · refine ⟨D, rfl, l.map figB, SqL.of ?_, ?_⟩
        · rw [h1, List.map_map]; rfl
        · have := k H1 s1
          rw [decide_eq_true e, Bool.true_and] at this
          rw [List.all_map]; exact this
    · have := k H (fun _ _ h => h)
      rw [decide_eq_false e, Bool.false_and] at this
      exact this
def spTurn : Sp := fun vs H Q _ => ∃ l i, vs = [.str (S l), .int i] ∧ 0 ≤ i ∧ l.length ≤ 1000 ∧ Q (.str (S (tn i.toNat l))) H
theorem o__turned_row (T : Txt K mg) : OkF P w K mg base CX0 1 "_turned_row" ["row", "by"] spTurn := by
  obtain ⟨f, fd, g, F⟩ := T.d__turned_row
  refine ⟨f, fd, g, F.kp, F.binds (fun _ _ _ _ _ _ us hl => match us, hl with | [_, _], _ => rfl), F.ok sc__turned_row (fun vs H Q E h => ?_) (fun cdv A outer s H vs Q E hr h => ?_)⟩
  · first | (obtain ⟨_, rfl, _⟩ := h; rfl) | (obtain ⟨_, _, rfl, _⟩ := h; rfl) | (obtain ⟨_, _, _, rfl, _⟩ := h; rfl) | (obtain ⟨_, _, _, _, rfl, _⟩ := h; rfl) | (obtain ⟨_, _, _, _, _, rfl, _⟩ := h; rfl) | (obtain ⟨_, _, _, _, _, _, rfl, _⟩ := h; rfl) | (obtain ⟨_, _, _, _, _, _, _, rfl, _⟩ := h; rfl)
  have hu64 := hr.units
  refine ⟨_, pss_one (ps_ret (pe_op op_addZ (pe_slice sl_strZ (pv 0) (po_some (pv 1)) (po_none)) (pe_slice sl_strZ (pv 0) (po_none) (po_some (pv 1))))), ?_⟩
  obtain ⟨l, i, rfl, i0, hl, k⟩ := h
  simp only [exists_and_left, S_eq, tD1, rTupN, rAddZ, rSlZ, rIxZ, rInZ, rIntZ, rStrZ, rLenZ, rRepZ, tJoinZ, tJoinG, rCntZ, rTupG, rAll, rMax2, rMin2, tSl, tPart, tNoPart, rSlLN, rSlG, gUnlN, tYes, rLenS, rRepN, unset, calmS, cx_K, Value.ref.injEq, HO.xd.injEq, lk0, tSeq, tPar3, tPar, tCons, tNil, tVar, tC, tAsg, gName, gCons, gNil, gTupN, gSub, tOp, rI, rI0, rU, tTest, rNe, rEq, rIxTN, rIxLN, rLenL, rLenT, rIntI, rIntB, rAbs, rSetLN, tTruL, tRaiseX, rIsTy, rIsOw, ixN0, ixN1, tRet, tIf, tIfS, tNext, tBreak, tCont, tDrop, tTupN, tLstN, tUn, tCB, tCall, tNot, tAnd, tOr, tB, tAndV, tOrV, tNotV, tChain, tApp, LamX.tLam, tRevLN, rCatN, rInTN, rInLN, flatV, inV, List.all_cons, List.all_nil, List.any_cons, List.any_nil, Bool.and_self, Bool.and_true, if_true, Bool.false_eq_true, if_false, tMt, tFldN, tSto, HO.ins.injEq, lkh, List.drop_zero, List.drop_succ_cons, List.drop_nil, rListS, wipe, L2.start, List.map_cons, List.map_nil, List.length_cons, List.length_nil, List.replicate, List.cons_append, List.nil_append, List.append_nil, Nat.reduceAdd, Nat.reduceSub, Nat.zero_add, List.replicate_succ, List.replicate_zero, List.getElem?_cons_zero, List.getElem?_cons_succ, List.set_cons_zero, List.set_cons_succ, Option.some.injEq, V.int.injEq, V.bl.injEq, V.ref.injEq, V.str.injEq, V.ty.injEq, List.cons.injEq, HO.tup.injEq, HO.lst.injEq, and_true, true_and, and_assoc, exists_eq_left, exists_eq_left', exists_and_left, exists_eq', atI0, atI1, atI2, atI3, Int.cast_ofNat_Int, Int.reduceToNat, scal_ii, scal_in, scal_ni, scal_nn, scal_bb, scal_ss, scal_sn, scal_ns, scal_bn, scal_nb, ite_iff, decide_eq_true_eq, decide_eq_false_iff_not, Bool.not_eq_true', Classical.not_not, ne_eq, not_false_eq_true, not_true_eq_false, forall_const, true_implies, false_implies, imp_self, sizeLine_eq, Nat.reduceLeDiff, reduceCtorEq, decide_true, decide_false]
  rw [cutZ_from i0, cutZ_to i0]
  refine ⟨by omega, by omega, ?_, k⟩
  rw [List.length_drop, List.length_take]; omega
def spLW (K : PySem.W.Frag) : Sp := fun vs H Q _ => ∃ p, vs = [.ref p] ∧ ∃ rows a d, SqT K H p (strsV rows) ∧ RowsOk a d rows ∧ a ≤ 1000 ∧ d ≤ 1000 ∧ ∀ (w : Nat) H', Same H H' → 1 ≤ w → w ≤ a → (∀ r ∈ rows, tn w r = r) → (∀ v, 1 ≤ v → v < w → ¬ ∀ r ∈ rows, tn v r = r) → Q (.int w) H'
theorem o__least_width (T : Txt K mg) : OkF P w K mg base CX0 2 "_least_width" ["rows"] (spLW K) := by
  have o__turned_row := o__turned_row (P := P) (w := w) (base := base) T
  obtain ⟨f, fd, g, F⟩ := T.d__least_width
  refine ⟨f, fd, g, F.kp, F.binds (fun _ _ _ _ _ _ us hl => match us, hl with | [_], _ => rfl), F.ok sc__least_width (fun vs H Q E h => ?_) (fun cdv A outer s H vs Q E hr h => ?_)⟩
  · first | (obtain ⟨_, rfl, _⟩ := h; rfl) | (obtain ⟨_, _, rfl, _⟩ := h; rfl) | (obtain ⟨_, _, _, rfl, _⟩ := h; rfl) | (obtain ⟨_, _, _, _, rfl, _⟩ := h; rfl) | (obtain ⟨_, _, _, _, _, rfl, _⟩ := h; rfl) | (obtain ⟨_, _, _, _, _, _, rfl, _⟩ := h; rfl) | (obtain ⟨_, _, _, _, _, _, _, rfl, _⟩ := h; rfl)
  have hu64 := hr.units
  refine ⟨_, pss_cons (ps_set (i := 1) sc__least_width.nd rfl (Or.inr rfl) (pe_int))
      (pss_cons (ps_while PassesOwn.never (PTm (pt_not (pt_truth (pe_callB (cr_all rfl) (by rfl) T.m_all (by decide +kernel) (pa_cons (pe_lc (own := [("row", 2)]) (g := gName 2) (by rfl) sc__least_width.nd (pi_tup (pv 0)) (blkOk_by (N := ["rows", "wide", "row"]) (sc := defScope s__least_width) (own := [("row", 2)]) (by decide +kernel)) (fun _ _ _ _ _ => pg_name (i := 2) sc__least_width.nd rfl (Or.inl rfl)) (fun _ _ _ _ _ => pts_nil) (fun _ _ _ _ _ => pe_cmpR op_eq (pcl o__turned_row (hr.mono (by decide)) pass0 (pa_cons (pv 2) (pa_cons (pv 1) pa_nil))) (pv 2) (nomark _))) pa_nil)) (by intro _; rfl)))) (pss_one (ps_set (i := 1) sc__least_width.nd rfl (Or.inr rfl) (pe_op op_add (pv 1) (pe_int)))))
      (pss_one (ps_ret (pv 1)))), ?_⟩
  obtain ⟨p, rfl, rows, a, d, hp, R, ha, hd, k⟩ := h
  have a1 := R.a1
  simp only [exists_and_left, S_eq, tD1, rTupN, rAddZ, rSlZ, rIxZ, rInZ, rIntZ, rStrZ, rLenZ, rRepZ, tJoinZ, tJoinG, rCntZ, rTupG, rAll, rMax2, rMin2, tSl, tPart, tNoPart, rSlLN, rSlG, gUnlN, tYes, rLenS, rRepN, unset, calmS, cx_K, Value.ref.injEq, HO.xd.injEq, lk0, tSeq, tPar3, tPar, tCons, tNil, tVar, tC, tAsg, gName, gCons, gNil, gTupN, gSub, tOp, rI, rI0, rU, tTest, rNe, rEq, rIxTN, rIxLN, rLenL, rLenT, rIntI, rIntB, rAbs, rSetLN, tTruL, tRaiseX, rIsTy, rIsOw, ixN0, ixN1, tRet, tIf, tIfS, tNext, tBreak, tCont, tDrop, tTupN, tLstN, tUn, tCB, tCall, tNot, tAnd, tOr, tB, tAndV, tOrV, tNotV, tChain, tApp, LamX.tLam, tRevLN, rCatN, rInTN, rInLN, flatV, inV, List.all_cons, List.all_nil, List.any_cons, List.any_nil, Bool.and_self, Bool.and_true, if_true, Bool.false_eq_true, if_false, tMt, tFldN, tSto, HO.ins.injEq, lkh, List.drop_zero, List.drop_succ_cons, List.drop_nil, rListS, wipe, L2.start, List.map_cons, List.map_nil, List.length_cons, List.length_nil, List.replicate, List.cons_append, List.nil_append, List.append_nil, Nat.reduceAdd, Nat.reduceSub, Nat.zero_add, List.replicate_succ, List.replicate_zero, List.getElem?_cons_zero, List.getElem?_cons_succ, List.set_cons_zero, List.set_cons_succ, Option.some.injEq, V.int.injEq, V.bl.injEq, V.ref.injEq, V.str.injEq, V.ty.injEq, List.cons.injEq, HO.tup.injEq, HO.lst.injEq, and_true, true_and, and_assoc, exists_eq_left, exists_eq_left', exists_and_left, exists_eq', atI0, atI1, atI2, atI3, Int.cast_ofNat_Int, Int.reduceToNat, scal_ii, scal_in, scal_ni, scal_nn, scal_bb, scal_ss, scal_sn, scal_ns, scal_bn, scal_nb, ite_iff, decide_eq_true_eq, decide_eq_false_iff_not, Bool.not_eq_true', Classical.not_not, ne_eq, not_false_eq_true, not_true_eq_false, forall_const, true_implies, false_implies, imp_self, sizeLine_eq, Nat.reduceLeDiff, reduceCtorEq, decide_true, decide_false]
  refine while_by (fun σ' H' => ∃ (w : Nat) (r : Option V), σ' = [some (V.ref p), some (V.int w), r] ∧ Same H H' ∧ 1 ≤ w ∧ w ≤ a ∧ ∀ v, 1 ≤ v → v < w → ¬ ∀ r ∈ rows, tn v r = r)
    (fun σ' _ => match σ' with | [_, some (.int w), _] => a - w.toNat | _ => 0) ⟨1, none, rfl, fun _ _ h => h, Nat.le_refl _, a1, fun v h1 h2 => by omega⟩ ?_ mono_mcl
  rintro _ H1 ⟨w, r, rfl, s1, w1, wa, hw⟩
  refine ⟨_, ?_, fun b H2 q => q⟩
  simp only [exists_and_left, S_eq, tD1, rTupN, rAddZ, rSlZ, rIxZ, rInZ, rIntZ, rStrZ, rLenZ, rRepZ, tJoinZ, tJoinG, rCntZ, rTupG, rAll, rMax2, rMin2, tSl, tPart, tNoPart, rSlLN, rSlG, gUnlN, tYes, rLenS, rRepN, unset, calmS, cx_K, Value.ref.injEq, HO.xd.injEq, lk0, tSeq, tPar3, tPar, tCons, tNil, tVar, tC, tAsg, gName, gCons, gNil, gTupN, gSub, tOp, rI, rI0, rU, tTest, rNe, rEq, rIxTN, rIxLN, rLenL, rLenT, rIntI, rIntB, rAbs, rSetLN, tTruL, tRaiseX, rIsTy, rIsOw, ixN0, ixN1, tRet, tIf, tIfS, tNext, tBreak, tCont, tDrop, tTupN, tLstN, tUn, tCB, tCall, tNot, tAnd, tOr, tB, tAndV, tOrV, tNotV, tChain, tApp, LamX.tLam, tRevLN, rCatN, rInTN, rInLN, flatV, inV, List.all_cons, List.all_nil, List.any_cons, List.any_nil, Bool.and_self, Bool.and_true, if_true, Bool.false_eq_true, if_false, tMt, tFldN, tSto, HO.ins.injEq, lkh, List.drop_zero, List.drop_succ_cons, List.drop_nil, rListS, wipe, L2.start, List.map_cons, List.map_nil, List.length_cons, List.length_nil, List.replicate, List.cons_append, List.nil_append, List.append_nil, Nat.reduceAdd, Nat.reduceSub, Nat.zero_add, List.replicate_succ, List.replicate_zero, List.getElem?_cons_zero, List.getElem?_cons_succ, List.set_cons_zero, List.set_cons_succ, Option.some.injEq, V.int.injEq, V.bl.injEq, V.ref.injEq, V.str.injEq, V.ty.injEq, List.cons.injEq, HO.tup.injEq, HO.lst.injEq, and_true, true_and, and_assoc, exists_eq_left, exists_eq_left', exists_and_left, exists_eq', atI0, atI1, atI2, atI3, Int.cast_ofNat_Int, Int.reduceToNat, scal_ii, scal_in, scal_ni, scal_nn, scal_bb, scal_ss, scal_sn, scal_ns, scal_bn, scal_nb, ite_iff, decide_eq_true_eq, decide_eq_false_iff_not, Bool.not_eq_true', Classical.not_not, ne_eq, not_false_eq_true, not_true_eq_false, forall_const, true_implies, false_implies, imp_self, sizeLine_eq, Nat.reduceLeDiff, reduceCtorEq, decide_true, decide_false]
  refine st_lcQ (fun R r => (by simp only [exists_and_left, S_eq, tD1, rTupN, rAddZ, rSlZ, rIxZ, rInZ, rIntZ, rStrZ, rLenZ, rRepZ, tJoinZ, tJoinG, rCntZ, rTupG, rAll, rMax2, rMin2, tSl, tPart, tNoPart, rSlLN, rSlG, gUnlN, tYes, rLenS, rRepN, unset, calmS, cx_K, Value.ref.injEq, HO.xd.injEq, lk0, tSeq, tPar3, tPar, tCons, tNil, tVar, tC, tAsg, gName, gCons, gNil, gTupN, gSub, tOp, rI, rI0, rU, tTest, rNe, rEq, rIxTN, rIxLN, rLenL, rLenT, rIntI, rIntB, rAbs, rSetLN, tTruL, tRaiseX, rIsTy, rIsOw, ixN0, ixN1, tRet, tIf, tIfS, tNext, tBreak, tCont, tDrop, tTupN, tLstN, tUn, tCB, tCall, tNot, tAnd, tOr, tB, tAndV, tOrV, tNotV, tChain, tApp, LamX.tLam, tRevLN, rCatN, rInTN, rInLN, flatV, inV, List.all_cons, List.all_nil, List.any_cons, List.any_nil, Bool.and_self, Bool.and_true, if_true, Bool.false_eq_true, if_false, tMt, tFldN, tSto, HO.ins.injEq, lkh, List.drop_zero, List.drop_succ_cons, List.drop_nil, rListS, wipe, L2.start, List.map_cons, List.map_nil, List.length_cons, List.length_nil, List.replicate, List.cons_append, List.nil_append, List.append_nil, Nat.reduceAdd, Nat.reduceSub, Nat.zero_add, List.replicate_succ, List.replicate_zero, List.getElem?_cons_zero, List.getElem?_cons_succ, List.set_cons_zero, List.set_cons_succ, Option.some.injEq, V.int.injEq, V.bl.injEq, V.ref.injEq, V.str.injEq, V.ty.injEq, List.cons.injEq, HO.tup.injEq, HO.lst.injEq, and_true, true_and, and_assoc, exists_eq_left, exists_eq_left', exists_and_left, exists_eq', atI0, atI1, atI2, atI3, Int.cast_ofNat_Int, Int.reduceToNat, scal_ii, scal_in, scal_ni, scal_nn, scal_bb, scal_ss, scal_sn, scal_ns, scal_bn, scal_nb, ite_iff, decide_eq_true_eq, decide_eq_false_iff_not, Bool.not_eq_true', Classical.not_not, ne_eq, not_false_eq_true, not_true_eq_false, forall_const, true_implies, false_implies, imp_self, sizeLine_eq, Nat.reduceLeDiff, reduceCtorEq, decide_true, decide_false]; exact r)) (SqT.same hp s1) (by rw [R.len]; exact hd) (fun l => .bl (decide (tn w l = l))) (fun l H2 R' R2 hl s2 r => ?_) (fun D H2 s2 h2 => ?_)
  · have ll := R.all l hl
    simp only [spTurn, exists_and_left, S_eq, tD1, rTupN, rAddZ, rSlZ, rIxZ, rInZ, rIntZ, rStrZ, rLenZ, rRepZ, tJoinZ, tJoinG, rCntZ, rTupG, rAll, rMax2, rMin2, tSl, tPart, tNoPart, rSlLN, rSlG, gUnlN, tYes, rLenS, rRepN, unset, calmS, cx_K, Value.ref.injEq, HO.xd.injEq, lk0, tSeq, tPar3, tPar, tCons, tNil, tVar, tC, tAsg, gName, gCons, gNil, gTupN, gSub, tOp, rI, rI0, rU, tTest, rNe, rEq, rIxTN, rIxLN, rLenL, rLenT, rIntI, rIntB, rAbs, rSetLN, tTruL, tRaiseX, rIsTy, rIsOw, ixN0, ixN1, tRet, tIf, tIfS, tNext, tBreak, tCont, tDrop, tTupN, tLstN, tUn, tCB, tCall, tNot, tAnd, tOr, tB, tAndV, tOrV, tNotV, tChain, tApp, LamX.tLam, tRevLN, rCatN, rInTN, rInLN, flatV, inV, List.all_cons, List.all_nil, List.any_cons, List.any_nil, Bool.and_self, Bool.and_true, if_true, Bool.false_eq_true, if_false, tMt, tFldN, tSto, HO.ins.injEq, lkh, List.drop_zero, List.drop_succ_cons, List.drop_nil, rListS, wipe, L2.start, List.map_cons, List.map_nil, List.length_cons, List.length_nil, List.replicate, List.cons_append, List.nil_append, List.append_nil, Nat.reduceAdd, Nat.reduceSub, Nat.zero_add, List.replicate_succ, List.replicate_zero, List.getElem?_cons_zero, List.getElem?_cons_succ, List.set_cons_zero, List.set_cons_succ, Option.some.injEq, V.int.injEq, V.bl.injEq, V.ref.injEq, V.str.injEq, V.ty.injEq, List.cons.injEq, HO.tup.injEq, HO.lst.injEq, and_true, true_and, and_assoc, exists_eq_left, exists_eq_left', exists_and_left, exists_eq', atI0, atI1, atI2, atI3, Int.cast_ofNat_Int, Int.reduceToNat, scal_ii, scal_in, scal_ni, scal_nn, scal_bb, scal_ss, scal_sn, scal_ns, scal_bn, scal_nb, ite_iff, decide_eq_true_eq, decide_eq_false_iff_not, Bool.not_eq_true', Classical.not_not, ne_eq, not_false_eq_true, not_true_eq_false, forall_const, true_implies, false_implies, imp_self, sizeLine_eq, Nat.reduceLeDiff, reduceCtorEq, decide_true, decide_false]
    refine ⟨by omega, by omega, ?_⟩
    rw [Int.toNat_natCast]
    exact r
  · have e : (rows.map fun l => decide (tn w l = l)).all id = decide (∀ r ∈ rows, tn w r = r) := by rw [Bool.eq_iff_iff]; simp
    refine ⟨D, rfl, rows.map fun l => decide (tn w l = l), SqL.of (by rw [h2, List.map_map]; rfl), _, rfl, fun h => ?_, fun h => ?_⟩
    · rw [e, decide_eq_false_iff_not] at h
      have lt : w < a := by
        refine Nat.lt_of_le_of_ne wa fun z => h fun r hr => ?_
        subst z
        simp [tn, ← R.all r hr]
      refine ⟨⟨w + 1, by omega, s1.trans s2, by omega, by omega, fun v v1 v2 => ?_⟩, by omega⟩
      by_cases c : v = w
      · subst c; exact h
      · exact hw v v1 (by omega)
    · rw [e] at h
      exact k w H2 (s1.trans s2) w1 wa (by simpa using h) hw
def spAgain (K : PySem.W.Frag) : Sp := fun vs H Q _ => ∃ b p s y, vs = [.int b, .ref p, .int s, .int y] ∧ ∃ rows a d, SqT K H p (strsV rows) ∧ RowsOk a d rows ∧ a ≤ 1000 ∧ d ≤ 1000 ∧ 0 ≤ b ∧ b ≤ 1000 ∧ 0 ≤ s ∧ s ≤ 1000 ∧ 1 ≤ y ∧ y < d ∧ ∀ r H', Same H H' → (r = true ↔ again b rows s y.toNat) → Q (.bl r) H'
theorem o__comes_again (T : Txt K mg) : OkF P w K mg base CX0 2 "_comes_again" ["b", "rows", "s", "y"] (spAgain K) := by
  have o__turned_row := o__turned_row (P := P) (w := w) (base := base) T
  obtain ⟨f, fd, g, F⟩ := T.d__comes_again
  refine ⟨f, fd, g, F.kp, F.binds (fun _ _ _ _ _ _ us hl => match us, hl with | [_, _, _, _], _ => rfl), F.ok sc__comes_again (fun vs H Q E h => ?_) (fun cdv A outer s H vs Q E hr h => ?_)⟩
  · first | (obtain ⟨_, rfl, _⟩ := h; rfl) | (obtain ⟨_, _, rfl, _⟩ := h; rfl) | (obtain ⟨_, _, _, rfl, _⟩ := h; rfl) | (obtain ⟨_, _, _, _, rfl, _⟩ := h; rfl) | (obtain ⟨_, _, _, _, _, rfl, _⟩ := h; rfl) | (obtain ⟨_, _, _, _, _, _, rfl, _⟩ := h; rfl) | (obtain ⟨_, _, _, _, _, _, _, rfl, _⟩ := h; rfl)
  have hu64 := hr.units
  refine ⟨_, pss_cons (ps_set (i := 4) sc__comes_again.nd rfl (Or.inl rfl) (pe_callB call_len_seq (by rfl) T.m_len (by decide +kernel) (pa_cons (pv 1) pa_nil)))
      (pss_cons (ps_for PassesOwn.never rfl (pi_or (pi_enum rfl T.m_enumerate (pa_cons (pv 1) pa_nil)) (pi_enumG rfl T.m_enumerate (pa_cons (pv 1) pa_nil))) (pg_tupN (n := 2) (by rfl) (pgs_cons (pg_name (i := 5) sc__comes_again.nd rfl (Or.inl rfl)) (pgs_cons (pg_name (i := 6) sc__comes_again.nd rfl (Or.inl rfl)) pgs_nil))) (pss_cons (ps_set (i := 7) sc__comes_again.nd rfl (Or.inl rfl) (pe_op op_fdivW (pe_op op_add (pv 5) (pv 3)) (pv 4)))
      (pss_cons (ps_set (i := 8) sc__comes_again.nd rfl (Or.inl rfl) (pe_ix ix_tup (pv 1) (pe_op op_sub (pe_op op_add (pv 5) (pv 3)) (pe_op op_mulW (pv 7) (pv 4))) (fun _ _ => rfl)))
      (pss_one (ps_if (pt_cmpR op_ne (pcl o__turned_row (hr.mono (by decide)) pass0 (pa_cons (pv 8) (pa_cons (pe_op op_mod (pe_op op_sub (pv 2) (pe_op op_mulW (pv 0) (pv 7))) (pe_callB call_lenZ (by rfl) T.m_len (by decide +kernel) (pa_cons (pv 6) pa_nil))) pa_nil))) (pv 6) (nomark _)) (pss_one (ps_ret (pe_bl))) (pss_nil))))))
      (pss_one (ps_ret (pe_bl)))), ?_⟩
  obtain ⟨b, p, s, y, rfl, rows, a, d, hp, R, ha, hd, b0, b1, s0, s1, y1, yd, k⟩ := h
  have a1 := R.a1
  obtain ⟨Y, rfl⟩ := Int.eq_ofNat_of_zero_le (show 0 ≤ y by omega)
  rw [Int.toNat_natCast] at k
  have Rl := R.len
  simp only [exists_and_left, S_eq, tD1, rTupN, rAddZ, rSlZ, rIxZ, rInZ, rIntZ, rStrZ, rLenZ, rRepZ, tJoinZ, tJoinG, rCntZ, rTupG, rAll, rMax2, rMin2, tSl, tPart, tNoPart, rSlLN, rSlG, gUnlN, tYes, rLenS, rRepN, unset, calmS, cx_K, Value.ref.injEq, HO.xd.injEq, lk0, tSeq, tPar3, tPar, tCons, tNil, tVar, tC, tAsg, gName, gCons, gNil, gTupN, gSub, tOp, rI, rI0, rU, tTest, rNe, rEq, rIxTN, rIxLN, rLenL, rLenT, rIntI, rIntB, rAbs, rSetLN, tTruL, tRaiseX, rIsTy, rIsOw, ixN0, ixN1, tRet, tIf, tIfS, tNext, tBreak, tCont, tDrop, tTupN, tLstN, tUn, tCB, tCall, tNot, tAnd, tOr, tB, tAndV, tOrV, tNotV, tChain, tApp, LamX.tLam, tRevLN, rCatN, rInTN, rInLN, flatV, inV, List.all_cons, List.all_nil, List.any_cons, List.any_nil, Bool.and_self, Bool.and_true, if_true, Bool.false_eq_true, if_false, tMt, tFldN, tSto, HO.ins.injEq, lkh, List.drop_zero, List.drop_succ_cons, List.drop_nil, rListS, wipe, L2.start, List.map_cons, List.map_nil, List.length_cons, List.length_nil, List.replicate, List.cons_append, List.nil_append, List.append_nil, Nat.reduceAdd, Nat.reduceSub, Nat.zero_add, List.replicate_succ, List.replicate_zero, List.getElem?_cons_zero, List.getElem?_cons_succ, List.set_cons_zero, List.set_cons_succ, Option.some.injEq, V.int.injEq, V.bl.injEq, V.ref.injEq, V.str.injEq, V.ty.injEq, List.cons.injEq, HO.tup.injEq, HO.lst.injEq, and_true, true_and, and_assoc, exists_eq_left, exists_eq_left', exists_and_left, exists_eq', atI0, atI1, atI2, atI3, Int.cast_ofNat_Int, Int.reduceToNat, scal_ii, scal_in, scal_ni, scal_nn, scal_bb, scal_ss, scal_sn, scal_ns, scal_bn, scal_nb, ite_iff, decide_eq_true_eq, decide_eq_false_iff_not, Bool.not_eq_true', Classical.not_not, ne_eq, not_false_eq_true, not_true_eq_false, forall_const, true_implies, false_implies, imp_self, sizeLine_eq, Nat.reduceLeDiff, reduceCtorEq, decide_true, decide_false]
  refine ⟨_, .inr hp, ?_⟩
  refine st_forEG (H0 := H) (fun R' r => (by simp only [exists_and_left, S_eq, tD1, rTupN, rAddZ, rSlZ, rIxZ, rInZ, rIntZ, rStrZ, rLenZ, rRepZ, tJoinZ, tJoinG, rCntZ, rTupG, rAll, rMax2, rMin2, tSl, tPart, tNoPart, rSlLN, rSlG, gUnlN, tYes, rLenS, rRepN, unset, calmS, cx_K, Value.ref.injEq, HO.xd.injEq, lk0, tSeq, tPar3, tPar, tCons, tNil, tVar, tC, tAsg, gName, gCons, gNil, gTupN, gSub, tOp, rI, rI0, rU, tTest, rNe, rEq, rIxTN, rIxLN, rLenL, rLenT, rIntI, rIntB, rAbs, rSetLN, tTruL, tRaiseX, rIsTy, rIsOw, ixN0, ixN1, tRet, tIf, tIfS, tNext, tBreak, tCont, tDrop, tTupN, tLstN, tUn, tCB, tCall, tNot, tAnd, tOr, tB, tAndV, tOrV, tNotV, tChain, tApp, LamX.tLam, tRevLN, rCatN, rInTN, rInLN, flatV, inV, List.all_cons, List.all_nil, List.any_cons, List.any_nil, Bool.and_self, Bool.and_true, if_true, Bool.false_eq_true, if_false, tMt, tFldN, tSto, HO.ins.injEq, lkh, List.drop_zero, List.drop_succ_cons, List.drop_nil, rListS, wipe, L2.start, List.map_cons, List.map_nil, List.length_cons, List.length_nil, List.replicate, List.cons_append, List.nil_append, List.append_nil, Nat.reduceAdd, Nat.reduceSub, Nat.zero_add, List.replicate_succ, List.replicate_zero, List.getElem?_cons_zero, List.getElem?_cons_succ, List.set_cons_zero, List.set_cons_succ, Option.some.injEq, V.int.injEq, V.bl.injEq, V.ref.injEq, V.str.injEq, V.ty.injEq, List.cons.injEq, HO.tup.injEq, HO.lst.injEq, and_true, true_and, and_assoc, exists_eq_left, exists_eq_left', exists_and_left, exists_eq', atI0, atI1, atI2, atI3, Int.cast_ofNat_Int, Int.reduceToNat, scal_ii, scal_in, scal_ni, scal_nn, scal_bb, scal_ss, scal_sn, scal_ns, scal_bn, scal_nb, ite_iff, decide_eq_true_eq, decide_eq_false_iff_not, Bool.not_eq_true', Classical.not_not, ne_eq, not_false_eq_true, not_true_eq_false, forall_const, true_implies, false_implies, imp_self, sizeLine_eq, Nat.reduceLeDiff, reduceCtorEq, decide_true, decide_false]; exact r)) (.inr hp) (fun _ _ h => h) (fun i σ' H' => Same H H' ∧ (∀ j r, j < i → rows[j]? = some r → ∃ o, rows[(j + Y) % rows.length]? = some o ∧ tn ((s - b * (((j + Y) / rows.length : Nat) : Int)) % (r.length : Int)).toNat o = r) ∧
    ∃ x1 x2 x3 x4, σ' = [some (V.int b), some (V.ref p), some (V.int s), some (V.int Y), some (V.int rows.length), x1, x2, x3, x4]) ⟨fun _ _ h => h, fun j r h => (by omega), _, _, _, _, (by rw [strsV_len])⟩ (fun _ _ _ h => h.1) ?_ ?_
  · rintro i v T' _ H1 H2 hi ⟨s2, hw, x1, x2, x3, x4, rfl⟩ s3 hT'
    obtain ⟨r, hr, rfl⟩ := strsV_get' hi
    simp only [hT', exists_and_left, S_eq, tD1, rTupN, rAddZ, rSlZ, rIxZ, rInZ, rIntZ, rStrZ, rLenZ, rRepZ, tJoinZ, tJoinG, rCntZ, rTupG, rAll, rMax2, rMin2, tSl, tPart, tNoPart, rSlLN, rSlG, gUnlN, tYes, rLenS, rRepN, unset, calmS, cx_K, Value.ref.injEq, HO.xd.injEq, lk0, tSeq, tPar3, tPar, tCons, tNil, tVar, tC, tAsg, gName, gCons, gNil, gTupN, gSub, tOp, rI, rI0, rU, tTest, rNe, rEq, rIxTN, rIxLN, rLenL, rLenT, rIntI, rIntB, rAbs, rSetLN, tTruL, tRaiseX, rIsTy, rIsOw, ixN0, ixN1, tRet, tIf, tIfS, tNext, tBreak, tCont, tDrop, tTupN, tLstN, tUn, tCB, tCall, tNot, tAnd, tOr, tB, tAndV, tOrV, tNotV, tChain, tApp, LamX.tLam, tRevLN, rCatN, rInTN, rInLN, flatV, inV, List.all_cons, List.all_nil, List.any_cons, List.any_nil, Bool.and_self, Bool.and_true, if_true, Bool.false_eq_true, if_false, tMt, tFldN, tSto, HO.ins.injEq, lkh, List.drop_zero, List.drop_succ_cons, List.drop_nil, rListS, wipe, L2.start, List.map_cons, List.map_nil, List.length_cons, List.length_nil, List.replicate, List.cons_append, List.nil_append, List.append_nil, Nat.reduceAdd, Nat.reduceSub, Nat.zero_add, List.replicate_succ, List.replicate_zero, List.getElem?_cons_zero, List.getElem?_cons_succ, List.set_cons_zero, List.set_cons_succ, Option.some.injEq, V.int.injEq, V.bl.injEq, V.ref.injEq, V.str.injEq, V.ty.injEq, List.cons.injEq, HO.tup.injEq, HO.lst.injEq, and_true, true_and, and_assoc, exists_eq_left, exists_eq_left', exists_and_left, exists_eq', atI0, atI1, atI2, atI3, Int.cast_ofNat_Int, Int.reduceToNat, scal_ii, scal_in, scal_ni, scal_nn, scal_bb, scal_ss, scal_sn, scal_ns, scal_bn, scal_nb, ite_iff, decide_eq_true_eq, decide_eq_false_iff_not, Bool.not_eq_true', Classical.not_not, ne_eq, not_false_eq_true, not_true_eq_false, forall_const, true_implies, false_implies, imp_self, sizeLine_eq, Nat.reduceLeDiff, reduceCtorEq, decide_true, decide_false]
    have il : i < rows.length := (List.getElem?_eq_some_iff.mp hr).1
    have lr := R.all r (List.mem_of_getElem? hr)
    obtain ⟨u, hu⟩ : ∃ u, u = (i + Y) / rows.length := ⟨_, rfl⟩
    have eu : ((i : Int) + (Y : Int)) / (rows.length : Int) = (u : Int) := by rw [hu]; simp
    have ul : u ≤ i + Y := by rw [hu]; exact Nat.div_le_self _ _
    have em : (i : Int) + (Y : Int) - (u : Int) * (rows.length : Int) = (((i + Y) % rows.length : Nat) : Int) := by
      have := Nat.mod_add_div (i + Y) rows.length
      rw [← hu] at this
      have e2 : ((rows.length * u : Nat) : Int) = (u : Int) * (rows.length : Int) := by rw [Int.natCast_mul, Int.mul_comm]
      omega
    have ml : (i + Y) % rows.length < rows.length := Nat.mod_lt _ (by omega)
    have ho := List.getElem?_eq_getElem ml
    have lo := R.all _ (List.mem_of_getElem? ho)
    rw [eu, em]
    refine ⟨wide_div (b := 20) (by omega) (by omega) (by decide) (by decide), wide_mul (a := 20) (b := 20) (by omega) (by omega) (by decide) (by decide) (by decide), p, _, _, _, rfl, rfl, SqT.same (SqT.same hp s2) s3, atI_ok (by omega) (by rw [Int.toNat_natCast]; exact strsV_get ho), wide_mul (a := 20) (b := 20) (by omega) (by omega) (by decide) (by decide) (by decide), by omega, by omega, ?_⟩
    simp only [spTurn, exists_and_left, S_eq, tD1, rTupN, rAddZ, rSlZ, rIxZ, rInZ, rIntZ, rStrZ, rLenZ, rRepZ, tJoinZ, tJoinG, rCntZ, rTupG, rAll, rMax2, rMin2, tSl, tPart, tNoPart, rSlLN, rSlG, gUnlN, tYes, rLenS, rRepN, unset, calmS, cx_K, Value.ref.injEq, HO.xd.injEq, lk0, tSeq, tPar3, tPar, tCons, tNil, tVar, tC, tAsg, gName, gCons, gNil, gTupN, gSub, tOp, rI, rI0, rU, tTest, rNe, rEq, rIxTN, rIxLN, rLenL, rLenT, rIntI, rIntB, rAbs, rSetLN, tTruL, tRaiseX, rIsTy, rIsOw, ixN0, ixN1, tRet, tIf, tIfS, tNext, tBreak, tCont, tDrop, tTupN, tLstN, tUn, tCB, tCall, tNot, tAnd, tOr, tB, tAndV, tOrV, tNotV, tChain, tApp, LamX.tLam, tRevLN, rCatN, rInTN, rInLN, flatV, inV, List.all_cons, List.all_nil, List.any_cons, List.any_nil, Bool.and_self, Bool.and_true, if_true, Bool.false_eq_true, if_false, tMt, tFldN, tSto, HO.ins.injEq, lkh, List.drop_zero, List.drop_succ_cons, List.drop_nil, rListS, wipe, L2.start, List.map_cons, List.map_nil, List.length_cons, List.length_nil, List.replicate, List.cons_append, List.nil_append, List.append_nil, Nat.reduceAdd, Nat.reduceSub, Nat.zero_add, List.replicate_succ, List.replicate_zero, List.getElem?_cons_zero, List.getElem?_cons_succ, List.set_cons_zero, List.set_cons_succ, Option.some.injEq, V.int.injEq, V.bl.injEq, V.ref.injEq, V.str.injEq, V.ty.injEq, List.cons.injEq, HO.tup.injEq, HO.lst.injEq, and_true, true_and, and_assoc, exists_eq_left, exists_eq_left', exists_and_left, exists_eq', atI0, atI1, atI2, atI3, Int.cast_ofNat_Int, Int.reduceToNat, scal_ii, scal_in, scal_ni, scal_nn, scal_bb, scal_ss, scal_sn, scal_ns, scal_bn, scal_nb, ite_iff, decide_eq_true_eq, decide_eq_false_iff_not, Bool.not_eq_true', Classical.not_not, ne_eq, not_false_eq_true, not_true_eq_false, forall_const, true_implies, false_implies, imp_self, sizeLine_eq, Nat.reduceLeDiff, reduceCtorEq, decide_true, decide_false]
    have m0 := Int.emod_nonneg (s - b * (u : Int)) (b := (r.length : Int)) (by omega)
    refine ⟨m0, by omega, fun ne => k false H2 (s2.trans s3) ⟨fun z => (by cases z), fun A => ?_⟩, fun e => ⟨s2.trans s3, fun j r' hj hr' => ?_⟩⟩
    · obtain ⟨o, ho', ht⟩ := A i r hr
      rw [ho] at ho'
      cases ho'
      rw [← hu] at ht
      exact absurd ht ne
    · by_cases c : j = i
      · subst c
        rw [hr] at hr'; cases hr'
        exact ⟨_, ho, by rw [← hu]; exact e⟩
      · exact hw j r' (by omega) hr'
  · rintro _ H1 ⟨s2, hw, x1, x2, x3, x4, rfl⟩
    simp only [exists_and_left, S_eq, tD1, rTupN, rAddZ, rSlZ, rIxZ, rInZ, rIntZ, rStrZ, rLenZ, rRepZ, tJoinZ, tJoinG, rCntZ, rTupG, rAll, rMax2, rMin2, tSl, tPart, tNoPart, rSlLN, rSlG, gUnlN, tYes, rLenS, rRepN, unset, calmS, cx_K, Value.ref.injEq, HO.xd.injEq, lk0, tSeq, tPar3, tPar, tCons, tNil, tVar, tC, tAsg, gName, gCons, gNil, gTupN, gSub, tOp, rI, rI0, rU, tTest, rNe, rEq, rIxTN, rIxLN, rLenL, rLenT, rIntI, rIntB, rAbs, rSetLN, tTruL, tRaiseX, rIsTy, rIsOw, ixN0, ixN1, tRet, tIf, tIfS, tNext, tBreak, tCont, tDrop, tTupN, tLstN, tUn, tCB, tCall, tNot, tAnd, tOr, tB, tAndV, tOrV, tNotV, tChain, tApp, LamX.tLam, tRevLN, rCatN, rInTN, rInLN, flatV, inV, List.all_cons, List.all_nil, List.any_cons, List.any_nil, Bool.and_self, Bool.and_true, if_true, Bool.false_eq_true, if_false, tMt, tFldN, tSto, HO.ins.injEq, lkh, List.drop_zero, List.drop_succ_cons, List.drop_nil, rListS, wipe, L2.start, List.map_cons, List.map_nil, List.length_cons, List.length_nil, List.replicate, List.cons_append, List.nil_append, List.append_nil, Nat.reduceAdd, Nat.reduceSub, Nat.zero_add, List.replicate_succ, List.replicate_zero, List.getElem?_cons_zero, List.getElem?_cons_succ, List.set_cons_zero, List.set_cons_succ, Option.some.injEq, V.int.injEq, V.bl.injEq, V.ref.injEq, V.str.injEq, V.ty.injEq, List.cons.injEq, HO.tup.injEq, HO.lst.injEq, and_true, true_and, and_assoc, exists_eq_left, exists_eq_left', exists_and_left, exists_eq', atI0, atI1, atI2, atI3, Int.cast_ofNat_Int, Int.reduceToNat, scal_ii, scal_in, scal_ni, scal_nn, scal_bb, scal_ss, scal_sn, scal_ns, scal_bn, scal_nb, ite_iff, decide_eq_true_eq, decide_eq_false_iff_not, Bool.not_eq_true', Classical.not_not, ne_eq, not_false_eq_true, not_true_eq_false, forall_const, true_implies, false_implies, imp_self, sizeLine_eq, Nat.reduceLeDiff, reduceCtorEq, decide_true, decide_false]
    refine k true H1 s2 ⟨fun _ j r hj => hw j r (by have := (List.getElem?_eq_some_iff.mp hj).1; rw [strsV_len]; exact this) hj, fun _ => rfl⟩
theorem ints_sorted {lo j : Int} {p : Int → Bool} : ((intsB lo j).filter p).Pairwise (· < ·) := by
  refine List.Pairwise.filter _ ?_
  unfold intsB
  rw [List.pairwise_map]
  exact List.Pairwise.imp (fun h => by omega) List.pairwise_lt_range
theorem idx_lt {l : List Int} (h : l.Pairwise (· < ·)) {i j : Nat} {x y : Int} (hx : l[i]? = some x) (hy : l[j]? = some y) (lt : x < y) : i < j := by
  obtain ⟨h1, rfl⟩ := List.getElem?_eq_some_iff.mp hx
  obtain ⟨h2, rfl⟩ := List.getElem?_eq_some_iff.mp hy
  rw [List.pairwise_iff_getElem] at h
  by_cases c : i < j
  · exact c
  · by_cases e : i = j
    · subst e; omega
    · have := h j i h2 h1 (by omega); omega
def spLR (K : PySem.W.Frag) : Sp := fun vs H Q _ => ∃ wide b d p, vs = [.int wide, .int b, .int d, .ref p] ∧ ∃ rows a n, d = ((n : Nat) : Int) ∧ SqT K H p (strsV rows) ∧ RowsOk a n rows ∧ a ≤ 1000 ∧ n ≤ 1000 ∧ 0 ≤ b ∧ b ≤ 1000 ∧ 1 ≤ wide ∧ wide ≤ a ∧ (∀ r ∈ rows, tn wide.toNat r = r) ∧
  ∀ t (s : Int) (y : Nat) H', Same H H' → P2 H' t s y → 0 ≤ s → s < wide → 1 ≤ y → y ≤ n → Per (colR b rows) s y → (∀ y' : Nat, 1 ≤ y' → y' < y → n % y' = 0 → ∀ v : Nat, v < wide.toNat → ¬ again b rows v y') → Q (.ref t) H'
theorem o__least_rise (T : Txt K mg) : OkF P w K mg base CX0 3 "_least_rise" ["wide", "b", "d", "rows"] (spLR K) := by
  have o__comes_again := o__comes_again (P := P) (w := w) (base := base) T
  obtain ⟨f, fd, g, F⟩ := T.d__least_rise
  refine ⟨f, fd, g, F.kp, F.binds (fun _ _ _ _ _ _ us hl => match us, hl with | [_, _, _, _], _ => rfl), F.ok sc__least_rise (fun vs H Q E h => ?_) (fun cdv A outer s H vs Q E hr h => ?_)⟩
  · first | (obtain ⟨_, rfl, _⟩ := h; rfl) | (obtain ⟨_, _, rfl, _⟩ := h; rfl) | (obtain ⟨_, _, _, rfl, _⟩ := h; rfl) | (obtain ⟨_, _, _, _, rfl, _⟩ := h; rfl) | (obtain ⟨_, _, _, _, _, rfl, _⟩ := h; rfl) | (obtain ⟨_, _, _, _, _, _, rfl, _⟩ := h; rfl) | (obtain ⟨_, _, _, _, _, _, _, rfl, _⟩ := h; rfl)
  have hu64 := hr.units
  refine ⟨_, pss_cons (ps_setLc (i := 5) (own := [("y", 4)]) (g := gName 4) (by rfl) sc__least_rise.nd rfl rfl (sw_true rfl rfl rfl (by decide +kernel)) (pi_rangeL (by rfl) T.m_range (pa_cons (pe_int) (pa_cons (pv 2) pa_nil))) (blkOk_by (N := ["wide", "b", "d", "rows", "y", "heights", "s"]) (sc := defScope s__least_rise) (own := [("y", 4)]) (by decide +kernel)) (fun _ _ _ _ _ => pg_name (i := 4) sc__least_rise.nd rfl (Or.inl rfl)) (fun _ _ _ _ _ => pts_one (pt_cmpR op_eq (pe_op op_mod (pv 2) (pv 4)) (pe_int) (nomark _))) (fun _ _ _ _ _ => pv 4))
      (pss_cons (ps_for PassesOwn.never rfl (pi_list (pv 5)) (pg_name (i := 4) sc__least_rise.nd rfl (Or.inl rfl)) (pss_one (ps_for PassesOwn.never rfl (pi_range1 rfl T.m_range (pa_cons (pv 0) pa_nil)) (pg_name (i := 6) sc__least_rise.nd rfl (Or.inl rfl)) (pss_one (ps_if (pt_val (pcl o__comes_again (hr.mono (by decide)) pass0 (pa_cons (pv 1) (pa_cons (pv 3) (pa_cons (pv 6) (pa_cons (pv 4) pa_nil)))))) (pss_one (ps_ret (pe_tupN (pa_cons (pv 6) (pa_cons (pv 4) pa_nil))))) (pss_nil))))))
      (pss_one (ps_ret (pe_tupN (pa_cons (pe_op op_mod (pv 1) (pv 0)) (pa_cons (pv 2) pa_nil)))))), ?_⟩
  obtain ⟨wide, b, d, p, rfl, rows, a, n, rfl, hp, R, ha, hn, b0, b1, w1, wa, hw, k⟩ := h
  have d1 := R.d1
  simp only [exists_and_left, S_eq, tD1, rTupN, rAddZ, rSlZ, rIxZ, rInZ, rIntZ, rStrZ, rLenZ, rRepZ, tJoinZ, tJoinG, rCntZ, rTupG, rAll, rMax2, rMin2, tSl, tPart, tNoPart, rSlLN, rSlG, gUnlN, tYes, rLenS, rRepN, unset, calmS, cx_K, Value.ref.injEq, HO.xd.injEq, lk0, tSeq, tPar3, tPar, tCons, tNil, tVar, tC, tAsg, gName, gCons, gNil, gTupN, gSub, tOp, rI, rI0, rU, tTest, rNe, rEq, rIxTN, rIxLN, rLenL, rLenT, rIntI, rIntB, rAbs, rSetLN, tTruL, tRaiseX, rIsTy, rIsOw, ixN0, ixN1, tRet, tIf, tIfS, tNext, tBreak, tCont, tDrop, tTupN, tLstN, tUn, tCB, tCall, tNot, tAnd, tOr, tB, tAndV, tOrV, tNotV, tChain, tApp, LamX.tLam, tRevLN, rCatN, rInTN, rInLN, flatV, inV, List.all_cons, List.all_nil, List.any_cons, List.any_nil, Bool.and_self, Bool.and_true, if_true, Bool.false_eq_true, if_false, tMt, tFldN, tSto, HO.ins.injEq, lkh, List.drop_zero, List.drop_succ_cons, List.drop_nil, rListS, wipe, L2.start, List.map_cons, List.map_nil, List.length_cons, List.length_nil, List.replicate, List.cons_append, List.nil_append, List.append_nil, Nat.reduceAdd, Nat.reduceSub, Nat.zero_add, List.replicate_succ, List.replicate_zero, List.getElem?_cons_zero, List.getElem?_cons_succ, List.set_cons_zero, List.set_cons_succ, Option.some.injEq, V.int.injEq, V.bl.injEq, V.ref.injEq, V.str.injEq, V.ty.injEq, List.cons.injEq, HO.tup.injEq, HO.lst.injEq, and_true, true_and, and_assoc, exists_eq_left, exists_eq_left', exists_and_left, exists_eq', atI0, atI1, atI2, atI3, Int.cast_ofNat_Int, Int.reduceToNat, scal_ii, scal_in, scal_ni, scal_nn, scal_bb, scal_ss, scal_sn, scal_ns, scal_bn, scal_nb, ite_iff, decide_eq_true_eq, decide_eq_false_iff_not, Bool.not_eq_true', Classical.not_not, ne_eq, not_false_eq_true, not_true_eq_false, forall_const, true_implies, false_implies, imp_self, sizeLine_eq, Nat.reduceLeDiff, reduceCtorEq, decide_true, decide_false]
  refine st_lcRF 1 n (fun R r => (by simp only [exists_and_left, S_eq, tD1, rTupN, rAddZ, rSlZ, rIxZ, rInZ, rIntZ, rStrZ, rLenZ, rRepZ, tJoinZ, tJoinG, rCntZ, rTupG, rAll, rMax2, rMin2, tSl, tPart, tNoPart, rSlLN, rSlG, gUnlN, tYes, rLenS, rRepN, unset, calmS, cx_K, Value.ref.injEq, HO.xd.injEq, lk0, tSeq, tPar3, tPar, tCons, tNil, tVar, tC, tAsg, gName, gCons, gNil, gTupN, gSub, tOp, rI, rI0, rU, tTest, rNe, rEq, rIxTN, rIxLN, rLenL, rLenT, rIntI, rIntB, rAbs, rSetLN, tTruL, tRaiseX, rIsTy, rIsOw, ixN0, ixN1, tRet, tIf, tIfS, tNext, tBreak, tCont, tDrop, tTupN, tLstN, tUn, tCB, tCall, tNot, tAnd, tOr, tB, tAndV, tOrV, tNotV, tChain, tApp, LamX.tLam, tRevLN, rCatN, rInTN, rInLN, flatV, inV, List.all_cons, List.all_nil, List.any_cons, List.any_nil, Bool.and_self, Bool.and_true, if_true, Bool.false_eq_true, if_false, tMt, tFldN, tSto, HO.ins.injEq, lkh, List.drop_zero, List.drop_succ_cons, List.drop_nil, rListS, wipe, L2.start, List.map_cons, List.map_nil, List.length_cons, List.length_nil, List.replicate, List.cons_append, List.nil_append, List.append_nil, Nat.reduceAdd, Nat.reduceSub, Nat.zero_add, List.replicate_succ, List.replicate_zero, List.getElem?_cons_zero, List.getElem?_cons_succ, List.set_cons_zero, List.set_cons_succ, Option.some.injEq, V.int.injEq, V.bl.injEq, V.ref.injEq, V.str.injEq, V.ty.injEq, List.cons.injEq, HO.tup.injEq, HO.lst.injEq, and_true, true_and, and_assoc, exists_eq_left, exists_eq_left', exists_and_left, exists_eq', atI0, atI1, atI2, atI3, Int.cast_ofNat_Int, Int.reduceToNat, scal_ii, scal_in, scal_ni, scal_nn, scal_bb, scal_ss, scal_sn, scal_ns, scal_bn, scal_nb, ite_iff, decide_eq_true_eq, decide_eq_false_iff_not, Bool.not_eq_true', Classical.not_not, ne_eq, not_false_eq_true, not_true_eq_false, forall_const, true_implies, false_implies, imp_self, sizeLine_eq, Nat.reduceLeDiff, reduceCtorEq, decide_true, decide_false]; exact r)) (by rw [sizeLine_eq]; omega) (fun y => decide ((n : Int) % y = 0)) V.int (fun x H' A B h1 h2 s hA hB => ?_) (fun L H1 hL s1 h1 => ?_)
  · simp only [exists_and_left, S_eq, tD1, rTupN, rAddZ, rSlZ, rIxZ, rInZ, rIntZ, rStrZ, rLenZ, rRepZ, tJoinZ, tJoinG, rCntZ, rTupG, rAll, rMax2, rMin2, tSl, tPart, tNoPart, rSlLN, rSlG, gUnlN, tYes, rLenS, rRepN, unset, calmS, cx_K, Value.ref.injEq, HO.xd.injEq, lk0, tSeq, tPar3, tPar, tCons, tNil, tVar, tC, tAsg, gName, gCons, gNil, gTupN, gSub, tOp, rI, rI0, rU, tTest, rNe, rEq, rIxTN, rIxLN, rLenL, rLenT, rIntI, rIntB, rAbs, rSetLN, tTruL, tRaiseX, rIsTy, rIsOw, ixN0, ixN1, tRet, tIf, tIfS, tNext, tBreak, tCont, tDrop, tTupN, tLstN, tUn, tCB, tCall, tNot, tAnd, tOr, tB, tAndV, tOrV, tNotV, tChain, tApp, LamX.tLam, tRevLN, rCatN, rInTN, rInLN, flatV, inV, List.all_cons, List.all_nil, List.any_cons, List.any_nil, Bool.and_self, Bool.and_true, if_true, Bool.false_eq_true, if_false, tMt, tFldN, tSto, HO.ins.injEq, lkh, List.drop_zero, List.drop_succ_cons, List.drop_nil, rListS, wipe, L2.start, List.map_cons, List.map_nil, List.length_cons, List.length_nil, List.replicate, List.cons_append, List.nil_append, List.append_nil, Nat.reduceAdd, Nat.reduceSub, Nat.zero_add, List.replicate_succ, List.replicate_zero, List.getElem?_cons_zero, List.getElem?_cons_succ, List.set_cons_zero, List.set_cons_succ, Option.some.injEq, V.int.injEq, V.bl.injEq, V.ref.injEq, V.str.injEq, V.ty.injEq, List.cons.injEq, HO.tup.injEq, HO.lst.injEq, and_true, true_and, and_assoc, exists_eq_left, exists_eq_left', exists_and_left, exists_eq', atI0, atI1, atI2, atI3, Int.cast_ofNat_Int, Int.reduceToNat, scal_ii, scal_in, scal_ni, scal_nn, scal_bb, scal_ss, scal_sn, scal_ns, scal_bn, scal_nb, ite_iff, decide_eq_true_eq, decide_eq_false_iff_not, Bool.not_eq_true', Classical.not_not, ne_eq, not_false_eq_true, not_true_eq_false, forall_const, true_implies, false_implies, imp_self, sizeLine_eq, Nat.reduceLeDiff, reduceCtorEq, decide_true, decide_false]
    refine ⟨by omega, ?_⟩
    by_cases c : (n : Int) % x = 0
    · exact ⟨fun _ => hB (by simp [c]) H' fun _ _ h => h, fun z => absurd c z⟩
    · exact ⟨fun z => absurd z c, fun _ => hA (by simp [c]) H' fun _ _ h => h⟩
  · generalize hhs : (intsB 1 n).filter (fun y => decide ((n : Int) % y = 0)) = hs at h1
    have sorted : hs.Pairwise (· < ·) := hhs ▸ ints_sorted
    have hmem : ∀ y : Int, y ∈ hs ↔ (1 ≤ y ∧ y < n) ∧ (n : Int) % y = 0 := fun y => by rw [← hhs, List.mem_filter, mem_intsB, decide_eq_true_eq]
    refine st_forL (fun R r => (by simp only [exists_and_left, S_eq, tD1, rTupN, rAddZ, rSlZ, rIxZ, rInZ, rIntZ, rStrZ, rLenZ, rRepZ, tJoinZ, tJoinG, rCntZ, rTupG, rAll, rMax2, rMin2, tSl, tPart, tNoPart, rSlLN, rSlG, gUnlN, tYes, rLenS, rRepN, unset, calmS, cx_K, Value.ref.injEq, HO.xd.injEq, lk0, tSeq, tPar3, tPar, tCons, tNil, tVar, tC, tAsg, gName, gCons, gNil, gTupN, gSub, tOp, rI, rI0, rU, tTest, rNe, rEq, rIxTN, rIxLN, rLenL, rLenT, rIntI, rIntB, rAbs, rSetLN, tTruL, tRaiseX, rIsTy, rIsOw, ixN0, ixN1, tRet, tIf, tIfS, tNext, tBreak, tCont, tDrop, tTupN, tLstN, tUn, tCB, tCall, tNot, tAnd, tOr, tB, tAndV, tOrV, tNotV, tChain, tApp, LamX.tLam, tRevLN, rCatN, rInTN, rInLN, flatV, inV, List.all_cons, List.all_nil, List.any_cons, List.any_nil, Bool.and_self, Bool.and_true, if_true, Bool.false_eq_true, if_false, tMt, tFldN, tSto, HO.ins.injEq, lkh, List.drop_zero, List.drop_succ_cons, List.drop_nil, rListS, wipe, L2.start, List.map_cons, List.map_nil, List.length_cons, List.length_nil, List.replicate, List.cons_append, List.nil_append, List.append_nil, Nat.reduceAdd, Nat.reduceSub, Nat.zero_add, List.replicate_succ, List.replicate_zero, List.getElem?_cons_zero, List.getElem?_cons_succ, List.set_cons_zero, List.set_cons_succ, Option.some.injEq, V.int.injEq, V.bl.injEq, V.ref.injEq, V.str.injEq, V.ty.injEq, List.cons.injEq, HO.tup.injEq, HO.lst.injEq, and_true, true_and, and_assoc, exists_eq_left, exists_eq_left', exists_and_left, exists_eq', atI0, atI1, atI2, atI3, Int.cast_ofNat_Int, Int.reduceToNat, scal_ii, scal_in, scal_ni, scal_nn, scal_bb, scal_ss, scal_sn, scal_ns, scal_bn, scal_nb, ite_iff, decide_eq_true_eq, decide_eq_false_iff_not, Bool.not_eq_true', Classical.not_not, ne_eq, not_false_eq_true, not_true_eq_false, forall_const, true_implies, false_implies, imp_self, sizeLine_eq, Nat.reduceLeDiff, reduceCtorEq, decide_true, decide_false]; exact r)) h1 (fun i σ' H' => Same H1 H' ∧ (∀ y : Int, y ∈ hs.take i → ∀ v : Nat, v < wide.toNat → ¬ again b rows v y.toNat) ∧ ∃ x1 x2, σ' = [some (V.int wide), some (V.int b), some (V.int n), some (V.ref p), x1, some (V.ref L), x2])
      ⟨fun _ _ h => h, fun y h => (by simp at h), _, _, rfl⟩ (fun _ _ _ h => h.1 _ _ h1) ?_ ?_
    · rintro i v _ H2 hi ⟨s2, hno, x1, x2, rfl⟩
      rw [List.getElem?_map] at hi
      obtain ⟨y, hy, rfl⟩ := Option.map_eq_some_iff.mp hi
      obtain ⟨⟨y1, yn⟩, ymod⟩ := (hmem y).mp (List.mem_of_getElem? hy)
      simp only [exists_and_left, S_eq, tD1, rTupN, rAddZ, rSlZ, rIxZ, rInZ, rIntZ, rStrZ, rLenZ, rRepZ, tJoinZ, tJoinG, rCntZ, rTupG, rAll, rMax2, rMin2, tSl, tPart, tNoPart, rSlLN, rSlG, gUnlN, tYes, rLenS, rRepN, unset, calmS, cx_K, Value.ref.injEq, HO.xd.injEq, lk0, tSeq, tPar3, tPar, tCons, tNil, tVar, tC, tAsg, gName, gCons, gNil, gTupN, gSub, tOp, rI, rI0, rU, tTest, rNe, rEq, rIxTN, rIxLN, rLenL, rLenT, rIntI, rIntB, rAbs, rSetLN, tTruL, tRaiseX, rIsTy, rIsOw, ixN0, ixN1, tRet, tIf, tIfS, tNext, tBreak, tCont, tDrop, tTupN, tLstN, tUn, tCB, tCall, tNot, tAnd, tOr, tB, tAndV, tOrV, tNotV, tChain, tApp, LamX.tLam, tRevLN, rCatN, rInTN, rInLN, flatV, inV, List.all_cons, List.all_nil, List.any_cons, List.any_nil, Bool.and_self, Bool.and_true, if_true, Bool.false_eq_true, if_false, tMt, tFldN, tSto, HO.ins.injEq, lkh, List.drop_zero, List.drop_succ_cons, List.drop_nil, rListS, wipe, L2.start, List.map_cons, List.map_nil, List.length_cons, List.length_nil, List.replicate, List.cons_append, List.nil_append, List.append_nil, Nat.reduceAdd, Nat.reduceSub, Nat.zero_add, List.replicate_succ, List.replicate_zero, List.getElem?_cons_zero, List.getElem?_cons_succ, List.set_cons_zero, List.set_cons_succ, Option.some.injEq, V.int.injEq, V.bl.injEq, V.ref.injEq, V.str.injEq, V.ty.injEq, List.cons.injEq, HO.tup.injEq, HO.lst.injEq, and_true, true_and, and_assoc, exists_eq_left, exists_eq_left', exists_and_left, exists_eq', atI0, atI1, atI2, atI3, Int.cast_ofNat_Int, Int.reduceToNat, scal_ii, scal_in, scal_ni, scal_nn, scal_bb, scal_ss, scal_sn, scal_ns, scal_bn, scal_nb, ite_iff, decide_eq_true_eq, decide_eq_false_iff_not, Bool.not_eq_true', Classical.not_not, ne_eq, not_false_eq_true, not_true_eq_false, forall_const, true_implies, false_implies, imp_self, sizeLine_eq, Nat.reduceLeDiff, reduceCtorEq, decide_true, decide_false]
      refine st_forR1 wide (by omega) (fun R r => (by simp only [exists_and_left, S_eq, tD1, rTupN, rAddZ, rSlZ, rIxZ, rInZ, rIntZ, rStrZ, rLenZ, rRepZ, tJoinZ, tJoinG, rCntZ, rTupG, rAll, rMax2, rMin2, tSl, tPart, tNoPart, rSlLN, rSlG, gUnlN, tYes, rLenS, rRepN, unset, calmS, cx_K, Value.ref.injEq, HO.xd.injEq, lk0, tSeq, tPar3, tPar, tCons, tNil, tVar, tC, tAsg, gName, gCons, gNil, gTupN, gSub, tOp, rI, rI0, rU, tTest, rNe, rEq, rIxTN, rIxLN, rLenL, rLenT, rIntI, rIntB, rAbs, rSetLN, tTruL, tRaiseX, rIsTy, rIsOw, ixN0, ixN1, tRet, tIf, tIfS, tNext, tBreak, tCont, tDrop, tTupN, tLstN, tUn, tCB, tCall, tNot, tAnd, tOr, tB, tAndV, tOrV, tNotV, tChain, tApp, LamX.tLam, tRevLN, rCatN, rInTN, rInLN, flatV, inV, List.all_cons, List.all_nil, List.any_cons, List.any_nil, Bool.and_self, Bool.and_true, if_true, Bool.false_eq_true, if_false, tMt, tFldN, tSto, HO.ins.injEq, lkh, List.drop_zero, List.drop_succ_cons, List.drop_nil, rListS, wipe, L2.start, List.map_cons, List.map_nil, List.length_cons, List.length_nil, List.replicate, List.cons_append, List.nil_append, List.append_nil, Nat.reduceAdd, Nat.reduceSub, Nat.zero_add, List.replicate_succ, List.replicate_zero, List.getElem?_cons_zero, List.getElem?_cons_succ, List.set_cons_zero, List.set_cons_succ, Option.some.injEq, V.int.injEq, V.bl.injEq, V.ref.injEq, V.str.injEq, V.ty.injEq, List.cons.injEq, HO.tup.injEq, HO.lst.injEq, and_true, true_and, and_assoc, exists_eq_left, exists_eq_left', exists_and_left, exists_eq', atI0, atI1, atI2, atI3, Int.cast_ofNat_Int, Int.reduceToNat, scal_ii, scal_in, scal_ni, scal_nn, scal_bb, scal_ss, scal_sn, scal_ns, scal_bn, scal_nb, ite_iff, decide_eq_true_eq, decide_eq_false_iff_not, Bool.not_eq_true', Classical.not_not, ne_eq, not_false_eq_true, not_true_eq_false, forall_const, true_implies, false_implies, imp_self, sizeLine_eq, Nat.reduceLeDiff, reduceCtorEq, decide_true, decide_false]; exact r)) (fun j σ' H' => Same H1 H' ∧ (∀ v : Nat, v < j → ¬ again b rows v y.toNat) ∧ ∃ x2, σ' = [some (V.int wide), some (V.int b), some (V.int n), some (V.ref p), some (V.int y), some (V.ref L), x2]) ⟨s2, fun v h => (by omega), _, rfl⟩ ?_ ?_
      · rintro j _ H3 hj ⟨s3, hnj, x2, rfl⟩
        simp only [spAgain, exists_and_left, S_eq, tD1, rTupN, rAddZ, rSlZ, rIxZ, rInZ, rIntZ, rStrZ, rLenZ, rRepZ, tJoinZ, tJoinG, rCntZ, rTupG, rAll, rMax2, rMin2, tSl, tPart, tNoPart, rSlLN, rSlG, gUnlN, tYes, rLenS, rRepN, unset, calmS, cx_K, Value.ref.injEq, HO.xd.injEq, lk0, tSeq, tPar3, tPar, tCons, tNil, tVar, tC, tAsg, gName, gCons, gNil, gTupN, gSub, tOp, rI, rI0, rU, tTest, rNe, rEq, rIxTN, rIxLN, rLenL, rLenT, rIntI, rIntB, rAbs, rSetLN, tTruL, tRaiseX, rIsTy, rIsOw, ixN0, ixN1, tRet, tIf, tIfS, tNext, tBreak, tCont, tDrop, tTupN, tLstN, tUn, tCB, tCall, tNot, tAnd, tOr, tB, tAndV, tOrV, tNotV, tChain, tApp, LamX.tLam, tRevLN, rCatN, rInTN, rInLN, flatV, inV, List.all_cons, List.all_nil, List.any_cons, List.any_nil, Bool.and_self, Bool.and_true, if_true, Bool.false_eq_true, if_false, tMt, tFldN, tSto, HO.ins.injEq, lkh, List.drop_zero, List.drop_succ_cons, List.drop_nil, rListS, wipe, L2.start, List.map_cons, List.map_nil, List.length_cons, List.length_nil, List.replicate, List.cons_append, List.nil_append, List.append_nil, Nat.reduceAdd, Nat.reduceSub, Nat.zero_add, List.replicate_succ, List.replicate_zero, List.getElem?_cons_zero, List.getElem?_cons_succ, List.set_cons_zero, List.set_cons_succ, Option.some.injEq, V.int.injEq, V.bl.injEq, V.ref.injEq, V.str.injEq, V.ty.injEq, List.cons.injEq, HO.tup.injEq, HO.lst.injEq, and_true, true_and, and_assoc, exists_eq_left, exists_eq_left', exists_and_left, exists_eq', atI0, atI1, atI2, atI3, Int.cast_ofNat_Int, Int.reduceToNat, scal_ii, scal_in, scal_ni, scal_nn, scal_bb, scal_ss, scal_sn, scal_ns, scal_bn, scal_nb, ite_iff, decide_eq_true_eq, decide_eq_false_iff_not, Bool.not_eq_true', Classical.not_not, ne_eq, not_false_eq_true, not_true_eq_false, forall_const, true_implies, false_implies, imp_self, sizeLine_eq, Nat.reduceLeDiff, reduceCtorEq, decide_true, decide_false]
        refine ⟨rows, SqT.same (SqT.same hp s1) s3, a, n, R, ha, hn, b0, b1, by omega, by omega, by omega, yn, fun r H4 s4 hr => ⟨fun e => ?_, fun e => ?_⟩⟩
        · intro t H5 _ s5 h5
          have S := ((s1.trans s3).trans s4).trans s5
          have pe := (again_iff R).mp (hr.mp e)
          refine k t j y.toNat H5 S (by rw [P2, Int.toNat_of_nonneg (by omega)]; exact h5) (by omega) (by omega) (by omega) (by omega) pe fun y' a1 a2 a3 v hv => ?_
          have m' : (y' : Int) ∈ hs := (hmem y').mpr ⟨⟨by omega, by omega⟩, by omega⟩
          obtain ⟨q, hq⟩ := List.getElem?_of_mem m'
          have ql := idx_lt sorted hq hy (by omega)
          have := hno y' (by rw [List.mem_take_iff_getElem]; obtain ⟨q1, q2⟩ := List.getElem?_eq_some_iff.mp hq; exact ⟨q, by omega, q2⟩) v hv
          rwa [Int.toNat_natCast] at this
        · refine ⟨s3.trans s4, fun v hv => ?_⟩
          by_cases c : v = j
          · subst c; intro A; exact absurd (hr.mpr A) e
          · exact hnj v (by omega)
      · rintro _ H3 ⟨s3, hnj, x2, rfl⟩
        refine ⟨s3, fun y' hy' v hv => ?_, _, _, rfl⟩
        rw [List.take_succ, hy, List.mem_append] at hy'
        rcases hy' with hy' | hy'
        · exact hno y' hy' v hv
        · have : y' = y := by simpa using hy'
          subst this
          exact hnj v hv
    · rintro _ H2 ⟨s2, hno, x1, x2, rfl⟩
      simp only [exists_and_left, S_eq, tD1, rTupN, rAddZ, rSlZ, rIxZ, rInZ, rIntZ, rStrZ, rLenZ, rRepZ, tJoinZ, tJoinG, rCntZ, rTupG, rAll, rMax2, rMin2, tSl, tPart, tNoPart, rSlLN, rSlG, gUnlN, tYes, rLenS, rRepN, unset, calmS, cx_K, Value.ref.injEq, HO.xd.injEq, lk0, tSeq, tPar3, tPar, tCons, tNil, tVar, tC, tAsg, gName, gCons, gNil, gTupN, gSub, tOp, rI, rI0, rU, tTest, rNe, rEq, rIxTN, rIxLN, rLenL, rLenT, rIntI, rIntB, rAbs, rSetLN, tTruL, tRaiseX, rIsTy, rIsOw, ixN0, ixN1, tRet, tIf, tIfS, tNext, tBreak, tCont, tDrop, tTupN, tLstN, tUn, tCB, tCall, tNot, tAnd, tOr, tB, tAndV, tOrV, tNotV, tChain, tApp, LamX.tLam, tRevLN, rCatN, rInTN, rInLN, flatV, inV, List.all_cons, List.all_nil, List.any_cons, List.any_nil, Bool.and_self, Bool.and_true, if_true, Bool.false_eq_true, if_false, tMt, tFldN, tSto, HO.ins.injEq, lkh, List.drop_zero, List.drop_succ_cons, List.drop_nil, rListS, wipe, L2.start, List.map_cons, List.map_nil, List.length_cons, List.length_nil, List.replicate, List.cons_append, List.nil_append, List.append_nil, Nat.reduceAdd, Nat.reduceSub, Nat.zero_add, List.replicate_succ, List.replicate_zero, List.getElem?_cons_zero, List.getElem?_cons_succ, List.set_cons_zero, List.set_cons_succ, Option.some.injEq, V.int.injEq, V.bl.injEq, V.ref.injEq, V.str.injEq, V.ty.injEq, List.cons.injEq, HO.tup.injEq, HO.lst.injEq, and_true, true_and, and_assoc, exists_eq_left, exists_eq_left', exists_and_left, exists_eq', atI0, atI1, atI2, atI3, Int.cast_ofNat_Int, Int.reduceToNat, scal_ii, scal_in, scal_ni, scal_nn, scal_bb, scal_ss, scal_sn, scal_ns, scal_bn, scal_nb, ite_iff, decide_eq_true_eq, decide_eq_false_iff_not, Bool.not_eq_true', Classical.not_not, ne_eq, not_false_eq_true, not_true_eq_false, forall_const, true_implies, false_implies, imp_self, sizeLine_eq, Nat.reduceLeDiff, reduceCtorEq, decide_true, decide_false]
      refine ⟨by omega, ?_⟩
      intro t H3 _ s3 h3
      have pw := (again0 R (b := b) (show wide.toNat ≤ a by omega)).mp hw
      rw [Int.toNat_of_nonneg (by omega)] at pw
      have pe : Per (colR b rows) (b % wide) n := by
        have := (R.per_bd (b := b)).sub (pw.smul (b / wide))
        rw [Int.mul_zero, Int.sub_zero, show b - b / wide * wide = b % wide by rw [Int.mul_comm]; have := Int.emod_add_mul_ediv b wide; omega] at this
        exact this
      refine k t (b % wide) n H3 ((s1.trans s2).trans s3) h3 (Int.emod_nonneg _ (by omega)) (Int.emod_lt_of_pos _ (by omega)) d1 (Nat.le_refl _) pe fun y' a1 a2 a3 v hv => ?_
      have m' : (y' : Int) ∈ hs := (hmem y').mpr ⟨⟨by omega, by omega⟩, by omega⟩
      have := hno y' (by rw [List.length_map, List.take_length]; exact m') v hv
      rwa [Int.toNat_natCast] at this
def spNF (K : PySem.W.Frag) : Sp := fun vs H Q _ => ∃ b d p, vs = [.int b, .int d, .ref p] ∧ ∃ rows a n, d = ((n : Nat) : Int) ∧ SqT K H p (strsV rows) ∧ RowsOk a n rows ∧ a ≤ 1000 ∧ n ≤ 1000 ∧ 0 ≤ b ∧ b ≤ 1000 ∧
  ∀ t q (w s h : Int) R H', Same H H' → NFAt H' t q w s h R → NF (colR b rows) w s h R → w ≤ a → h ≤ n → (figs rows → figs R) → Q (.ref t) H'
theorem o__normal_form (T : Txt K mg) : OkF P w K mg base CX0 4 "_normal_form" ["b", "d", "rows"] (spNF K) := by
  have o__least_width := o__least_width (P := P) (w := w) (base := base) T
  have o__least_rise := o__least_rise (P := P) (w := w) (base := base) T
  obtain ⟨f, fd, g, F⟩ := T.d__normal_form
  refine ⟨f, fd, g, F.kp, F.binds (fun _ _ _ _ _ _ us hl => match us, hl with | [_, _, _], _ => rfl), F.ok sc__normal_form (fun vs H Q E h => ?_) (fun cdv A outer s H vs Q E hr h => ?_)⟩
  · first | (obtain ⟨_, rfl, _⟩ := h; rfl) | (obtain ⟨_, _, rfl, _⟩ := h; rfl) | (obtain ⟨_, _, _, rfl, _⟩ := h; rfl) | (obtain ⟨_, _, _, _, rfl, _⟩ := h; rfl) | (obtain ⟨_, _, _, _, _, rfl, _⟩ := h; rfl) | (obtain ⟨_, _, _, _, _, _, rfl, _⟩ := h; rfl) | (obtain ⟨_, _, _, _, _, _, _, rfl, _⟩ := h; rfl)
  have hu64 := hr.units
  refine ⟨_, pss_cons (ps_set (i := 3) sc__normal_form.nd rfl (Or.inr rfl) (pcl o__least_width (hr.mono (by decide)) pass0 (pa_cons (pv 2) pa_nil)))
      (pss_cons (ps_asg (pcl o__least_rise (hr.mono (by decide)) pass0 (pa_cons (pv 3) (pa_cons (pv 0) (pa_cons (pv 1) (pa_cons (pv 2) pa_nil))))) (pg_tupN (n := 2) (by rfl) (pgs_cons (pg_name (i := 4) sc__normal_form.nd rfl (Or.inl rfl)) (pgs_cons (pg_name (i := 5) sc__normal_form.nd rfl (Or.inl rfl)) pgs_nil))))
      (pss_one (ps_ret (pe_tupN (pa_cons (pv 3) (pa_cons (pv 4) (pa_cons (pv 5) (pa_cons (pe_callTy call_tupN (by rfl) T.m_tuple (by decide +kernel) (pa_cons (pe_lc (own := [("row", 6)]) (g := gName 6) (by rfl) sc__normal_form.nd (pi_tup (pe_slice sl_tupG (pv 2) (po_none) (po_some (pv 5)))) (blkOk_by (N := ["b", "d", "rows", "a", "slant", "height", "row"]) (sc := defScope s__normal_form) (own := [("row", 6)]) (by decide +kernel)) (fun _ _ _ _ _ => pg_name (i := 6) sc__normal_form.nd rfl (Or.inl rfl)) (fun _ _ _ _ _ => pts_nil) (fun _ _ _ _ _ => pe_slice sl_strZ (pv 6) (po_none) (po_some (pv 3)))) pa_nil)) pa_nil)))))))), ?_⟩
  obtain ⟨b, d, p, rfl, rows, a, n, rfl, hp, R, ha, hn, b0, b1, k⟩ := h
  have d1 := R.d1
  simp only [spLW, spLR, exists_and_left, S_eq, tD1, rTupN, rAddZ, rSlZ, rIxZ, rInZ, rIntZ, rStrZ, rLenZ, rRepZ, tJoinZ, tJoinG, rCntZ, rTupG, rAll, rMax2, rMin2, tSl, tPart, tNoPart, rSlLN, rSlG, gUnlN, tYes, rLenS, rRepN, unset, calmS, cx_K, Value.ref.injEq, HO.xd.injEq, lk0, tSeq, tPar3, tPar, tCons, tNil, tVar, tC, tAsg, gName, gCons, gNil, gTupN, gSub, tOp, rI, rI0, rU, tTest, rNe, rEq, rIxTN, rIxLN, rLenL, rLenT, rIntI, rIntB, rAbs, rSetLN, tTruL, tRaiseX, rIsTy, rIsOw, ixN0, ixN1, tRet, tIf, tIfS, tNext, tBreak, tCont, tDrop, tTupN, tLstN, tUn, tCB, tCall, tNot, tAnd, tOr, tB, tAndV, tOrV, tNotV, tChain, tApp, LamX.tLam, tRevLN, rCatN, rInTN, rInLN, flatV, inV, List.all_cons, List.all_nil, List.any_cons, List.any_nil, Bool.and_self, Bool.and_true, if_true, Bool.false_eq_true, if_false, tMt, tFldN, tSto, HO.ins.injEq, lkh, List.drop_zero, List.drop_succ_cons, List.drop_nil, rListS, wipe, L2.start, List.map_cons, List.map_nil, List.length_cons, List.length_nil, List.replicate, List.cons_append, List.nil_append, List.append_nil, Nat.reduceAdd, Nat.reduceSub, Nat.zero_add, List.replicate_succ, List.replicate_zero, List.getElem?_cons_zero, List.getElem?_cons_succ, List.set_cons_zero, List.set_cons_succ, Option.some.injEq, V.int.injEq, V.bl.injEq, V.ref.injEq, V.str.injEq, V.ty.injEq, List.cons.injEq, HO.tup.injEq, HO.lst.injEq, and_true, true_and, and_assoc, exists_eq_left, exists_eq_left', exists_and_left, exists_eq', atI0, atI1, atI2, atI3, Int.cast_ofNat_Int, Int.reduceToNat, scal_ii, scal_in, scal_ni, scal_nn, scal_bb, scal_ss, scal_sn, scal_ns, scal_bn, scal_nb, ite_iff, decide_eq_true_eq, decide_eq_false_iff_not, Bool.not_eq_true', Classical.not_not, ne_eq, not_false_eq_true, not_true_eq_false, forall_const, true_implies, false_implies, imp_self, sizeLine_eq, Nat.reduceLeDiff, reduceCtorEq, decide_true, decide_false]
  refine ⟨rows, hp, a, n, R, ha, hn, fun w H1 s1 w1 wa hw hlw => ?_⟩
  have hwn : (w : Int).toNat = w := Int.toNat_natCast w
  refine ⟨rows, a, n, rfl, SqT.same hp s1, R, ha, hn, b0, b1, by omega, by omega, by rw [hwn]; exact hw, fun t s y H2 s2 h2 s0 sw y1 yn pe hl => ?_⟩
  rw [hwn] at hl
  have h2' : H2 t = some (.tup [.int s, .int y]) := h2
  have N := nf_found R w1 wa hw hlw s0 sw y1 yn pe hl
  simp only [h2', exists_and_left, S_eq, tD1, rTupN, rAddZ, rSlZ, rIxZ, rInZ, rIntZ, rStrZ, rLenZ, rRepZ, tJoinZ, tJoinG, rCntZ, rTupG, rAll, rMax2, rMin2, tSl, tPart, tNoPart, rSlLN, rSlG, gUnlN, tYes, rLenS, rRepN, unset, calmS, cx_K, Value.ref.injEq, HO.xd.injEq, lk0, tSeq, tPar3, tPar, tCons, tNil, tVar, tC, tAsg, gName, gCons, gNil, gTupN, gSub, tOp, rI, rI0, rU, tTest, rNe, rEq, rIxTN, rIxLN, rLenL, rLenT, rIntI, rIntB, rAbs, rSetLN, tTruL, tRaiseX, rIsTy, rIsOw, ixN0, ixN1, tRet, tIf, tIfS, tNext, tBreak, tCont, tDrop, tTupN, tLstN, tUn, tCB, tCall, tNot, tAnd, tOr, tB, tAndV, tOrV, tNotV, tChain, tApp, LamX.tLam, tRevLN, rCatN, rInTN, rInLN, flatV, inV, List.all_cons, List.all_nil, List.any_cons, List.any_nil, Bool.and_self, Bool.and_true, if_true, Bool.false_eq_true, if_false, tMt, tFldN, tSto, HO.ins.injEq, lkh, List.drop_zero, List.drop_succ_cons, List.drop_nil, rListS, wipe, L2.start, List.map_cons, List.map_nil, List.length_cons, List.length_nil, List.replicate, List.cons_append, List.nil_append, List.append_nil, Nat.reduceAdd, Nat.reduceSub, Nat.zero_add, List.replicate_succ, List.replicate_zero, List.getElem?_cons_zero, List.getElem?_cons_succ, List.set_cons_zero, List.set_cons_succ, Option.some.injEq, V.int.injEq, V.bl.injEq, V.ref.injEq, V.str.injEq, V.ty.injEq, List.cons.injEq, HO.tup.injEq, HO.lst.injEq, and_true, true_and, and_assoc, exists_eq_left, exists_eq_left', exists_and_left, exists_eq', atI0, atI1, atI2, atI3, Int.cast_ofNat_Int, Int.reduceToNat, scal_ii, scal_in, scal_ni, scal_nn, scal_bb, scal_ss, scal_sn, scal_ns, scal_bn, scal_nb, ite_iff, decide_eq_true_eq, decide_eq_false_iff_not, Bool.not_eq_true', Classical.not_not, ne_eq, not_false_eq_true, not_true_eq_false, forall_const, true_implies, false_implies, imp_self, sizeLine_eq, Nat.reduceLeDiff, reduceCtorEq, decide_true, decide_false]
  refine lc_inT ?_
  have hp2 := SqT.same (SqT.same hp s1) s2
  have lr : rows.length = n := R.len
  have cut : cutV (strsV rows) none (some (y : Int)) = strsV (rows.take y) := by
    unfold cutV strsV
    rw [HT.sIx_none, HT.sIx_nat, List.drop_zero, Nat.sub_zero, List.length_map, Nat.min_eq_left (by omega), List.map_take]
  simp only [exists_and_left, S_eq, tD1, rTupN, rAddZ, rSlZ, rIxZ, rInZ, rIntZ, rStrZ, rLenZ, rRepZ, tJoinZ, tJoinG, rCntZ, rTupG, rAll, rMax2, rMin2, tSl, tPart, tNoPart, rSlLN, rSlG, gUnlN, tYes, rLenS, rRepN, unset, calmS, cx_K, Value.ref.injEq, HO.xd.injEq, lk0, tSeq, tPar3, tPar, tCons, tNil, tVar, tC, tAsg, gName, gCons, gNil, gTupN, gSub, tOp, rI, rI0, rU, tTest, rNe, rEq, rIxTN, rIxLN, rLenL, rLenT, rIntI, rIntB, rAbs, rSetLN, tTruL, tRaiseX, rIsTy, rIsOw, ixN0, ixN1, tRet, tIf, tIfS, tNext, tBreak, tCont, tDrop, tTupN, tLstN, tUn, tCB, tCall, tNot, tAnd, tOr, tB, tAndV, tOrV, tNotV, tChain, tApp, LamX.tLam, tRevLN, rCatN, rInTN, rInLN, flatV, inV, List.all_cons, List.all_nil, List.any_cons, List.any_nil, Bool.and_self, Bool.and_true, if_true, Bool.false_eq_true, if_false, tMt, tFldN, tSto, HO.ins.injEq, lkh, List.drop_zero, List.drop_succ_cons, List.drop_nil, rListS, wipe, L2.start, List.map_cons, List.map_nil, List.length_cons, List.length_nil, List.replicate, List.cons_append, List.nil_append, List.append_nil, Nat.reduceAdd, Nat.reduceSub, Nat.zero_add, List.replicate_succ, List.replicate_zero, List.getElem?_cons_zero, List.getElem?_cons_succ, List.set_cons_zero, List.set_cons_succ, Option.some.injEq, V.int.injEq, V.bl.injEq, V.ref.injEq, V.str.injEq, V.ty.injEq, List.cons.injEq, HO.tup.injEq, HO.lst.injEq, and_true, true_and, and_assoc, exists_eq_left, exists_eq_left', exists_and_left, exists_eq', atI0, atI1, atI2, atI3, Int.cast_ofNat_Int, Int.reduceToNat, scal_ii, scal_in, scal_ni, scal_nn, scal_bb, scal_ss, scal_sn, scal_ns, scal_bn, scal_nb, ite_iff, decide_eq_true_eq, decide_eq_false_iff_not, Bool.not_eq_true', Classical.not_not, ne_eq, not_false_eq_true, not_true_eq_false, forall_const, true_implies, false_implies, imp_self, sizeLine_eq, Nat.reduceLeDiff, reduceCtorEq, decide_true, decide_false]
  refine ⟨_, hp2, fun e => ?_, fun p3 H3 s3 h3 => ?_⟩
  · rw [cut]
    have e2 := e.2
    rw [HT.sIx_nat, strsV_len] at e2
    rw [List.take_of_length_le (by omega)]
  · rw [cut] at h3
    refine st_lcQ (fun R r => r) h3 (by rw [List.length_take]; omega) (fun l => .str (S (l.take w))) (fun l H4 R' R2 hl4 s4 r => ?_) (fun D H4 s4 h4 => ?_)
    · have ll := R.all l (List.mem_of_mem_take hl4)
      simp only [exists_and_left, S_eq, tD1, rTupN, rAddZ, rSlZ, rIxZ, rInZ, rIntZ, rStrZ, rLenZ, rRepZ, tJoinZ, tJoinG, rCntZ, rTupG, rAll, rMax2, rMin2, tSl, tPart, tNoPart, rSlLN, rSlG, gUnlN, tYes, rLenS, rRepN, unset, calmS, cx_K, Value.ref.injEq, HO.xd.injEq, lk0, tSeq, tPar3, tPar, tCons, tNil, tVar, tC, tAsg, gName, gCons, gNil, gTupN, gSub, tOp, rI, rI0, rU, tTest, rNe, rEq, rIxTN, rIxLN, rLenL, rLenT, rIntI, rIntB, rAbs, rSetLN, tTruL, tRaiseX, rIsTy, rIsOw, ixN0, ixN1, tRet, tIf, tIfS, tNext, tBreak, tCont, tDrop, tTupN, tLstN, tUn, tCB, tCall, tNot, tAnd, tOr, tB, tAndV, tOrV, tNotV, tChain, tApp, LamX.tLam, tRevLN, rCatN, rInTN, rInLN, flatV, inV, List.all_cons, List.all_nil, List.any_cons, List.any_nil, Bool.and_self, Bool.and_true, if_true, Bool.false_eq_true, if_false, tMt, tFldN, tSto, HO.ins.injEq, lkh, List.drop_zero, List.drop_succ_cons, List.drop_nil, rListS, wipe, L2.start, List.map_cons, List.map_nil, List.length_cons, List.length_nil, List.replicate, List.cons_append, List.nil_append, List.append_nil, Nat.reduceAdd, Nat.reduceSub, Nat.zero_add, List.replicate_succ, List.replicate_zero, List.getElem?_cons_zero, List.getElem?_cons_succ, List.set_cons_zero, List.set_cons_succ, Option.some.injEq, V.int.injEq, V.bl.injEq, V.ref.injEq, V.str.injEq, V.ty.injEq, List.cons.injEq, HO.tup.injEq, HO.lst.injEq, and_true, true_and, and_assoc, exists_eq_left, exists_eq_left', exists_and_left, exists_eq', atI0, atI1, atI2, atI3, Int.cast_ofNat_Int, Int.reduceToNat, scal_ii, scal_in, scal_ni, scal_nn, scal_bb, scal_ss, scal_sn, scal_ns, scal_bn, scal_nb, ite_iff, decide_eq_true_eq, decide_eq_false_iff_not, Bool.not_eq_true', Classical.not_not, ne_eq, not_false_eq_true, not_true_eq_false, forall_const, true_implies, false_implies, imp_self, sizeLine_eq, Nat.reduceLeDiff, reduceCtorEq, decide_true, decide_false]
      rw [cutZ_to (by omega), hwn]
      exact ⟨by omega, r⟩
    · simp only [exists_and_left, S_eq, tD1, rTupN, rAddZ, rSlZ, rIxZ, rInZ, rIntZ, rStrZ, rLenZ, rRepZ, tJoinZ, tJoinG, rCntZ, rTupG, rAll, rMax2, rMin2, tSl, tPart, tNoPart, rSlLN, rSlG, gUnlN, tYes, rLenS, rRepN, unset, calmS, cx_K, Value.ref.injEq, HO.xd.injEq, lk0, tSeq, tPar3, tPar, tCons, tNil, tVar, tC, tAsg, gName, gCons, gNil, gTupN, gSub, tOp, rI, rI0, rU, tTest, rNe, rEq, rIxTN, rIxLN, rLenL, rLenT, rIntI, rIntB, rAbs, rSetLN, tTruL, tRaiseX, rIsTy, rIsOw, ixN0, ixN1, tRet, tIf, tIfS, tNext, tBreak, tCont, tDrop, tTupN, tLstN, tUn, tCB, tCall, tNot, tAnd, tOr, tB, tAndV, tOrV, tNotV, tChain, tApp, LamX.tLam, tRevLN, rCatN, rInTN, rInLN, flatV, inV, List.all_cons, List.all_nil, List.any_cons, List.any_nil, Bool.and_self, Bool.and_true, if_true, Bool.false_eq_true, if_false, tMt, tFldN, tSto, HO.ins.injEq, lkh, List.drop_zero, List.drop_succ_cons, List.drop_nil, rListS, wipe, L2.start, List.map_cons, List.map_nil, List.length_cons, List.length_nil, List.replicate, List.cons_append, List.nil_append, List.append_nil, Nat.reduceAdd, Nat.reduceSub, Nat.zero_add, List.replicate_succ, List.replicate_zero, List.getElem?_cons_zero, List.getElem?_cons_succ, List.set_cons_zero, List.set_cons_succ, Option.some.injEq, V.int.injEq, V.bl.injEq, V.ref.injEq, V.str.injEq, V.ty.injEq, List.cons.injEq, HO.tup.injEq, HO.lst.injEq, and_true, true_and, and_assoc, exists_eq_left, exists_eq_left', exists_and_left, exists_eq', atI0, atI1, atI2, atI3, Int.cast_ofNat_Int, Int.reduceToNat, scal_ii, scal_in, scal_ni, scal_nn, scal_bb, scal_ss, scal_sn, scal_ns, scal_bn, scal_nb, ite_iff, decide_eq_true_eq, decide_eq_false_iff_not, Bool.not_eq_true', Classical.not_not, ne_eq, not_false_eq_true, not_true_eq_false, forall_const, true_implies, false_implies, imp_self, sizeLine_eq, Nat.reduceLeDiff, reduceCtorEq, decide_true, decide_false]
      refine ⟨_, h4, ?_⟩
      intro q H5 _ s5 h5
      intro t5 H6 _ s6 h6
      refine k t5 q w s y _ H6 (((s1.trans s2).trans (s3.trans s4)).trans (s5.trans s6)) ⟨h6, s6 _ _ ?_⟩ N (by omega) (by omega) (fun f l hl5 c hc => ?_)
      · rw [h5]; simp [strsV, Function.comp_def]
      · obtain ⟨r, hr, rfl⟩ := List.mem_map.mp hl5
        exact f r (List.mem_of_mem_take hr) c (List.mem_of_mem_take hc)

end
end Iz
/-! k12_d -/
set_option Elab.async false
set_option linter.all false
set_option maxRecDepth 100000
set_option maxHeartbeats 4000000
namespace Iz
open PySem PySem.Spec PyProof.Rows L2
open He (ga)
open SX (S S_len)
local macro_rules | `(tactic| walk_at "wp") => `(tactic| simp only [S_eq, tD1, rTupN, rAddZ, rSlZ, rIxZ, rInZ, rIntZ, rStrZ, rLenZ, rRepZ, tJoinZ, tJoinG, rCntZ, rTupG, rAll, rMax2, rMin2, tSl, tPart, tNoPart, rSlLN, rSlG, gUnlN, tYes, rLenS, rRepN, unset, calmS, cx_K, Value.ref.injEq, HO.xd.injEq, lk0, tSeq, tPar3, tPar, tCons, tNil, tVar, tC, tAsg, gName, gCons, gNil, gTupN, gSub, tOp, rI, rI0, rU, tTest, rNe, rEq, rIxTN, rIxLN, rLenL, rLenT, rIntI, rIntB, rAbs, rSetLN, tTruL, tRaiseX, rIsTy, rIsOw, ixN0, ixN1, tRet, tIf, tIfS, tNext, tBreak, tCont, tDrop, tTupN, tLstN, tUn, tCB, tCall, tNot, tAnd, tOr, tB, tAndV, tOrV, tNotV, tChain, tApp, LamX.tLam, tRevLN, rCatN, rInTN, rInLN, flatV, inV, List.all_cons, List.all_nil, List.any_cons, List.any_nil, Bool.and_self, Bool.and_true, if_true, Bool.false_eq_true, if_false, tMt, tFldN, tSto, HO.ins.injEq, lkh, List.drop_zero, List.drop_succ_cons, List.drop_nil, rListS, wipe, L2.start, List.map_cons, List.map_nil, List.length_cons, List.length_nil, List.replicate, List.cons_append, List.nil_append, List.append_nil, Nat.reduceAdd, Nat.reduceSub, Nat.zero_add, List.replicate_succ, List.replicate_zero, List.getElem?_cons_zero, List.getElem?_cons_succ, List.set_cons_zero, List.set_cons_succ, Option.some.injEq, V.int.injEq, V.bl.injEq, V.ref.injEq, V.str.injEq, V.ty.injEq, List.cons.injEq, HO.tup.injEq, HO.lst.injEq, and_true, true_and, and_assoc, exists_eq_left, exists_eq_left', exists_and_left, exists_eq', atI0, atI1, atI2, atI3, Int.cast_ofNat_Int, Int.reduceToNat, scal_ii, scal_in, scal_ni, scal_nn, scal_bb, scal_ss, scal_sn, scal_ns, scal_bn, scal_nb, ite_iff, decide_eq_true_eq, decide_eq_false_iff_not, Bool.not_eq_true', Classical.not_not, ne_eq, not_false_eq_true, not_true_eq_false, forall_const, true_implies, false_implies, imp_self, sizeLine_eq, Nat.reduceLeDiff, reduceCtorEq, decide_true, decide_false])
section
variable {P : Program} {w : World} {K : PySem.W.Frag} {mg : Str → Option Value} {base : Heap}
def spIsRow (K : PySem.W.Frag) : Sp := fun vs H Q _ => ∃ x, vs = [x] ∧ ∃ t b, TyX K H x t ∧ PySem.W.kitAny K t [.type "list", .type "tuple"] = some b ∧ ∀ H', Same H H' → Q (.bl b) H'
theorem o_is_row (T : Txt K mg) : OkF P w K mg base CX0 2 "is_row" ["value"] (spIsRow K) := by
  obtain ⟨f, fd, g, F⟩ := T.d_is_row
  refine ⟨f, fd, g, F.kp, F.binds (fun _ _ _ _ _ _ us hl => match us, hl with | [_], _ => rfl), F.ok sc_is_row (fun vs H Q E h => ?_) (fun cdv A outer s H vs Q E hr h => ?_)⟩
  · first | (obtain ⟨_, rfl, _⟩ := h; rfl) | (obtain ⟨_, _, rfl, _⟩ := h; rfl) | (obtain ⟨_, _, _, rfl, _⟩ := h; rfl) | (obtain ⟨_, _, _, _, rfl, _⟩ := h; rfl) | (obtain ⟨_, _, _, _, _, rfl, _⟩ := h; rfl) | (obtain ⟨_, _, _, _, _, _, rfl, _⟩ := h; rfl) | (obtain ⟨_, _, _, _, _, _, _, rfl, _⟩ := h; rfl)
  have hu64 := hr.units
  refine ⟨_, pss_one (ps_ret (pe_callB call_isiT (by rfl) T.m_isinstance (by decide +kernel) (pa_cons (pv 0) (pa_cons (pe_tupN (pa_cons ((pe_bltn (v := .ty "list") (by rfl) T.m_list (by decide +kernel) rfl)) (pa_cons ((pe_bltn (v := .ty "tuple") (by rfl) T.m_tuple (by decide +kernel) rfl)) pa_nil))) pa_nil)))), ?_⟩
  obtain ⟨x, rfl, t, b, ty, kt, k⟩ := h
  simp only [rIsiT, exists_and_left, S_eq, tD1, rTupN, rAddZ, rSlZ, rIxZ, rInZ, rIntZ, rStrZ, rLenZ, rRepZ, tJoinZ, tJoinG, rCntZ, rTupG, rAll, rMax2, rMin2, tSl, tPart, tNoPart, rSlLN, rSlG, gUnlN, tYes, rLenS, rRepN, unset, calmS, cx_K, Value.ref.injEq, HO.xd.injEq, lk0, tSeq, tPar3, tPar, tCons, tNil, tVar, tC, tAsg, gName, gCons, gNil, gTupN, gSub, tOp, rI, rI0, rU, tTest, rNe, rEq, rIxTN, rIxLN, rLenL, rLenT, rIntI, rIntB, rAbs, rSetLN, tTruL, tRaiseX, rIsTy, rIsOw, ixN0, ixN1, tRet, tIf, tIfS, tNext, tBreak, tCont, tDrop, tTupN, tLstN, tUn, tCB, tCall, tNot, tAnd, tOr, tB, tAndV, tOrV, tNotV, tChain, tApp, LamX.tLam, tRevLN, rCatN, rInTN, rInLN, flatV, inV, List.all_cons, List.all_nil, List.any_cons, List.any_nil, Bool.and_self, Bool.and_true, if_true, Bool.false_eq_true, if_false, tMt, tFldN, tSto, HO.ins.injEq, lkh, List.drop_zero, List.drop_succ_cons, List.drop_nil, rListS, wipe, L2.start, List.map_cons, List.map_nil, List.length_cons, List.length_nil, List.replicate, List.cons_append, List.nil_append, List.append_nil, Nat.reduceAdd, Nat.reduceSub, Nat.zero_add, List.replicate_succ, List.replicate_zero, List.getElem?_cons_zero, List.getElem?_cons_succ, List.set_cons_zero, List.set_cons_succ, Option.some.injEq, V.int.injEq, V.bl.injEq, V.ref.injEq, V.str.injEq, V.ty.injEq, List.cons.injEq, HO.tup.injEq, HO.lst.injEq, and_true, true_and, and_assoc, exists_eq_left, exists_eq_left', exists_and_left, exists_eq', atI0, atI1, atI2, atI3, Int.cast_ofNat_Int, Int.reduceToNat, scal_ii, scal_in, scal_ni, scal_nn, scal_bb, scal_ss, scal_sn, scal_ns, scal_bn, scal_nb, ite_iff, decide_eq_true_eq, decide_eq_false_iff_not, Bool.not_eq_true', Classical.not_not, ne_eq, not_false_eq_true, not_true_eq_false, forall_const, true_implies, false_implies, imp_self, sizeLine_eq, Nat.reduceLeDiff, reduceCtorEq, decide_true, decide_false]
  intro p H1 hp s1 h1
  exact ⟨p, rfl, _, h1, t, _, .cons (.ty _) (.cons (.ty _) .nil), tyX_mono ty s1, _, kt, k _ s1⟩
/-! ### carpets -/
/-- all but p stays -/
def But (p : Addr) (H H' : Hp) : Prop := ∀ b o, b ≠ p → H b = some o → H' b = some o
theorem But.of {p : Addr} {H H' : Hp} (s : Same H H') : But p H H' := fun b o _ h => s b o h
theorem But.put {p : Addr} {H H' : Hp} {o : HO} (x : Put H H' p o) : But p H H' := fun b u n h => by rw [x.2 b n]; exact h
theorem But.trans {p : Addr} {H H1 H2 : Hp} (x : But p H H1) (y : But p H1 H2) : But p H H2 := fun b o n h => y b o n (x b o n h)
section
variable {H H' : Hp} {p q C dx : Addr} {xs : List V} {fs : List (Str × V)}
theorem SqT.but (h : SqT K H q xs) (hp : H p = some (.ins C dx fs)) (k : But p H H') : SqT K H' q xs := by
  rcases h with (h | ⟨o, h⟩) | h
  · exact .inl (.inl (k _ _ (ne_of h hp (by intro z; cases z)) h))
  · exact .inl (.inr ⟨o, k _ _ (ne_of h hp (by intro z; cases z)) h⟩)
  · exact .inr h
theorem LG.but (h : LG K H q xs) (hp : H p = some (.ins C dx fs)) (k : But p H H') : LG K H' q xs := h.elim (fun h => .inl (k _ _ (ne_of h hp (by intro z; cases z)) h)) fun h => .inr (SqT.but h hp k)
theorem NFAt.but {n q : Addr} {w s h : Int} {R : List (List Nat)} (x : NFAt H n q w s h R) (hp : H p = some (.ins C dx fs)) (k : But p H H') : NFAt H' n q w s h R := ⟨k _ _ (ne_of x.n hp (by intro z; cases z)) x.n, k _ _ (ne_of x.q hp (by intro z; cases z)) x.q⟩
end
theorem lkf5 {x1 x2 x3 x4 x5 : V} : List.lookup ("a" : Str) [("a", x1), ("b", x2), ("d", x3), ("rows", x4), ("_normal", x5)] = some x1 := lkh
theorem lkCa {x1 x2 x3 x4 x5 : V} : List.lookup ("a" : Str) [("a", x1), ("b", x2), ("d", x3), ("rows", x4), ("_normal", x5)] = some x1 := lkh
theorem lkT {f g : Str} {w : V} {l : List (Str × V)} {r : Option V} (h1 : (f == g) = false) (h : List.lookup f l = r) : List.lookup f ((g, w) :: l) = r := by simp only [List.lookup, h1, h]
theorem lkCb {x1 x2 x3 x4 x5 : V} : List.lookup ("b" : Str) [("a", x1), ("b", x2), ("d", x3), ("rows", x4), ("_normal", x5)] = some x2 := lkT (by decide +kernel) lkh
theorem lkCd {x1 x2 x3 x4 x5 : V} : List.lookup ("d" : Str) [("a", x1), ("b", x2), ("d", x3), ("rows", x4), ("_normal", x5)] = some x3 := lkT (by decide +kernel) (lkT (by decide +kernel) lkh)
theorem lkCr {x1 x2 x3 x4 x5 : V} : List.lookup ("rows" : Str) [("a", x1), ("b", x2), ("d", x3), ("rows", x4), ("_normal", x5)] = some x4 := lkT (by decide +kernel) (lkT (by decide +kernel) (lkT (by decide +kernel) lkh))
theorem lkCn {x1 x2 x3 x4 x5 : V} : List.lookup ("_normal" : Str) [("a", x1), ("b", x2), ("d", x3), ("rows", x4), ("_normal", x5)] = some x5 := lkT (by decide +kernel) (lkT (by decide +kernel) (lkT (by decide +kernel) (lkT (by decide +kernel) lkh)))
theorem lkCno {m : Str} {x1 x2 x3 x4 x5 : V} (h1 : (m == ("a" : Str)) = false := by decide +kernel) (h2 : (m == ("b" : Str)) = false := by decide +kernel) (h3 : (m == ("d" : Str)) = false := by decide +kernel) (h4 : (m == ("rows" : Str)) = false := by decide +kernel) (h5 : (m == ("_normal" : Str)) = false := by decide +kernel) :
    List.lookup m [("a", x1), ("b", x2), ("d", x3), ("rows", x4), ("_normal", x5)] = none := lkT h1 (lkT h2 (lkT h3 (lkT h4 (lkT h5 rfl))))
theorem lkCl {x1 x2 x3 x4 x5 : V} : List.lookup ("lattice" : Str) [("a", x1), ("b", x2), ("d", x3), ("rows", x4), ("_normal", x5)] = none := lkCno
theorem lkCc {x1 x2 x3 x4 x5 : V} : List.lookup ("colour" : Str) [("a", x1), ("b", x2), ("d", x3), ("rows", x4), ("_normal", x5)] = none := lkCno
/-- a carpet rightly told -/
structure CT (a : Nat) (b : Int) (d : Nat) (rows : List (List Nat)) : Prop where
  R : RowsOk a d rows
  b0 : 0 ≤ b
  ba : b < a
  ar : a * d ≤ 144
  fig : figs rows
theorem CT.small {a d : Nat} {b : Int} {rows : List (List Nat)} (C : CT a b d rows) : a ≤ 144 ∧ d ≤ 144 := by
  have a1 := C.R.a1; have d1 := C.R.d1; have := C.ar
  constructor
  · exact Nat.le_trans (Nat.le_mul_of_pos_right a (by omega)) this
  · exact Nat.le_trans (Nat.le_mul_of_pos_left d (by omega)) this
theorem CT.LB {a d : Nat} {b : Int} {rows : List (List Nat)} (C : CT a b d rows) : LB a b d := by
  obtain ⟨h1, h2⟩ := C.small
  have a1 := C.R.a1; have d1 := C.R.d1
  exact ⟨by omega, C.b0, C.ba, by omega, pow_small (m := 8) (by omega) (by decide), pow_small (m := 8) (by omega) (by decide)⟩
/-- the carpet at c -/
structure Carp (K : PySem.W.Frag) (H : Hp) (c : Addr) (a : Nat) (b : Int) (d : Nat) (rows : List (List Nat)) : Prop where
  t : CT a b d rows
  at_ : ∃ dx rp np q w s h R, H c = some (.ins (ga K "Carpet") dx [("a", .int a), ("b", .int b), ("d", .int d), ("rows", .ref rp), ("_normal", .ref np)]) ∧ SqT K H rp (strsV rows) ∧ NFAt H np q w s h R ∧ NF (colR b rows) w s h R ∧ w ≤ a ∧ h ≤ d ∧ figs R
theorem Carp.same {K : PySem.W.Frag} {H H' : Hp} {c : Addr} {a d : Nat} {b : Int} {rows : List (List Nat)} (C : Carp K H c a b d rows) (e : Same H H') : Carp K H' c a b d rows :=
  let ⟨t, dx, rp, np, q, w, s, h, R, h1, h2, h3, h4⟩ := C; ⟨t, dx, rp, np, q, w, s, h, R, e _ _ h1, SqT.same h2 e, h3.same e, h4⟩
/-- an item that is no row of a figures -/
def BadI (K : PySem.W.Frag) (H : Hp) (a : Int) (v : V) : Prop := (∃ t, TyX K H v t ∧ PySem.W.kitOne K t (.type "str") = some false) ∨ ∃ l, v = .str (S l) ∧ l.length ≤ 1000 ∧ (decide ((l.length : Int) = a) && l.all figB) = false
theorem BadI.same {K : PySem.W.Frag} {H H' : Hp} {a : Int} {v : V} (h : BadI K H a v) (s : Same H H') : BadI K H' a v := h.elim (fun ⟨t, ty, k⟩ => .inl ⟨t, tyX_mono ty s, k⟩) .inr
theorem BadI.ext {K : PySem.W.Frag} {H H' : Hp} {a : Int} {v : V} (h : BadI K H a v) (s : LamX.ExtN H H') : BadI K H' a v := h.elim (fun ⟨t, ty, k⟩ => .inl ⟨t, tyX_ext ty s, k⟩) .inr
/-- what is handed in as rows; G of those that are right -/
def RowsG (K : PySem.W.Frag) (H : Hp) (E : XK) (a : Nat) (d : Nat) (v : V) (G : List (List Nat) → Prop) : Prop :=
  (∃ t, TyX K H v t ∧ PySem.W.kitAny K t [.type "list", .type "tuple"] = some false ∧ Rse K E H "BadPart" "part" (.str "rows")) ∨
  (∃ p xs, v = .ref p ∧ LG K H p xs ∧ xs.length ≠ d ∧ Rse K E H "BadPart" "part" (.str "rows")) ∨
  (∃ (p : Addr) (xs : List V) (i : Nat) (x : V), v = .ref p ∧ LG K H p xs ∧ xs.length = d ∧ xs[i]? = some x ∧ (∀ j y, j < i → xs[j]? = some y → ∃ l, y = .str (S l) ∧ l.length = a ∧ l.all figB = true) ∧ BadI K H a x ∧ Rse K E H "BadIndex" "index" (.int i)) ∨
  ∃ p rows, v = .ref p ∧ LG K H p (strsV rows) ∧ RowsOk a d rows ∧ figs rows ∧ G rows
theorem RowsG.imp {K : PySem.W.Frag} {H H' : Hp} {E : XK} {a d : Nat} {v : V} {G G' : List (List Nat) → Prop} (h : RowsG K H E a d v G) (s : Same H H') (g : ∀ r, G r → G' r) : RowsG K H' E a d v G' := by
  rcases h with ⟨t, ty, k, r⟩ | ⟨p, xs, e, hl, n, r⟩ | ⟨p, xs, i, x, e, hl, n, hx, hj, hb, r⟩ | ⟨p, rows, e, hl, R, f, k⟩
  · exact .inl ⟨t, tyX_mono ty s, k, r.mono s⟩
  · exact .inr (.inl ⟨p, xs, e, hl.same s, n, r.mono s⟩)
  · exact .inr (.inr (.inl ⟨p, xs, i, x, e, hl.same s, n, hx, hj, hb.same s, r.mono s⟩))
  · exact .inr (.inr (.inr ⟨p, rows, e, hl.same s, R, f, g _ k⟩))
/-- the numbers of a carpet, then its rows -/
def CG (K : PySem.W.Frag) (H : Hp) (E : XK) (x y z v : V) (G : Nat → Int → Nat → List (List Nat) → Prop) : Prop :=
  RL K H E x y z (∀ (a : Nat) (b : Int) (d : Nat), x = .int a → y = .int b → z = .int d → 1 ≤ a → 0 ≤ b → b < a → 1 ≤ d → a < 2 ^ 100 ∧ d < 2 ^ 100 ∧ (144 < a * d → Rse K E H "TooMany" "limit" (.int 144)) ∧ (a * d ≤ 144 → RowsG K H E a d v (G a b d)))
theorem CG.of {K : PySem.W.Frag} {H : Hp} {E : XK} {a d : Nat} {b : Int} {rows : List (List Nat)} {v : V} {G : Nat → Int → Nat → List (List Nat) → Prop} (C : CT a b d rows) (h : RowsG K H E a d v (G a b d)) : CG K H E (.int a) (.int b) (.int d) v G :=
  RL.ints (by have := C.R.a1; omega) C.b0 C.ba (by have := C.R.d1; omega) fun a' b' d' e1 e2 e3 _ _ _ _ => by
    have sm := C.small
    have ar := C.ar
    obtain rfl : a = a' := by injection e1; omega
    obtain rfl : d = d' := by injection e3; omega
    obtain rfl : b = b' := by injection e2
    exact ⟨by omega, by omega, fun h => absurd h (by omega), fun _ => h⟩
def spCarp (K : PySem.W.Frag) : Sp := fun vs H Q E => ∃ x y z v, vs = [x, y, z, v] ∧ CG K H E x y z v fun a b d rows => ∀ c H', H c = none → Same H H' → Carp K H' c a b d rows → Q (.ref c) H'
def spCarpI (K : PySem.W.Frag) : Sp := fun vs H Q E => ∃ p x y z v, vs = [.ref p, x, y, z, v] ∧ ∃ dx, H p = some (.ins (ga K "Carpet") dx []) ∧ CG K H E x y z v fun a b d rows => ∀ H', (∀ b o, b ≠ p → H b = some o → H' b = some o) → Carp K H' p a b d rows → Q .non H'
theorem i_Carpet___init__ (T : Txt K mg) {f : Addr} {fd : FuncData} (F : FunD K "__init__" "Carpet.__init__" (defArgs s_Carpet___init__) (defBody s_Carpet___init__) (defScope s_Carpet___init__) [] [] f fd) : FnOk P w K mg base (L2.CX P w) 6 f fd ["self", "a", "b", "d", "rows"] (spCarpI K) := by
  have o_require_lattice_numbers := o_require_lattice_numbers (P := P) (w := w) (base := base) T
  have o_is_row := o_is_row (P := P) (w := w) (base := base) T
  have o__is_row_of_figures := o__is_row_of_figures (P := P) (w := w) (base := base) T
  have o__normal_form := o__normal_form (P := P) (w := w) (base := base) T
  refine F.ok (CX := (L2.CX P w)) sc_Carpet___init__ (fun vs H Q E h => ?_) (fun cdv A outer s H vs Q E hr h => ?_)
  · first | (obtain ⟨_, rfl, _⟩ := h; rfl) | (obtain ⟨_, _, rfl, _⟩ := h; rfl) | (obtain ⟨_, _, _, rfl, _⟩ := h; rfl) | (obtain ⟨_, _, _, _, rfl, _⟩ := h; rfl) | (obtain ⟨_, _, _, _, _, rfl, _⟩ := h; rfl) | (obtain ⟨_, _, _, _, _, _, rfl, _⟩ := h; rfl) | (obtain ⟨_, _, _, _, _, _, _, rfl, _⟩ := h; rfl)
  have hu64 := hr.units
  refine ⟨_, (pss_cons (ps_expr (pcl o_require_lattice_numbers (hr.mono (by decide)) passE (pa_cons (pv 1) (pa_cons (pv 2) (pa_cons (pv 3) pa_nil)))))
      (pss_cons (ps_if (pt_cmpR op_gt (pe_op op_mulW (pv 1) (pv 3)) ((pe_glI T.k_MOST_PLACES)) (nomark _)) (pss_one (ps_raiseO (T.x_TooMany) (hr.mono (by decide)) takesE ((pe_glI T.k_MOST_PLACES)))) (pss_nil))
      (pss_cons (ps_if (PW.pt (pw_or (pt_not (pt_val (pcl o_is_row (hr.mono (by decide)) pass0 (pa_cons (pv 4) pa_nil)))) (pw_or1 (pt_cmpR op_ne (pe_callB call_len_seq (by rfl) T.m_len (by decide +kernel) (pa_cons (pv 4) pa_nil)) (pv 3) (nomark _))))) (pss_one (ps_raiseX (T.x_BadPart) (hr.mono (by decide)) takesE (pe_str))) (pss_nil))
      (pss_cons (ps_for (passes_of rfl) rfl (pi_or (pi_enum rfl T.m_enumerate (pa_cons (pv 4) pa_nil)) (pi_enumG rfl T.m_enumerate (pa_cons (pv 4) pa_nil))) (pg_tupN (n := 2) (by rfl) (pgs_cons (pg_name (i := 5) sc_Carpet___init__.nd rfl (Or.inl rfl)) (pgs_cons (pg_name (i := 6) sc_Carpet___init__.nd rfl (Or.inl rfl)) pgs_nil))) (pss_one (ps_if (pt_not (pt_val (pcl o__is_row_of_figures (hr.mono (by decide)) pass0 (pa_cons (pv 6) (pa_cons (pv 1) pa_nil))))) (pss_one (ps_raiseX (T.x_BadIndex) (hr.mono (by decide)) takesE (pv 5))) (pss_nil))))
      (pss_cons (ps_fldN T.c_Carpet T.na_Carpet_a (pv 0) (pv 1))
      (pss_cons (ps_fldN T.c_Carpet T.na_Carpet_b (pv 0) (pv 2))
      (pss_cons (ps_fldN T.c_Carpet T.na_Carpet_d (pv 0) (pv 3))
      (pss_cons (ps_fldN T.c_Carpet T.na_Carpet_rows (pv 0) (pe_callTy call_tupG (by rfl) T.m_tuple (by decide +kernel) (pa_cons (pv 4) pa_nil)))
      (pss_one (ps_fldN T.c_Carpet T.na_Carpet__normal (pv 0) (pcl o__normal_form (hr.mono (by decide)) pass0 (pa_cons (pv 2) (pa_cons (pv 3) (pa_cons (pe_fldN T.c_Carpet T.na_Carpet_rows (pv 0)) pa_nil)))))))))))))), ?_⟩
  obtain ⟨p, x, y, z, v, rfl, dx, hp, hR⟩ := h
  simp only [spRL, exists_and_left, S_eq, tD1, rTupN, rAddZ, rSlZ, rIxZ, rInZ, rIntZ, rStrZ, rLenZ, rRepZ, tJoinZ, tJoinG, rCntZ, rTupG, rAll, rMax2, rMin2, tSl, tPart, tNoPart, rSlLN, rSlG, gUnlN, tYes, rLenS, rRepN, unset, calmS, cx_K, Value.ref.injEq, HO.xd.injEq, lk0, tSeq, tPar3, tPar, tCons, tNil, tVar, tC, tAsg, gName, gCons, gNil, gTupN, gSub, tOp, rI, rI0, rU, tTest, rNe, rEq, rIxTN, rIxLN, rLenL, rLenT, rIntI, rIntB, rAbs, rSetLN, tTruL, tRaiseX, rIsTy, rIsOw, ixN0, ixN1, tRet, tIf, tIfS, tNext, tBreak, tCont, tDrop, tTupN, tLstN, tUn, tCB, tCall, tNot, tAnd, tOr, tB, tAndV, tOrV, tNotV, tChain, tApp, LamX.tLam, tRevLN, rCatN, rInTN, rInLN, flatV, inV, List.all_cons, List.all_nil, List.any_cons, List.any_nil, Bool.and_self, Bool.and_true, if_true, Bool.false_eq_true, if_false, tMt, tFldN, tSto, HO.ins.injEq, lkh, List.drop_zero, List.drop_succ_cons, List.drop_nil, rListS, wipe, L2.start, List.map_cons, List.map_nil, List.length_cons, List.length_nil, List.replicate, List.cons_append, List.nil_append, List.append_nil, Nat.reduceAdd, Nat.reduceSub, Nat.zero_add, List.replicate_succ, List.replicate_zero, List.getElem?_cons_zero, List.getElem?_cons_succ, List.set_cons_zero, List.set_cons_succ, Option.some.injEq, V.int.injEq, V.bl.injEq, V.ref.injEq, V.str.injEq, V.ty.injEq, List.cons.injEq, HO.tup.injEq, HO.lst.injEq, and_true, true_and, and_assoc, exists_eq_left, exists_eq_left', exists_and_left, exists_eq', atI0, atI1, atI2, atI3, Int.cast_ofNat_Int, Int.reduceToNat, scal_ii, scal_in, scal_ni, scal_nn, scal_bb, scal_ss, scal_sn, scal_ns, scal_bn, scal_nb, ite_iff, decide_eq_true_eq, decide_eq_false_iff_not, Bool.not_eq_true', Classical.not_not, ne_eq, not_false_eq_true, not_true_eq_false, forall_const, true_implies, false_implies, imp_self, sizeLine_eq, Nat.reduceLeDiff, reduceCtorEq, decide_true, decide_false]
  refine hR.imp (fun _ _ h => h) fun ex ey ez g => ?_
  obtain ⟨a, rfl, a1⟩ := isP_int ex
  obtain ⟨d, rfl, d1⟩ := isP_int ez
  obtain ⟨b, rfl⟩ : ∃ b, y = .int b := by cases y <;> simp_all [okL3]
  have hb : 0 ≤ b ∧ b < a := by simpa [okL3] using ey
  obtain ⟨n, rfl⟩ := Int.eq_ofNat_of_zero_le (show 0 ≤ a by omega)
  obtain ⟨m, rfl⟩ := Int.eq_ofNat_of_zero_le (show 0 ≤ d by omega)
  obtain ⟨az, dz, k1, k2⟩ := g n b m rfl rfl rfl (by omega) hb.1 hb.2 (by omega)
  simp only [spIsRow, exists_and_left, S_eq, tD1, rTupN, rAddZ, rSlZ, rIxZ, rInZ, rIntZ, rStrZ, rLenZ, rRepZ, tJoinZ, tJoinG, rCntZ, rTupG, rAll, rMax2, rMin2, tSl, tPart, tNoPart, rSlLN, rSlG, gUnlN, tYes, rLenS, rRepN, unset, calmS, cx_K, Value.ref.injEq, HO.xd.injEq, lk0, tSeq, tPar3, tPar, tCons, tNil, tVar, tC, tAsg, gName, gCons, gNil, gTupN, gSub, tOp, rI, rI0, rU, tTest, rNe, rEq, rIxTN, rIxLN, rLenL, rLenT, rIntI, rIntB, rAbs, rSetLN, tTruL, tRaiseX, rIsTy, rIsOw, ixN0, ixN1, tRet, tIf, tIfS, tNext, tBreak, tCont, tDrop, tTupN, tLstN, tUn, tCB, tCall, tNot, tAnd, tOr, tB, tAndV, tOrV, tNotV, tChain, tApp, LamX.tLam, tRevLN, rCatN, rInTN, rInLN, flatV, inV, List.all_cons, List.all_nil, List.any_cons, List.any_nil, Bool.and_self, Bool.and_true, if_true, Bool.false_eq_true, if_false, tMt, tFldN, tSto, HO.ins.injEq, lkh, List.drop_zero, List.drop_succ_cons, List.drop_nil, rListS, wipe, L2.start, List.map_cons, List.map_nil, List.length_cons, List.length_nil, List.replicate, List.cons_append, List.nil_append, List.append_nil, Nat.reduceAdd, Nat.reduceSub, Nat.zero_add, List.replicate_succ, List.replicate_zero, List.getElem?_cons_zero, List.getElem?_cons_succ, List.set_cons_zero, List.set_cons_succ, Option.some.injEq, V.int.injEq, V.bl.injEq, V.ref.injEq, V.str.injEq, V.ty.injEq, List.cons.injEq, HO.tup.injEq, HO.lst.injEq, and_true, true_and, and_assoc, exists_eq_left, exists_eq_left', exists_and_left, exists_eq', atI0, atI1, atI2, atI3, Int.cast_ofNat_Int, Int.reduceToNat, scal_ii, scal_in, scal_ni, scal_nn, scal_bb, scal_ss, scal_sn, scal_ns, scal_bn, scal_nb, ite_iff, decide_eq_true_eq, decide_eq_false_iff_not, Bool.not_eq_true', Classical.not_not, ne_eq, not_false_eq_true, not_true_eq_false, forall_const, true_implies, false_implies, imp_self, sizeLine_eq, Nat.reduceLeDiff, reduceCtorEq, decide_true, decide_false]
  have cast : (n : Int) * (m : Int) = ((n * m : Nat) : Int) := (Int.natCast_mul n m).symm
  rw [cast]
  refine ⟨wide_mul (a := 100) (b := 100) (by omega) (by omega) (by decide) (by decide) (by decide), fun h => k1 (by omega), fun h => ?_⟩
  have ar : n * m ≤ 144 := by omega
  obtain ⟨an, am⟩ : n ≤ 144 ∧ m ≤ 144 := ⟨Nat.le_trans (Nat.le_mul_of_pos_right n (by omega)) ar, Nat.le_trans (Nat.le_mul_of_pos_left m (by omega)) ar⟩
  rcases k2 ar with ⟨t, ty, kt, r⟩ | ⟨q, xs, rfl, hl, ne, r⟩ | ⟨q, xs, i, u, rfl, hl, ln, hx, hj, hbad, r⟩ | ⟨q, rows, rfl, hl, R, f, k⟩
  · exact ⟨t, ty, false, kt, fun H1 s1 => ⟨fun _ => r.mono s1, fun e => absurd rfl e⟩⟩
  · obtain ⟨tl, tyl, kl⟩ := hl.ty
    exact ⟨tl, tyl, true, kl, fun H1 s1 => ⟨fun e => (by cases e), fun _ => ⟨q, rfl, xs, (hl.same s1).imp SqL.of id, fun _ => r.mono s1, fun e => absurd (by omega) ne⟩⟩⟩
  · obtain ⟨tl, tyl, kl⟩ := hl.ty
    refine ⟨tl, tyl, true, kl, fun H1 s1 => ⟨fun e => (by cases e), fun _ => ⟨q, rfl, xs, (hl.same s1).imp SqL.of id, fun e => absurd (by omega) e, fun _ => ?_⟩⟩⟩
    refine st_forEG (fun R r => (by simp only [exists_and_left, S_eq, tD1, rTupN, rAddZ, rSlZ, rIxZ, rInZ, rIntZ, rStrZ, rLenZ, rRepZ, tJoinZ, tJoinG, rCntZ, rTupG, rAll, rMax2, rMin2, tSl, tPart, tNoPart, rSlLN, rSlG, gUnlN, tYes, rLenS, rRepN, unset, calmS, cx_K, Value.ref.injEq, HO.xd.injEq, lk0, tSeq, tPar3, tPar, tCons, tNil, tVar, tC, tAsg, gName, gCons, gNil, gTupN, gSub, tOp, rI, rI0, rU, tTest, rNe, rEq, rIxTN, rIxLN, rLenL, rLenT, rIntI, rIntB, rAbs, rSetLN, tTruL, tRaiseX, rIsTy, rIsOw, ixN0, ixN1, tRet, tIf, tIfS, tNext, tBreak, tCont, tDrop, tTupN, tLstN, tUn, tCB, tCall, tNot, tAnd, tOr, tB, tAndV, tOrV, tNotV, tChain, tApp, LamX.tLam, tRevLN, rCatN, rInTN, rInLN, flatV, inV, List.all_cons, List.all_nil, List.any_cons, List.any_nil, Bool.and_self, Bool.and_true, if_true, Bool.false_eq_true, if_false, tMt, tFldN, tSto, HO.ins.injEq, lkh, List.drop_zero, List.drop_succ_cons, List.drop_nil, rListS, wipe, L2.start, List.map_cons, List.map_nil, List.length_cons, List.length_nil, List.replicate, List.cons_append, List.nil_append, List.append_nil, Nat.reduceAdd, Nat.reduceSub, Nat.zero_add, List.replicate_succ, List.replicate_zero, List.getElem?_cons_zero, List.getElem?_cons_succ, List.set_cons_zero, List.set_cons_succ, Option.some.injEq, V.int.injEq, V.bl.injEq, V.ref.injEq, V.str.injEq, V.ty.injEq, List.cons.injEq, HO.tup.injEq, HO.lst.injEq, and_true, true_and, and_assoc, exists_eq_left, exists_eq_left', exists_and_left, exists_eq', atI0, atI1, atI2, atI3, Int.cast_ofNat_Int, Int.reduceToNat, scal_ii, scal_in, scal_ni, scal_nn, scal_bb, scal_ss, scal_sn, scal_ns, scal_bn, scal_nb, ite_iff, decide_eq_true_eq, decide_eq_false_iff_not, Bool.not_eq_true', Classical.not_not, ne_eq, not_false_eq_true, not_true_eq_false, forall_const, true_implies, false_implies, imp_self, sizeLine_eq, Nat.reduceLeDiff, reduceCtorEq, decide_true, decide_false]; exact r)) hl s1 (fun j σ' H' => ∃ x2 x3, σ' = [some (V.ref p), some (V.int n), some (V.int b), some (V.int m), some (V.ref q), x2, x3] ∧ Same H H' ∧ j ≤ i) ⟨none, none, rfl, s1, Nat.zero_le _⟩ (fun j σ' H' h => by obtain ⟨_, _, _, h, _⟩ := h; exact h) ?_ ?_
    · rintro j y T' _ H2 H3 hj3 ⟨x2, x3, rfl, s2, hji⟩ s3 h3
      simp only [h3, spFig, exists_and_left, S_eq, tD1, rTupN, rAddZ, rSlZ, rIxZ, rInZ, rIntZ, rStrZ, rLenZ, rRepZ, tJoinZ, tJoinG, rCntZ, rTupG, rAll, rMax2, rMin2, tSl, tPart, tNoPart, rSlLN, rSlG, gUnlN, tYes, rLenS, rRepN, unset, calmS, cx_K, Value.ref.injEq, HO.xd.injEq, lk0, tSeq, tPar3, tPar, tCons, tNil, tVar, tC, tAsg, gName, gCons, gNil, gTupN, gSub, tOp, rI, rI0, rU, tTest, rNe, rEq, rIxTN, rIxLN, rLenL, rLenT, rIntI, rIntB, rAbs, rSetLN, tTruL, tRaiseX, rIsTy, rIsOw, ixN0, ixN1, tRet, tIf, tIfS, tNext, tBreak, tCont, tDrop, tTupN, tLstN, tUn, tCB, tCall, tNot, tAnd, tOr, tB, tAndV, tOrV, tNotV, tChain, tApp, LamX.tLam, tRevLN, rCatN, rInTN, rInLN, flatV, inV, List.all_cons, List.all_nil, List.any_cons, List.any_nil, Bool.and_self, Bool.and_true, if_true, Bool.false_eq_true, if_false, tMt, tFldN, tSto, HO.ins.injEq, lkh, List.drop_zero, List.drop_succ_cons, List.drop_nil, rListS, wipe, L2.start, List.map_cons, List.map_nil, List.length_cons, List.length_nil, List.replicate, List.cons_append, List.nil_append, List.append_nil, Nat.reduceAdd, Nat.reduceSub, Nat.zero_add, List.replicate_succ, List.replicate_zero, List.getElem?_cons_zero, List.getElem?_cons_succ, List.set_cons_zero, List.set_cons_succ, Option.some.injEq, V.int.injEq, V.bl.injEq, V.ref.injEq, V.str.injEq, V.ty.injEq, List.cons.injEq, HO.tup.injEq, HO.lst.injEq, and_true, true_and, and_assoc, exists_eq_left, exists_eq_left', exists_and_left, exists_eq', atI0, atI1, atI2, atI3, Int.cast_ofNat_Int, Int.reduceToNat, scal_ii, scal_in, scal_ni, scal_nn, scal_bb, scal_ss, scal_sn, scal_ns, scal_bn, scal_nb, ite_iff, decide_eq_true_eq, decide_eq_false_iff_not, Bool.not_eq_true', Classical.not_not, ne_eq, not_false_eq_true, not_true_eq_false, forall_const, true_implies, false_implies, imp_self, sizeLine_eq, Nat.reduceLeDiff, reduceCtorEq, decide_true, decide_false]
      by_cases c : j = i
      · subst c
        rw [hx] at hj3; cases hj3
        rcases hbad.same (s2.trans s3) with ⟨t, ty, kt⟩ | ⟨l, rfl, ll, lb⟩
        · exact .inl ⟨t, ty, kt, r.mono (s2.trans s3)⟩
        · exact .inr ⟨l, rfl, ll, fun H4 s4 => ⟨fun _ => r.mono ((s2.trans s3).trans s4), fun e => absurd lb e⟩⟩
      · obtain ⟨l, rfl, ll, lb⟩ := hj j y (by omega) hj3
        exact .inr ⟨l, rfl, by omega, fun H4 s4 => ⟨fun e => (by rw [decide_eq_true (by omega), lb] at e; cases e), fun _ => ⟨(s2.trans s3).trans s4, by omega⟩⟩⟩
    · rintro _ H2 ⟨x2, x3, rfl, s2, hji⟩
      have := (List.getElem?_eq_some_iff.mp hx).1
      omega
  · obtain ⟨tl, tyl, kl⟩ := hl.ty
    have lR := R.len
    refine ⟨tl, tyl, true, kl, fun H1 s1 => ⟨fun e => (by cases e), fun _ => ⟨q, rfl, _, (hl.same s1).imp SqL.of id, fun e => absurd (by rw [strsV_len, lR]) e, fun _ => ?_⟩⟩⟩
    refine st_forEG (fun R r => (by simp only [exists_and_left, S_eq, tD1, rTupN, rAddZ, rSlZ, rIxZ, rInZ, rIntZ, rStrZ, rLenZ, rRepZ, tJoinZ, tJoinG, rCntZ, rTupG, rAll, rMax2, rMin2, tSl, tPart, tNoPart, rSlLN, rSlG, gUnlN, tYes, rLenS, rRepN, unset, calmS, cx_K, Value.ref.injEq, HO.xd.injEq, lk0, tSeq, tPar3, tPar, tCons, tNil, tVar, tC, tAsg, gName, gCons, gNil, gTupN, gSub, tOp, rI, rI0, rU, tTest, rNe, rEq, rIxTN, rIxLN, rLenL, rLenT, rIntI, rIntB, rAbs, rSetLN, tTruL, tRaiseX, rIsTy, rIsOw, ixN0, ixN1, tRet, tIf, tIfS, tNext, tBreak, tCont, tDrop, tTupN, tLstN, tUn, tCB, tCall, tNot, tAnd, tOr, tB, tAndV, tOrV, tNotV, tChain, tApp, LamX.tLam, tRevLN, rCatN, rInTN, rInLN, flatV, inV, List.all_cons, List.all_nil, List.any_cons, List.any_nil, Bool.and_self, Bool.and_true, if_true, Bool.false_eq_true, if_false, tMt, tFldN, tSto, HO.ins.injEq, lkh, List.drop_zero, List.drop_succ_cons, List.drop_nil, rListS, wipe, L2.start, List.map_cons, List.map_nil, List.length_cons, List.length_nil, List.replicate, List.cons_append, List.nil_append, List.append_nil, Nat.reduceAdd, Nat.reduceSub, Nat.zero_add, List.replicate_succ, List.replicate_zero, List.getElem?_cons_zero, List.getElem?_cons_succ, List.set_cons_zero, List.set_cons_succ, Option.some.injEq, V.int.injEq, V.bl.injEq, V.ref.injEq, V.str.injEq, V.ty.injEq, List.cons.injEq, HO.tup.injEq, HO.lst.injEq, and_true, true_and, and_assoc, exists_eq_left, exists_eq_left', exists_and_left, exists_eq', atI0, atI1, atI2, atI3, Int.cast_ofNat_Int, Int.reduceToNat, scal_ii, scal_in, scal_ni, scal_nn, scal_bb, scal_ss, scal_sn, scal_ns, scal_bn, scal_nb, ite_iff, decide_eq_true_eq, decide_eq_false_iff_not, Bool.not_eq_true', Classical.not_not, ne_eq, not_false_eq_true, not_true_eq_false, forall_const, true_implies, false_implies, imp_self, sizeLine_eq, Nat.reduceLeDiff, reduceCtorEq, decide_true, decide_false]; exact r)) hl s1 (fun j σ' H' => ∃ x2 x3, σ' = [some (V.ref p), some (V.int n), some (V.int b), some (V.int m), some (V.ref q), x2, x3] ∧ Same H H') ⟨none, none, rfl, s1⟩ (fun j σ' H' h => by obtain ⟨_, _, _, h⟩ := h; exact h) ?_ ?_
    · rintro j y T' _ H2 H3 hj3 ⟨x2, x3, rfl, s2⟩ s3 h3
      obtain ⟨l, hjl, rfl⟩ := strsV_get' hj3
      have ll := R.all l (List.mem_of_getElem? hjl)
      have lb : l.all figB = true := List.all_eq_true.mpr fun c hc => figB_iff.mpr (f l (List.mem_of_getElem? hjl) c hc)
      simp only [h3, spFig, exists_and_left, S_eq, tD1, rTupN, rAddZ, rSlZ, rIxZ, rInZ, rIntZ, rStrZ, rLenZ, rRepZ, tJoinZ, tJoinG, rCntZ, rTupG, rAll, rMax2, rMin2, tSl, tPart, tNoPart, rSlLN, rSlG, gUnlN, tYes, rLenS, rRepN, unset, calmS, cx_K, Value.ref.injEq, HO.xd.injEq, lk0, tSeq, tPar3, tPar, tCons, tNil, tVar, tC, tAsg, gName, gCons, gNil, gTupN, gSub, tOp, rI, rI0, rU, tTest, rNe, rEq, rIxTN, rIxLN, rLenL, rLenT, rIntI, rIntB, rAbs, rSetLN, tTruL, tRaiseX, rIsTy, rIsOw, ixN0, ixN1, tRet, tIf, tIfS, tNext, tBreak, tCont, tDrop, tTupN, tLstN, tUn, tCB, tCall, tNot, tAnd, tOr, tB, tAndV, tOrV, tNotV, tChain, tApp, LamX.tLam, tRevLN, rCatN, rInTN, rInLN, flatV, inV, List.all_cons, List.all_nil, List.any_cons, List.any_nil, Bool.and_self, Bool.and_true, if_true, Bool.false_eq_true, if_false, tMt, tFldN, tSto, HO.ins.injEq, lkh, List.drop_zero, List.drop_succ_cons, List.drop_nil, rListS, wipe, L2.start, List.map_cons, List.map_nil, List.length_cons, List.length_nil, List.replicate, List.cons_append, List.nil_append, List.append_nil, Nat.reduceAdd, Nat.reduceSub, Nat.zero_add, List.replicate_succ, List.replicate_zero, List.getElem?_cons_zero, List.getElem?_cons_succ, List.set_cons_zero, List.set_cons_succ, Option.some.injEq, V.int.injEq, V.bl.injEq, V.ref.injEq, V.str.injEq, V.ty.injEq, List.cons.injEq, HO.tup.injEq, HO.lst.injEq, and_true, true_and, and_assoc, exists_eq_left, exists_eq_left', exists_and_left, exists_eq', atI0, atI1, atI2, atI3, Int.cast_ofNat_Int, Int.reduceToNat, scal_ii, scal_in, scal_ni, scal_nn, scal_bb, scal_ss, scal_sn, scal_ns, scal_bn, scal_nb, ite_iff, decide_eq_true_eq, decide_eq_false_iff_not, Bool.not_eq_true', Classical.not_not, ne_eq, not_false_eq_true, not_true_eq_false, forall_const, true_implies, false_implies, imp_self, sizeLine_eq, Nat.reduceLeDiff, reduceCtorEq, decide_true, decide_false]
      exact .inr ⟨by omega, fun H4 s4 => ⟨fun e => (by rw [decide_eq_true (by omega), lb] at e; cases e), fun _ => (s2.trans s3).trans s4⟩⟩
    · rintro _ H2 ⟨x2, x3, rfl, s2⟩
      have hp2 := s2 _ _ hp
      simp only [spNF, exists_and_left, S_eq, tD1, rTupN, rAddZ, rSlZ, rIxZ, rInZ, rIntZ, rStrZ, rLenZ, rRepZ, tJoinZ, tJoinG, rCntZ, rTupG, rAll, rMax2, rMin2, tSl, tPart, tNoPart, rSlLN, rSlG, gUnlN, tYes, rLenS, rRepN, unset, calmS, cx_K, Value.ref.injEq, HO.xd.injEq, lk0, tSeq, tPar3, tPar, tCons, tNil, tVar, tC, tAsg, gName, gCons, gNil, gTupN, gSub, tOp, rI, rI0, rU, tTest, rNe, rEq, rIxTN, rIxLN, rLenL, rLenT, rIntI, rIntB, rAbs, rSetLN, tTruL, tRaiseX, rIsTy, rIsOw, ixN0, ixN1, tRet, tIf, tIfS, tNext, tBreak, tCont, tDrop, tTupN, tLstN, tUn, tCB, tCall, tNot, tAnd, tOr, tB, tAndV, tOrV, tNotV, tChain, tApp, LamX.tLam, tRevLN, rCatN, rInTN, rInLN, flatV, inV, List.all_cons, List.all_nil, List.any_cons, List.any_nil, Bool.and_self, Bool.and_true, if_true, Bool.false_eq_true, if_false, tMt, tFldN, tSto, HO.ins.injEq, lkh, List.drop_zero, List.drop_succ_cons, List.drop_nil, rListS, wipe, L2.start, List.map_cons, List.map_nil, List.length_cons, List.length_nil, List.replicate, List.cons_append, List.nil_append, List.append_nil, Nat.reduceAdd, Nat.reduceSub, Nat.zero_add, List.replicate_succ, List.replicate_zero, List.getElem?_cons_zero, List.getElem?_cons_succ, List.set_cons_zero, List.set_cons_succ, Option.some.injEq, V.int.injEq, V.bl.injEq, V.ref.injEq, V.str.injEq, V.ty.injEq, List.cons.injEq, HO.tup.injEq, HO.lst.injEq, and_true, true_and, and_assoc, exists_eq_left, exists_eq_left', exists_and_left, exists_eq', atI0, atI1, atI2, atI3, Int.cast_ofNat_Int, Int.reduceToNat, scal_ii, scal_in, scal_ni, scal_nn, scal_bb, scal_ss, scal_sn, scal_ns, scal_bn, scal_nb, ite_iff, decide_eq_true_eq, decide_eq_false_iff_not, Bool.not_eq_true', Classical.not_not, ne_eq, not_false_eq_true, not_true_eq_false, forall_const, true_implies, false_implies, imp_self, sizeLine_eq, Nat.reduceLeDiff, reduceCtorEq, decide_true, decide_false]
      refine ⟨dx, [], hp2, by decide, fun H3 p3 => ⟨dx, _, p3.1, by rw [putF_nil]; exact (by decide : 1 < 1000), fun H4 p4 => ⟨dx, _, p4.1, ?_, fun H5 p5 => ?_⟩⟩⟩
      · rw [putF_nil, putF_cons (by decide +kernel), putF_nil]; exact (by decide : 2 < 1000)
      have b5 : But p H2 H5 := ((But.put p3).trans (But.put p4)).trans (But.put p5)
      have h5 : H5 p = some (.ins (ga K "Carpet") dx [("a", .int n), ("b", .int b), ("d", .int m)]) := by
        rw [p5.1, putF_nil, putF_cons (by decide +kernel), putF_nil, putF_cons (by decide +kernel), putF_cons (by decide +kernel), putF_nil]
      refine ⟨_, (hl.same s2).but hp2 b5, fun rp H6 s6 h6 => ?_⟩
      have h6p := s6 _ _ h5
      refine ⟨dx, _, h6p, (by decide : 3 < 1000), fun H7 p7 => ?_⟩
      have h7 : H7 p = some (.ins (ga K "Carpet") dx [("a", .int n), ("b", .int b), ("d", .int m), ("rows", .ref rp)]) := by
        rw [p7.1, putF_cons (by decide +kernel), putF_cons (by decide +kernel), putF_cons (by decide +kernel), putF_nil]
      have r7 := SqT.but h6 h6p (But.put p7)
      refine ⟨dx, _, h7, _, lkT (by decide +kernel) (lkT (by decide +kernel) (lkT (by decide +kernel) lkh)), rp, rfl, rows, n, m, rfl, r7, R, by omega, by omega, hb.1, by omega, fun t qq w s hh RR H8 s8 N8 nf wn hm fg => ?_⟩
      have h8 := s8 _ _ h7
      refine ⟨dx, _, h8, (by decide : 4 < 1000), fun H9 p9 => ?_⟩
      have b9 : But p H2 H9 := ((b5.trans (But.of s6)).trans (But.put p7)).trans ((But.of s8).trans (But.put p9))
      refine k H9 (fun b o nb ob => b9 b o nb (s2 _ _ ob)) ⟨⟨R, hb.1, hb.2, ar, f⟩, dx, rp, t, qq, w, s, hh, RR, ?_, SqT.but (SqT.same r7 s8) h8 (But.put p9), N8.but h8 (But.put p9), nf, wn, hm, fg f⟩
      rw [p9.1, putF_cons (by decide +kernel), putF_cons (by decide +kernel), putF_cons (by decide +kernel), putF_cons (by decide +kernel), putF_nil]
theorem o_Carpet (T : Txt K mg) : OkK P w K mg base (L2.CX P w) 6 "Carpet" ["a", "b", "d", "rows"] [] (spCarp K) := by
  obtain ⟨f, fd, M, F⟩ := T.d_Carpet___init__
  refine ⟨f, fd, spCarpI K, M, T.g_Carpet, b_Carpet___init__ F, i_Carpet___init__ T F, fun vs H Q E h p dx hp hdx hne => ?_⟩
  obtain ⟨x, y, z, v, rfl, hR⟩ := h
  have s := same_made (H' := upd (upd H dx (.own p)) p (.ins (ga K "Carpet") dx [])) hp hdx fun b _ => rfl
  refine ⟨p, x, y, z, v, rfl, dx, upd_same, hR.imp s fun _ _ _ g a b d e1 e2 e3 e4 e5 e6 e7 => ?_⟩
  obtain ⟨g1, g2, g3, g4⟩ := g a b d e1 e2 e3 e4 e5 e6 e7
  refine ⟨g1, g2, fun l => (g3 l).mono s, fun l => (g4 l).imp s fun r g5 H' hk hc => ⟨rfl, g5 p H' hp (fun b o ob => ?_) hc⟩⟩
  exact hk b o (ne_of_none ob hp) (s b o ob)
/-- v is no Carpet -/
def NoC (K : PySem.W.Frag) (H : Hp) (v : V) : Prop := ∃ t, TyX K H v t ∧ PySem.W.kitOne K t (.ref (ga K "Carpet")) = some false
def spCEq (K : PySem.W.Frag) : Sp := fun vs H Q _ => ∃ p v, vs = [.ref p, v] ∧ ∃ a b d rows, Carp K H p a b d rows ∧ ((NoC K H v ∧ Q (.bl false) H) ∨ ∃ p2 a2 b2 d2 rows2, v = .ref p2 ∧ Carp K H p2 a2 b2 d2 rows2 ∧ ∀ r, (r = true ↔ colR b rows = colR b2 rows2) → Q (.bl r) H)
theorem o_Carpet___eq__ (T : Txt K mg) : OkM P w K mg base CX0 1 "Carpet" "__eq__" ["self", "other"] [] (spCEq K) := by
  obtain ⟨f, fd, M, F⟩ := T.d_Carpet___eq__
  refine ⟨f, fd, M, b_Carpet___eq__ F, F.ok (CX := CX0) sc_Carpet___eq__ (fun vs H Q E h => ?_) (fun cdv A outer s H vs Q E hr h => ?_)⟩
  · first | (obtain ⟨_, rfl, _⟩ := h; rfl) | (obtain ⟨_, _, rfl, _⟩ := h; rfl) | (obtain ⟨_, _, _, rfl, _⟩ := h; rfl) | (obtain ⟨_, _, _, _, rfl, _⟩ := h; rfl) | (obtain ⟨_, _, _, _, _, rfl, _⟩ := h; rfl) | (obtain ⟨_, _, _, _, _, _, rfl, _⟩ := h; rfl) | (obtain ⟨_, _, _, _, _, _, _, rfl, _⟩ := h; rfl)
  have hu64 := hr.units
  refine ⟨_, PSs.nox (pss_one (ps_ret (pe_and (pe_callB call_isOw (by rfl) T.m_isinstance (by decide +kernel) (pa_cons (pv 1) (pa_cons ((pe_glob (v := .ref (ga K "Carpet")) (by rfl) T.g_Carpet rfl)) pa_nil))) (pe_one (pe_cmpR (op_eqDk (K := K) rfl hu64) (pe_fldN T.c_Carpet T.na_Carpet__normal (pv 0)) (pe_fldN T.c_Carpet T.na_Carpet__normal (pv 1)) (nomark _)))))), ?_⟩
  obtain ⟨p, v, rfl, a, b, d, rows, C, h⟩ := h
  obtain ⟨Ct, dx, rp, np, q, w, s, hh, R, hc, hr, hn, nf, wa, hd, fg⟩ := C
  simp only [hc, lkCn, exists_and_left, S_eq, tD1, rTupN, rAddZ, rSlZ, rIxZ, rInZ, rIntZ, rStrZ, rLenZ, rRepZ, tJoinZ, tJoinG, rCntZ, rTupG, rAll, rMax2, rMin2, tSl, tPart, tNoPart, rSlLN, rSlG, gUnlN, tYes, rLenS, rRepN, unset, calmS, cx_K, Value.ref.injEq, HO.xd.injEq, lk0, tSeq, tPar3, tPar, tCons, tNil, tVar, tC, tAsg, gName, gCons, gNil, gTupN, gSub, tOp, rI, rI0, rU, tTest, rNe, rEq, rIxTN, rIxLN, rLenL, rLenT, rIntI, rIntB, rAbs, rSetLN, tTruL, tRaiseX, rIsTy, rIsOw, ixN0, ixN1, tRet, tIf, tIfS, tNext, tBreak, tCont, tDrop, tTupN, tLstN, tUn, tCB, tCall, tNot, tAnd, tOr, tB, tAndV, tOrV, tNotV, tChain, tApp, LamX.tLam, tRevLN, rCatN, rInTN, rInLN, flatV, inV, List.all_cons, List.all_nil, List.any_cons, List.any_nil, Bool.and_self, Bool.and_true, if_true, Bool.false_eq_true, if_false, tMt, tFldN, tSto, HO.ins.injEq, lkh, List.drop_zero, List.drop_succ_cons, List.drop_nil, rListS, wipe, L2.start, List.map_cons, List.map_nil, List.length_cons, List.length_nil, List.replicate, List.cons_append, List.nil_append, List.append_nil, Nat.reduceAdd, Nat.reduceSub, Nat.zero_add, List.replicate_succ, List.replicate_zero, List.getElem?_cons_zero, List.getElem?_cons_succ, List.set_cons_zero, List.set_cons_succ, Option.some.injEq, V.int.injEq, V.bl.injEq, V.ref.injEq, V.str.injEq, V.ty.injEq, List.cons.injEq, HO.tup.injEq, HO.lst.injEq, and_true, true_and, and_assoc, exists_eq_left, exists_eq_left', exists_and_left, exists_eq', atI0, atI1, atI2, atI3, Int.cast_ofNat_Int, Int.reduceToNat, scal_ii, scal_in, scal_ni, scal_nn, scal_bb, scal_ss, scal_sn, scal_ns, scal_bn, scal_nb, ite_iff, decide_eq_true_eq, decide_eq_false_iff_not, Bool.not_eq_true', Classical.not_not, ne_eq, not_false_eq_true, not_true_eq_false, forall_const, true_implies, false_implies, imp_self, sizeLine_eq, Nat.reduceLeDiff, reduceCtorEq, decide_true, decide_false]
  rcases h with ⟨⟨t, ty, e⟩, k⟩ | ⟨p2, a2, b2, d2, rows2, rfl, C2, k⟩
  · exact ⟨t, ty, false, e, fun h => (by cases h), fun _ => k⟩
  · obtain ⟨Ct2, dx2, rp2, np2, q2, w2, s2, hh2, R2, hc2, hr2, hn2, nf2, wa2, hd2, fg2⟩ := C2
    refine ⟨_, T.ci_Carpet.ty hc2, true, kit_self, fun _ => ?_, fun h => absurd rfl h⟩
    simp only [hc2, lkCn, exists_and_left, S_eq, tD1, rTupN, rAddZ, rSlZ, rIxZ, rInZ, rIntZ, rStrZ, rLenZ, rRepZ, tJoinZ, tJoinG, rCntZ, rTupG, rAll, rMax2, rMin2, tSl, tPart, tNoPart, rSlLN, rSlG, gUnlN, tYes, rLenS, rRepN, unset, calmS, cx_K, Value.ref.injEq, HO.xd.injEq, lk0, tSeq, tPar3, tPar, tCons, tNil, tVar, tC, tAsg, gName, gCons, gNil, gTupN, gSub, tOp, rI, rI0, rU, tTest, rNe, rEq, rIxTN, rIxLN, rLenL, rLenT, rIntI, rIntB, rAbs, rSetLN, tTruL, tRaiseX, rIsTy, rIsOw, ixN0, ixN1, tRet, tIf, tIfS, tNext, tBreak, tCont, tDrop, tTupN, tLstN, tUn, tCB, tCall, tNot, tAnd, tOr, tB, tAndV, tOrV, tNotV, tChain, tApp, LamX.tLam, tRevLN, rCatN, rInTN, rInLN, flatV, inV, List.all_cons, List.all_nil, List.any_cons, List.any_nil, Bool.and_self, Bool.and_true, if_true, Bool.false_eq_true, if_false, tMt, tFldN, tSto, HO.ins.injEq, lkh, List.drop_zero, List.drop_succ_cons, List.drop_nil, rListS, wipe, L2.start, List.map_cons, List.map_nil, List.length_cons, List.length_nil, List.replicate, List.cons_append, List.nil_append, List.append_nil, Nat.reduceAdd, Nat.reduceSub, Nat.zero_add, List.replicate_succ, List.replicate_zero, List.getElem?_cons_zero, List.getElem?_cons_succ, List.set_cons_zero, List.set_cons_succ, Option.some.injEq, V.int.injEq, V.bl.injEq, V.ref.injEq, V.str.injEq, V.ty.injEq, List.cons.injEq, HO.tup.injEq, HO.lst.injEq, and_true, true_and, and_assoc, exists_eq_left, exists_eq_left', exists_and_left, exists_eq', atI0, atI1, atI2, atI3, Int.cast_ofNat_Int, Int.reduceToNat, scal_ii, scal_in, scal_ni, scal_nn, scal_bb, scal_ss, scal_sn, scal_ns, scal_bn, scal_nb, ite_iff, decide_eq_true_eq, decide_eq_false_iff_not, Bool.not_eq_true', Classical.not_not, ne_eq, not_false_eq_true, not_true_eq_false, forall_const, true_implies, false_implies, imp_self, sizeLine_eq, Nat.reduceLeDiff, reduceCtorEq, decide_true, decide_false]
    refine eq_NF hn hn2 fg fg2 (k _ ?_)
    rw [decide_eq_true_eq, nf.iff nf2]
def spLattice (K : PySem.W.Frag) : Sp := fun vs H Q _ => ∃ p, vs = [.ref p] ∧ ∃ a b d rows, Carp K H p a b d rows ∧ ∀ l dx H', H l = none → Same H H' → LAt K H' l dx a b d → Q (.ref l) H'
theorem o_Carpet_lattice (T : Txt K mg) : OkM P w K mg base (L2.CX P w) 6 "Carpet" "lattice" ["self"] [] (spLattice K) := by
  have o_Lattice := o_Lattice (P := P) (w := w) (base := base) T
  obtain ⟨f, fd, M, F⟩ := T.d_Carpet_lattice
  refine ⟨f, fd, M, b_Carpet_lattice F, F.ok (CX := (L2.CX P w)) sc_Carpet_lattice (fun vs H Q E h => ?_) (fun cdv A outer s H vs Q E hr h => ?_)⟩
  · first | (obtain ⟨_, rfl, _⟩ := h; rfl) | (obtain ⟨_, _, rfl, _⟩ := h; rfl) | (obtain ⟨_, _, _, rfl, _⟩ := h; rfl) | (obtain ⟨_, _, _, _, rfl, _⟩ := h; rfl) | (obtain ⟨_, _, _, _, _, rfl, _⟩ := h; rfl) | (obtain ⟨_, _, _, _, _, _, rfl, _⟩ := h; rfl) | (obtain ⟨_, _, _, _, _, _, _, rfl, _⟩ := h; rfl)
  have hu64 := hr.units
  refine ⟨_, (pss_one (ps_ret (pmk (j := 0) o_Lattice (by decide) (hr.mono (by decide)) passE (pa_cons (pe_fldN T.c_Carpet T.na_Carpet_a (pv 0)) (pa_cons (pe_fldN T.c_Carpet T.na_Carpet_b (pv 0)) (pa_cons (pe_fldN T.c_Carpet T.na_Carpet_d (pv 0)) pa_nil)))))), ?_⟩
  obtain ⟨p, rfl, a, b, d, rows, C, k⟩ := h
  obtain ⟨Ct, dx, rp, np, q, w, s, hh, R, hc, hr, hn, nf, wa, hd, fg⟩ := C
  have B := Ct.LB
  simp only [spLat, hc, lkCa, lkCb, lkCd, exists_and_left, S_eq, tD1, rTupN, rAddZ, rSlZ, rIxZ, rInZ, rIntZ, rStrZ, rLenZ, rRepZ, tJoinZ, tJoinG, rCntZ, rTupG, rAll, rMax2, rMin2, tSl, tPart, tNoPart, rSlLN, rSlG, gUnlN, tYes, rLenS, rRepN, unset, calmS, cx_K, Value.ref.injEq, HO.xd.injEq, lk0, tSeq, tPar3, tPar, tCons, tNil, tVar, tC, tAsg, gName, gCons, gNil, gTupN, gSub, tOp, rI, rI0, rU, tTest, rNe, rEq, rIxTN, rIxLN, rLenL, rLenT, rIntI, rIntB, rAbs, rSetLN, tTruL, tRaiseX, rIsTy, rIsOw, ixN0, ixN1, tRet, tIf, tIfS, tNext, tBreak, tCont, tDrop, tTupN, tLstN, tUn, tCB, tCall, tNot, tAnd, tOr, tB, tAndV, tOrV, tNotV, tChain, tApp, LamX.tLam, tRevLN, rCatN, rInTN, rInLN, flatV, inV, List.all_cons, List.all_nil, List.any_cons, List.any_nil, Bool.and_self, Bool.and_true, if_true, Bool.false_eq_true, if_false, tMt, tFldN, tSto, HO.ins.injEq, lkh, List.drop_zero, List.drop_succ_cons, List.drop_nil, rListS, wipe, L2.start, List.map_cons, List.map_nil, List.length_cons, List.length_nil, List.replicate, List.cons_append, List.nil_append, List.append_nil, Nat.reduceAdd, Nat.reduceSub, Nat.zero_add, List.replicate_succ, List.replicate_zero, List.getElem?_cons_zero, List.getElem?_cons_succ, List.set_cons_zero, List.set_cons_succ, Option.some.injEq, V.int.injEq, V.bl.injEq, V.ref.injEq, V.str.injEq, V.ty.injEq, List.cons.injEq, HO.tup.injEq, HO.lst.injEq, and_true, true_and, and_assoc, exists_eq_left, exists_eq_left', exists_and_left, exists_eq', atI0, atI1, atI2, atI3, Int.cast_ofNat_Int, Int.reduceToNat, scal_ii, scal_in, scal_ni, scal_nn, scal_bb, scal_ss, scal_sn, scal_ns, scal_bn, scal_nb, ite_iff, decide_eq_true_eq, decide_eq_false_iff_not, Bool.not_eq_true', Classical.not_not, ne_eq, not_false_eq_true, not_true_eq_false, forall_const, true_implies, false_implies, imp_self, sizeLine_eq, Nat.reduceLeDiff, reduceCtorEq, decide_true, decide_false]
  exact RL.ints B.a1 B.b0 B.ba B.d1 fun l dx2 H1 hl s1 h1 => k l dx2 H1 hl s1 h1
/-- the colour of a cell, as an int -/
def colI (b : Int) (rows : List (List Nat)) (x y : Int) : Int := (colR b rows x y : Int) - 48
theorem CT.fig_at {a d : Nat} {b : Int} {rows : List (List Nat)} (C : CT a b d rows) (x y : Int) : 48 ≤ colR b rows x y ∧ colR b rows x y ≤ 57 := by
  obtain ⟨r, e, l, g⟩ := C.R.row y
  have a1 := C.R.a1
  rw [C.R.col e]
  have m0 := Int.emod_nonneg (x - b * (y / d)) (b := (a : Int)) (by omega)
  have m1 := Int.emod_lt_of_pos (x - b * (y / d)) (b := (a : Int)) (by omega)
  have hl : ((x - b * (y / d)) % (a : Int)).toNat < r.length := by omega
  rw [List.getD_eq_getElem?_getD, List.getElem?_eq_getElem hl]
  exact C.fig r (List.mem_of_getElem? e) _ (List.getElem_mem hl)
theorem CT.at_ {a d : Nat} {b : Int} {rows : List (List Nat)} (C : CT a b d rows) (x y : Int) : ∃ r, rows[(plY d y).toNat]? = some r ∧ 0 ≤ plY d y ∧ plY d y < d ∧ 0 ≤ plX a b d x y ∧ plX a b d x y < a ∧ r.length = a ∧ r[(plX a b d x y).toNat]? = some (colR b rows x y) := by
  obtain ⟨r, e, l, g⟩ := C.R.row y
  have a1 := C.R.a1
  have d1 := C.R.d1
  have ey : plY d y = y % (d : Int) := (Int.emod_def y d).symm
  have m0 := Int.emod_nonneg y (b := (d : Int)) (by omega)
  have m1 := Int.emod_lt_of_pos y (b := (d : Int)) (by omega)
  have n0 := Int.emod_nonneg (x - b * (y / d)) (b := (a : Int)) (by omega)
  have n1 := Int.emod_lt_of_pos (x - b * (y / d)) (b := (a : Int)) (by omega)
  have hl : ((x - b * (y / d)) % (a : Int)).toNat < r.length := by omega
  refine ⟨r, by rw [ey]; exact e, by omega, by omega, n0, n1, l, ?_⟩
  rw [C.R.col e, List.getD_eq_getElem?_getD, show plX a b d x y = (x - b * (y / d)) % (a : Int) from rfl, List.getElem?_eq_getElem hl]; rfl
def spColour (K : PySem.W.Frag) : Sp := fun vs H Q E => ∃ p v, vs = [.ref p, v] ∧ ∃ a b d rows, Carp K H p a b d rows ∧ PairK K H v ∧ (pairV H v = none → Rse K E H "BadPart" "part" (.str "cell")) ∧ Small 2000 (pairV H v) ∧ ∀ x y, pairV H v = some (x, y) → ∀ H', Same H H' → Q (.int (colI b rows x y)) H'
theorem o_Carpet_colour (T : Txt K mg) : OkM P w K mg base (L2.CX P w) 7 "Carpet" "colour" ["self", "cell"] [] (spColour K) := by
  have o_Carpet_lattice := o_Carpet_lattice (P := P) (w := w) (base := base) T
  have o_Lattice_place := o_Lattice_place (P := P) (w := w) (base := base) T
  obtain ⟨f, fd, M, F⟩ := T.d_Carpet_colour
  refine ⟨f, fd, M, b_Carpet_colour F, F.ok (CX := (L2.CX P w)) sc_Carpet_colour (fun vs H Q E h => ?_) (fun cdv A outer s H vs Q E hr h => ?_)⟩
  · first | (obtain ⟨_, rfl, _⟩ := h; rfl) | (obtain ⟨_, _, rfl, _⟩ := h; rfl) | (obtain ⟨_, _, _, rfl, _⟩ := h; rfl) | (obtain ⟨_, _, _, _, rfl, _⟩ := h; rfl) | (obtain ⟨_, _, _, _, _, rfl, _⟩ := h; rfl) | (obtain ⟨_, _, _, _, _, _, rfl, _⟩ := h; rfl) | (obtain ⟨_, _, _, _, _, _, _, rfl, _⟩ := h; rfl)
  have hu64 := hr.units
  refine ⟨_, (pss_cons (ps_asg (pmt (j := 0) o_Lattice_place T.c_Lattice (pmt0 (j := 0) o_Carpet_lattice T.c_Carpet (pv 0) (by decide) (hr.mono (by decide)) passE) (by decide) (hr.mono (by decide)) passE (pa_cons (pv 1) pa_nil)) (pg_tupN (n := 2) (by rfl) (pgs_cons (pg_name (i := 2) sc_Carpet_colour.nd rfl (Or.inl rfl)) (pgs_cons (pg_name (i := 3) sc_Carpet_colour.nd rfl (Or.inl rfl)) pgs_nil))))
      (pss_one (ps_ret (pe_callTy call_intZ (by rfl) T.m_int (by decide +kernel) (pa_cons (pe_ix ix_strZ (pe_ix ix_tup (pe_fldN T.c_Carpet T.na_Carpet_rows (pv 0)) (pv 3) (fun _ _ => rfl)) (pv 2) (fun _ _ => rfl)) pa_nil))))), ?_⟩
  obtain ⟨p, v, rfl, a, b, d, rows, C, hk, kn, ks, k⟩ := h
  have hC := C
  obtain ⟨Ct, dx, rp, np, q, w, s, hh, R, hc, hr, hn, nf, wa, hd, fg⟩ := C
  simp only [spLattice, hc, lkCl, lkCr, exists_and_left, S_eq, tD1, rTupN, rAddZ, rSlZ, rIxZ, rInZ, rIntZ, rStrZ, rLenZ, rRepZ, tJoinZ, tJoinG, rCntZ, rTupG, rAll, rMax2, rMin2, tSl, tPart, tNoPart, rSlLN, rSlG, gUnlN, tYes, rLenS, rRepN, unset, calmS, cx_K, Value.ref.injEq, HO.xd.injEq, lk0, tSeq, tPar3, tPar, tCons, tNil, tVar, tC, tAsg, gName, gCons, gNil, gTupN, gSub, tOp, rI, rI0, rU, tTest, rNe, rEq, rIxTN, rIxLN, rLenL, rLenT, rIntI, rIntB, rAbs, rSetLN, tTruL, tRaiseX, rIsTy, rIsOw, ixN0, ixN1, tRet, tIf, tIfS, tNext, tBreak, tCont, tDrop, tTupN, tLstN, tUn, tCB, tCall, tNot, tAnd, tOr, tB, tAndV, tOrV, tNotV, tChain, tApp, LamX.tLam, tRevLN, rCatN, rInTN, rInLN, flatV, inV, List.all_cons, List.all_nil, List.any_cons, List.any_nil, Bool.and_self, Bool.and_true, if_true, Bool.false_eq_true, if_false, tMt, tFldN, tSto, HO.ins.injEq, lkh, List.drop_zero, List.drop_succ_cons, List.drop_nil, rListS, wipe, L2.start, List.map_cons, List.map_nil, List.length_cons, List.length_nil, List.replicate, List.cons_append, List.nil_append, List.append_nil, Nat.reduceAdd, Nat.reduceSub, Nat.zero_add, List.replicate_succ, List.replicate_zero, List.getElem?_cons_zero, List.getElem?_cons_succ, List.set_cons_zero, List.set_cons_succ, Option.some.injEq, V.int.injEq, V.bl.injEq, V.ref.injEq, V.str.injEq, V.ty.injEq, List.cons.injEq, HO.tup.injEq, HO.lst.injEq, and_true, true_and, and_assoc, exists_eq_left, exists_eq_left', exists_and_left, exists_eq', atI0, atI1, atI2, atI3, Int.cast_ofNat_Int, Int.reduceToNat, scal_ii, scal_in, scal_ni, scal_nn, scal_bb, scal_ss, scal_sn, scal_ns, scal_bn, scal_nb, ite_iff, decide_eq_true_eq, decide_eq_false_iff_not, Bool.not_eq_true', Classical.not_not, ne_eq, not_false_eq_true, not_true_eq_false, forall_const, true_implies, false_implies, imp_self, sizeLine_eq, Nat.reduceLeDiff, reduceCtorEq, decide_true, decide_false]
  refine ⟨a, b, d, rows, hC, fun l dx2 H1 _ s1 h1 => ⟨dx2, _, h1, lkLn_place, l, v, rfl, dx2, a, b, d, h1, Ct.LB, hk.mono s1, fun e => (kn (by rw [hk.same s1] at e; exact e)).mono s1, by rw [hk.same s1]; exact ks, fun x y e t H2 s2 h2 => ?_⟩⟩
  rw [hk.same s1] at e
  obtain ⟨r, hy, y0, y1, x0, x1, lr, hx⟩ := Ct.at_ x y
  obtain ⟨f1, f2⟩ := Ct.fig_at x y
  have sm := Ct.small
  have h2' : H2 t = some (.tup [.int (plX a b d x y), .int (plY d y)]) := h2
  have hc2 := s2 _ _ (s1 _ _ hc)
  simp only [h2', hc2, lkCr, exists_and_left, S_eq, tD1, rTupN, rAddZ, rSlZ, rIxZ, rInZ, rIntZ, rStrZ, rLenZ, rRepZ, tJoinZ, tJoinG, rCntZ, rTupG, rAll, rMax2, rMin2, tSl, tPart, tNoPart, rSlLN, rSlG, gUnlN, tYes, rLenS, rRepN, unset, calmS, cx_K, Value.ref.injEq, HO.xd.injEq, lk0, tSeq, tPar3, tPar, tCons, tNil, tVar, tC, tAsg, gName, gCons, gNil, gTupN, gSub, tOp, rI, rI0, rU, tTest, rNe, rEq, rIxTN, rIxLN, rLenL, rLenT, rIntI, rIntB, rAbs, rSetLN, tTruL, tRaiseX, rIsTy, rIsOw, ixN0, ixN1, tRet, tIf, tIfS, tNext, tBreak, tCont, tDrop, tTupN, tLstN, tUn, tCB, tCall, tNot, tAnd, tOr, tB, tAndV, tOrV, tNotV, tChain, tApp, LamX.tLam, tRevLN, rCatN, rInTN, rInLN, flatV, inV, List.all_cons, List.all_nil, List.any_cons, List.any_nil, Bool.and_self, Bool.and_true, if_true, Bool.false_eq_true, if_false, tMt, tFldN, tSto, HO.ins.injEq, lkh, List.drop_zero, List.drop_succ_cons, List.drop_nil, rListS, wipe, L2.start, List.map_cons, List.map_nil, List.length_cons, List.length_nil, List.replicate, List.cons_append, List.nil_append, List.append_nil, Nat.reduceAdd, Nat.reduceSub, Nat.zero_add, List.replicate_succ, List.replicate_zero, List.getElem?_cons_zero, List.getElem?_cons_succ, List.set_cons_zero, List.set_cons_succ, Option.some.injEq, V.int.injEq, V.bl.injEq, V.ref.injEq, V.str.injEq, V.ty.injEq, List.cons.injEq, HO.tup.injEq, HO.lst.injEq, and_true, true_and, and_assoc, exists_eq_left, exists_eq_left', exists_and_left, exists_eq', atI0, atI1, atI2, atI3, Int.cast_ofNat_Int, Int.reduceToNat, scal_ii, scal_in, scal_ni, scal_nn, scal_bb, scal_ss, scal_sn, scal_ns, scal_bn, scal_nb, ite_iff, decide_eq_true_eq, decide_eq_false_iff_not, Bool.not_eq_true', Classical.not_not, ne_eq, not_false_eq_true, not_true_eq_false, forall_const, true_implies, false_implies, imp_self, sizeLine_eq, Nat.reduceLeDiff, reduceCtorEq, decide_true, decide_false]
  refine ⟨rp, _, _, _, rfl, rfl, SqT.same (SqT.same hr s1) s2, atI_ok y0 (strsV_get hy), ?_⟩
  simp only [exists_and_left, S_eq, tD1, rTupN, rAddZ, rSlZ, rIxZ, rInZ, rIntZ, rStrZ, rLenZ, rRepZ, tJoinZ, tJoinG, rCntZ, rTupG, rAll, rMax2, rMin2, tSl, tPart, tNoPart, rSlLN, rSlG, gUnlN, tYes, rLenS, rRepN, unset, calmS, cx_K, Value.ref.injEq, HO.xd.injEq, lk0, tSeq, tPar3, tPar, tCons, tNil, tVar, tC, tAsg, gName, gCons, gNil, gTupN, gSub, tOp, rI, rI0, rU, tTest, rNe, rEq, rIxTN, rIxLN, rLenL, rLenT, rIntI, rIntB, rAbs, rSetLN, tTruL, tRaiseX, rIsTy, rIsOw, ixN0, ixN1, tRet, tIf, tIfS, tNext, tBreak, tCont, tDrop, tTupN, tLstN, tUn, tCB, tCall, tNot, tAnd, tOr, tB, tAndV, tOrV, tNotV, tChain, tApp, LamX.tLam, tRevLN, rCatN, rInTN, rInLN, flatV, inV, List.all_cons, List.all_nil, List.any_cons, List.any_nil, Bool.and_self, Bool.and_true, if_true, Bool.false_eq_true, if_false, tMt, tFldN, tSto, HO.ins.injEq, lkh, List.drop_zero, List.drop_succ_cons, List.drop_nil, rListS, wipe, L2.start, List.map_cons, List.map_nil, List.length_cons, List.length_nil, List.replicate, List.cons_append, List.nil_append, List.append_nil, Nat.reduceAdd, Nat.reduceSub, Nat.zero_add, List.replicate_succ, List.replicate_zero, List.getElem?_cons_zero, List.getElem?_cons_succ, List.set_cons_zero, List.set_cons_succ, Option.some.injEq, V.int.injEq, V.bl.injEq, V.ref.injEq, V.str.injEq, V.ty.injEq, List.cons.injEq, HO.tup.injEq, HO.lst.injEq, and_true, true_and, and_assoc, exists_eq_left, exists_eq_left', exists_and_left, exists_eq', atI0, atI1, atI2, atI3, Int.cast_ofNat_Int, Int.reduceToNat, scal_ii, scal_in, scal_ni, scal_nn, scal_bb, scal_ss, scal_sn, scal_ns, scal_bn, scal_nb, ite_iff, decide_eq_true_eq, decide_eq_false_iff_not, Bool.not_eq_true', Classical.not_not, ne_eq, not_false_eq_true, not_true_eq_false, forall_const, true_implies, false_implies, imp_self, sizeLine_eq, Nat.reduceLeDiff, reduceCtorEq, decide_true, decide_false]
  exact ⟨by omega, _, atI_ok x0 hx, f1, f2, k x y e H2 (s1.trans s2)⟩

end
end Iz
/-! k12_e -/
set_option Elab.async false
set_option linter.all false
set_option maxRecDepth 100000
set_option maxHeartbeats 4000000
namespace Iz
open PySem PySem.Spec PyProof.Rows L2
open He (ga)
open SX (S S_len)
local macro_rules | `(tactic| walk_at "wp") => `(tactic| simp only [S_eq, tD1, rTupN, rAddZ, rSlZ, rIxZ, rInZ, rIntZ, rStrZ, rLenZ, rRepZ, tJoinZ, tJoinG, rCntZ, rTupG, rAll, rMax2, rMin2, tSl, tPart, tNoPart, rSlLN, rSlG, gUnlN, tYes, rLenS, rRepN, unset, calmS, cx_K, Value.ref.injEq, HO.xd.injEq, lk0, tSeq, tPar3, tPar, tCons, tNil, tVar, tC, tAsg, gName, gCons, gNil, gTupN, gSub, tOp, rI, rI0, rU, tTest, rNe, rEq, rIxTN, rIxLN, rLenL, rLenT, rIntI, rIntB, rAbs, rSetLN, tTruL, tRaiseX, rIsTy, rIsOw, ixN0, ixN1, tRet, tIf, tIfS, tNext, tBreak, tCont, tDrop, tTupN, tLstN, tUn, tCB, tCall, tNot, tAnd, tOr, tB, tAndV, tOrV, tNotV, tChain, tApp, LamX.tLam, tRevLN, rCatN, rInTN, rInLN, flatV, inV, List.all_cons, List.all_nil, List.any_cons, List.any_nil, Bool.and_self, Bool.and_true, if_true, Bool.false_eq_true, if_false, tMt, tFldN, tSto, HO.ins.injEq, lkh, List.drop_zero, List.drop_succ_cons, List.drop_nil, rListS, wipe, L2.start, List.map_cons, List.map_nil, List.length_cons, List.length_nil, List.replicate, List.cons_append, List.nil_append, List.append_nil, Nat.reduceAdd, Nat.reduceSub, Nat.zero_add, List.replicate_succ, List.replicate_zero, List.getElem?_cons_zero, List.getElem?_cons_succ, List.set_cons_zero, List.set_cons_succ, Option.some.injEq, V.int.injEq, V.bl.injEq, V.ref.injEq, V.str.injEq, V.ty.injEq, List.cons.injEq, HO.tup.injEq, HO.lst.injEq, and_true, true_and, and_assoc, exists_eq_left, exists_eq_left', exists_and_left, exists_eq', atI0, atI1, atI2, atI3, Int.cast_ofNat_Int, Int.reduceToNat, scal_ii, scal_in, scal_ni, scal_nn, scal_bb, scal_ss, scal_sn, scal_ns, scal_bn, scal_nb, ite_iff, decide_eq_true_eq, decide_eq_false_iff_not, Bool.not_eq_true', Classical.not_not, ne_eq, not_false_eq_true, not_true_eq_false, forall_const, true_implies, false_implies, imp_self, sizeLine_eq, Nat.reduceLeDiff, reduceCtorEq, decide_true, decide_false])
section
variable {P : Program} {w : World} {K : PySem.W.Frag} {mg : Str → Option Value} {base : Heap}
/-! ### what a carpet tells of its normal form -/
theorem NF.LB {C : Int → Int → Nat} {w s h : Int} {R : List (List Nat)} (N : NF C w s h R) (hw : w ≤ 1000) (hh : h ≤ 1000) : Iz.LB w s h := by
  have := N.w1; have := N.h1
  exact ⟨N.w1, N.s0, N.sw, N.h1, pow_small (m := 10) (by omega) (by decide), pow_small (m := 10) (by omega) (by decide)⟩
/-- the normal form stands as a told carpet -/
theorem NF.told {a d : Nat} {b w s h : Int} {rows R : List (List Nat)} (C : CT a b d rows) (N : NF (colR b rows) w s h R) (wa : w ≤ a) (hd : h ≤ d) : CT w.toNat s h.toNat R ∧ colR s R = colR b rows ∧ figs R := by
  have w1 := N.w1; have h1 := N.h1
  have f : figs R := fun l hl c hc => by
    rw [N.rows] at hl
    simp only [cells, List.mem_map] at hl
    obtain ⟨j, _, rfl⟩ := hl
    obtain ⟨i, _, rfl⟩ := List.mem_map.mp hc
    exact C.fig_at i j
  have ar : w.toNat * h.toNat ≤ a * d := Nat.mul_le_mul (by omega) (by omega)
  refine ⟨⟨by rw [N.rows]; exact cells_ok (by omega) (by omega), N.s0, by have := N.sw; omega, Nat.le_trans ar C.ar, f⟩, ?_, f⟩
  rw [N.rows]
  exact cells_col (by omega) (by omega) (by rw [Int.toNat_of_nonneg (by omega)]; exact N.pw) (by rw [Int.toNat_of_nonneg (by omega)]; exact N.ph)
def spLeast (K : PySem.W.Frag) : Sp := fun vs H Q _ => ∃ p, vs = [.ref p] ∧ ∃ a b d rows, Carp K H p a b d rows ∧ ∀ l dx w s h R H', H l = none → Same H H' → LAt K H' l dx w s h → NF (colR b rows) w s h R → w ≤ a → h ≤ d → Q (.ref l) H'
theorem o_Carpet_least (T : Txt K mg) : OkM P w K mg base (L2.CX P w) 6 "Carpet" "least" ["self"] [] (spLeast K) := by
  have o_Lattice := o_Lattice (P := P) (w := w) (base := base) T
  obtain ⟨f, fd, M, F⟩ := T.d_Carpet_least
  refine ⟨f, fd, M, b_Carpet_least F, F.ok (CX := (L2.CX P w)) sc_Carpet_least (fun vs H Q E h => ?_) (fun cdv A outer s H vs Q E hr h => ?_)⟩
  · first | (obtain ⟨_, rfl, _⟩ := h; rfl) | (obtain ⟨_, _, rfl, _⟩ := h; rfl) | (obtain ⟨_, _, _, rfl, _⟩ := h; rfl) | (obtain ⟨_, _, _, _, rfl, _⟩ := h; rfl) | (obtain ⟨_, _, _, _, _, rfl, _⟩ := h; rfl) | (obtain ⟨_, _, _, _, _, _, rfl, _⟩ := h; rfl) | (obtain ⟨_, _, _, _, _, _, _, rfl, _⟩ := h; rfl)
  have hu64 := hr.units
  refine ⟨_, (pss_cons (ps_asg (pe_fldN T.c_Carpet T.na_Carpet__normal (pv 0)) (pg_tupN (n := 4) (by rfl) (pgs_cons (pg_name (i := 1) sc_Carpet_least.nd rfl (Or.inl rfl)) (pgs_cons (pg_name (i := 2) sc_Carpet_least.nd rfl (Or.inl rfl)) (pgs_cons (pg_name (i := 3) sc_Carpet_least.nd rfl (Or.inl rfl)) (pgs_cons (pg_name (i := 4) sc_Carpet_least.nd rfl (Or.inl rfl)) pgs_nil))))))
      (pss_one (ps_ret (pmk (j := 0) o_Lattice (by decide) (hr.mono (by decide)) passE (pa_cons (pv 1) (pa_cons (pv 2) (pa_cons (pv 3) pa_nil))))))), ?_⟩
  obtain ⟨p, rfl, a, b, d, rows, C, k⟩ := h
  obtain ⟨Ct, dx, rp, np, q, w, s, hh, R, hc, hr, hn, nf, wa, hd, fg⟩ := C
  have sm := Ct.small
  have B := nf.LB (by omega) (by omega)
  have hn1 := hn.n
  simp only [spLat, hc, hn1, lkCn, exists_and_left, S_eq, tD1, rTupN, rAddZ, rSlZ, rIxZ, rInZ, rIntZ, rStrZ, rLenZ, rRepZ, tJoinZ, tJoinG, rCntZ, rTupG, rAll, rMax2, rMin2, tSl, tPart, tNoPart, rSlLN, rSlG, gUnlN, tYes, rLenS, rRepN, unset, calmS, cx_K, Value.ref.injEq, HO.xd.injEq, lk0, tSeq, tPar3, tPar, tCons, tNil, tVar, tC, tAsg, gName, gCons, gNil, gTupN, gSub, tOp, rI, rI0, rU, tTest, rNe, rEq, rIxTN, rIxLN, rLenL, rLenT, rIntI, rIntB, rAbs, rSetLN, tTruL, tRaiseX, rIsTy, rIsOw, ixN0, ixN1, tRet, tIf, tIfS, tNext, tBreak, tCont, tDrop, tTupN, tLstN, tUn, tCB, tCall, tNot, tAnd, tOr, tB, tAndV, tOrV, tNotV, tChain, tApp, LamX.tLam, tRevLN, rCatN, rInTN, rInLN, flatV, inV, List.all_cons, List.all_nil, List.any_cons, List.any_nil, Bool.and_self, Bool.and_true, if_true, Bool.false_eq_true, if_false, tMt, tFldN, tSto, HO.ins.injEq, lkh, List.drop_zero, List.drop_succ_cons, List.drop_nil, rListS, wipe, L2.start, List.map_cons, List.map_nil, List.length_cons, List.length_nil, List.replicate, List.cons_append, List.nil_append, List.append_nil, Nat.reduceAdd, Nat.reduceSub, Nat.zero_add, List.replicate_succ, List.replicate_zero, List.getElem?_cons_zero, List.getElem?_cons_succ, List.set_cons_zero, List.set_cons_succ, Option.some.injEq, V.int.injEq, V.bl.injEq, V.ref.injEq, V.str.injEq, V.ty.injEq, List.cons.injEq, HO.tup.injEq, HO.lst.injEq, and_true, true_and, and_assoc, exists_eq_left, exists_eq_left', exists_and_left, exists_eq', atI0, atI1, atI2, atI3, Int.cast_ofNat_Int, Int.reduceToNat, scal_ii, scal_in, scal_ni, scal_nn, scal_bb, scal_ss, scal_sn, scal_ns, scal_bn, scal_nb, ite_iff, decide_eq_true_eq, decide_eq_false_iff_not, Bool.not_eq_true', Classical.not_not, ne_eq, not_false_eq_true, not_true_eq_false, forall_const, true_implies, false_implies, imp_self, sizeLine_eq, Nat.reduceLeDiff, reduceCtorEq, decide_true, decide_false]
  exact RL.ints B.a1 B.b0 B.ba B.d1 fun l dx2 H1 hl s1 h1 => k l dx2 w s hh R H1 hl s1 h1 nf wa hd
def spNormal (K : PySem.W.Frag) : Sp := fun vs H Q _ => ∃ p, vs = [.ref p] ∧ ∃ a b d rows, Carp K H p a b d rows ∧ ∀ n q w s h R, NFAt H n q w s h R → NF (colR b rows) w s h R → w ≤ a → h ≤ d → figs R → Q (.ref n) H
theorem o_Carpet_normal (T : Txt K mg) : OkM P w K mg base CX0 1 "Carpet" "normal" ["self"] [] (spNormal K) := by
  obtain ⟨f, fd, M, F⟩ := T.d_Carpet_normal
  refine ⟨f, fd, M, b_Carpet_normal F, F.ok (CX := CX0) sc_Carpet_normal (fun vs H Q E h => ?_) (fun cdv A outer s H vs Q E hr h => ?_)⟩
  · first | (obtain ⟨_, rfl, _⟩ := h; rfl) | (obtain ⟨_, _, rfl, _⟩ := h; rfl) | (obtain ⟨_, _, _, rfl, _⟩ := h; rfl) | (obtain ⟨_, _, _, _, rfl, _⟩ := h; rfl) | (obtain ⟨_, _, _, _, _, rfl, _⟩ := h; rfl) | (obtain ⟨_, _, _, _, _, _, rfl, _⟩ := h; rfl) | (obtain ⟨_, _, _, _, _, _, _, rfl, _⟩ := h; rfl)
  have hu64 := hr.units
  refine ⟨_, PSs.nox (pss_one (ps_ret (pe_fldN T.c_Carpet T.na_Carpet__normal (pv 0)))), ?_⟩
  obtain ⟨p, rfl, a, b, d, rows, C, k⟩ := h
  obtain ⟨Ct, dx, rp, np, q, w, s, hh, R, hc, hr, hn, nf, wa, hd, fg⟩ := C
  simp only [hc, lkCn, exists_and_left, S_eq, tD1, rTupN, rAddZ, rSlZ, rIxZ, rInZ, rIntZ, rStrZ, rLenZ, rRepZ, tJoinZ, tJoinG, rCntZ, rTupG, rAll, rMax2, rMin2, tSl, tPart, tNoPart, rSlLN, rSlG, gUnlN, tYes, rLenS, rRepN, unset, calmS, cx_K, Value.ref.injEq, HO.xd.injEq, lk0, tSeq, tPar3, tPar, tCons, tNil, tVar, tC, tAsg, gName, gCons, gNil, gTupN, gSub, tOp, rI, rI0, rU, tTest, rNe, rEq, rIxTN, rIxLN, rLenL, rLenT, rIntI, rIntB, rAbs, rSetLN, tTruL, tRaiseX, rIsTy, rIsOw, ixN0, ixN1, tRet, tIf, tIfS, tNext, tBreak, tCont, tDrop, tTupN, tLstN, tUn, tCB, tCall, tNot, tAnd, tOr, tB, tAndV, tOrV, tNotV, tChain, tApp, LamX.tLam, tRevLN, rCatN, rInTN, rInLN, flatV, inV, List.all_cons, List.all_nil, List.any_cons, List.any_nil, Bool.and_self, Bool.and_true, if_true, Bool.false_eq_true, if_false, tMt, tFldN, tSto, HO.ins.injEq, lkh, List.drop_zero, List.drop_succ_cons, List.drop_nil, rListS, wipe, L2.start, List.map_cons, List.map_nil, List.length_cons, List.length_nil, List.replicate, List.cons_append, List.nil_append, List.append_nil, Nat.reduceAdd, Nat.reduceSub, Nat.zero_add, List.replicate_succ, List.replicate_zero, List.getElem?_cons_zero, List.getElem?_cons_succ, List.set_cons_zero, List.set_cons_succ, Option.some.injEq, V.int.injEq, V.bl.injEq, V.ref.injEq, V.str.injEq, V.ty.injEq, List.cons.injEq, HO.tup.injEq, HO.lst.injEq, and_true, true_and, and_assoc, exists_eq_left, exists_eq_left', exists_and_left, exists_eq', atI0, atI1, atI2, atI3, Int.cast_ofNat_Int, Int.reduceToNat, scal_ii, scal_in, scal_ni, scal_nn, scal_bb, scal_ss, scal_sn, scal_ns, scal_bn, scal_nb, ite_iff, decide_eq_true_eq, decide_eq_false_iff_not, Bool.not_eq_true', Classical.not_not, ne_eq, not_false_eq_true, not_true_eq_false, forall_const, true_implies, false_implies, imp_self, sizeLine_eq, Nat.reduceLeDiff, reduceCtorEq, decide_true, decide_false]
  exact k np q w s hh R hn nf wa hd fg
/-! ### shifts within -/
/-- within a lattice: what goes by periods of a normal form -/
theorem NF.inL {C : Int → Int → Nat} {w s h : Int} {R : List (List Nat)} (N : NF C w s h R) {x y : Int} (P : Per C x y) : Iz.inL w s h (some (x, y)) = true := by
  have w1 := N.w1; have h1 := N.h1
  have e := Int.emod_add_mul_ediv y h
  have q := P.sub (N.ph.smul (y / h))
  rw [show y - y / h * h = y % h by rw [Int.mul_comm (y / h)]; omega] at q
  have m0 := Int.emod_nonneg y (b := h) (by omega)
  have m1 := Int.emod_lt_of_pos y (b := h) (by omega)
  have y0 : y % h = 0 := by
    by_cases c : y % h = 0
    · exact c
    · exact absurd q (N.lh _ _ (by omega) m1)
  rw [y0] at q
  have e2 := Int.emod_add_mul_ediv (x - y / h * s) w
  have q2 := q.sub (N.pw.smul ((x - y / h * s) / w))
  rw [Int.mul_zero, Int.sub_zero, show x - y / h * s - (x - y / h * s) / w * w = (x - y / h * s) % w by rw [Int.mul_comm ((x - y / h * s) / w)]; omega] at q2
  have n0 := Int.emod_nonneg (x - y / h * s) (b := w) (by omega)
  have n1 := Int.emod_lt_of_pos (x - y / h * s) (b := w) (by omega)
  have x0 : (x - y / h * s) % w = 0 := by
    by_cases c : (x - y / h * s) % w = 0
    · exact c
    · exact absurd q2 (N.lw _ (by omega) n1)
  show decide (plX w s h x y = 0 ∧ plY h y = 0) = true
  rw [decide_eq_true_eq]
  unfold plX plY
  rw [Int.mul_comm s]
  exact ⟨x0, by omega⟩

/-! ### rows of a carpet -/
theorem rep_len {k : Nat} {l : List Nat} : (List.replicate k l).flatten.length = k * l.length := by
  induction k with
  | zero => simp
  | succ n ih => rw [List.replicate_succ, List.flatten_cons, List.length_append, ih, Nat.succ_mul]; omega
theorem rep_get {k i : Nat} {l : List Nat} (h : i < k * l.length) : (List.replicate k l).flatten.getD i 0 = l.getD (i % l.length) 0 := by
  induction k generalizing i with
  | zero => simp at h
  | succ n ih =>
    rw [List.replicate_succ, List.flatten_cons]
    simp only [List.getD_eq_getElem?_getD] at ih ⊢
    by_cases c : i < l.length
    · rw [List.getElem?_append_left c, Nat.mod_eq_of_lt c]
    · rw [List.getElem?_append_right (by omega), ih (by rw [Nat.succ_mul] at h; omega), Nat.mod_eq_sub_mod (a := i) (by omega)]
theorem row_cols {a d k w : Nat} {b x y : Int} {rows : List (List Nat)} {r : List Nat} (C : CT a b d rows) (hr : rows[(plY d y).toNat]? = some r) (hw : w ≤ k * a) :
    ((List.replicate k (tn (plX a b d x y).toNat r)).flatten).take w = (List.range w).map fun (i : Nat) => colR b rows (x + i) y := by
  have a1 := C.R.a1
  have lr : r.length = a := C.R.all _ (List.mem_of_getElem? hr)
  have ey : plY d y = y % (d : Int) := (Int.emod_def y d).symm
  rw [ey] at hr
  have x0 := Int.emod_nonneg (x - b * (y / d)) (b := (a : Int)) (by omega)
  have x1 := Int.emod_lt_of_pos (x - b * (y / d)) (b := (a : Int)) (by omega)
  have ex : plX a b d x y = (x - b * (y / d)) % (a : Int) := rfl
  refine getD_ext (by rw [List.length_take, rep_len, tn_length, lr, List.length_map, List.length_range]; omega) fun i hi => ?_
  rw [List.length_take, rep_len, tn_length, lr] at hi
  have iw : i < w := by omega
  rw [List.getD_eq_getElem?_getD, List.getElem?_take, if_pos iw, ← List.getD_eq_getElem?_getD, rep_get (by rw [tn_length, lr]; omega), tn_length, lr, tn_get (by rw [ex]; omega) (by rw [lr]; exact Nat.mod_lt _ a1), lr]
  rw [List.getD_eq_getElem?_getD, List.getD_eq_getElem?_getD, List.getElem?_map, List.getElem?_range iw]
  show _ = colR b rows (x + i) y
  rw [C.R.col hr, List.getD_eq_getElem?_getD]
  congr 2
  rw [ex]
  have e : (((i % a + ((x - b * (y / d)) % (a : Int)).toNat) % a : Nat) : Int) = (x + i - b * (y / d)) % (a : Int) := by
    rw [Int.natCast_emod, Int.natCast_add, Int.natCast_emod, Int.toNat_of_nonneg x0, ← Int.add_emod]
    congr 1; omega
  omega
def spRowT (K : PySem.W.Frag) : Sp := fun vs H Q E => ∃ c t w, vs = [.ref c, .ref t, .int w] ∧ ∃ a b d rows x y, Carp K H c a b d rows ∧ P2 H t x y ∧ x.natAbs < 2 ^ 2000 ∧ y.natAbs < 2 ^ 2000 ∧ 0 ≤ w ∧ w ≤ 900 ∧ ∀ H', Same H H' → Q (.str (S ((List.range w.toNat).map fun (i : Nat) => colR b rows (x + i) y))) H'
theorem o_row_text (T : Txt K mg) : OkF P w K mg base CX0 8 "row_text" ["carpet", "cell", "wide"] (spRowT K) := by
  have o_Carpet_lattice := o_Carpet_lattice (P := P) (w := w) (base := base) T
  have o_Lattice_place := o_Lattice_place (P := P) (w := w) (base := base) T
  have o__turned_row := o__turned_row (P := P) (w := w) (base := base) T
  obtain ⟨f, fd, g, F⟩ := T.d_row_text
  refine ⟨f, fd, g, F.kp, F.binds (fun _ _ _ _ _ _ us hl => match us, hl with | [_, _, _], _ => rfl), F.ok sc_row_text (fun vs H Q E h => ?_) (fun cdv A outer s H vs Q E hr h => ?_)⟩
  · first | (obtain ⟨_, rfl, _⟩ := h; rfl) | (obtain ⟨_, _, rfl, _⟩ := h; rfl) | (obtain ⟨_, _, _, rfl, _⟩ := h; rfl) | (obtain ⟨_, _, _, _, rfl, _⟩ := h; rfl) | (obtain ⟨_, _, _, _, _, rfl, _⟩ := h; rfl) | (obtain ⟨_, _, _, _, _, _, rfl, _⟩ := h; rfl) | (obtain ⟨_, _, _, _, _, _, _, rfl, _⟩ := h; rfl)
  have hu64 := hr.units
  refine ⟨_, pss_cons (ps_asg (pmt (j := 0) o_Lattice_place T.c_Lattice (pmt0 (j := 0) o_Carpet_lattice T.c_Carpet (pv 0) (by decide) (hr.mono (by decide)) passL) (by decide) (hr.mono (by decide)) passL (pa_cons (pv 1) pa_nil)) (pg_tupN (n := 2) (by rfl) (pgs_cons (pg_name (i := 3) sc_row_text.nd rfl (Or.inl rfl)) (pgs_cons (pg_name (i := 4) sc_row_text.nd rfl (Or.inl rfl)) pgs_nil))))
      (pss_cons (ps_set (i := 5) sc_row_text.nd rfl (Or.inl rfl) (pe_ix ix_tup (pe_fldN T.c_Carpet T.na_Carpet_rows (pv 0)) (pv 4) (fun _ _ => rfl)))
      (pss_one (ps_ret (pe_slice sl_strZ (pe_op op_repZ (pcl o__turned_row (hr.mono (by decide)) pass0 (pa_cons (pv 5) (pa_cons (pv 3) pa_nil))) (pe_op op_add (pe_op op_fdivW (pv 2) (pe_fldN T.c_Carpet T.na_Carpet_a (pv 0))) (pe_int))) (po_none) (po_some (pv 2)))))), ?_⟩
  obtain ⟨c, t, w, rfl, a, b, d, rows, x, y, C, ht, xs, ys, w0, w9, k⟩ := h
  obtain ⟨dx, rp, np, q, ww, s, hh, R, hc, hr, hn, nf, wa, hd, fg⟩ := C.at_
  simp only [spLattice, hc, lkCl, exists_and_left, S_eq, tD1, rTupN, rAddZ, rSlZ, rIxZ, rInZ, rIntZ, rStrZ, rLenZ, rRepZ, tJoinZ, tJoinG, rCntZ, rTupG, rAll, rMax2, rMin2, tSl, tPart, tNoPart, rSlLN, rSlG, gUnlN, tYes, rLenS, rRepN, unset, calmS, cx_K, Value.ref.injEq, HO.xd.injEq, lk0, tSeq, tPar3, tPar, tCons, tNil, tVar, tC, tAsg, gName, gCons, gNil, gTupN, gSub, tOp, rI, rI0, rU, tTest, rNe, rEq, rIxTN, rIxLN, rLenL, rLenT, rIntI, rIntB, rAbs, rSetLN, tTruL, tRaiseX, rIsTy, rIsOw, ixN0, ixN1, tRet, tIf, tIfS, tNext, tBreak, tCont, tDrop, tTupN, tLstN, tUn, tCB, tCall, tNot, tAnd, tOr, tB, tAndV, tOrV, tNotV, tChain, tApp, LamX.tLam, tRevLN, rCatN, rInTN, rInLN, flatV, inV, List.all_cons, List.all_nil, List.any_cons, List.any_nil, Bool.and_self, Bool.and_true, if_true, Bool.false_eq_true, if_false, tMt, tFldN, tSto, HO.ins.injEq, lkh, List.drop_zero, List.drop_succ_cons, List.drop_nil, rListS, wipe, L2.start, List.map_cons, List.map_nil, List.length_cons, List.length_nil, List.replicate, List.cons_append, List.nil_append, List.append_nil, Nat.reduceAdd, Nat.reduceSub, Nat.zero_add, List.replicate_succ, List.replicate_zero, List.getElem?_cons_zero, List.getElem?_cons_succ, List.set_cons_zero, List.set_cons_succ, Option.some.injEq, V.int.injEq, V.bl.injEq, V.ref.injEq, V.str.injEq, V.ty.injEq, List.cons.injEq, HO.tup.injEq, HO.lst.injEq, and_true, true_and, and_assoc, exists_eq_left, exists_eq_left', exists_and_left, exists_eq', atI0, atI1, atI2, atI3, Int.cast_ofNat_Int, Int.reduceToNat, scal_ii, scal_in, scal_ni, scal_nn, scal_bb, scal_ss, scal_sn, scal_ns, scal_bn, scal_nb, ite_iff, decide_eq_true_eq, decide_eq_false_iff_not, Bool.not_eq_true', Classical.not_not, ne_eq, not_false_eq_true, not_true_eq_false, forall_const, true_implies, false_implies, imp_self, sizeLine_eq, Nat.reduceLeDiff, reduceCtorEq, decide_true, decide_false]
  refine ⟨a, b, d, rows, C, fun l dx2 H1 _ s1 h1 => ⟨dx2, _, h1, lkLn_place, l, _, rfl, dx2, a, b, d, h1, C.t.LB, P2.k (s1 _ _ ht), fun e => ?_, ?_, fun u v e t2 H2 s2 h2 => ?_⟩⟩
  · rw [pairV_of (s1 _ _ ht)] at e; cases e
  · intro u v e; rw [pairV_of (s1 _ _ ht)] at e; cases e; exact ⟨xs, ys⟩
  rw [pairV_of (s1 _ _ ht)] at e
  cases e
  obtain ⟨r, hy, y0, y1, x0, x1, lr, hx⟩ := C.t.at_ x y
  have sm := C.t.small
  have a1 := C.t.R.a1
  have h2' : H2 t2 = some (.tup [.int (plX a b d x y), .int (plY d y)]) := h2
  have hc2 := s2 _ _ (s1 _ _ hc)
  simp only [h2', hc2, lkCr, lkCa, exists_and_left, S_eq, tD1, rTupN, rAddZ, rSlZ, rIxZ, rInZ, rIntZ, rStrZ, rLenZ, rRepZ, tJoinZ, tJoinG, rCntZ, rTupG, rAll, rMax2, rMin2, tSl, tPart, tNoPart, rSlLN, rSlG, gUnlN, tYes, rLenS, rRepN, unset, calmS, cx_K, Value.ref.injEq, HO.xd.injEq, lk0, tSeq, tPar3, tPar, tCons, tNil, tVar, tC, tAsg, gName, gCons, gNil, gTupN, gSub, tOp, rI, rI0, rU, tTest, rNe, rEq, rIxTN, rIxLN, rLenL, rLenT, rIntI, rIntB, rAbs, rSetLN, tTruL, tRaiseX, rIsTy, rIsOw, ixN0, ixN1, tRet, tIf, tIfS, tNext, tBreak, tCont, tDrop, tTupN, tLstN, tUn, tCB, tCall, tNot, tAnd, tOr, tB, tAndV, tOrV, tNotV, tChain, tApp, LamX.tLam, tRevLN, rCatN, rInTN, rInLN, flatV, inV, List.all_cons, List.all_nil, List.any_cons, List.any_nil, Bool.and_self, Bool.and_true, if_true, Bool.false_eq_true, if_false, tMt, tFldN, tSto, HO.ins.injEq, lkh, List.drop_zero, List.drop_succ_cons, List.drop_nil, rListS, wipe, L2.start, List.map_cons, List.map_nil, List.length_cons, List.length_nil, List.replicate, List.cons_append, List.nil_append, List.append_nil, Nat.reduceAdd, Nat.reduceSub, Nat.zero_add, List.replicate_succ, List.replicate_zero, List.getElem?_cons_zero, List.getElem?_cons_succ, List.set_cons_zero, List.set_cons_succ, Option.some.injEq, V.int.injEq, V.bl.injEq, V.ref.injEq, V.str.injEq, V.ty.injEq, List.cons.injEq, HO.tup.injEq, HO.lst.injEq, and_true, true_and, and_assoc, exists_eq_left, exists_eq_left', exists_and_left, exists_eq', atI0, atI1, atI2, atI3, Int.cast_ofNat_Int, Int.reduceToNat, scal_ii, scal_in, scal_ni, scal_nn, scal_bb, scal_ss, scal_sn, scal_ns, scal_bn, scal_nb, ite_iff, decide_eq_true_eq, decide_eq_false_iff_not, Bool.not_eq_true', Classical.not_not, ne_eq, not_false_eq_true, not_true_eq_false, forall_const, true_implies, false_implies, imp_self, sizeLine_eq, Nat.reduceLeDiff, reduceCtorEq, decide_true, decide_false]
  refine ⟨rp, _, _, _, rfl, rfl, SqT.same (SqT.same hr s1) s2, atI_ok y0 (strsV_get hy), ?_⟩
  simp only [spTurn, exists_and_left, S_eq, tD1, rTupN, rAddZ, rSlZ, rIxZ, rInZ, rIntZ, rStrZ, rLenZ, rRepZ, tJoinZ, tJoinG, rCntZ, rTupG, rAll, rMax2, rMin2, tSl, tPart, tNoPart, rSlLN, rSlG, gUnlN, tYes, rLenS, rRepN, unset, calmS, cx_K, Value.ref.injEq, HO.xd.injEq, lk0, tSeq, tPar3, tPar, tCons, tNil, tVar, tC, tAsg, gName, gCons, gNil, gTupN, gSub, tOp, rI, rI0, rU, tTest, rNe, rEq, rIxTN, rIxLN, rLenL, rLenT, rIntI, rIntB, rAbs, rSetLN, tTruL, tRaiseX, rIsTy, rIsOw, ixN0, ixN1, tRet, tIf, tIfS, tNext, tBreak, tCont, tDrop, tTupN, tLstN, tUn, tCB, tCall, tNot, tAnd, tOr, tB, tAndV, tOrV, tNotV, tChain, tApp, LamX.tLam, tRevLN, rCatN, rInTN, rInLN, flatV, inV, List.all_cons, List.all_nil, List.any_cons, List.any_nil, Bool.and_self, Bool.and_true, if_true, Bool.false_eq_true, if_false, tMt, tFldN, tSto, HO.ins.injEq, lkh, List.drop_zero, List.drop_succ_cons, List.drop_nil, rListS, wipe, L2.start, List.map_cons, List.map_nil, List.length_cons, List.length_nil, List.replicate, List.cons_append, List.nil_append, List.append_nil, Nat.reduceAdd, Nat.reduceSub, Nat.zero_add, List.replicate_succ, List.replicate_zero, List.getElem?_cons_zero, List.getElem?_cons_succ, List.set_cons_zero, List.set_cons_succ, Option.some.injEq, V.int.injEq, V.bl.injEq, V.ref.injEq, V.str.injEq, V.ty.injEq, List.cons.injEq, HO.tup.injEq, HO.lst.injEq, and_true, true_and, and_assoc, exists_eq_left, exists_eq_left', exists_and_left, exists_eq', atI0, atI1, atI2, atI3, Int.cast_ofNat_Int, Int.reduceToNat, scal_ii, scal_in, scal_ni, scal_nn, scal_bb, scal_ss, scal_sn, scal_ns, scal_bn, scal_nb, ite_iff, decide_eq_true_eq, decide_eq_false_iff_not, Bool.not_eq_true', Classical.not_not, ne_eq, not_false_eq_true, not_true_eq_false, forall_const, true_implies, false_implies, imp_self, sizeLine_eq, Nat.reduceLeDiff, reduceCtorEq, decide_true, decide_false]
  have q0 := Int.ediv_nonneg w0 (show 0 ≤ (a : Int) by omega)
  have q1 : w / (a : Int) ≤ w := Int.ediv_le_self _ w0
  obtain ⟨kk, hk⟩ := Int.eq_ofNat_of_zero_le (show 0 ≤ w / (a : Int) + 1 by omega)
  have big : w.toNat ≤ kk * a := by
    have h1 := Int.lt_ediv_add_one_mul_self w (show 0 < (a : Int) by omega)
    rw [hk, ← Int.natCast_mul] at h1
    omega
  have len : (tn (plX (a : Int) b (d : Int) x y).toNat r).length = a := by rw [tn_length, lr]
  refine ⟨x0, by omega, _, _, hc2, _, lkCa, _, rfl, ⟨by omega, log_lt (n := 10) (by omega) (by decide) (by decide)⟩, by omega, by omega, by omega, ?_, ?_⟩
  · rw [rep_len, len, hk, Int.toNat_natCast]
    have : kk * a ≤ 1001 * 144 := Nat.mul_le_mul (by omega) sm.1
    omega
  · rw [cutZ_to w0, hk, Int.toNat_natCast, row_cols C.t hy big]
    exact k H2 (s1.trans s2)
/-! ### moved -/
/-- a colouring moved by a shift -/
def mv (C : Int → Int → Nat) (u v : Int) : Int → Int → Nat := fun x y => C (x - u) (y - v)
theorem mv_per {C : Int → Int → Nat} {u v x y : Int} : Per (mv C u v) x y ↔ Per C x y := by
  constructor
  · intro h p q
    have := h (p + u) (q + v)
    unfold mv at this
    rwa [show p + u + x - u = p + x by omega, show q + v + y - v = q + y by omega, show p + u - u = p by omega, show q + v - v = q by omega] at this
  · intro h p q
    have := h (p - u) (q - v)
    unfold mv
    rwa [show p + x - u = p - u + x by omega, show q + y - v = q - v + y by omega]
theorem mv_mv {C : Int → Int → Nat} {u v x y : Int} : mv (mv C u v) x y = mv C (u + x) (v + y) := by
  funext p q; unfold mv; rw [show p - x - u = p - (u + x) by omega, show q - y - v = q - (v + y) by omega]
theorem mv_zero {C : Int → Int → Nat} : mv C 0 0 = C := by funext p q; unfold mv; rw [Int.sub_zero, Int.sub_zero]
theorem mv_eq {C : Int → Int → Nat} {u v : Int} : mv C u v = C ↔ Per C u v := by
  constructor
  · intro e p q
    have := congrFun (congrFun e (p + u)) (q + v)
    unfold mv at this
    rw [show p + u - u = p by omega, show q + v - v = q by omega] at this
    exact this.symm
  · intro h
    funext p q
    have := h (p - u) (q - v)
    unfold mv
    rw [show p - u + u = p by omega, show q - v + v = q by omega] at this
    exact this.symm
theorem NF.mv {C : Int → Int → Nat} {w s h : Int} {R : List (List Nat)} (N : NF C w s h R) (u v : Int) : NF (Iz.mv C u v) w s h (cells (Iz.mv C u v) w.toNat h.toNat) :=
  ⟨N.w1, mv_per.mpr N.pw, fun x a b p => N.lw x a b (mv_per.mp p), N.s0, N.sw, N.h1, mv_per.mpr N.ph, fun y x a b p => N.lh y x a b (mv_per.mp p), rfl⟩
theorem NF.mvT {a d w h : Nat} {b s : Int} {rows R : List (List Nat)} (C : CT a b d rows) (N : NF (colR b rows) w s h R) (wa : (w : Int) ≤ a) (hd : (h : Int) ≤ d) (u v : Int) : CT w s h (cells (Iz.mv (colR b rows) u v) w h) ∧ colR s (cells (Iz.mv (colR b rows) u v) w h) = Iz.mv (colR b rows) u v := by
  have w1 := N.w1; have h1 := N.h1
  refine ⟨⟨cells_ok (by omega) (by omega), N.s0, N.sw, Nat.le_trans (Nat.mul_le_mul (by omega) (by omega)) C.ar, fun l hl c hc => ?_⟩, cells_col (by omega) (by omega) (mv_per.mpr N.pw) (mv_per.mpr N.ph)⟩
  simp only [cells, List.mem_map] at hl
  obtain ⟨j, _, rfl⟩ := hl
  obtain ⟨i, _, rfl⟩ := List.mem_map.mp hc
  exact C.fig_at _ _
def spMoved (K : PySem.W.Frag) : Sp := fun vs H Q E => ∃ p v, vs = [.ref p, v] ∧ ∃ a b d rows, Carp K H p a b d rows ∧ PairK K H v ∧ (pairV H v = none → Rse K E H "BadPart" "part" (.str "shift")) ∧ Small 1000 (pairV H v) ∧
  ∀ u z, pairV H v = some (u, z) → ∀ c w s h R H', H c = none → Same H H' → NF (colR b rows) (w : Nat) s (h : Nat) R → w ≤ a → h ≤ d → Carp K H' c w s h (cells (mv (colR b rows) u z) w h) → colR s (cells (mv (colR b rows) u z) w h) = mv (colR b rows) u z → Q (.ref c) H'
theorem o_Carpet_moved_by (T : Txt K mg) : OkM P w K mg base (L2.CX P w) 9 "Carpet" "moved_by" ["self", "shift"] [] (spMoved K) := by
  have o_require_pair := o_require_pair (P := P) (w := w) (base := base) T
  have o_row_text := o_row_text (P := P) (w := w) (base := base) T
  have o_Carpet := o_Carpet (P := P) (w := w) (base := base) T
  obtain ⟨f, fd, M, F⟩ := T.d_Carpet_moved_by
  refine ⟨f, fd, M, b_Carpet_moved_by F, F.ok (CX := (L2.CX P w)) sc_Carpet_moved_by (fun vs H Q E h => ?_) (fun cdv A outer s H vs Q E hr h => ?_)⟩
  · first | (obtain ⟨_, rfl, _⟩ := h; rfl) | (obtain ⟨_, _, rfl, _⟩ := h; rfl) | (obtain ⟨_, _, _, rfl, _⟩ := h; rfl) | (obtain ⟨_, _, _, _, rfl, _⟩ := h; rfl) | (obtain ⟨_, _, _, _, _, rfl, _⟩ := h; rfl) | (obtain ⟨_, _, _, _, _, _, rfl, _⟩ := h; rfl) | (obtain ⟨_, _, _, _, _, _, _, rfl, _⟩ := h; rfl)
  have hu64 := hr.units
  refine ⟨_, (pss_cons (ps_expr (pcl o_require_pair (hr.mono (by decide)) passE (pa_cons (pv 1) (pa_cons (pe_str) pa_nil))))
      (pss_cons (ps_asg (pe_fldN T.c_Carpet T.na_Carpet__normal (pv 0)) (pg_tupN (n := 4) (by rfl) (pgs_cons (pg_name (i := 2) sc_Carpet_moved_by.nd rfl (Or.inr rfl)) (pgs_cons (pg_name (i := 3) sc_Carpet_moved_by.nd rfl (Or.inl rfl)) (pgs_cons (pg_name (i := 4) sc_Carpet_moved_by.nd rfl (Or.inl rfl)) (pgs_cons (pg_name (i := 5) sc_Carpet_moved_by.nd rfl (Or.inl rfl)) pgs_nil))))))
      (pss_cons (ps_setLc (i := 6) (own := [("y", 7)]) (g := gName 7) (by rfl) sc_Carpet_moved_by.nd rfl rfl (sw_true rfl rfl rfl (by decide +kernel)) (pi_range1 (by rfl) T.m_range (pa_cons (pv 4) pa_nil)) (blkOk_by (N := ["self", "shift", "a", "b", "d", "_", "rows", "y"]) (sc := defScope s_Carpet_moved_by) (own := [("y", 7)]) (by decide +kernel)) (fun _ _ _ _ _ => pg_name (i := 7) sc_Carpet_moved_by.nd rfl (Or.inl rfl)) (fun _ _ _ _ _ => pts_nil) (fun _ _ _ _ _ => pcl o_row_text (hr.mono (by decide)) pass0 (pa_cons (pv 0) (pa_cons (pe_tupN (pa_cons (pe_un un_neg (pe_ix ix_tupN (pv 1) (pe_int) (fun _ _ => rfl))) (pa_cons (pe_op op_sub (pv 7) (pe_ix ix_tupN (pv 1) (pe_int) (fun _ _ => rfl))) pa_nil))) (pa_cons (pv 2) pa_nil)))))
      (pss_one (ps_ret (pmk (j := 0) o_Carpet (by decide) (hr.mono (by decide)) passE (pa_cons (pv 2) (pa_cons (pv 3) (pa_cons (pv 4) (pa_cons (pv 6) pa_nil)))))))))), ?_⟩
  obtain ⟨p, v, rfl, a, b, d, rows, C, hk, kn, ks, k⟩ := h
  obtain ⟨dx, rp, np, q, w, s, hh, R, hc, hr, hn, nf, wa, hd, fg⟩ := C.at_
  have w1 := nf.w1; have hh1 := nf.h1
  obtain ⟨W, rfl⟩ := Int.eq_ofNat_of_zero_le (show 0 ≤ w by omega)
  obtain ⟨HH, rfl⟩ := Int.eq_ofNat_of_zero_le (show 0 ≤ hh by omega)
  have hn1 := hn.n
  simp only [spReqP, exists_and_left, S_eq, tD1, rTupN, rAddZ, rSlZ, rIxZ, rInZ, rIntZ, rStrZ, rLenZ, rRepZ, tJoinZ, tJoinG, rCntZ, rTupG, rAll, rMax2, rMin2, tSl, tPart, tNoPart, rSlLN, rSlG, gUnlN, tYes, rLenS, rRepN, unset, calmS, cx_K, Value.ref.injEq, HO.xd.injEq, lk0, tSeq, tPar3, tPar, tCons, tNil, tVar, tC, tAsg, gName, gCons, gNil, gTupN, gSub, tOp, rI, rI0, rU, tTest, rNe, rEq, rIxTN, rIxLN, rLenL, rLenT, rIntI, rIntB, rAbs, rSetLN, tTruL, tRaiseX, rIsTy, rIsOw, ixN0, ixN1, tRet, tIf, tIfS, tNext, tBreak, tCont, tDrop, tTupN, tLstN, tUn, tCB, tCall, tNot, tAnd, tOr, tB, tAndV, tOrV, tNotV, tChain, tApp, LamX.tLam, tRevLN, rCatN, rInTN, rInLN, flatV, inV, List.all_cons, List.all_nil, List.any_cons, List.any_nil, Bool.and_self, Bool.and_true, if_true, Bool.false_eq_true, if_false, tMt, tFldN, tSto, HO.ins.injEq, lkh, List.drop_zero, List.drop_succ_cons, List.drop_nil, rListS, wipe, L2.start, List.map_cons, List.map_nil, List.length_cons, List.length_nil, List.replicate, List.cons_append, List.nil_append, List.append_nil, Nat.reduceAdd, Nat.reduceSub, Nat.zero_add, List.replicate_succ, List.replicate_zero, List.getElem?_cons_zero, List.getElem?_cons_succ, List.set_cons_zero, List.set_cons_succ, Option.some.injEq, V.int.injEq, V.bl.injEq, V.ref.injEq, V.str.injEq, V.ty.injEq, List.cons.injEq, HO.tup.injEq, HO.lst.injEq, and_true, true_and, and_assoc, exists_eq_left, exists_eq_left', exists_and_left, exists_eq', atI0, atI1, atI2, atI3, Int.cast_ofNat_Int, Int.reduceToNat, scal_ii, scal_in, scal_ni, scal_nn, scal_bb, scal_ss, scal_sn, scal_ns, scal_bn, scal_nb, ite_iff, decide_eq_true_eq, decide_eq_false_iff_not, Bool.not_eq_true', Classical.not_not, ne_eq, not_false_eq_true, not_true_eq_false, forall_const, true_implies, false_implies, imp_self, sizeLine_eq, Nat.reduceLeDiff, reduceCtorEq, decide_true, decide_false]
  refine ⟨hk, fun h => ?_, kn⟩
  obtain ⟨⟨u, z⟩, e⟩ := Option.isSome_iff_exists.mp h
  have sm := C.t.small
  obtain ⟨us, zs⟩ := ks u z e
  simp only [hc, hn1, lkCn, exists_and_left, S_eq, tD1, rTupN, rAddZ, rSlZ, rIxZ, rInZ, rIntZ, rStrZ, rLenZ, rRepZ, tJoinZ, tJoinG, rCntZ, rTupG, rAll, rMax2, rMin2, tSl, tPart, tNoPart, rSlLN, rSlG, gUnlN, tYes, rLenS, rRepN, unset, calmS, cx_K, Value.ref.injEq, HO.xd.injEq, lk0, tSeq, tPar3, tPar, tCons, tNil, tVar, tC, tAsg, gName, gCons, gNil, gTupN, gSub, tOp, rI, rI0, rU, tTest, rNe, rEq, rIxTN, rIxLN, rLenL, rLenT, rIntI, rIntB, rAbs, rSetLN, tTruL, tRaiseX, rIsTy, rIsOw, ixN0, ixN1, tRet, tIf, tIfS, tNext, tBreak, tCont, tDrop, tTupN, tLstN, tUn, tCB, tCall, tNot, tAnd, tOr, tB, tAndV, tOrV, tNotV, tChain, tApp, LamX.tLam, tRevLN, rCatN, rInTN, rInLN, flatV, inV, List.all_cons, List.all_nil, List.any_cons, List.any_nil, Bool.and_self, Bool.and_true, if_true, Bool.false_eq_true, if_false, tMt, tFldN, tSto, HO.ins.injEq, lkh, List.drop_zero, List.drop_succ_cons, List.drop_nil, rListS, wipe, L2.start, List.map_cons, List.map_nil, List.length_cons, List.length_nil, List.replicate, List.cons_append, List.nil_append, List.append_nil, Nat.reduceAdd, Nat.reduceSub, Nat.zero_add, List.replicate_succ, List.replicate_zero, List.getElem?_cons_zero, List.getElem?_cons_succ, List.set_cons_zero, List.set_cons_succ, Option.some.injEq, V.int.injEq, V.bl.injEq, V.ref.injEq, V.str.injEq, V.ty.injEq, List.cons.injEq, HO.tup.injEq, HO.lst.injEq, and_true, true_and, and_assoc, exists_eq_left, exists_eq_left', exists_and_left, exists_eq', atI0, atI1, atI2, atI3, Int.cast_ofNat_Int, Int.reduceToNat, scal_ii, scal_in, scal_ni, scal_nn, scal_bb, scal_ss, scal_sn, scal_ns, scal_bn, scal_nb, ite_iff, decide_eq_true_eq, decide_eq_false_iff_not, Bool.not_eq_true', Classical.not_not, ne_eq, not_false_eq_true, not_true_eq_false, forall_const, true_implies, false_implies, imp_self, sizeLine_eq, Nat.reduceLeDiff, reduceCtorEq, decide_true, decide_false]
  obtain ⟨CT', ce'⟩ := NF.mvT C.t nf wa hd u z
  refine st_lcR1F HH (by omega) (fun R r => (by simp only [exists_and_left, S_eq, tD1, rTupN, rAddZ, rSlZ, rIxZ, rInZ, rIntZ, rStrZ, rLenZ, rRepZ, tJoinZ, tJoinG, rCntZ, rTupG, rAll, rMax2, rMin2, tSl, tPart, tNoPart, rSlLN, rSlG, gUnlN, tYes, rLenS, rRepN, unset, calmS, cx_K, Value.ref.injEq, HO.xd.injEq, lk0, tSeq, tPar3, tPar, tCons, tNil, tVar, tC, tAsg, gName, gCons, gNil, gTupN, gSub, tOp, rI, rI0, rU, tTest, rNe, rEq, rIxTN, rIxLN, rLenL, rLenT, rIntI, rIntB, rAbs, rSetLN, tTruL, tRaiseX, rIsTy, rIsOw, ixN0, ixN1, tRet, tIf, tIfS, tNext, tBreak, tCont, tDrop, tTupN, tLstN, tUn, tCB, tCall, tNot, tAnd, tOr, tB, tAndV, tOrV, tNotV, tChain, tApp, LamX.tLam, tRevLN, rCatN, rInTN, rInLN, flatV, inV, List.all_cons, List.all_nil, List.any_cons, List.any_nil, Bool.and_self, Bool.and_true, if_true, Bool.false_eq_true, if_false, tMt, tFldN, tSto, HO.ins.injEq, lkh, List.drop_zero, List.drop_succ_cons, List.drop_nil, rListS, wipe, L2.start, List.map_cons, List.map_nil, List.length_cons, List.length_nil, List.replicate, List.cons_append, List.nil_append, List.append_nil, Nat.reduceAdd, Nat.reduceSub, Nat.zero_add, List.replicate_succ, List.replicate_zero, List.getElem?_cons_zero, List.getElem?_cons_succ, List.set_cons_zero, List.set_cons_succ, Option.some.injEq, V.int.injEq, V.bl.injEq, V.ref.injEq, V.str.injEq, V.ty.injEq, List.cons.injEq, HO.tup.injEq, HO.lst.injEq, and_true, true_and, and_assoc, exists_eq_left, exists_eq_left', exists_and_left, exists_eq', atI0, atI1, atI2, atI3, Int.cast_ofNat_Int, Int.reduceToNat, scal_ii, scal_in, scal_ni, scal_nn, scal_bb, scal_ss, scal_sn, scal_ns, scal_bn, scal_nb, ite_iff, decide_eq_true_eq, decide_eq_false_iff_not, Bool.not_eq_true', Classical.not_not, ne_eq, not_false_eq_true, not_true_eq_false, forall_const, true_implies, false_implies, imp_self, sizeLine_eq, Nat.reduceLeDiff, reduceCtorEq, decide_true, decide_false]; exact r)) (by rw [sizeLine_eq]; omega) (fun _ => true) (fun y => .str (S ((List.range W).map fun (i : Nat) => colR b rows (-u + i) (y - z)))) (fun y H1 A B y0 y1 s1 hA hB => ?_) (fun L H1 nL s1 h1 => ?_)
  · obtain ⟨t, rfl, ht⟩ := pairV_some e
    have ht1 := s1 _ _ ht
    simp only [ht1, exists_and_left, S_eq, tD1, rTupN, rAddZ, rSlZ, rIxZ, rInZ, rIntZ, rStrZ, rLenZ, rRepZ, tJoinZ, tJoinG, rCntZ, rTupG, rAll, rMax2, rMin2, tSl, tPart, tNoPart, rSlLN, rSlG, gUnlN, tYes, rLenS, rRepN, unset, calmS, cx_K, Value.ref.injEq, HO.xd.injEq, lk0, tSeq, tPar3, tPar, tCons, tNil, tVar, tC, tAsg, gName, gCons, gNil, gTupN, gSub, tOp, rI, rI0, rU, tTest, rNe, rEq, rIxTN, rIxLN, rLenL, rLenT, rIntI, rIntB, rAbs, rSetLN, tTruL, tRaiseX, rIsTy, rIsOw, ixN0, ixN1, tRet, tIf, tIfS, tNext, tBreak, tCont, tDrop, tTupN, tLstN, tUn, tCB, tCall, tNot, tAnd, tOr, tB, tAndV, tOrV, tNotV, tChain, tApp, LamX.tLam, tRevLN, rCatN, rInTN, rInLN, flatV, inV, List.all_cons, List.all_nil, List.any_cons, List.any_nil, Bool.and_self, Bool.and_true, if_true, Bool.false_eq_true, if_false, tMt, tFldN, tSto, HO.ins.injEq, lkh, List.drop_zero, List.drop_succ_cons, List.drop_nil, rListS, wipe, L2.start, List.map_cons, List.map_nil, List.length_cons, List.length_nil, List.replicate, List.cons_append, List.nil_append, List.append_nil, Nat.reduceAdd, Nat.reduceSub, Nat.zero_add, List.replicate_succ, List.replicate_zero, List.getElem?_cons_zero, List.getElem?_cons_succ, List.set_cons_zero, List.set_cons_succ, Option.some.injEq, V.int.injEq, V.bl.injEq, V.ref.injEq, V.str.injEq, V.ty.injEq, List.cons.injEq, HO.tup.injEq, HO.lst.injEq, and_true, true_and, and_assoc, exists_eq_left, exists_eq_left', exists_and_left, exists_eq', atI0, atI1, atI2, atI3, Int.cast_ofNat_Int, Int.reduceToNat, scal_ii, scal_in, scal_ni, scal_nn, scal_bb, scal_ss, scal_sn, scal_ns, scal_bn, scal_nb, ite_iff, decide_eq_true_eq, decide_eq_false_iff_not, Bool.not_eq_true', Classical.not_not, ne_eq, not_false_eq_true, not_true_eq_false, forall_const, true_implies, false_implies, imp_self, sizeLine_eq, Nat.reduceLeDiff, reduceCtorEq, decide_true, decide_false]
    intro q7 H2 _ s2 h2
    refine ⟨_, _, _, rfl, a, b, d, rows, -u, y - z, (C.same s1).same s2, h2, ?_, ?_, by omega, by omega, fun H3 s3 => ?_⟩
    · rw [Int.natAbs_neg]; exact pow_small us (by decide)
    · have h1 : (y - z).natAbs ≤ 144 + z.natAbs := by omega
      have h2 : (144 : Nat) + 2 ^ 1000 ≤ 2 ^ 2000 := by decide +kernel
      omega
    · rw [Int.toNat_natCast]
      exact hB rfl H3 (s2.trans s3)
  · have e2 : ((intsB 0 (HH : Int)).filter fun _ => true).map (fun y => V.str (S ((List.range W).map fun (i : Nat) => colR b rows (-u + i) (y - z)))) = strsV (cells (mv (colR b rows) u z) W HH) := by
      rw [List.filter_eq_self.mpr fun _ _ => rfl]
      simp only [intsB, strsV, cells, List.map_map, Int.sub_zero, Int.toNat_natCast]
      refine List.map_congr_left fun j _ => ?_
      simp only [Function.comp, Int.zero_add]
      refine congrArg (fun l => V.str (S l)) (List.map_congr_left fun i _ => ?_)
      unfold mv
      rw [show (i : Int) - u = -u + i by omega]
    rw [e2] at h1
    exact ⟨_, _, _, _, rfl, CG.of CT' (.inr (.inr (.inr ⟨L, _, rfl, .inl h1, CT'.R, CT'.fig, fun c H2 n2 s2 Cc => k u z e c W s HH R H2 (s1.free n2) (s1.trans s2) nf (by omega) (by omega) Cc ce'⟩)))⟩
/-- what the least lattice holds is a period -/
theorem NF.ofL {C : Int → Int → Nat} {w s h : Int} {R : List (List Nat)} (N : NF C w s h R) {x y : Int} (e : Iz.inL w s h (some (x, y)) = true) : Per C x y := by
  have w1 := N.w1; have h1 := N.h1
  have e' : plX w s h x y = 0 ∧ plY h y = 0 := by
    have : decide (plX w s h x y = 0 ∧ plY h y = 0) = true := e
    simpa using this
  obtain ⟨ex, ey⟩ := e'
  unfold plX at ex; unfold plY at ey
  have q := (N.ph.smul (y / h)).add (N.pw.smul ((x - s * (y / h)) / w))
  have m1 := Int.emod_add_mul_ediv (x - s * (y / h)) w
  rw [ex] at m1
  rw [Int.mul_zero, Int.add_zero, show y / h * h = y by rw [Int.mul_comm]; omega, show y / h * s + (x - s * (y / h)) / w * w = x by rw [Int.mul_comm (y / h) s, Int.mul_comm ((x - s * (y / h)) / w)]; omega] at q
  exact q
def spIsPd (K : PySem.W.Frag) : Sp := fun vs H Q E => ∃ p v, vs = [.ref p, v] ∧ ∃ a b d rows, Carp K H p a b d rows ∧ PairK K H v ∧ (pairV H v = none → Rse K E H "BadPart" "part" (.str "shift")) ∧ Small 1000 (pairV H v) ∧ ∀ u z, pairV H v = some (u, z) → ∀ r H', Same H H' → (r = true ↔ Per (colR b rows) u z) → Q (.bl r) H'
theorem o_Carpet_is_period (T : Txt K mg) : OkM P w K mg base (L2.CX P w) 7 "Carpet" "is_period" ["self", "shift"] [] (spIsPd K) := by
  have o_require_pair := o_require_pair (P := P) (w := w) (base := base) T
  have o_Carpet_least := o_Carpet_least (P := P) (w := w) (base := base) T
  have o_Lattice___contains__ := o_Lattice___contains__ (P := P) (w := w) (base := base) T
  obtain ⟨f, fd, M, F⟩ := T.d_Carpet_is_period
  refine ⟨f, fd, M, b_Carpet_is_period F, F.ok (CX := (L2.CX P w)) sc_Carpet_is_period (fun vs H Q E h => ?_) (fun cdv A outer s H vs Q E hr h => ?_)⟩
  · first | (obtain ⟨_, rfl, _⟩ := h; rfl) | (obtain ⟨_, _, rfl, _⟩ := h; rfl) | (obtain ⟨_, _, _, rfl, _⟩ := h; rfl) | (obtain ⟨_, _, _, _, rfl, _⟩ := h; rfl) | (obtain ⟨_, _, _, _, _, rfl, _⟩ := h; rfl) | (obtain ⟨_, _, _, _, _, _, rfl, _⟩ := h; rfl) | (obtain ⟨_, _, _, _, _, _, _, rfl, _⟩ := h; rfl)
  have hu64 := hr.units
  refine ⟨_, (pss_cons (ps_expr (pcl o_require_pair (hr.mono (by decide)) passE (pa_cons (pv 1) (pa_cons (pe_str) pa_nil))))
      (pss_one (ps_ret (pe_cmpR (op_ownIn o_Lattice___contains__ (hr.mono (by decide)) passE) (pv 1) (pmt0 (j := 0) o_Carpet_least T.c_Carpet (pv 0) (by decide) (hr.mono (by decide)) passE) (by rfl))))), ?_⟩
  obtain ⟨p, v, rfl, a, b, d, rows, C, hk, kn, ks, k⟩ := h
  simp only [spReqP, exists_and_left, S_eq, tD1, rTupN, rAddZ, rSlZ, rIxZ, rInZ, rIntZ, rStrZ, rLenZ, rRepZ, tJoinZ, tJoinG, rCntZ, rTupG, rAll, rMax2, rMin2, tSl, tPart, tNoPart, rSlLN, rSlG, gUnlN, tYes, rLenS, rRepN, unset, calmS, cx_K, Value.ref.injEq, HO.xd.injEq, lk0, tSeq, tPar3, tPar, tCons, tNil, tVar, tC, tAsg, gName, gCons, gNil, gTupN, gSub, tOp, rI, rI0, rU, tTest, rNe, rEq, rIxTN, rIxLN, rLenL, rLenT, rIntI, rIntB, rAbs, rSetLN, tTruL, tRaiseX, rIsTy, rIsOw, ixN0, ixN1, tRet, tIf, tIfS, tNext, tBreak, tCont, tDrop, tTupN, tLstN, tUn, tCB, tCall, tNot, tAnd, tOr, tB, tAndV, tOrV, tNotV, tChain, tApp, LamX.tLam, tRevLN, rCatN, rInTN, rInLN, flatV, inV, List.all_cons, List.all_nil, List.any_cons, List.any_nil, Bool.and_self, Bool.and_true, if_true, Bool.false_eq_true, if_false, tMt, tFldN, tSto, HO.ins.injEq, lkh, List.drop_zero, List.drop_succ_cons, List.drop_nil, rListS, wipe, L2.start, List.map_cons, List.map_nil, List.length_cons, List.length_nil, List.replicate, List.cons_append, List.nil_append, List.append_nil, Nat.reduceAdd, Nat.reduceSub, Nat.zero_add, List.replicate_succ, List.replicate_zero, List.getElem?_cons_zero, List.getElem?_cons_succ, List.set_cons_zero, List.set_cons_succ, Option.some.injEq, V.int.injEq, V.bl.injEq, V.ref.injEq, V.str.injEq, V.ty.injEq, List.cons.injEq, HO.tup.injEq, HO.lst.injEq, and_true, true_and, and_assoc, exists_eq_left, exists_eq_left', exists_and_left, exists_eq', atI0, atI1, atI2, atI3, Int.cast_ofNat_Int, Int.reduceToNat, scal_ii, scal_in, scal_ni, scal_nn, scal_bb, scal_ss, scal_sn, scal_ns, scal_bn, scal_nb, ite_iff, decide_eq_true_eq, decide_eq_false_iff_not, Bool.not_eq_true', Classical.not_not, ne_eq, not_false_eq_true, not_true_eq_false, forall_const, true_implies, false_implies, imp_self, sizeLine_eq, Nat.reduceLeDiff, reduceCtorEq, decide_true, decide_false]
  refine ⟨hk, fun h => ?_, kn⟩
  obtain ⟨⟨u, z⟩, e⟩ := Option.isSome_iff_exists.mp h
  obtain ⟨dx, rp, np, q, w, s, hh, R, hc, hr, hn, nf, wa, hd, fg⟩ := C.at_
  have B := nf.LB (by have := C.t.small; omega) (by have := C.t.small; omega)
  simp only [spLeast, exists_and_left, S_eq, tD1, rTupN, rAddZ, rSlZ, rIxZ, rInZ, rIntZ, rStrZ, rLenZ, rRepZ, tJoinZ, tJoinG, rCntZ, rTupG, rAll, rMax2, rMin2, tSl, tPart, tNoPart, rSlLN, rSlG, gUnlN, tYes, rLenS, rRepN, unset, calmS, cx_K, Value.ref.injEq, HO.xd.injEq, lk0, tSeq, tPar3, tPar, tCons, tNil, tVar, tC, tAsg, gName, gCons, gNil, gTupN, gSub, tOp, rI, rI0, rU, tTest, rNe, rEq, rIxTN, rIxLN, rLenL, rLenT, rIntI, rIntB, rAbs, rSetLN, tTruL, tRaiseX, rIsTy, rIsOw, ixN0, ixN1, tRet, tIf, tIfS, tNext, tBreak, tCont, tDrop, tTupN, tLstN, tUn, tCB, tCall, tNot, tAnd, tOr, tB, tAndV, tOrV, tNotV, tChain, tApp, LamX.tLam, tRevLN, rCatN, rInTN, rInLN, flatV, inV, List.all_cons, List.all_nil, List.any_cons, List.any_nil, Bool.and_self, Bool.and_true, if_true, Bool.false_eq_true, if_false, tMt, tFldN, tSto, HO.ins.injEq, lkh, List.drop_zero, List.drop_succ_cons, List.drop_nil, rListS, wipe, L2.start, List.map_cons, List.map_nil, List.length_cons, List.length_nil, List.replicate, List.cons_append, List.nil_append, List.append_nil, Nat.reduceAdd, Nat.reduceSub, Nat.zero_add, List.replicate_succ, List.replicate_zero, List.getElem?_cons_zero, List.getElem?_cons_succ, List.set_cons_zero, List.set_cons_succ, Option.some.injEq, V.int.injEq, V.bl.injEq, V.ref.injEq, V.str.injEq, V.ty.injEq, List.cons.injEq, HO.tup.injEq, HO.lst.injEq, and_true, true_and, and_assoc, exists_eq_left, exists_eq_left', exists_and_left, exists_eq', atI0, atI1, atI2, atI3, Int.cast_ofNat_Int, Int.reduceToNat, scal_ii, scal_in, scal_ni, scal_nn, scal_bb, scal_ss, scal_sn, scal_ns, scal_bn, scal_nb, ite_iff, decide_eq_true_eq, decide_eq_false_iff_not, Bool.not_eq_true', Classical.not_not, ne_eq, not_false_eq_true, not_true_eq_false, forall_const, true_implies, false_implies, imp_self, sizeLine_eq, Nat.reduceLeDiff, reduceCtorEq, decide_true, decide_false]
  refine ⟨_, _, hc, lkCno, a, b, d, rows, C, fun l dx1 w1 s1 h1 R1 H1 n1 sa LA N1 _ _ => ?_⟩
  obtain ⟨e1, e2, e3, e4⟩ := N1.uniq nf
  subst e1 e2 e3 e4
  refine own_in LA ⟨l, _, rfl, dx1, _, _, _, LA, B, hk.mono sa, ?_, fun H2 s2 => ?_⟩
  · rw [hk.same sa]; exact fun x y e => ⟨pow_small (ks x y e).1 (by decide), pow_small (ks x y e).2 (by decide)⟩
  · rw [hk.same sa, e]
    exact ⟨_, rfl, k u z e _ H2 (sa.trans s2) ⟨fun h => N1.ofL (by simpa using h), fun h => by simpa using N1.inL h⟩⟩

end
end Iz
/-! k12_e2 -/
set_option Elab.async false
set_option linter.all false
set_option maxRecDepth 100000
set_option maxHeartbeats 4000000
namespace Iz
open PySem PySem.Spec PyProof.Rows L2
open He (ga)
open SX (S S_len)
local macro_rules | `(tactic| walk_at "wp") => `(tactic| simp only [S_eq, tD1, rTupN, rAddZ, rSlZ, rIxZ, rInZ, rIntZ, rStrZ, rLenZ, rRepZ, tJoinZ, tJoinG, rCntZ, rTupG, rAll, rMax2, rMin2, tSl, tPart, tNoPart, rSlLN, rSlG, gUnlN, tYes, rLenS, rRepN, unset, calmS, cx_K, Value.ref.injEq, HO.xd.injEq, lk0, tSeq, tPar3, tPar, tCons, tNil, tVar, tC, tAsg, gName, gCons, gNil, gTupN, gSub, tOp, rI, rI0, rU, tTest, rNe, rEq, rIxTN, rIxLN, rLenL, rLenT, rIntI, rIntB, rAbs, rSetLN, tTruL, tRaiseX, rIsTy, rIsOw, ixN0, ixN1, tRet, tIf, tIfS, tNext, tBreak, tCont, tDrop, tTupN, tLstN, tUn, tCB, tCall, tNot, tAnd, tOr, tB, tAndV, tOrV, tNotV, tChain, tApp, LamX.tLam, tRevLN, rCatN, rInTN, rInLN, flatV, inV, List.all_cons, List.all_nil, List.any_cons, List.any_nil, Bool.and_self, Bool.and_true, if_true, Bool.false_eq_true, if_false, tMt, tFldN, tSto, HO.ins.injEq, lkh, List.drop_zero, List.drop_succ_cons, List.drop_nil, rListS, wipe, L2.start, List.map_cons, List.map_nil, List.length_cons, List.length_nil, List.replicate, List.cons_append, List.nil_append, List.append_nil, Nat.reduceAdd, Nat.reduceSub, Nat.zero_add, List.replicate_succ, List.replicate_zero, List.getElem?_cons_zero, List.getElem?_cons_succ, List.set_cons_zero, List.set_cons_succ, Option.some.injEq, V.int.injEq, V.bl.injEq, V.ref.injEq, V.str.injEq, V.ty.injEq, List.cons.injEq, HO.tup.injEq, HO.lst.injEq, and_true, true_and, and_assoc, exists_eq_left, exists_eq_left', exists_and_left, exists_eq', atI0, atI1, atI2, atI3, Int.cast_ofNat_Int, Int.reduceToNat, scal_ii, scal_in, scal_ni, scal_nn, scal_bb, scal_ss, scal_sn, scal_ns, scal_bn, scal_nb, ite_iff, decide_eq_true_eq, decide_eq_false_iff_not, Bool.not_eq_true', Classical.not_not, ne_eq, not_false_eq_true, not_true_eq_false, forall_const, true_implies, false_implies, imp_self, sizeLine_eq, Nat.reduceLeDiff, reduceCtorEq, decide_true, decide_false])
section
variable {P : Program} {w : World} {K : PySem.W.Frag} {mg : Str → Option Value} {base : Heap}
def spWD : Sp := fun vs H Q _ => ∃ one other : Int, vs = [.int one, .int other] ∧ one.natAbs < 2 ^ 250 ∧ other.natAbs < 2 ^ 250 ∧
  ∀ u v : Int, u * one + v * other = (Int.gcd one other : Int) → u.natAbs ≤ 2 ^ 130000 → v.natAbs ≤ 2 ^ 130000 → News H (.tup [.int (Int.gcd one other), .int u, .int v]) Q
theorem o_weighed_divisor (T : Txt K mg) : OkF P w K mg base CX0 1 "weighed_divisor" ["one", "other"] spWD := by
  obtain ⟨f, fd, g, F⟩ := T.d_weighed_divisor
  refine ⟨f, fd, g, F.kp, F.binds (fun _ _ _ _ _ _ us hl => match us, hl with | [_, _], _ => rfl), F.ok sc_weighed_divisor (fun vs H Q E h => ?_) (fun cdv A outer s H vs Q E hr h => ?_)⟩
  · obtain ⟨a, b, rfl, _⟩ := h; rfl
  · obtain ⟨one, other, rfl, h1, h2, kk⟩ := h
    refine ⟨_, pss_cons (ps_par3 (i := 2) (j := 3) (l := 4) (by rfl) sc_weighed_divisor.nd rfl rfl rfl (by decide) (by decide) (by decide) rfl rfl rfl (pa_cons (pv 0) (pa_cons (pe_int) (pa_cons (pe_int) pa_nil))) (by rfl))
      (pss_cons (ps_par3 (i := 5) (j := 6) (l := 7) (by rfl) sc_weighed_divisor.nd rfl rfl rfl (by decide) (by decide) (by decide) rfl rfl rfl (pa_cons (pv 1) (pa_cons (pe_int) (pa_cons (pe_int) pa_nil))) (by rfl))
      (pss_cons (ps_while PassesOwn.never (pt_cmpR op_ne (pv 5) (pe_int) (nomark _)) (pss_cons (ps_set (i := 8) sc_weighed_divisor.nd rfl (Or.inl rfl) (pe_op op_fdivF (pv 2) (pv 5)))
      (pss_cons (ps_par (i := 2) (j := 5) (by rfl) sc_weighed_divisor.nd rfl rfl (by decide) rfl rfl (pa_cons (pv 5) (pa_cons (pe_op op_sub (pv 2) (pe_op op_mulW (pv 8) (pv 5))) pa_nil)) (by rfl))
      (pss_cons (ps_par (i := 3) (j := 6) (by rfl) sc_weighed_divisor.nd rfl rfl (by decide) rfl rfl (pa_cons (pv 6) (pa_cons (pe_op op_sub (pv 3) (pe_op op_mulW (pv 8) (pv 6))) pa_nil)) (by rfl))
      (pss_one (ps_par (i := 4) (j := 7) (by rfl) sc_weighed_divisor.nd rfl rfl (by decide) rfl rfl (pa_cons (pv 7) (pa_cons (pe_op op_sub (pv 4) (pe_op op_mulW (pv 8) (pv 7))) pa_nil)) (by rfl)))))))
      (pss_one (ps_ret (pe_ifExp (pt_cmpR op_ge (pv 2) (pe_int) (nomark _)) (pe_tupN (pa_cons (pv 2) (pa_cons (pv 3) (pa_cons (pv 4) pa_nil)))) (pe_tupN (pa_cons (pe_un un_neg (pv 2)) (pa_cons (pe_un un_neg (pv 3)) (pa_cons (pe_un un_neg (pv 4)) pa_nil))))))))), ?_⟩
    walk_at "wp"
    refine while_by (fun σ H' => H' = H ∧ ∃ (d u v r nu nv : Int) (t : Option V) (k : Nat), σ = [some (.int one), some (.int other), some (.int d), some (.int u), some (.int v), some (.int r), some (.int nu), some (.int nv), t] ∧ EI one other d u v r nu nv k)
      (fun σ _ => match σ with | [_, _, some (.int d), _, _, some (.int r), _, _, _] => bud d r | _ => 0) ⟨rfl, _, _, _, _, _, _, _, _, rfl, EI.start h1 h2⟩ ?_ ?_
    · rintro _ _ ⟨rfl, d, u, v, r, nu, nv, t, k, rfl, I⟩
      walk_at "wp"
      refine ⟨fun hr => ⟨hr, log_lt I.hr (by decide) (by decide), ?_, ?_, ?_, ⟨_, I.next hr⟩, bud_step hr⟩, fun hr => ?_⟩
      · exact wide_mul (I.quo) I.hr (by decide) (by decide) (by decide)
      · exact wide_mul (I.quo) (I.big I.bnu) (by decide) (by decide) (by decide)
      · exact wide_mul (I.quo) (I.big I.bnv) (by decide) (by decide) (by decide)
      · subst hr
        obtain ⟨hg, he, hu⟩ := I.done
        have hv := I.doneV
        refine ⟨fun hd => ?_, fun hd => ?_⟩
        · have e : d = (Int.gcd one other : Int) := by omega
          rw [e]
          exact kk _ _ (by omega) hu hv
        · have e : -d = (Int.gcd one other : Int) := by omega
          rw [e]
          exact kk _ _ (by rw [Int.neg_mul, Int.neg_mul]; omega) (by omega) (by omega)
    · exact mono_ne
/-! ### lines -/
def spGD (K : PySem.W.Frag) : Sp := fun vs H Q E => ∃ x y, vs = [x, y] ∧ Wh K H x ∧ (isI x = false → Rse K E H "BadNumber" "number" x) ∧ (isI x = true → Wh K H y ∧ (isI y = false → Rse K E H "BadNumber" "number" y)) ∧
  (∀ i j : Int, x = .int i → y = .int j → i.natAbs < 2 ^ 250 ∧ j.natAbs < 2 ^ 250 ∧ ∀ H', Same H H' → Q (.int (Int.gcd i j)) H')
theorem o_greatest_divisor (T : Txt K mg) : OkF P w K mg base (L2.CX P w) 4 "greatest_divisor" ["one", "other"] (spGD K) := by
  have o_require_whole := o_require_whole (P := P) (w := w) (base := base) T
  have o_weighed_divisor := o_weighed_divisor (P := P) (w := w) (base := base) T
  obtain ⟨f, fd, g, F⟩ := T.d_greatest_divisor
  refine ⟨f, fd, g, F.kp, F.binds (fun _ _ _ _ _ _ us hl => match us, hl with | [_, _], _ => rfl), F.okX sc_greatest_divisor (fun vs H Q E h => ?_) (fun cdv A outer s H vs Q E hr h => ?_)⟩
  · first | (obtain ⟨_, rfl, _⟩ := h; rfl) | (obtain ⟨_, _, rfl, _⟩ := h; rfl) | (obtain ⟨_, _, _, rfl, _⟩ := h; rfl) | (obtain ⟨_, _, _, _, rfl, _⟩ := h; rfl) | (obtain ⟨_, _, _, _, _, rfl, _⟩ := h; rfl) | (obtain ⟨_, _, _, _, _, _, rfl, _⟩ := h; rfl) | (obtain ⟨_, _, _, _, _, _, _, rfl, _⟩ := h; rfl)
  have hu64 := hr.units
  refine ⟨_, pss_cons (ps_expr (pcl o_require_whole (hr.mono (by decide)) passE (pa_cons (pv 0) pa_nil)))
      (pss_cons (ps_expr (pcl o_require_whole (hr.mono (by decide)) passE (pa_cons (pv 1) pa_nil)))
      (pss_one (ps_ret (pe_ix ix_tupN (pcl o_weighed_divisor (hr.mono (by decide)) pass0 (pa_cons (pv 0) (pa_cons (pv 1) pa_nil))) (pe_int) (fun _ _ => rfl))))), ?_⟩
  obtain ⟨x, y, rfl, W1, k1, P2, k3⟩ := h
  simp only [spReqW, spWD, exists_and_left, S_eq, tD1, rTupN, rAddZ, rSlZ, rIxZ, rInZ, rIntZ, rStrZ, rLenZ, rRepZ, tJoinZ, tJoinG, rCntZ, rTupG, rAll, rMax2, rMin2, tSl, tPart, tNoPart, rSlLN, rSlG, gUnlN, tYes, rLenS, rRepN, unset, calmS, cx_K, Value.ref.injEq, HO.xd.injEq, lk0, tSeq, tPar3, tPar, tCons, tNil, tVar, tC, tAsg, gName, gCons, gNil, gTupN, gSub, tOp, rI, rI0, rU, tTest, rNe, rEq, rIxTN, rIxLN, rLenL, rLenT, rIntI, rIntB, rAbs, rSetLN, tTruL, tRaiseX, rIsTy, rIsOw, ixN0, ixN1, tRet, tIf, tIfS, tNext, tBreak, tCont, tDrop, tTupN, tLstN, tUn, tCB, tCall, tNot, tAnd, tOr, tB, tAndV, tOrV, tNotV, tChain, tApp, LamX.tLam, tRevLN, rCatN, rInTN, rInLN, flatV, inV, List.all_cons, List.all_nil, List.any_cons, List.any_nil, Bool.and_self, Bool.and_true, if_true, Bool.false_eq_true, if_false, tMt, tFldN, tSto, HO.ins.injEq, lkh, List.drop_zero, List.drop_succ_cons, List.drop_nil, rListS, wipe, L2.start, List.map_cons, List.map_nil, List.length_cons, List.length_nil, List.replicate, List.cons_append, List.nil_append, List.append_nil, Nat.reduceAdd, Nat.reduceSub, Nat.zero_add, List.replicate_succ, List.replicate_zero, List.getElem?_cons_zero, List.getElem?_cons_succ, List.set_cons_zero, List.set_cons_succ, Option.some.injEq, V.int.injEq, V.bl.injEq, V.ref.injEq, V.str.injEq, V.ty.injEq, List.cons.injEq, HO.tup.injEq, HO.lst.injEq, and_true, true_and, and_assoc, exists_eq_left, exists_eq_left', exists_and_left, exists_eq', atI0, atI1, atI2, atI3, Int.cast_ofNat_Int, Int.reduceToNat, scal_ii, scal_in, scal_ni, scal_nn, scal_bb, scal_ss, scal_sn, scal_ns, scal_bn, scal_nb, ite_iff, decide_eq_true_eq, decide_eq_false_iff_not, Bool.not_eq_true', Classical.not_not, ne_eq, not_false_eq_true, not_true_eq_false, forall_const, true_implies, false_implies, imp_self, sizeLine_eq, Nat.reduceLeDiff, reduceCtorEq, decide_true, decide_false]
  refine ⟨W1, fun h1 => ?_, k1⟩
  obtain ⟨W2, k2⟩ := P2 h1
  refine ⟨W2, fun h2 => ?_, k2⟩
  obtain ⟨i, rfl⟩ := isI_int h1
  obtain ⟨j, rfl⟩ := isI_int h2
  obtain ⟨b1, b2, kk⟩ := k3 i j rfl rfl
  refine ⟨i, rfl, j, rfl, b1, b2, fun u v _ _ _ p H2 hp hs h2 => ?_⟩
  simp only [h2, S_eq, tD1, rTupN, rAddZ, rSlZ, rIxZ, rInZ, rIntZ, rStrZ, rLenZ, rRepZ, tJoinZ, tJoinG, rCntZ, rTupG, rAll, rMax2, rMin2, tSl, tPart, tNoPart, rSlLN, rSlG, gUnlN, tYes, rLenS, rRepN, unset, calmS, cx_K, Value.ref.injEq, HO.xd.injEq, lk0, tSeq, tPar3, tPar, tCons, tNil, tVar, tC, tAsg, gName, gCons, gNil, gTupN, gSub, tOp, rI, rI0, rU, tTest, rNe, rEq, rIxTN, rIxLN, rLenL, rLenT, rIntI, rIntB, rAbs, rSetLN, tTruL, tRaiseX, rIsTy, rIsOw, ixN0, ixN1, tRet, tIf, tIfS, tNext, tBreak, tCont, tDrop, tTupN, tLstN, tUn, tCB, tCall, tNot, tAnd, tOr, tB, tAndV, tOrV, tNotV, tChain, tApp, LamX.tLam, tRevLN, rCatN, rInTN, rInLN, flatV, inV, List.all_cons, List.all_nil, List.any_cons, List.any_nil, Bool.and_self, Bool.and_true, if_true, Bool.false_eq_true, if_false, tMt, tFldN, tSto, HO.ins.injEq, lkh, List.drop_zero, List.drop_succ_cons, List.drop_nil, rListS, wipe, L2.start, List.map_cons, List.map_nil, List.length_cons, List.length_nil, List.replicate, List.cons_append, List.nil_append, List.append_nil, Nat.reduceAdd, Nat.reduceSub, Nat.zero_add, List.replicate_succ, List.replicate_zero, List.getElem?_cons_zero, List.getElem?_cons_succ, List.set_cons_zero, List.set_cons_succ, Option.some.injEq, V.int.injEq, V.bl.injEq, V.ref.injEq, V.str.injEq, V.ty.injEq, List.cons.injEq, HO.tup.injEq, HO.lst.injEq, and_true, true_and, and_assoc, exists_eq_left, exists_eq_left', exists_and_left, exists_eq', atI0, atI1, atI2, atI3, Int.cast_ofNat_Int, Int.reduceToNat, scal_ii, scal_in, scal_ni, scal_nn, scal_bb, scal_ss, scal_sn, scal_ns, scal_bn, scal_nb, ite_iff, decide_eq_true_eq, decide_eq_false_iff_not, Bool.not_eq_true', Classical.not_not, ne_eq, not_false_eq_true, not_true_eq_false, forall_const, true_implies, false_implies, imp_self, sizeLine_eq, Nat.reduceLeDiff, reduceCtorEq, decide_true, decide_false]
  exact kk H2 hs

end
end Iz
/-! k12_e3 -/
set_option Elab.async false
set_option linter.all false
set_option maxRecDepth 100000
set_option maxHeartbeats 4000000
namespace Iz
open PySem PySem.Spec PyProof.Rows L2
open He (ga)
open SX (S S_len)
local macro_rules | `(tactic| walk_at "wp") => `(tactic| simp only [S_eq, tD1, rTupN, rAddZ, rSlZ, rIxZ, rInZ, rIntZ, rStrZ, rLenZ, rRepZ, tJoinZ, tJoinG, rCntZ, rTupG, rAll, rMax2, rMin2, tSl, tPart, tNoPart, rSlLN, rSlG, gUnlN, tYes, rLenS, rRepN, unset, calmS, cx_K, Value.ref.injEq, HO.xd.injEq, lk0, tSeq, tPar3, tPar, tCons, tNil, tVar, tC, tAsg, gName, gCons, gNil, gTupN, gSub, tOp, rI, rI0, rU, tTest, rNe, rEq, rIxTN, rIxLN, rLenL, rLenT, rIntI, rIntB, rAbs, rSetLN, tTruL, tRaiseX, rIsTy, rIsOw, ixN0, ixN1, tRet, tIf, tIfS, tNext, tBreak, tCont, tDrop, tTupN, tLstN, tUn, tCB, tCall, tNot, tAnd, tOr, tB, tAndV, tOrV, tNotV, tChain, tApp, LamX.tLam, tRevLN, rCatN, rInTN, rInLN, flatV, inV, List.all_cons, List.all_nil, List.any_cons, List.any_nil, Bool.and_self, Bool.and_true, if_true, Bool.false_eq_true, if_false, tMt, tFldN, tSto, HO.ins.injEq, lkh, List.drop_zero, List.drop_succ_cons, List.drop_nil, rListS, wipe, L2.start, List.map_cons, List.map_nil, List.length_cons, List.length_nil, List.replicate, List.cons_append, List.nil_append, List.append_nil, Nat.reduceAdd, Nat.reduceSub, Nat.zero_add, List.replicate_succ, List.replicate_zero, List.getElem?_cons_zero, List.getElem?_cons_succ, List.set_cons_zero, List.set_cons_succ, Option.some.injEq, V.int.injEq, V.bl.injEq, V.ref.injEq, V.str.injEq, V.ty.injEq, List.cons.injEq, HO.tup.injEq, HO.lst.injEq, and_true, true_and, and_assoc, exists_eq_left, exists_eq_left', exists_and_left, exists_eq', atI0, atI1, atI2, atI3, Int.cast_ofNat_Int, Int.reduceToNat, scal_ii, scal_in, scal_ni, scal_nn, scal_bb, scal_ss, scal_sn, scal_ns, scal_bn, scal_nb, ite_iff, decide_eq_true_eq, decide_eq_false_iff_not, Bool.not_eq_true', Classical.not_not, ne_eq, not_false_eq_true, not_true_eq_false, forall_const, true_implies, false_implies, imp_self, sizeLine_eq, Nat.reduceLeDiff, reduceCtorEq, decide_true, decide_false])
section
variable {P : Program} {w : World} {K : PySem.W.Frag} {mg : Str → Option Value} {base : Heap}
/-! ### what parts carpets -/
def spColLen (K : PySem.W.Frag) : Sp := fun vs H Q _ => ∃ c, vs = [.ref c] ∧ ∃ a b d rows, Carp K H c a b d rows ∧ ∀ H', Same H H' → Q (.int ((d * (a / Int.gcd a b) : Nat) : Int)) H'
theorem o__column_length (T : Txt K mg) : OkF P w K mg base CX0 5 "_column_length" ["carpet"] (spColLen K) := by
  have o_greatest_divisor := o_greatest_divisor (P := P) (w := w) (base := base) T
  obtain ⟨f, fd, g, F⟩ := T.d__column_length
  refine ⟨f, fd, g, F.kp, F.binds (fun _ _ _ _ _ _ us hl => match us, hl with | [_], _ => rfl), F.ok sc__column_length (fun vs H Q E h => ?_) (fun cdv A outer s H vs Q E hr h => ?_)⟩
  · first | (obtain ⟨_, rfl, _⟩ := h; rfl) | (obtain ⟨_, _, rfl, _⟩ := h; rfl) | (obtain ⟨_, _, _, rfl, _⟩ := h; rfl) | (obtain ⟨_, _, _, _, rfl, _⟩ := h; rfl) | (obtain ⟨_, _, _, _, _, rfl, _⟩ := h; rfl) | (obtain ⟨_, _, _, _, _, _, rfl, _⟩ := h; rfl) | (obtain ⟨_, _, _, _, _, _, _, rfl, _⟩ := h; rfl)
  have hu64 := hr.units
  refine ⟨_, pss_one (ps_ret (pe_op op_mulW (pe_fldN T.c_Carpet T.na_Carpet_d (pv 0)) (pe_op op_fdivW (pe_fldN T.c_Carpet T.na_Carpet_a (pv 0)) (pcl o_greatest_divisor (hr.mono (by decide)) passL (pa_cons (pe_fldN T.c_Carpet T.na_Carpet_a (pv 0)) (pa_cons (pe_fldN T.c_Carpet T.na_Carpet_b (pv 0)) pa_nil)))))), ?_⟩
  obtain ⟨c, rfl, a, b, d, rows, C, k⟩ := h
  obtain ⟨dx, rp, np, q, ww, s, hh, R, hc, hr, hn, nf, wa, hd, fg⟩ := C.at_
  have sm := C.t.small
  have a1 := C.t.R.a1
  have b0 := C.t.b0
  have ba := C.t.ba
  have g1 : 0 < Int.gcd a b := Int.gcd_pos_of_ne_zero_left _ (by omega)
  have ga : Int.gcd a b ≤ a := Nat.le_of_dvd a1 (Int.natCast_dvd_natCast.mp (Int.gcd_dvd_left ..))
  have qa : a / Int.gcd a b ≤ a := Nat.div_le_self ..
  simp only [hc, lkCa, lkCb, lkCd, exists_and_left, S_eq, tD1, rTupN, rAddZ, rSlZ, rIxZ, rInZ, rIntZ, rStrZ, rLenZ, rRepZ, tJoinZ, tJoinG, rCntZ, rTupG, rAll, rMax2, rMin2, tSl, tPart, tNoPart, rSlLN, rSlG, gUnlN, tYes, rLenS, rRepN, unset, calmS, cx_K, Value.ref.injEq, HO.xd.injEq, lk0, tSeq, tPar3, tPar, tCons, tNil, tVar, tC, tAsg, gName, gCons, gNil, gTupN, gSub, tOp, rI, rI0, rU, tTest, rNe, rEq, rIxTN, rIxLN, rLenL, rLenT, rIntI, rIntB, rAbs, rSetLN, tTruL, tRaiseX, rIsTy, rIsOw, ixN0, ixN1, tRet, tIf, tIfS, tNext, tBreak, tCont, tDrop, tTupN, tLstN, tUn, tCB, tCall, tNot, tAnd, tOr, tB, tAndV, tOrV, tNotV, tChain, tApp, LamX.tLam, tRevLN, rCatN, rInTN, rInLN, flatV, inV, List.all_cons, List.all_nil, List.any_cons, List.any_nil, Bool.and_self, Bool.and_true, if_true, Bool.false_eq_true, if_false, tMt, tFldN, tSto, HO.ins.injEq, lkh, List.drop_zero, List.drop_succ_cons, List.drop_nil, rListS, wipe, L2.start, List.map_cons, List.map_nil, List.length_cons, List.length_nil, List.replicate, List.cons_append, List.nil_append, List.append_nil, Nat.reduceAdd, Nat.reduceSub, Nat.zero_add, List.replicate_succ, List.replicate_zero, List.getElem?_cons_zero, List.getElem?_cons_succ, List.set_cons_zero, List.set_cons_succ, Option.some.injEq, V.int.injEq, V.bl.injEq, V.ref.injEq, V.str.injEq, V.ty.injEq, List.cons.injEq, HO.tup.injEq, HO.lst.injEq, and_true, true_and, and_assoc, exists_eq_left, exists_eq_left', exists_and_left, exists_eq', atI0, atI1, atI2, atI3, Int.cast_ofNat_Int, Int.reduceToNat, scal_ii, scal_in, scal_ni, scal_nn, scal_bb, scal_ss, scal_sn, scal_ns, scal_bn, scal_nb, ite_iff, decide_eq_true_eq, decide_eq_false_iff_not, Bool.not_eq_true', Classical.not_not, ne_eq, not_false_eq_true, not_true_eq_false, forall_const, true_implies, false_implies, imp_self, sizeLine_eq, Nat.reduceLeDiff, reduceCtorEq, decide_true, decide_false]
  refine ⟨_, _, rfl, wh_int, fun h => (by cases h), fun _ => ⟨wh_int, fun h => (by cases h)⟩, fun i j e1 e2 => ?_⟩
  cases e1; cases e2
  refine ⟨pow_small (m := 10) (by omega) (by decide), pow_small (m := 10) (by omega) (by decide), fun H1 s1 => ⟨_, rfl, ⟨by omega, log_lt (n := 10) (by omega) (by decide) (by decide)⟩, ?_, ?_⟩⟩
  · rw [← Int.natCast_ediv]
    have q2 : ((a / Int.gcd a b : Nat) : Int).natAbs < 2 ^ 10 := by rw [Int.natAbs_natCast]; omega
    exact wide_mul (a := 10) (b := 10) (by omega) q2 (by decide) (by decide) (by decide)
  · have := k H1 s1
    rw [Int.natCast_mul, Int.natCast_ediv] at this
    exact this
def spUnl : Sp := fun vs H Q _ => ∃ l l' : List Nat, vs = [.str (S l), .str (S l')] ∧ l.length = l'.length ∧ l.length ≤ 1000 ∧ l ≠ l' ∧ ∀ i : Nat, i < l.length → l.getD i 0 ≠ l'.getD i 0 → (∀ j, j < i → l.getD j 0 = l'.getD j 0) → Q (.int i) H
theorem o__unlike_index (T : Txt K mg) : OkF P w K mg base CX0 1 "_unlike_index" ["one", "other"] spUnl := by
  obtain ⟨f, fd, g, F⟩ := T.d__unlike_index
  refine ⟨f, fd, g, F.kp, F.binds (fun _ _ _ _ _ _ us hl => match us, hl with | [_, _], _ => rfl), F.ok sc__unlike_index (fun vs H Q E h => ?_) (fun cdv A outer s H vs Q E hr h => ?_)⟩
  · first | (obtain ⟨_, rfl, _⟩ := h; rfl) | (obtain ⟨_, _, rfl, _⟩ := h; rfl) | (obtain ⟨_, _, _, rfl, _⟩ := h; rfl) | (obtain ⟨_, _, _, _, rfl, _⟩ := h; rfl) | (obtain ⟨_, _, _, _, _, rfl, _⟩ := h; rfl) | (obtain ⟨_, _, _, _, _, _, rfl, _⟩ := h; rfl) | (obtain ⟨_, _, _, _, _, _, _, rfl, _⟩ := h; rfl)
  have hu64 := hr.units
  refine ⟨_, pss_cons (ps_set (i := 2) sc__unlike_index.nd rfl (Or.inl rfl) (pe_int))
      (pss_cons (ps_while PassesOwn.never (PTm (pt_cmpR op_eq (pe_ix ix_strZ (pv 0) (pv 2) (fun _ _ => rfl)) (pe_ix ix_strZ (pv 1) (pv 2) (fun _ _ => rfl)) (nomark _))) (pss_one (ps_set (i := 2) sc__unlike_index.nd rfl (Or.inl rfl) (pe_op op_add (pv 2) (pe_int)))))
      (pss_one (ps_ret (pv 2)))), ?_⟩
  obtain ⟨l, l', rfl, ll, l9, ne, k⟩ := h
  have l1 : 0 < l.length := by
    by_cases c : 0 < l.length
    · exact c
    · have h1 : l = [] := List.eq_nil_of_length_eq_zero (by omega)
      have h2 : l' = [] := List.eq_nil_of_length_eq_zero (by omega)
      exact absurd (by rw [h1, h2]) ne
  simp only [exists_and_left, S_eq, tD1, rTupN, rAddZ, rSlZ, rIxZ, rInZ, rIntZ, rStrZ, rLenZ, rRepZ, tJoinZ, tJoinG, rCntZ, rTupG, rAll, rMax2, rMin2, tSl, tPart, tNoPart, rSlLN, rSlG, gUnlN, tYes, rLenS, rRepN, unset, calmS, cx_K, Value.ref.injEq, HO.xd.injEq, lk0, tSeq, tPar3, tPar, tCons, tNil, tVar, tC, tAsg, gName, gCons, gNil, gTupN, gSub, tOp, rI, rI0, rU, tTest, rNe, rEq, rIxTN, rIxLN, rLenL, rLenT, rIntI, rIntB, rAbs, rSetLN, tTruL, tRaiseX, rIsTy, rIsOw, ixN0, ixN1, tRet, tIf, tIfS, tNext, tBreak, tCont, tDrop, tTupN, tLstN, tUn, tCB, tCall, tNot, tAnd, tOr, tB, tAndV, tOrV, tNotV, tChain, tApp, LamX.tLam, tRevLN, rCatN, rInTN, rInLN, flatV, inV, List.all_cons, List.all_nil, List.any_cons, List.any_nil, Bool.and_self, Bool.and_true, if_true, Bool.false_eq_true, if_false, tMt, tFldN, tSto, HO.ins.injEq, lkh, List.drop_zero, List.drop_succ_cons, List.drop_nil, rListS, wipe, L2.start, List.map_cons, List.map_nil, List.length_cons, List.length_nil, List.replicate, List.cons_append, List.nil_append, List.append_nil, Nat.reduceAdd, Nat.reduceSub, Nat.zero_add, List.replicate_succ, List.replicate_zero, List.getElem?_cons_zero, List.getElem?_cons_succ, List.set_cons_zero, List.set_cons_succ, Option.some.injEq, V.int.injEq, V.bl.injEq, V.ref.injEq, V.str.injEq, V.ty.injEq, List.cons.injEq, HO.tup.injEq, HO.lst.injEq, and_true, true_and, and_assoc, exists_eq_left, exists_eq_left', exists_and_left, exists_eq', atI0, atI1, atI2, atI3, Int.cast_ofNat_Int, Int.reduceToNat, scal_ii, scal_in, scal_ni, scal_nn, scal_bb, scal_ss, scal_sn, scal_ns, scal_bn, scal_nb, ite_iff, decide_eq_true_eq, decide_eq_false_iff_not, Bool.not_eq_true', Classical.not_not, ne_eq, not_false_eq_true, not_true_eq_false, forall_const, true_implies, false_implies, imp_self, sizeLine_eq, Nat.reduceLeDiff, reduceCtorEq, decide_true, decide_false]
  refine while_by (fun σ' H' => H' = H ∧ ∃ i : Nat, σ' = [some (.str (S l)), some (.str (S l')), some (.int i)] ∧ i < l.length ∧ ∀ j, j < i → l.getD j 0 = l'.getD j 0)
    (fun σ' _ => match σ' with | [_, _, some (.int i)] => l.length - i.toNat | _ => 0) ⟨rfl, 0, rfl, l1, fun j h => absurd h (by omega)⟩ ?_ mono_mcl
  rintro _ _ ⟨rfl, i, rfl, hi, eq⟩
  refine ⟨_, ?_, fun b H2 q => q⟩
  simp only [exists_and_left, S_eq, tD1, rTupN, rAddZ, rSlZ, rIxZ, rInZ, rIntZ, rStrZ, rLenZ, rRepZ, tJoinZ, tJoinG, rCntZ, rTupG, rAll, rMax2, rMin2, tSl, tPart, tNoPart, rSlLN, rSlG, gUnlN, tYes, rLenS, rRepN, unset, calmS, cx_K, Value.ref.injEq, HO.xd.injEq, lk0, tSeq, tPar3, tPar, tCons, tNil, tVar, tC, tAsg, gName, gCons, gNil, gTupN, gSub, tOp, rI, rI0, rU, tTest, rNe, rEq, rIxTN, rIxLN, rLenL, rLenT, rIntI, rIntB, rAbs, rSetLN, tTruL, tRaiseX, rIsTy, rIsOw, ixN0, ixN1, tRet, tIf, tIfS, tNext, tBreak, tCont, tDrop, tTupN, tLstN, tUn, tCB, tCall, tNot, tAnd, tOr, tB, tAndV, tOrV, tNotV, tChain, tApp, LamX.tLam, tRevLN, rCatN, rInTN, rInLN, flatV, inV, List.all_cons, List.all_nil, List.any_cons, List.any_nil, Bool.and_self, Bool.and_true, if_true, Bool.false_eq_true, if_false, tMt, tFldN, tSto, HO.ins.injEq, lkh, List.drop_zero, List.drop_succ_cons, List.drop_nil, rListS, wipe, L2.start, List.map_cons, List.map_nil, List.length_cons, List.length_nil, List.replicate, List.cons_append, List.nil_append, List.append_nil, Nat.reduceAdd, Nat.reduceSub, Nat.zero_add, List.replicate_succ, List.replicate_zero, List.getElem?_cons_zero, List.getElem?_cons_succ, List.set_cons_zero, List.set_cons_succ, Option.some.injEq, V.int.injEq, V.bl.injEq, V.ref.injEq, V.str.injEq, V.ty.injEq, List.cons.injEq, HO.tup.injEq, HO.lst.injEq, and_true, true_and, and_assoc, exists_eq_left, exists_eq_left', exists_and_left, exists_eq', atI0, atI1, atI2, atI3, Int.cast_ofNat_Int, Int.reduceToNat, scal_ii, scal_in, scal_ni, scal_nn, scal_bb, scal_ss, scal_sn, scal_ns, scal_bn, scal_nb, ite_iff, decide_eq_true_eq, decide_eq_false_iff_not, Bool.not_eq_true', Classical.not_not, ne_eq, not_false_eq_true, not_true_eq_false, forall_const, true_implies, false_implies, imp_self, sizeLine_eq, Nat.reduceLeDiff, reduceCtorEq, decide_true, decide_false]
  have hi' : i < l'.length := by omega
  have g1 : l.getD i 0 = l[i] := by rw [List.getD_eq_getElem?_getD, List.getElem?_eq_getElem hi]; rfl
  have g2 : l'.getD i 0 = l'[i] := by rw [List.getD_eq_getElem?_getD, List.getElem?_eq_getElem hi']; rfl
  refine ⟨by omega, _, atI_ok (by omega) (by rw [Int.toNat_natCast]; exact List.getElem?_eq_getElem hi), by omega, _, atI_ok (by omega) (by rw [Int.toNat_natCast]; exact List.getElem?_eq_getElem hi'), fun e => ⟨⟨i + 1, rfl, ?_, fun j hj => ?_⟩, by omega⟩, fun e => k i hi (by rw [g1, g2]; exact e) eq⟩
  · by_cases c : i + 1 < l.length
    · exact c
    · refine absurd (getD_ext ll fun j hj => ?_) ne
      by_cases c2 : j = i
      · subst c2; rw [g1, g2]; exact e
      · exact eq j (by omega)
  · by_cases c2 : j = i
    · subst c2; rw [g1, g2]; exact e
    · exact eq j (by omega)
def spReqCarp (K : PySem.W.Frag) : Sp := fun vs H Q E => ∃ v, vs = [v] ∧ ((NoC K H v ∧ Rse K E H "BadPart" "part" (.str "carpet")) ∨ (∃ c a b d rows, v = .ref c ∧ Carp K H c a b d rows ∧ Q .non H))
theorem o_require_carpet (T : Txt K mg) : OkF P w K mg base (L2.CX P w) 3 "require_carpet" ["value"] (spReqCarp K) := by
  obtain ⟨f, fd, g, F⟩ := T.d_require_carpet
  refine ⟨f, fd, g, F.kp, F.binds (fun _ _ _ _ _ _ us hl => match us, hl with | [_], _ => rfl), F.okX sc_require_carpet (fun vs H Q E h => ?_) (fun cdv A outer s H vs Q E hr h => ?_)⟩
  · first | (obtain ⟨_, rfl, _⟩ := h; rfl) | (obtain ⟨_, _, rfl, _⟩ := h; rfl) | (obtain ⟨_, _, _, rfl, _⟩ := h; rfl) | (obtain ⟨_, _, _, _, rfl, _⟩ := h; rfl) | (obtain ⟨_, _, _, _, _, rfl, _⟩ := h; rfl) | (obtain ⟨_, _, _, _, _, _, rfl, _⟩ := h; rfl) | (obtain ⟨_, _, _, _, _, _, _, rfl, _⟩ := h; rfl)
  have hu64 := hr.units
  refine ⟨_, pss_one (ps_if (pt_not (pt_val (pe_callB call_isOw (by rfl) T.m_isinstance (by decide +kernel) (pa_cons (pv 0) (pa_cons ((pe_glob (v := .ref (ga K "Carpet")) (by rfl) T.g_Carpet rfl)) pa_nil))))) (pss_one (ps_raiseX (T.x_BadPart) (hr.mono (by decide)) takesE (pe_str))) (pss_nil)), ?_⟩
  obtain ⟨v, rfl, h⟩ := h
  simp only [exists_and_left, S_eq, tD1, rTupN, rAddZ, rSlZ, rIxZ, rInZ, rIntZ, rStrZ, rLenZ, rRepZ, tJoinZ, tJoinG, rCntZ, rTupG, rAll, rMax2, rMin2, tSl, tPart, tNoPart, rSlLN, rSlG, gUnlN, tYes, rLenS, rRepN, unset, calmS, cx_K, Value.ref.injEq, HO.xd.injEq, lk0, tSeq, tPar3, tPar, tCons, tNil, tVar, tC, tAsg, gName, gCons, gNil, gTupN, gSub, tOp, rI, rI0, rU, tTest, rNe, rEq, rIxTN, rIxLN, rLenL, rLenT, rIntI, rIntB, rAbs, rSetLN, tTruL, tRaiseX, rIsTy, rIsOw, ixN0, ixN1, tRet, tIf, tIfS, tNext, tBreak, tCont, tDrop, tTupN, tLstN, tUn, tCB, tCall, tNot, tAnd, tOr, tB, tAndV, tOrV, tNotV, tChain, tApp, LamX.tLam, tRevLN, rCatN, rInTN, rInLN, flatV, inV, List.all_cons, List.all_nil, List.any_cons, List.any_nil, Bool.and_self, Bool.and_true, if_true, Bool.false_eq_true, if_false, tMt, tFldN, tSto, HO.ins.injEq, lkh, List.drop_zero, List.drop_succ_cons, List.drop_nil, rListS, wipe, L2.start, List.map_cons, List.map_nil, List.length_cons, List.length_nil, List.replicate, List.cons_append, List.nil_append, List.append_nil, Nat.reduceAdd, Nat.reduceSub, Nat.zero_add, List.replicate_succ, List.replicate_zero, List.getElem?_cons_zero, List.getElem?_cons_succ, List.set_cons_zero, List.set_cons_succ, Option.some.injEq, V.int.injEq, V.bl.injEq, V.ref.injEq, V.str.injEq, V.ty.injEq, List.cons.injEq, HO.tup.injEq, HO.lst.injEq, and_true, true_and, and_assoc, exists_eq_left, exists_eq_left', exists_and_left, exists_eq', atI0, atI1, atI2, atI3, Int.cast_ofNat_Int, Int.reduceToNat, scal_ii, scal_in, scal_ni, scal_nn, scal_bb, scal_ss, scal_sn, scal_ns, scal_bn, scal_nb, ite_iff, decide_eq_true_eq, decide_eq_false_iff_not, Bool.not_eq_true', Classical.not_not, ne_eq, not_false_eq_true, not_true_eq_false, forall_const, true_implies, false_implies, imp_self, sizeLine_eq, Nat.reduceLeDiff, reduceCtorEq, decide_true, decide_false]
  rcases h with ⟨⟨t, ty, e⟩, r⟩ | ⟨c, a, b, d, rows, rfl, C, q⟩
  · exact ⟨t, ty, false, e, fun _ => r, fun h => absurd rfl h⟩
  · obtain ⟨dx, _, _, _, _, _, _, _, hc, _⟩ := C.at_
    exact ⟨_, T.ci_Carpet.ty hc, true, kit_self, fun h => (by cases h), fun _ => q⟩
theorem st_forR1S {ta : TA} {g : TG} {tb : TS} {D : Ends} {σ : L2.St} {H : Hp} (j : Int) (hj : -(2 ^ 62) ≤ j ∧ j < 2 ^ 62) (ha : ∀ R : List V → Hp → Prop, (∀ H1, Same H H1 → R [.int j] H1) → ta σ H R) (Pv : Nat → L2.St → Hp → Prop) (h0 : ∀ H1, Same H H1 → Pv 0 σ H1)
    (hs : ∀ i σ H, i < j.toNat → Pv i σ H → g (.int i) σ H fun σ2 H2 => tb { D with nx := Pv (i + 1), ct := Pv (i + 1), bk := D.nx } σ2 H2) (hd : ∀ σ H, Pv j.toNat σ H → D.nx σ H) : tFor (iRng1 ta) g tb D σ H :=
  ha _ fun H1 s1 => ⟨j, rfl, hj.1, hj.2, for_range Pv (h0 H1 s1) (fun i σ H hi p => by rw [Int.zero_add]; exact hs i σ H hi p) hd⟩
def spPart (K : PySem.W.Frag) : Sp := fun vs H Q E => ∃ x y, vs = [x, y] ∧ ((NoC K H x ∧ Rse K E H "BadPart" "part" (.str "carpet")) ∨ ∃ p a b d rows, x = .ref p ∧ Carp K H p a b d rows ∧ ((NoC K H y ∧ Rse K E H "BadPart" "part" (.str "carpet")) ∨ ∃ q a' b' d' rows', y = .ref q ∧ Carp K H q a' b' d' rows' ∧
  (colR b rows = colR b' rows' → ∀ H', Same H H' → Q .non H') ∧ ∀ u v t H', Same H H' → Lst (colR b rows) (colR b' rows') u v → P2 H' t u v → Q (.ref t) H'))
theorem o_parting_cell (T : Txt K mg) : OkF P w K mg base (L2.CX P w) 9 "parting_cell" ["one", "other"] (spPart K) := by
  have o_require_carpet := o_require_carpet (P := P) (w := w) (base := base) T
  have o_Carpet___eq__ := o_Carpet___eq__ (P := P) (w := w) (base := base) T
  have o__column_length := o__column_length (P := P) (w := w) (base := base) T
  have o_row_text := o_row_text (P := P) (w := w) (base := base) T
  have o__unlike_index := o__unlike_index (P := P) (w := w) (base := base) T
  obtain ⟨f, fd, g, F⟩ := T.d_parting_cell
  refine ⟨f, fd, g, F.kp, F.binds (fun _ _ _ _ _ _ us hl => match us, hl with | [_, _], _ => rfl), F.okX sc_parting_cell (fun vs H Q E h => ?_) (fun cdv A outer s H vs Q E hr h => ?_)⟩
  · first | (obtain ⟨_, rfl, _⟩ := h; rfl) | (obtain ⟨_, _, rfl, _⟩ := h; rfl) | (obtain ⟨_, _, _, rfl, _⟩ := h; rfl) | (obtain ⟨_, _, _, _, rfl, _⟩ := h; rfl) | (obtain ⟨_, _, _, _, _, rfl, _⟩ := h; rfl) | (obtain ⟨_, _, _, _, _, _, rfl, _⟩ := h; rfl) | (obtain ⟨_, _, _, _, _, _, _, rfl, _⟩ := h; rfl)
  have hu64 := hr.units
  refine ⟨_, pss_cons (ps_expr (pcl o_require_carpet (hr.mono (by decide)) passE (pa_cons (pv 0) pa_nil)))
      (pss_cons (ps_expr (pcl o_require_carpet (hr.mono (by decide)) passE (pa_cons (pv 1) pa_nil)))
      (pss_cons (ps_if (pt_cmpR (op_own (fun _ _ => rfl) o_Carpet___eq__ rfl (hr.mono (by decide)) pass0) (pv 0) (pv 1) (nomark _)) (pss_one (ps_ret (pe_non))) (pss_nil))
      (pss_cons (ps_set (i := 2) sc_parting_cell.nd rfl (Or.inl rfl) (pe_op op_add (pe_fldN T.c_Carpet T.na_Carpet_a (pv 0)) (pe_fldN T.c_Carpet T.na_Carpet_a (pv 1))))
      (pss_cons (ps_for (passes_of rfl) rfl (pi_range1 rfl T.m_range (pa_cons (pe_op op_add (pcl o__column_length (hr.mono (by decide)) pass0 (pa_cons (pv 0) pa_nil)) (pcl o__column_length (hr.mono (by decide)) pass0 (pa_cons (pv 1) pa_nil))) pa_nil)) (pg_name (i := 3) sc_parting_cell.nd rfl (Or.inl rfl)) (pss_cons (ps_set (i := 4) sc_parting_cell.nd rfl (Or.inl rfl) (pe_tupN (pa_cons (pcl o_row_text (hr.mono (by decide)) pass0 (pa_cons (pv 0) (pa_cons (pe_tupN (pa_cons (pe_int) (pa_cons (pv 3) pa_nil))) (pa_cons (pv 2) pa_nil)))) (pa_cons (pcl o_row_text (hr.mono (by decide)) pass0 (pa_cons (pv 1) (pa_cons (pe_tupN (pa_cons (pe_int) (pa_cons (pv 3) pa_nil))) (pa_cons (pv 2) pa_nil)))) pa_nil))))
      (pss_one (ps_if (pt_cmpR op_ne (pe_ix ix_tupN (pv 4) (pe_int) (fun _ _ => rfl)) (pe_ix ix_tupN (pv 4) (pe_int) (fun _ _ => rfl)) (nomark _)) (pss_one (ps_ret (pe_tupN (pa_cons (pcl o__unlike_index (hr.mono (by decide)) pass0 (pa_cons (pe_ix ix_tupN (pv 4) (pe_int) (fun _ _ => rfl)) (pa_cons (pe_ix ix_tupN (pv 4) (pe_int) (fun _ _ => rfl)) pa_nil))) (pa_cons (pv 3) pa_nil))))) (pss_nil)))))
      (pss_one (ps_ret (pe_non))))))), ?_⟩
  obtain ⟨x, y, rfl, h⟩ := h
  simp only [spReqCarp, exists_and_left, S_eq, tD1, rTupN, rAddZ, rSlZ, rIxZ, rInZ, rIntZ, rStrZ, rLenZ, rRepZ, tJoinZ, tJoinG, rCntZ, rTupG, rAll, rMax2, rMin2, tSl, tPart, tNoPart, rSlLN, rSlG, gUnlN, tYes, rLenS, rRepN, unset, calmS, cx_K, Value.ref.injEq, HO.xd.injEq, lk0, tSeq, tPar3, tPar, tCons, tNil, tVar, tC, tAsg, gName, gCons, gNil, gTupN, gSub, tOp, rI, rI0, rU, tTest, rNe, rEq, rIxTN, rIxLN, rLenL, rLenT, rIntI, rIntB, rAbs, rSetLN, tTruL, tRaiseX, rIsTy, rIsOw, ixN0, ixN1, tRet, tIf, tIfS, tNext, tBreak, tCont, tDrop, tTupN, tLstN, tUn, tCB, tCall, tNot, tAnd, tOr, tB, tAndV, tOrV, tNotV, tChain, tApp, LamX.tLam, tRevLN, rCatN, rInTN, rInLN, flatV, inV, List.all_cons, List.all_nil, List.any_cons, List.any_nil, Bool.and_self, Bool.and_true, if_true, Bool.false_eq_true, if_false, tMt, tFldN, tSto, HO.ins.injEq, lkh, List.drop_zero, List.drop_succ_cons, List.drop_nil, rListS, wipe, L2.start, List.map_cons, List.map_nil, List.length_cons, List.length_nil, List.replicate, List.cons_append, List.nil_append, List.append_nil, Nat.reduceAdd, Nat.reduceSub, Nat.zero_add, List.replicate_succ, List.replicate_zero, List.getElem?_cons_zero, List.getElem?_cons_succ, List.set_cons_zero, List.set_cons_succ, Option.some.injEq, V.int.injEq, V.bl.injEq, V.ref.injEq, V.str.injEq, V.ty.injEq, List.cons.injEq, HO.tup.injEq, HO.lst.injEq, and_true, true_and, and_assoc, exists_eq_left, exists_eq_left', exists_and_left, exists_eq', atI0, atI1, atI2, atI3, Int.cast_ofNat_Int, Int.reduceToNat, scal_ii, scal_in, scal_ni, scal_nn, scal_bb, scal_ss, scal_sn, scal_ns, scal_bn, scal_nb, ite_iff, decide_eq_true_eq, decide_eq_false_iff_not, Bool.not_eq_true', Classical.not_not, ne_eq, not_false_eq_true, not_true_eq_false, forall_const, true_implies, false_implies, imp_self, sizeLine_eq, Nat.reduceLeDiff, reduceCtorEq, decide_true, decide_false]
  rcases h with ⟨no, r⟩ | ⟨p, a, b, d, rows, rfl, C, h⟩
  · exact .inl ⟨no, r⟩
  refine .inr ⟨p, rfl, a, b, d, rows, C, ?_⟩
  rcases h with ⟨no, r⟩ | ⟨q, a', b', d', rows', rfl, C', k1, k2⟩
  · exact .inl ⟨no, r⟩
  refine .inr ⟨q, rfl, a', b', d', rows', C', ?_⟩
  obtain ⟨dx, rp, np, q0, w0, s0, h0, R0, hc, hr, hn, nf, _, _, _⟩ := C.at_
  obtain ⟨dx', rp', np', q0', w0', s0', h0', R0', hc', hr', hn', nf', _, _, _⟩ := C'.at_
  refine own_op hc (T.ci_Carpet.ty hc') notFirst_self ⟨p, _, rfl, a, b, d, rows, C, .inr ⟨q, a', b', d', rows', rfl, C', fun r0 hr0 => ⟨_, rfl, ⟨_, rfl, fun e => k1 (hr0.mp e) H fun _ _ h => h, fun e => ?_⟩⟩⟩⟩
  have ne : colR b rows ≠ colR b' rows' := fun z => e (hr0.mpr z)
  have sm := C.t.small
  have sm' := C'.t.small
  have a1 := C.t.R.a1; have d1 := C.t.R.d1
  have a1' := C'.t.R.a1; have d1' := C'.t.R.d1
  simp only [hc, hc', lkCa, exists_and_left, S_eq, tD1, rTupN, rAddZ, rSlZ, rIxZ, rInZ, rIntZ, rStrZ, rLenZ, rRepZ, tJoinZ, tJoinG, rCntZ, rTupG, rAll, rMax2, rMin2, tSl, tPart, tNoPart, rSlLN, rSlG, gUnlN, tYes, rLenS, rRepN, unset, calmS, cx_K, Value.ref.injEq, HO.xd.injEq, lk0, tSeq, tPar3, tPar, tCons, tNil, tVar, tC, tAsg, gName, gCons, gNil, gTupN, gSub, tOp, rI, rI0, rU, tTest, rNe, rEq, rIxTN, rIxLN, rLenL, rLenT, rIntI, rIntB, rAbs, rSetLN, tTruL, tRaiseX, rIsTy, rIsOw, ixN0, ixN1, tRet, tIf, tIfS, tNext, tBreak, tCont, tDrop, tTupN, tLstN, tUn, tCB, tCall, tNot, tAnd, tOr, tB, tAndV, tOrV, tNotV, tChain, tApp, LamX.tLam, tRevLN, rCatN, rInTN, rInLN, flatV, inV, List.all_cons, List.all_nil, List.any_cons, List.any_nil, Bool.and_self, Bool.and_true, if_true, Bool.false_eq_true, if_false, tMt, tFldN, tSto, HO.ins.injEq, lkh, List.drop_zero, List.drop_succ_cons, List.drop_nil, rListS, wipe, L2.start, List.map_cons, List.map_nil, List.length_cons, List.length_nil, List.replicate, List.cons_append, List.nil_append, List.append_nil, Nat.reduceAdd, Nat.reduceSub, Nat.zero_add, List.replicate_succ, List.replicate_zero, List.getElem?_cons_zero, List.getElem?_cons_succ, List.set_cons_zero, List.set_cons_succ, Option.some.injEq, V.int.injEq, V.bl.injEq, V.ref.injEq, V.str.injEq, V.ty.injEq, List.cons.injEq, HO.tup.injEq, HO.lst.injEq, and_true, true_and, and_assoc, exists_eq_left, exists_eq_left', exists_and_left, exists_eq', atI0, atI1, atI2, atI3, Int.cast_ofNat_Int, Int.reduceToNat, scal_ii, scal_in, scal_ni, scal_nn, scal_bb, scal_ss, scal_sn, scal_ns, scal_bn, scal_nb, ite_iff, decide_eq_true_eq, decide_eq_false_iff_not, Bool.not_eq_true', Classical.not_not, ne_eq, not_false_eq_true, not_true_eq_false, forall_const, true_implies, false_implies, imp_self, sizeLine_eq, Nat.reduceLeDiff, reduceCtorEq, decide_true, decide_false]
  have up1 := Per.up a1 (C.t.R.per_a (b := b)) C.t.R.per_bd
  have up2 := Per.up a1' (C'.t.R.per_a (b := b')) C'.t.R.per_bd
  have len : ∀ {a d : Nat} {b : Int}, a ≤ 144 → d ≤ 144 → 1 ≤ a → 1 ≤ d → 1 ≤ d * (a / Int.gcd a b) ∧ d * (a / Int.gcd a b) ≤ 144 * 144 := fun {a d b} ha hd a1 d1 => by
    have g1 : 0 < Int.gcd a b := Int.gcd_pos_of_ne_zero_left _ (by omega)
    have ga : Int.gcd a b ≤ a := Nat.le_of_dvd a1 (Int.natCast_dvd_natCast.mp (Int.gcd_dvd_left ..))
    have qa : a / Int.gcd a b ≤ a := Nat.div_le_self ..
    have q1 : 1 ≤ a / Int.gcd a b := (Nat.one_le_div_iff g1).mpr ga
    exact ⟨Nat.mul_pos d1 q1, Nat.mul_le_mul hd (by omega)⟩
  obtain ⟨l1, l9⟩ := len (b := b) sm.1 sm.2 a1 d1
  obtain ⟨l1', l9'⟩ := len (b := b') sm'.1 sm'.2 a1' d1'
  obtain ⟨n, hn0⟩ : ∃ n, n = d * (a / Int.gcd a b) := ⟨_, rfl⟩
  obtain ⟨n', hn0'⟩ : ∃ n, n = d' * (a' / Int.gcd a' b') := ⟨_, rfl⟩
  rw [← hn0] at up1 l1 l9
  rw [← hn0'] at up2 l1' l9'
  clear hc hr hn nf hc' hr' hn' nf'
  refine st_forR1S ((n + n' : Nat) : Int) (by omega) (fun R r => ?_) (fun i σ' H' => ∃ x4 x5, σ' = [some (V.ref p), some (V.ref q), some (V.int ((a : Int) + (a' : Int))), x4, x5] ∧ Same H H' ∧ ∀ j : Nat, j < i → ∀ x, colR b rows x j = colR b' rows' x j) (fun H1 s1 => ⟨none, none, rfl, s1, fun j h => absurd h (by omega)⟩) ?_ ?_
  · simp only [spColLen, exists_and_left, S_eq, tD1, rTupN, rAddZ, rSlZ, rIxZ, rInZ, rIntZ, rStrZ, rLenZ, rRepZ, tJoinZ, tJoinG, rCntZ, rTupG, rAll, rMax2, rMin2, tSl, tPart, tNoPart, rSlLN, rSlG, gUnlN, tYes, rLenS, rRepN, unset, calmS, cx_K, Value.ref.injEq, HO.xd.injEq, lk0, tSeq, tPar3, tPar, tCons, tNil, tVar, tC, tAsg, gName, gCons, gNil, gTupN, gSub, tOp, rI, rI0, rU, tTest, rNe, rEq, rIxTN, rIxLN, rLenL, rLenT, rIntI, rIntB, rAbs, rSetLN, tTruL, tRaiseX, rIsTy, rIsOw, ixN0, ixN1, tRet, tIf, tIfS, tNext, tBreak, tCont, tDrop, tTupN, tLstN, tUn, tCB, tCall, tNot, tAnd, tOr, tB, tAndV, tOrV, tNotV, tChain, tApp, LamX.tLam, tRevLN, rCatN, rInTN, rInLN, flatV, inV, List.all_cons, List.all_nil, List.any_cons, List.any_nil, Bool.and_self, Bool.and_true, if_true, Bool.false_eq_true, if_false, tMt, tFldN, tSto, HO.ins.injEq, lkh, List.drop_zero, List.drop_succ_cons, List.drop_nil, rListS, wipe, L2.start, List.map_cons, List.map_nil, List.length_cons, List.length_nil, List.replicate, List.cons_append, List.nil_append, List.append_nil, Nat.reduceAdd, Nat.reduceSub, Nat.zero_add, List.replicate_succ, List.replicate_zero, List.getElem?_cons_zero, List.getElem?_cons_succ, List.set_cons_zero, List.set_cons_succ, Option.some.injEq, V.int.injEq, V.bl.injEq, V.ref.injEq, V.str.injEq, V.ty.injEq, List.cons.injEq, HO.tup.injEq, HO.lst.injEq, and_true, true_and, and_assoc, exists_eq_left, exists_eq_left', exists_and_left, exists_eq', atI0, atI1, atI2, atI3, Int.cast_ofNat_Int, Int.reduceToNat, scal_ii, scal_in, scal_ni, scal_nn, scal_bb, scal_ss, scal_sn, scal_ns, scal_bn, scal_nb, ite_iff, decide_eq_true_eq, decide_eq_false_iff_not, Bool.not_eq_true', Classical.not_not, ne_eq, not_false_eq_true, not_true_eq_false, forall_const, true_implies, false_implies, imp_self, sizeLine_eq, Nat.reduceLeDiff, reduceCtorEq, decide_true, decide_false]
    refine ⟨a, b, d, rows, C, fun H1 s1 => ⟨a', b', d', rows', C'.same s1, fun H2 s2 => ?_⟩⟩
    rw [← hn0, ← hn0']
    have := r H2 (s1.trans s2)
    rwa [Int.natCast_add] at this
  · rintro j _ H1 hj ⟨x4, x5, rfl, s1, eq⟩
    simp only [spRowT, exists_and_left, S_eq, tD1, rTupN, rAddZ, rSlZ, rIxZ, rInZ, rIntZ, rStrZ, rLenZ, rRepZ, tJoinZ, tJoinG, rCntZ, rTupG, rAll, rMax2, rMin2, tSl, tPart, tNoPart, rSlLN, rSlG, gUnlN, tYes, rLenS, rRepN, unset, calmS, cx_K, Value.ref.injEq, HO.xd.injEq, lk0, tSeq, tPar3, tPar, tCons, tNil, tVar, tC, tAsg, gName, gCons, gNil, gTupN, gSub, tOp, rI, rI0, rU, tTest, rNe, rEq, rIxTN, rIxLN, rLenL, rLenT, rIntI, rIntB, rAbs, rSetLN, tTruL, tRaiseX, rIsTy, rIsOw, ixN0, ixN1, tRet, tIf, tIfS, tNext, tBreak, tCont, tDrop, tTupN, tLstN, tUn, tCB, tCall, tNot, tAnd, tOr, tB, tAndV, tOrV, tNotV, tChain, tApp, LamX.tLam, tRevLN, rCatN, rInTN, rInLN, flatV, inV, List.all_cons, List.all_nil, List.any_cons, List.any_nil, Bool.and_self, Bool.and_true, if_true, Bool.false_eq_true, if_false, tMt, tFldN, tSto, HO.ins.injEq, lkh, List.drop_zero, List.drop_succ_cons, List.drop_nil, rListS, wipe, L2.start, List.map_cons, List.map_nil, List.length_cons, List.length_nil, List.replicate, List.cons_append, List.nil_append, List.append_nil, Nat.reduceAdd, Nat.reduceSub, Nat.zero_add, List.replicate_succ, List.replicate_zero, List.getElem?_cons_zero, List.getElem?_cons_succ, List.set_cons_zero, List.set_cons_succ, Option.some.injEq, V.int.injEq, V.bl.injEq, V.ref.injEq, V.str.injEq, V.ty.injEq, List.cons.injEq, HO.tup.injEq, HO.lst.injEq, and_true, true_and, and_assoc, exists_eq_left, exists_eq_left', exists_and_left, exists_eq', atI0, atI1, atI2, atI3, Int.cast_ofNat_Int, Int.reduceToNat, scal_ii, scal_in, scal_ni, scal_nn, scal_bb, scal_ss, scal_sn, scal_ns, scal_bn, scal_nb, ite_iff, decide_eq_true_eq, decide_eq_false_iff_not, Bool.not_eq_true', Classical.not_not, ne_eq, not_false_eq_true, not_true_eq_false, forall_const, true_implies, false_implies, imp_self, sizeLine_eq, Nat.reduceLeDiff, reduceCtorEq, decide_true, decide_false]
    have jb : (j : Int).natAbs < 2 ^ 2000 := pow_small (m := 20) (by omega) (by decide)
    intro t1 H2 _ s2 h2
    refine ⟨t1, rfl, a, b, d, rows, C.same (s1.trans s2), 0, j, h2, by decide, jb, by omega, by omega, fun H3 s3 => ?_⟩
    intro t2 H4 _ s4 h4
    have s04 := (((s1.trans s2).trans s3).trans s4)
    refine ⟨t2, rfl, a', b', d', rows', C'.same s04, 0, j, h4, by decide, jb, by omega, by omega, fun H5 s5 => ?_⟩
    intro t6 H6 _ s6 h6
    have wn : ((a : Int) + (a' : Int)).toNat = a + a' := by omega
    rw [wn] at h6
    have s06 := (s04.trans s5).trans s6
    have row1 := C.t.R.per_a (b := b)
    have row2 := C'.t.R.per_a (b := b')
    have key : ((List.range (a + a')).map fun (i : Nat) => colR b rows (0 + i) j) = ((List.range (a + a')).map fun (i : Nat) => colR b' rows' (0 + i) j) ↔ ∀ x, colR b rows x j = colR b' rows' x j := by
      constructor
      · intro e
        refine two_per a1 a1' (fun x => row1.row j x) (fun x => row2.row j x) fun i hi => ?_
        have e2 := congrArg (fun l => l[i]?) e
        simp only [List.getElem?_map, List.getElem?_range hi, Option.map_some, Option.some.injEq, Int.zero_add] at e2
        exact e2
      · intro e
        exact List.map_congr_left fun i _ => e _
    simp only [h6, exists_and_left, S_eq, tD1, rTupN, rAddZ, rSlZ, rIxZ, rInZ, rIntZ, rStrZ, rLenZ, rRepZ, tJoinZ, tJoinG, rCntZ, rTupG, rAll, rMax2, rMin2, tSl, tPart, tNoPart, rSlLN, rSlG, gUnlN, tYes, rLenS, rRepN, unset, calmS, cx_K, Value.ref.injEq, HO.xd.injEq, lk0, tSeq, tPar3, tPar, tCons, tNil, tVar, tC, tAsg, gName, gCons, gNil, gTupN, gSub, tOp, rI, rI0, rU, tTest, rNe, rEq, rIxTN, rIxLN, rLenL, rLenT, rIntI, rIntB, rAbs, rSetLN, tTruL, tRaiseX, rIsTy, rIsOw, ixN0, ixN1, tRet, tIf, tIfS, tNext, tBreak, tCont, tDrop, tTupN, tLstN, tUn, tCB, tCall, tNot, tAnd, tOr, tB, tAndV, tOrV, tNotV, tChain, tApp, LamX.tLam, tRevLN, rCatN, rInTN, rInLN, flatV, inV, List.all_cons, List.all_nil, List.any_cons, List.any_nil, Bool.and_self, Bool.and_true, if_true, Bool.false_eq_true, if_false, tMt, tFldN, tSto, HO.ins.injEq, lkh, List.drop_zero, List.drop_succ_cons, List.drop_nil, rListS, wipe, L2.start, List.map_cons, List.map_nil, List.length_cons, List.length_nil, List.replicate, List.cons_append, List.nil_append, List.append_nil, Nat.reduceAdd, Nat.reduceSub, Nat.zero_add, List.replicate_succ, List.replicate_zero, List.getElem?_cons_zero, List.getElem?_cons_succ, List.set_cons_zero, List.set_cons_succ, Option.some.injEq, V.int.injEq, V.bl.injEq, V.ref.injEq, V.str.injEq, V.ty.injEq, List.cons.injEq, HO.tup.injEq, HO.lst.injEq, and_true, true_and, and_assoc, exists_eq_left, exists_eq_left', exists_and_left, exists_eq', atI0, atI1, atI2, atI3, Int.cast_ofNat_Int, Int.reduceToNat, scal_ii, scal_in, scal_ni, scal_nn, scal_bb, scal_ss, scal_sn, scal_ns, scal_bn, scal_nb, ite_iff, decide_eq_true_eq, decide_eq_false_iff_not, Bool.not_eq_true', Classical.not_not, ne_eq, not_false_eq_true, not_true_eq_false, forall_const, true_implies, false_implies, imp_self, sizeLine_eq, Nat.reduceLeDiff, reduceCtorEq, decide_true, decide_false]
    have at_ : ∀ (f : Int → Nat) (i : Nat), i < a + a' → ((List.range (a + a')).map fun (i : Nat) => f (0 + i)).getD i 0 = f i := fun f i hi => by
      rw [List.getD_eq_getElem?_getD, List.getElem?_map, List.getElem?_range hi]
      show f (0 + i) = f i
      rw [Int.zero_add]
    refine ⟨fun ne2 => ⟨_, _, rfl, by simp, by simp; omega, ne2, fun i hi n1 e1 => ?_⟩, fun e2 => ⟨s06, fun j' hj' x => ?_⟩⟩
    · have hi' : i < a + a' := by simpa using hi
      rw [at_ (fun x => colR b rows x j) i hi', at_ (fun x => colR b' rows' x j) i hi'] at n1
      intro t7 H7 _ s7 h7
      refine k2 i j t7 H7 (s06.trans s7) ⟨by omega, by omega, n1, fun u u0 u1 => ?_, fun v v0 v1 u => ?_⟩ h7
      · obtain ⟨m, rfl⟩ := Int.eq_ofNat_of_zero_le u0
        have := e1 m (by omega)
        rwa [at_ (fun x => colR b rows x j) m (by omega), at_ (fun x => colR b' rows' x j) m (by omega)] at this
      · obtain ⟨m, rfl⟩ := Int.eq_ofNat_of_zero_le v0
        exact eq m (by omega) u
    · by_cases c : j' = j
      · subst c; exact key.mp e2 x
      · exact eq j' (by omega) x
  · rintro _ H1 ⟨x4, x5, rfl, s1, eq⟩
    rw [Int.toNat_natCast] at eq
    exact absurd (same_rows l1 l1' up1 up2 eq) ne
theorem moved_at {H : Hp} {c t : Addr} {a d : Nat} {b x y : Int} {rows : List (List Nat)} {R : VK} {E : XK} (C : Carp K H c a b d rows) (ht : P2 H t x y) (xs : x.natAbs < 2 ^ 1000) (ys : y.natAbs < 2 ^ 1000)
    (k : ∀ c w s h R' H', H c = none → Same H H' → NF (colR b rows) (w : Nat) s (h : Nat) R' → w ≤ a → h ≤ d → Carp K H' c w s h (cells (mv (colR b rows) x y) w h) → colR s (cells (mv (colR b rows) x y) w h) = mv (colR b rows) x y → R (.ref c) H') : spMoved K [.ref c, .ref t] H R E :=
  ⟨c, _, rfl, a, b, d, rows, C, P2.k ht, fun e => (by rw [pairV_of ht] at e; cases e), fun u v e => (by rw [pairV_of ht] at e; cases e; exact ⟨xs, ys⟩), fun u z e c w s h R' H' n sm => by rw [pairV_of ht] at e; cases e; exact k c w s h R' H' n sm⟩
theorem isper_at {H : Hp} {c t : Addr} {a d : Nat} {b x y : Int} {rows : List (List Nat)} {R : VK} {E : XK} (C : Carp K H c a b d rows) (ht : P2 H t x y) (xs : x.natAbs < 2 ^ 1000) (ys : y.natAbs < 2 ^ 1000)
    (k : ∀ r H', Same H H' → (r = true ↔ Per (colR b rows) x y) → R (.bl r) H') : spIsPd K [.ref c, .ref t] H R E :=
  ⟨c, _, rfl, a, b, d, rows, C, P2.k ht, fun e => (by rw [pairV_of ht] at e; cases e), fun u v e => (by rw [pairV_of ht] at e; cases e; exact ⟨xs, ys⟩), fun u z e r H' sm => by rw [pairV_of ht] at e; cases e; exact k r H' sm⟩
theorem part_at {H : Hp} {p q : Addr} {a d a' d' : Nat} {b b' : Int} {rows rows' : List (List Nat)} {R : VK} {E : XK} (C : Carp K H p a b d rows) (C' : Carp K H q a' b' d' rows') (k1 : colR b rows = colR b' rows' → ∀ H', Same H H' → R .non H') (k2 : ∀ u v t H', Same H H' → Lst (colR b rows) (colR b' rows') u v → P2 H' t u v → R (.ref t) H') : spPart K [.ref p, .ref q] H R E :=
  ⟨_, _, rfl, .inr ⟨p, a, b, d, rows, rfl, C, .inr ⟨q, a', b', d', rows', rfl, C', k1, k2⟩⟩⟩
def spBreak (K : PySem.W.Frag) : Sp := fun vs H Q E => ∃ x v, vs = [x, v] ∧ ((NoC K H x ∧ Rse K E H "BadPart" "part" (.str "carpet")) ∨ ∃ p a b d rows, x = .ref p ∧ Carp K H p a b d rows ∧ PairK K H v ∧ (pairV H v = none → Rse K E H "BadPart" "part" (.str "shift")) ∧ Small 900 (pairV H v) ∧
  ∀ u z, pairV H v = some (u, z) → (Per (colR b rows) u z → ∀ H', Same H H' → Q .non H') ∧ ∀ x y t H', Same H H' → Lst (colR b rows) (mv (colR b rows) (-u) (-z)) x y → P2 H' t x y → Q (.ref t) H')
theorem o_breaking_cell (T : Txt K mg) : OkF P w K mg base (L2.CX P w) 10 "breaking_cell" ["carpet", "shift"] (spBreak K) := by
  have o_require_carpet := o_require_carpet (P := P) (w := w) (base := base) T
  have o_require_pair := o_require_pair (P := P) (w := w) (base := base) T
  have o_parting_cell := o_parting_cell (P := P) (w := w) (base := base) T
  have o_Carpet_moved_by := o_Carpet_moved_by (P := P) (w := w) (base := base) T
  obtain ⟨f, fd, g, F⟩ := T.d_breaking_cell
  refine ⟨f, fd, g, F.kp, F.binds (fun _ _ _ _ _ _ us hl => match us, hl with | [_, _], _ => rfl), F.okX sc_breaking_cell (fun vs H Q E h => ?_) (fun cdv A outer s H vs Q E hr h => ?_)⟩
  · first | (obtain ⟨_, rfl, _⟩ := h; rfl) | (obtain ⟨_, _, rfl, _⟩ := h; rfl) | (obtain ⟨_, _, _, rfl, _⟩ := h; rfl) | (obtain ⟨_, _, _, _, rfl, _⟩ := h; rfl) | (obtain ⟨_, _, _, _, _, rfl, _⟩ := h; rfl) | (obtain ⟨_, _, _, _, _, _, rfl, _⟩ := h; rfl) | (obtain ⟨_, _, _, _, _, _, _, rfl, _⟩ := h; rfl)
  have hu64 := hr.units
  refine ⟨_, pss_cons (ps_expr (pcl o_require_carpet (hr.mono (by decide)) passE (pa_cons (pv 0) pa_nil)))
      (pss_cons (ps_expr (pcl o_require_pair (hr.mono (by decide)) passE (pa_cons (pv 1) (pa_cons (pe_str) pa_nil))))
      (pss_one (ps_ret (pcl o_parting_cell (hr.mono (by decide)) passE (pa_cons (pv 0) (pa_cons (pmt (j := 0) o_Carpet_moved_by T.c_Carpet (pv 0) (by decide) (hr.mono (by decide)) passE (pa_cons (pe_tupN (pa_cons (pe_un un_neg (pe_ix ix_tupN (pv 1) (pe_int) (fun _ _ => rfl))) (pa_cons (pe_un un_neg (pe_ix ix_tupN (pv 1) (pe_int) (fun _ _ => rfl))) pa_nil))) pa_nil)) pa_nil)))))), ?_⟩
  obtain ⟨x, v, rfl, h⟩ := h
  simp only [spReqCarp, exists_and_left, S_eq, tD1, rTupN, rAddZ, rSlZ, rIxZ, rInZ, rIntZ, rStrZ, rLenZ, rRepZ, tJoinZ, tJoinG, rCntZ, rTupG, rAll, rMax2, rMin2, tSl, tPart, tNoPart, rSlLN, rSlG, gUnlN, tYes, rLenS, rRepN, unset, calmS, cx_K, Value.ref.injEq, HO.xd.injEq, lk0, tSeq, tPar3, tPar, tCons, tNil, tVar, tC, tAsg, gName, gCons, gNil, gTupN, gSub, tOp, rI, rI0, rU, tTest, rNe, rEq, rIxTN, rIxLN, rLenL, rLenT, rIntI, rIntB, rAbs, rSetLN, tTruL, tRaiseX, rIsTy, rIsOw, ixN0, ixN1, tRet, tIf, tIfS, tNext, tBreak, tCont, tDrop, tTupN, tLstN, tUn, tCB, tCall, tNot, tAnd, tOr, tB, tAndV, tOrV, tNotV, tChain, tApp, LamX.tLam, tRevLN, rCatN, rInTN, rInLN, flatV, inV, List.all_cons, List.all_nil, List.any_cons, List.any_nil, Bool.and_self, Bool.and_true, if_true, Bool.false_eq_true, if_false, tMt, tFldN, tSto, HO.ins.injEq, lkh, List.drop_zero, List.drop_succ_cons, List.drop_nil, rListS, wipe, L2.start, List.map_cons, List.map_nil, List.length_cons, List.length_nil, List.replicate, List.cons_append, List.nil_append, List.append_nil, Nat.reduceAdd, Nat.reduceSub, Nat.zero_add, List.replicate_succ, List.replicate_zero, List.getElem?_cons_zero, List.getElem?_cons_succ, List.set_cons_zero, List.set_cons_succ, Option.some.injEq, V.int.injEq, V.bl.injEq, V.ref.injEq, V.str.injEq, V.ty.injEq, List.cons.injEq, HO.tup.injEq, HO.lst.injEq, and_true, true_and, and_assoc, exists_eq_left, exists_eq_left', exists_and_left, exists_eq', atI0, atI1, atI2, atI3, Int.cast_ofNat_Int, Int.reduceToNat, scal_ii, scal_in, scal_ni, scal_nn, scal_bb, scal_ss, scal_sn, scal_ns, scal_bn, scal_nb, ite_iff, decide_eq_true_eq, decide_eq_false_iff_not, Bool.not_eq_true', Classical.not_not, ne_eq, not_false_eq_true, not_true_eq_false, forall_const, true_implies, false_implies, imp_self, sizeLine_eq, Nat.reduceLeDiff, reduceCtorEq, decide_true, decide_false]
  rcases h with ⟨no, r⟩ | ⟨p, a, b, d, rows, rfl, C, hk, kn, ks, k⟩
  · exact .inl ⟨no, r⟩
  refine .inr ⟨p, rfl, a, b, d, rows, C, ?_⟩
  simp only [spReqP, exists_and_left, S_eq, tD1, rTupN, rAddZ, rSlZ, rIxZ, rInZ, rIntZ, rStrZ, rLenZ, rRepZ, tJoinZ, tJoinG, rCntZ, rTupG, rAll, rMax2, rMin2, tSl, tPart, tNoPart, rSlLN, rSlG, gUnlN, tYes, rLenS, rRepN, unset, calmS, cx_K, Value.ref.injEq, HO.xd.injEq, lk0, tSeq, tPar3, tPar, tCons, tNil, tVar, tC, tAsg, gName, gCons, gNil, gTupN, gSub, tOp, rI, rI0, rU, tTest, rNe, rEq, rIxTN, rIxLN, rLenL, rLenT, rIntI, rIntB, rAbs, rSetLN, tTruL, tRaiseX, rIsTy, rIsOw, ixN0, ixN1, tRet, tIf, tIfS, tNext, tBreak, tCont, tDrop, tTupN, tLstN, tUn, tCB, tCall, tNot, tAnd, tOr, tB, tAndV, tOrV, tNotV, tChain, tApp, LamX.tLam, tRevLN, rCatN, rInTN, rInLN, flatV, inV, List.all_cons, List.all_nil, List.any_cons, List.any_nil, Bool.and_self, Bool.and_true, if_true, Bool.false_eq_true, if_false, tMt, tFldN, tSto, HO.ins.injEq, lkh, List.drop_zero, List.drop_succ_cons, List.drop_nil, rListS, wipe, L2.start, List.map_cons, List.map_nil, List.length_cons, List.length_nil, List.replicate, List.cons_append, List.nil_append, List.append_nil, Nat.reduceAdd, Nat.reduceSub, Nat.zero_add, List.replicate_succ, List.replicate_zero, List.getElem?_cons_zero, List.getElem?_cons_succ, List.set_cons_zero, List.set_cons_succ, Option.some.injEq, V.int.injEq, V.bl.injEq, V.ref.injEq, V.str.injEq, V.ty.injEq, List.cons.injEq, HO.tup.injEq, HO.lst.injEq, and_true, true_and, and_assoc, exists_eq_left, exists_eq_left', exists_and_left, exists_eq', atI0, atI1, atI2, atI3, Int.cast_ofNat_Int, Int.reduceToNat, scal_ii, scal_in, scal_ni, scal_nn, scal_bb, scal_ss, scal_sn, scal_ns, scal_bn, scal_nb, ite_iff, decide_eq_true_eq, decide_eq_false_iff_not, Bool.not_eq_true', Classical.not_not, ne_eq, not_false_eq_true, not_true_eq_false, forall_const, true_implies, false_implies, imp_self, sizeLine_eq, Nat.reduceLeDiff, reduceCtorEq, decide_true, decide_false]
  refine ⟨hk, fun h => ?_, kn⟩
  obtain ⟨⟨u, z⟩, e⟩ := Option.isSome_iff_exists.mp h
  obtain ⟨k1, k2⟩ := k u z e
  obtain ⟨us, zs⟩ := ks u z e
  obtain ⟨t, rfl, ht⟩ := pairV_some e
  obtain ⟨dx, rp, np, q0, w0, s0, h0, R0, hc, _⟩ := C.at_
  simp only [ht, exists_and_left, S_eq, tD1, rTupN, rAddZ, rSlZ, rIxZ, rInZ, rIntZ, rStrZ, rLenZ, rRepZ, tJoinZ, tJoinG, rCntZ, rTupG, rAll, rMax2, rMin2, tSl, tPart, tNoPart, rSlLN, rSlG, gUnlN, tYes, rLenS, rRepN, unset, calmS, cx_K, Value.ref.injEq, HO.xd.injEq, lk0, tSeq, tPar3, tPar, tCons, tNil, tVar, tC, tAsg, gName, gCons, gNil, gTupN, gSub, tOp, rI, rI0, rU, tTest, rNe, rEq, rIxTN, rIxLN, rLenL, rLenT, rIntI, rIntB, rAbs, rSetLN, tTruL, tRaiseX, rIsTy, rIsOw, ixN0, ixN1, tRet, tIf, tIfS, tNext, tBreak, tCont, tDrop, tTupN, tLstN, tUn, tCB, tCall, tNot, tAnd, tOr, tB, tAndV, tOrV, tNotV, tChain, tApp, LamX.tLam, tRevLN, rCatN, rInTN, rInLN, flatV, inV, List.all_cons, List.all_nil, List.any_cons, List.any_nil, Bool.and_self, Bool.and_true, if_true, Bool.false_eq_true, if_false, tMt, tFldN, tSto, HO.ins.injEq, lkh, List.drop_zero, List.drop_succ_cons, List.drop_nil, rListS, wipe, L2.start, List.map_cons, List.map_nil, List.length_cons, List.length_nil, List.replicate, List.cons_append, List.nil_append, List.append_nil, Nat.reduceAdd, Nat.reduceSub, Nat.zero_add, List.replicate_succ, List.replicate_zero, List.getElem?_cons_zero, List.getElem?_cons_succ, List.set_cons_zero, List.set_cons_succ, Option.some.injEq, V.int.injEq, V.bl.injEq, V.ref.injEq, V.str.injEq, V.ty.injEq, List.cons.injEq, HO.tup.injEq, HO.lst.injEq, and_true, true_and, and_assoc, exists_eq_left, exists_eq_left', exists_and_left, exists_eq', atI0, atI1, atI2, atI3, Int.cast_ofNat_Int, Int.reduceToNat, scal_ii, scal_in, scal_ni, scal_nn, scal_bb, scal_ss, scal_sn, scal_ns, scal_bn, scal_nb, ite_iff, decide_eq_true_eq, decide_eq_false_iff_not, Bool.not_eq_true', Classical.not_not, ne_eq, not_false_eq_true, not_true_eq_false, forall_const, true_implies, false_implies, imp_self, sizeLine_eq, Nat.reduceLeDiff, reduceCtorEq, decide_true, decide_false]
  refine ⟨_, _, hc, lkCno, ?_⟩
  intro q H1 _ s1 h1
  refine moved_at (C.same s1) h1 (by rw [Int.natAbs_neg]; exact pow_small us (by decide)) (by rw [Int.natAbs_neg]; exact pow_small zs (by decide)) fun c w s h R' H2 n2 s2 N wa hd Cc ce => ?_
  refine part_at (C.same (s1.trans s2)) Cc (fun e H' s' => k1 ?_ H' ((s1.trans s2).trans s')) (fun x y t H' s' L p2 => k2 x y t H' ((s1.trans s2).trans s') (by rw [ce] at L; exact L) p2)
  rw [ce] at e
  have := (mv_eq.mp e.symm).neg
  rwa [Int.neg_neg, Int.neg_neg] at this

end
end Iz
/-! k12_f -/
set_option Elab.async false
set_option linter.all false
set_option maxRecDepth 100000
set_option maxHeartbeats 4000000
namespace Iz
open PySem PySem.Spec PyProof.Rows L2
open He (ga)
open SX (S S_len)
local macro_rules | `(tactic| walk_at "wp") => `(tactic| simp only [S_eq, tD1, rTupN, rAddZ, rSlZ, rIxZ, rInZ, rIntZ, rStrZ, rLenZ, rRepZ, tJoinZ, tJoinG, rCntZ, rTupG, rAll, rMax2, rMin2, tSl, tPart, tNoPart, rSlLN, rSlG, gUnlN, tYes, rLenS, rRepN, unset, calmS, cx_K, Value.ref.injEq, HO.xd.injEq, lk0, tSeq, tPar3, tPar, tCons, tNil, tVar, tC, tAsg, gName, gCons, gNil, gTupN, gSub, tOp, rI, rI0, rU, tTest, rNe, rEq, rIxTN, rIxLN, rLenL, rLenT, rIntI, rIntB, rAbs, rSetLN, tTruL, tRaiseX, rIsTy, rIsOw, ixN0, ixN1, tRet, tIf, tIfS, tNext, tBreak, tCont, tDrop, tTupN, tLstN, tUn, tCB, tCall, tNot, tAnd, tOr, tB, tAndV, tOrV, tNotV, tChain, tApp, LamX.tLam, tRevLN, rCatN, rInTN, rInLN, flatV, inV, List.all_cons, List.all_nil, List.any_cons, List.any_nil, Bool.and_self, Bool.and_true, if_true, Bool.false_eq_true, if_false, tMt, tFldN, tSto, HO.ins.injEq, lkh, List.drop_zero, List.drop_succ_cons, List.drop_nil, rListS, wipe, L2.start, List.map_cons, List.map_nil, List.length_cons, List.length_nil, List.replicate, List.cons_append, List.nil_append, List.append_nil, Nat.reduceAdd, Nat.reduceSub, Nat.zero_add, List.replicate_succ, List.replicate_zero, List.getElem?_cons_zero, List.getElem?_cons_succ, List.set_cons_zero, List.set_cons_succ, Option.some.injEq, V.int.injEq, V.bl.injEq, V.ref.injEq, V.str.injEq, V.ty.injEq, List.cons.injEq, HO.tup.injEq, HO.lst.injEq, and_true, true_and, and_assoc, exists_eq_left, exists_eq_left', exists_and_left, exists_eq', atI0, atI1, atI2, atI3, Int.cast_ofNat_Int, Int.reduceToNat, scal_ii, scal_in, scal_ni, scal_nn, scal_bb, scal_ss, scal_sn, scal_ns, scal_bn, scal_nb, ite_iff, decide_eq_true_eq, decide_eq_false_iff_not, Bool.not_eq_true', Classical.not_not, ne_eq, not_false_eq_true, not_true_eq_false, forall_const, true_implies, false_implies, imp_self, sizeLine_eq, Nat.reduceLeDiff, reduceCtorEq, decide_true, decide_false])
section
variable {P : Program} {w : World} {K : PySem.W.Frag} {mg : Str → Option Value} {base : Heap}
/-! ### the law's pool of draws -/
def Po (H : Hp) (a : Addr) : Prop := ∃ g s : Int, H a = some (.lst [.int g, .int s])
/-- all but the pool stays -/
def StpP (a : Addr) (H H' : Hp) : Prop := ∀ b o, H b = some o → b ≠ a → H' b = some o
theorem StpP.trans {a : Addr} {H H1 H2 : Hp} (x : StpP a H H1) (y : StpP a H1 H2) : StpP a H H2 := fun b o h n => y b o (x b o h n) n
theorem StpP.refl {a : Addr} {H : Hp} : StpP a H H := fun _ _ h _ => h
theorem StpP.of {a : Addr} {H H1 : Hp} (x : Same H H1) : StpP a H H1 := fun b o h _ => x b o h
theorem Po.same {H H1 : Hp} {a : Addr} (x : Po H a) (s : Same H H1) : Po H1 a := let ⟨g, n, h⟩ := x; ⟨g, n, s _ _ h⟩
/-- what is no list of two ints stays -/
theorem StpP.at {a b : Addr} {H H' : Hp} {o : HO} (t : StpP a H H') (p : Po H a) (h : H b = some o) (n : ∀ g s : Int, o ≠ .lst [.int g, .int s]) : H' b = some o := t b o h fun e => by
  obtain ⟨g, s, e2⟩ := p
  subst e
  exact n g s (Option.some.inj (h.symm.trans e2))
def spDraw : Sp := fun vs H Q _ => ∃ a lim, vs = [.ref a, .int lim] ∧ Po H a ∧ 1 ≤ lim ∧ lim.natAbs < 2 ^ 250 ∧ ∀ d H', 0 ≤ d → d < lim → Po H' a → StpP a H H' → Q (.int d) H'
theorem o__law_draw (T : Txt K mg) : OkF P w K mg base CX0 1 "_law_draw" ["_law_pool", "_law_many"] spDraw := by
  obtain ⟨f, fd, g, F⟩ := T.d__law_draw
  refine ⟨f, fd, g, F.kp, F.binds (fun _ _ _ _ _ _ us hl => match us, hl with | [_, _], _ => rfl), F.ok sc__law_draw (fun vs H Q E h => ?_) (fun cdv A outer s H vs Q E hr h => ?_)⟩
  · first | (obtain ⟨_, rfl, _⟩ := h; rfl) | (obtain ⟨_, _, rfl, _⟩ := h; rfl) | (obtain ⟨_, _, _, rfl, _⟩ := h; rfl) | (obtain ⟨_, _, _, _, rfl, _⟩ := h; rfl) | (obtain ⟨_, _, _, _, _, rfl, _⟩ := h; rfl) | (obtain ⟨_, _, _, _, _, _, rfl, _⟩ := h; rfl) | (obtain ⟨_, _, _, _, _, _, _, rfl, _⟩ := h; rfl)
  have hu64 := hr.units
  refine ⟨_, pss_cons (ps_if (pt_cmpR op_gt (pe_ix ix_listN (pv 0) (pe_int) (fun _ _ => rfl)) (pe_int) (nomark _)) (pss_cons (ps_set (i := 2) sc__law_draw.nd rfl (Or.inl rfl) (pe_op op_mod (pe_callTy call_intI (by rfl) T.m_int (by decide +kernel) (pa_cons (pe_ix ix_listN (pv 0) (pe_int) (fun _ _ => rfl)) pa_nil)) (pv 1)))
      (pss_cons (ps_asg (pe_op op_fdivW (pe_ix ix_listN (pv 0) (pe_int) (fun _ _ => rfl)) (pv 1)) (pg_sub (pv 0) (pe_int) set_listN))
      (pss_one (ps_ret (pv 2))))) (pss_nil))
      (pss_cons (ps_asg (pe_op op_mod (pe_callTy call_intI (by rfl) T.m_int (by decide +kernel) (pa_cons (pe_op op_add (pe_op op_mul (pe_ix ix_listN (pv 0) (pe_int) (fun _ _ => rfl)) (pe_int)) (pe_int)) pa_nil)) (pe_int)) (pg_sub (pv 0) (pe_int) set_listN))
      (pss_one (ps_ret (pe_op op_mod (pe_op op_fdivW (pe_op op_mod (pe_callTy call_intI (by rfl) T.m_int (by decide +kernel) (pa_cons (pe_op op_mulW (pe_ix ix_listN (pv 0) (pe_int) (fun _ _ => rfl)) (pe_ix ix_listN (pv 0) (pe_int) (fun _ _ => rfl))) pa_nil)) (pe_int)) (pe_int)) (pv 1))))), ?_⟩
  obtain ⟨a, lim, rfl, ⟨g, n, ha⟩, l1, lb, k⟩ := h
  simp only [ha, exists_and_left, S_eq, tD1, rTupN, rAddZ, rSlZ, rIxZ, rInZ, rIntZ, rStrZ, rLenZ, rRepZ, tJoinZ, tJoinG, rCntZ, rTupG, rAll, rMax2, rMin2, tSl, tPart, tNoPart, rSlLN, rSlG, gUnlN, tYes, rLenS, rRepN, unset, calmS, cx_K, Value.ref.injEq, HO.xd.injEq, lk0, tSeq, tPar3, tPar, tCons, tNil, tVar, tC, tAsg, gName, gCons, gNil, gTupN, gSub, tOp, rI, rI0, rU, tTest, rNe, rEq, rIxTN, rIxLN, rLenL, rLenT, rIntI, rIntB, rAbs, rSetLN, tTruL, tRaiseX, rIsTy, rIsOw, ixN0, ixN1, tRet, tIf, tIfS, tNext, tBreak, tCont, tDrop, tTupN, tLstN, tUn, tCB, tCall, tNot, tAnd, tOr, tB, tAndV, tOrV, tNotV, tChain, tApp, LamX.tLam, tRevLN, rCatN, rInTN, rInLN, flatV, inV, List.all_cons, List.all_nil, List.any_cons, List.any_nil, Bool.and_self, Bool.and_true, if_true, Bool.false_eq_true, if_false, tMt, tFldN, tSto, HO.ins.injEq, lkh, List.drop_zero, List.drop_succ_cons, List.drop_nil, rListS, wipe, L2.start, List.map_cons, List.map_nil, List.length_cons, List.length_nil, List.replicate, List.cons_append, List.nil_append, List.append_nil, Nat.reduceAdd, Nat.reduceSub, Nat.zero_add, List.replicate_succ, List.replicate_zero, List.getElem?_cons_zero, List.getElem?_cons_succ, List.set_cons_zero, List.set_cons_succ, Option.some.injEq, V.int.injEq, V.bl.injEq, V.ref.injEq, V.str.injEq, V.ty.injEq, List.cons.injEq, HO.tup.injEq, HO.lst.injEq, and_true, true_and, and_assoc, exists_eq_left, exists_eq_left', exists_and_left, exists_eq', atI0, atI1, atI2, atI3, Int.cast_ofNat_Int, Int.reduceToNat, scal_ii, scal_in, scal_ni, scal_nn, scal_bb, scal_ss, scal_sn, scal_ns, scal_bn, scal_nb, ite_iff, decide_eq_true_eq, decide_eq_false_iff_not, Bool.not_eq_true', Classical.not_not, ne_eq, not_false_eq_true, not_true_eq_false, forall_const, true_implies, false_implies, imp_self, sizeLine_eq, Nat.reduceLeDiff, reduceCtorEq, decide_true, decide_false]
  refine ⟨fun h0 => ?_, fun h0 => ?_⟩
  · exact ⟨by omega, wide_div (by omega) lb (by decide) (by decide), fun H2 p => k _ H2 (Int.emod_nonneg _ (by omega)) (Int.emod_lt_of_pos _ (by omega)) ⟨_, _, p.1⟩ fun b o e nb => by rw [p.2 b nb]; exact e⟩
  · refine ⟨.inr ⟨by decide, by decide⟩, by decide, fun H2 p => ?_⟩
    have h2 := p.1
    simp only [h2, exists_and_left, S_eq, tD1, rTupN, rAddZ, rSlZ, rIxZ, rInZ, rIntZ, rStrZ, rLenZ, rRepZ, tJoinZ, tJoinG, rCntZ, rTupG, rAll, rMax2, rMin2, tSl, tPart, tNoPart, rSlLN, rSlG, gUnlN, tYes, rLenS, rRepN, unset, calmS, cx_K, Value.ref.injEq, HO.xd.injEq, lk0, tSeq, tPar3, tPar, tCons, tNil, tVar, tC, tAsg, gName, gCons, gNil, gTupN, gSub, tOp, rI, rI0, rU, tTest, rNe, rEq, rIxTN, rIxLN, rLenL, rLenT, rIntI, rIntB, rAbs, rSetLN, tTruL, tRaiseX, rIsTy, rIsOw, ixN0, ixN1, tRet, tIf, tIfS, tNext, tBreak, tCont, tDrop, tTupN, tLstN, tUn, tCB, tCall, tNot, tAnd, tOr, tB, tAndV, tOrV, tNotV, tChain, tApp, LamX.tLam, tRevLN, rCatN, rInTN, rInLN, flatV, inV, List.all_cons, List.all_nil, List.any_cons, List.any_nil, Bool.and_self, Bool.and_true, if_true, Bool.false_eq_true, if_false, tMt, tFldN, tSto, HO.ins.injEq, lkh, List.drop_zero, List.drop_succ_cons, List.drop_nil, rListS, wipe, L2.start, List.map_cons, List.map_nil, List.length_cons, List.length_nil, List.replicate, List.cons_append, List.nil_append, List.append_nil, Nat.reduceAdd, Nat.reduceSub, Nat.zero_add, List.replicate_succ, List.replicate_zero, List.getElem?_cons_zero, List.getElem?_cons_succ, List.set_cons_zero, List.set_cons_succ, Option.some.injEq, V.int.injEq, V.bl.injEq, V.ref.injEq, V.str.injEq, V.ty.injEq, List.cons.injEq, HO.tup.injEq, HO.lst.injEq, and_true, true_and, and_assoc, exists_eq_left, exists_eq_left', exists_and_left, exists_eq', atI0, atI1, atI2, atI3, Int.cast_ofNat_Int, Int.reduceToNat, scal_ii, scal_in, scal_ni, scal_nn, scal_bb, scal_ss, scal_sn, scal_ns, scal_bn, scal_nb, ite_iff, decide_eq_true_eq, decide_eq_false_iff_not, Bool.not_eq_true', Classical.not_not, ne_eq, not_false_eq_true, not_true_eq_false, forall_const, true_implies, false_implies, imp_self, sizeLine_eq, Nat.reduceLeDiff, reduceCtorEq, decide_true, decide_false]
    have b0 := Int.emod_nonneg (n * 48271 + 11) (b := 2147483647) (by decide)
    have b1 := Int.emod_lt_of_pos (n * 48271 + 11) (b := 2147483647) (by decide)
    refine ⟨wide_mul (a := 31) (b := 31) (by omega) (by omega) (by decide) (by decide) (by decide), by decide, wide_div (show (0 : Int) < 32 by decide) (b := 6) (by decide) (by decide) (by decide), by omega, k _ H2 (Int.emod_nonneg _ (by omega)) (Int.emod_lt_of_pos _ (by omega)) ⟨_, _, h2⟩ fun b o e nb => by rw [p.2 b nb]; exact e⟩
def spPick : Sp := fun vs H Q _ => ∃ a l, vs = [.ref a, .ref l] ∧ Po H a ∧ l ≠ a ∧ ∃ xs, H l = some (.lst xs) ∧ 1 ≤ xs.length ∧ xs.length ≤ 1000 ∧ ∀ x H', x ∈ xs → Po H' a → StpP a H H' → Q x H'
theorem o__law_pick (T : Txt K mg) : OkF P w K mg base CX0 2 "_law_pick" ["_law_pool", "_law_some"] spPick := by
  have o__law_draw := o__law_draw (P := P) (w := w) (base := base) T
  obtain ⟨f, fd, g, F⟩ := T.d__law_pick
  refine ⟨f, fd, g, F.kp, F.binds (fun _ _ _ _ _ _ us hl => match us, hl with | [_, _], _ => rfl), F.ok sc__law_pick (fun vs H Q E h => ?_) (fun cdv A outer s H vs Q E hr h => ?_)⟩
  · first | (obtain ⟨_, rfl, _⟩ := h; rfl) | (obtain ⟨_, _, rfl, _⟩ := h; rfl) | (obtain ⟨_, _, _, rfl, _⟩ := h; rfl) | (obtain ⟨_, _, _, _, rfl, _⟩ := h; rfl) | (obtain ⟨_, _, _, _, _, rfl, _⟩ := h; rfl) | (obtain ⟨_, _, _, _, _, _, rfl, _⟩ := h; rfl) | (obtain ⟨_, _, _, _, _, _, _, rfl, _⟩ := h; rfl)
  have hu64 := hr.units
  refine ⟨_, pss_one (ps_ret (pe_ix ix_listN (pv 1) (pcl o__law_draw (hr.mono (by decide)) pass0 (pa_cons (pv 0) (pa_cons (pe_callB call_lenL (by rfl) T.m_len (by decide +kernel) (pa_cons (pv 1) pa_nil)) pa_nil))) (fun _ _ => rfl))), ?_⟩
  obtain ⟨a, l, rfl, hP, la, xs, hl, l1, l2, k⟩ := h
  simp only [spDraw, hl, exists_and_left, S_eq, tD1, rTupN, rAddZ, rSlZ, rIxZ, rInZ, rIntZ, rStrZ, rLenZ, rRepZ, tJoinZ, tJoinG, rCntZ, rTupG, rAll, rMax2, rMin2, tSl, tPart, tNoPart, rSlLN, rSlG, gUnlN, tYes, rLenS, rRepN, unset, calmS, cx_K, Value.ref.injEq, HO.xd.injEq, lk0, tSeq, tPar3, tPar, tCons, tNil, tVar, tC, tAsg, gName, gCons, gNil, gTupN, gSub, tOp, rI, rI0, rU, tTest, rNe, rEq, rIxTN, rIxLN, rLenL, rLenT, rIntI, rIntB, rAbs, rSetLN, tTruL, tRaiseX, rIsTy, rIsOw, ixN0, ixN1, tRet, tIf, tIfS, tNext, tBreak, tCont, tDrop, tTupN, tLstN, tUn, tCB, tCall, tNot, tAnd, tOr, tB, tAndV, tOrV, tNotV, tChain, tApp, LamX.tLam, tRevLN, rCatN, rInTN, rInLN, flatV, inV, List.all_cons, List.all_nil, List.any_cons, List.any_nil, Bool.and_self, Bool.and_true, if_true, Bool.false_eq_true, if_false, tMt, tFldN, tSto, HO.ins.injEq, lkh, List.drop_zero, List.drop_succ_cons, List.drop_nil, rListS, wipe, L2.start, List.map_cons, List.map_nil, List.length_cons, List.length_nil, List.replicate, List.cons_append, List.nil_append, List.append_nil, Nat.reduceAdd, Nat.reduceSub, Nat.zero_add, List.replicate_succ, List.replicate_zero, List.getElem?_cons_zero, List.getElem?_cons_succ, List.set_cons_zero, List.set_cons_succ, Option.some.injEq, V.int.injEq, V.bl.injEq, V.ref.injEq, V.str.injEq, V.ty.injEq, List.cons.injEq, HO.tup.injEq, HO.lst.injEq, and_true, true_and, and_assoc, exists_eq_left, exists_eq_left', exists_and_left, exists_eq', atI0, atI1, atI2, atI3, Int.cast_ofNat_Int, Int.reduceToNat, scal_ii, scal_in, scal_ni, scal_nn, scal_bb, scal_ss, scal_sn, scal_ns, scal_bn, scal_nb, ite_iff, decide_eq_true_eq, decide_eq_false_iff_not, Bool.not_eq_true', Classical.not_not, ne_eq, not_false_eq_true, not_true_eq_false, forall_const, true_implies, false_implies, imp_self, sizeLine_eq, Nat.reduceLeDiff, reduceCtorEq, decide_true, decide_false]
  refine ⟨hP, by omega, by omega, fun d H1 d0 d1 hP1 t1 => ?_⟩
  have h1 := t1 _ _ hl la
  simp only [h1, exists_and_left, S_eq, tD1, rTupN, rAddZ, rSlZ, rIxZ, rInZ, rIntZ, rStrZ, rLenZ, rRepZ, tJoinZ, tJoinG, rCntZ, rTupG, rAll, rMax2, rMin2, tSl, tPart, tNoPart, rSlLN, rSlG, gUnlN, tYes, rLenS, rRepN, unset, calmS, cx_K, Value.ref.injEq, HO.xd.injEq, lk0, tSeq, tPar3, tPar, tCons, tNil, tVar, tC, tAsg, gName, gCons, gNil, gTupN, gSub, tOp, rI, rI0, rU, tTest, rNe, rEq, rIxTN, rIxLN, rLenL, rLenT, rIntI, rIntB, rAbs, rSetLN, tTruL, tRaiseX, rIsTy, rIsOw, ixN0, ixN1, tRet, tIf, tIfS, tNext, tBreak, tCont, tDrop, tTupN, tLstN, tUn, tCB, tCall, tNot, tAnd, tOr, tB, tAndV, tOrV, tNotV, tChain, tApp, LamX.tLam, tRevLN, rCatN, rInTN, rInLN, flatV, inV, List.all_cons, List.all_nil, List.any_cons, List.any_nil, Bool.and_self, Bool.and_true, if_true, Bool.false_eq_true, if_false, tMt, tFldN, tSto, HO.ins.injEq, lkh, List.drop_zero, List.drop_succ_cons, List.drop_nil, rListS, wipe, L2.start, List.map_cons, List.map_nil, List.length_cons, List.length_nil, List.replicate, List.cons_append, List.nil_append, List.append_nil, Nat.reduceAdd, Nat.reduceSub, Nat.zero_add, List.replicate_succ, List.replicate_zero, List.getElem?_cons_zero, List.getElem?_cons_succ, List.set_cons_zero, List.set_cons_succ, Option.some.injEq, V.int.injEq, V.bl.injEq, V.ref.injEq, V.str.injEq, V.ty.injEq, List.cons.injEq, HO.tup.injEq, HO.lst.injEq, and_true, true_and, and_assoc, exists_eq_left, exists_eq_left', exists_and_left, exists_eq', atI0, atI1, atI2, atI3, Int.cast_ofNat_Int, Int.reduceToNat, scal_ii, scal_in, scal_ni, scal_nn, scal_bb, scal_ss, scal_sn, scal_ns, scal_bn, scal_nb, ite_iff, decide_eq_true_eq, decide_eq_false_iff_not, Bool.not_eq_true', Classical.not_not, ne_eq, not_false_eq_true, not_true_eq_false, forall_const, true_implies, false_implies, imp_self, sizeLine_eq, Nat.reduceLeDiff, reduceCtorEq, decide_true, decide_false]
  have hd : d.toNat < xs.length := by omega
  exact ⟨xs[d.toNat], atI_ok d0 (List.getElem?_eq_getElem hd), k _ H1 (List.getElem_mem hd) hP1 t1⟩

/-- three ints in a list -/
abbrev T3 (H : Hp) (t : Addr) (w s h : Int) : Prop := H t = some (.lst [.int w, .int s, .int h])
theorem T3.stp {H H' : Hp} {t a : Addr} {w s h : Int} (e : T3 H t w s h) (p : Po H a) (x : StpP a H H') : T3 H' t w s h := x.at p e (fun g s z => by cases z)
def spThree : Sp := fun vs H Q _ => ∃ a most, vs = [.ref a, .int most] ∧ Po H a ∧ 1 ≤ most ∧ most ≤ 100000000000000000000 ∧ ∀ t w s h H', 1 ≤ w → w ≤ most → 0 ≤ s → s < w → 1 ≤ h → h ≤ most → Po H' a → StpP a H H' → T3 H' t w s h → Q (.ref t) H'
theorem o__law_three (T : Txt K mg) : OkF P w K mg base CX0 2 "_law_three" ["_law_pool", "_law_most"] spThree := by
  have o__law_draw := o__law_draw (P := P) (w := w) (base := base) T
  obtain ⟨f, fd, g, F⟩ := T.d__law_three
  refine ⟨f, fd, g, F.kp, F.binds (fun _ _ _ _ _ _ us hl => match us, hl with | [_, _], _ => rfl), F.ok sc__law_three (fun vs H Q E h => ?_) (fun cdv A outer s H vs Q E hr h => ?_)⟩
  · first | (obtain ⟨_, rfl, _⟩ := h; rfl) | (obtain ⟨_, _, rfl, _⟩ := h; rfl) | (obtain ⟨_, _, _, rfl, _⟩ := h; rfl) | (obtain ⟨_, _, _, _, rfl, _⟩ := h; rfl) | (obtain ⟨_, _, _, _, _, rfl, _⟩ := h; rfl) | (obtain ⟨_, _, _, _, _, _, rfl, _⟩ := h; rfl) | (obtain ⟨_, _, _, _, _, _, _, rfl, _⟩ := h; rfl)
  have hu64 := hr.units
  refine ⟨_, pss_cons (ps_set (i := 2) sc__law_three.nd rfl (Or.inl rfl) (pe_op op_add (pe_int) (pcl o__law_draw (hr.mono (by decide)) pass0 (pa_cons (pv 0) (pa_cons (pv 1) pa_nil)))))
      (pss_one (ps_ret (pe_lstN (pa_cons (pv 2) (pa_cons (pcl o__law_draw (hr.mono (by decide)) pass0 (pa_cons (pv 0) (pa_cons (pv 2) pa_nil))) (pa_cons (pe_op op_add (pe_int) (pcl o__law_draw (hr.mono (by decide)) pass0 (pa_cons (pv 0) (pa_cons (pv 1) pa_nil)))) pa_nil)))))), ?_⟩
  obtain ⟨a, most, rfl, hP, m1, m2, k⟩ := h
  simp only [spDraw, exists_and_left, S_eq, tD1, rTupN, rAddZ, rSlZ, rIxZ, rInZ, rIntZ, rStrZ, rLenZ, rRepZ, tJoinZ, tJoinG, rCntZ, rTupG, rAll, rMax2, rMin2, tSl, tPart, tNoPart, rSlLN, rSlG, gUnlN, tYes, rLenS, rRepN, unset, calmS, cx_K, Value.ref.injEq, HO.xd.injEq, lk0, tSeq, tPar3, tPar, tCons, tNil, tVar, tC, tAsg, gName, gCons, gNil, gTupN, gSub, tOp, rI, rI0, rU, tTest, rNe, rEq, rIxTN, rIxLN, rLenL, rLenT, rIntI, rIntB, rAbs, rSetLN, tTruL, tRaiseX, rIsTy, rIsOw, ixN0, ixN1, tRet, tIf, tIfS, tNext, tBreak, tCont, tDrop, tTupN, tLstN, tUn, tCB, tCall, tNot, tAnd, tOr, tB, tAndV, tOrV, tNotV, tChain, tApp, LamX.tLam, tRevLN, rCatN, rInTN, rInLN, flatV, inV, List.all_cons, List.all_nil, List.any_cons, List.any_nil, Bool.and_self, Bool.and_true, if_true, Bool.false_eq_true, if_false, tMt, tFldN, tSto, HO.ins.injEq, lkh, List.drop_zero, List.drop_succ_cons, List.drop_nil, rListS, wipe, L2.start, List.map_cons, List.map_nil, List.length_cons, List.length_nil, List.replicate, List.cons_append, List.nil_append, List.append_nil, Nat.reduceAdd, Nat.reduceSub, Nat.zero_add, List.replicate_succ, List.replicate_zero, List.getElem?_cons_zero, List.getElem?_cons_succ, List.set_cons_zero, List.set_cons_succ, Option.some.injEq, V.int.injEq, V.bl.injEq, V.ref.injEq, V.str.injEq, V.ty.injEq, List.cons.injEq, HO.tup.injEq, HO.lst.injEq, and_true, true_and, and_assoc, exists_eq_left, exists_eq_left', exists_and_left, exists_eq', atI0, atI1, atI2, atI3, Int.cast_ofNat_Int, Int.reduceToNat, scal_ii, scal_in, scal_ni, scal_nn, scal_bb, scal_ss, scal_sn, scal_ns, scal_bn, scal_nb, ite_iff, decide_eq_true_eq, decide_eq_false_iff_not, Bool.not_eq_true', Classical.not_not, ne_eq, not_false_eq_true, not_true_eq_false, forall_const, true_implies, false_implies, imp_self, sizeLine_eq, Nat.reduceLeDiff, reduceCtorEq, decide_true, decide_false]
  refine ⟨hP, m1, by omega, fun d H1 d0 d1 hP1 t1 => ⟨hP1, by omega, by omega, fun e H2 e0 e1 hP2 t2 => ⟨hP2, by omega, by omega, fun f H3 f0 f1 hP3 t3 => ?_⟩⟩⟩
  intro t H4 ht s4 h4
  exact k t _ _ _ H4 (by omega) (by omega) e0 (by omega) (by omega) (by omega) (hP3.same s4) ((t1.trans t2).trans (t3.trans (StpP.of s4))) h4
def spOpened (K : PySem.W.Frag) : Sp := fun vs H Q _ => ∃ sc i, vs = [.ref sc, .int i] ∧ ∃ ns : List Int, SqL K H sc (ns.map V.int) ∧ 0 ≤ i ∧ i < 100 ∧ ∀ p H', H p = none → Same H H' → Po H' p → Q (.ref p) H'
theorem o__law_opened (T : Txt K mg) : OkF P w K mg base CX0 1 "_law_opened" ["_law_script", "_law_k"] (spOpened K) := by
  obtain ⟨f, fd, g, F⟩ := T.d__law_opened
  refine ⟨f, fd, g, F.kp, F.binds (fun _ _ _ _ _ _ us hl => match us, hl with | [_, _], _ => rfl), F.ok sc__law_opened (fun vs H Q E h => ?_) (fun cdv A outer s H vs Q E hr h => ?_)⟩
  · first | (obtain ⟨_, rfl, _⟩ := h; rfl) | (obtain ⟨_, _, rfl, _⟩ := h; rfl) | (obtain ⟨_, _, _, rfl, _⟩ := h; rfl) | (obtain ⟨_, _, _, _, rfl, _⟩ := h; rfl) | (obtain ⟨_, _, _, _, _, rfl, _⟩ := h; rfl) | (obtain ⟨_, _, _, _, _, _, rfl, _⟩ := h; rfl) | (obtain ⟨_, _, _, _, _, _, _, rfl, _⟩ := h; rfl)
  have hu64 := hr.units
  refine ⟨_, pss_cons (ps_set (i := 2) sc__law_opened.nd rfl (Or.inl rfl) (pe_ix ix_listN (pe_op op_catN (pe_slice sl_listN (pv 0) (po_some (pv 1)) (po_some (pe_op op_add (pv 1) (pe_int)))) (pe_lstN (pa_cons (pe_int) pa_nil))) (pe_int) (fun _ _ => rfl)))
      (pss_cons (ps_set (i := 3) sc__law_opened.nd rfl (Or.inl rfl) (pe_callB (call_max2N rfl) (by rfl) T.m_max (by decide +kernel) (pa_cons (pe_callTy call_intI (by rfl) T.m_int (by decide +kernel) (pa_cons (pv 2) pa_nil)) (pa_cons (pe_callTy call_intI (by rfl) T.m_int (by decide +kernel) (pa_cons (pe_op op_sub (pe_un un_neg (pe_int)) (pv 2)) pa_nil)) pa_nil))))
      (pss_cons (ps_set (i := 4) sc__law_opened.nd rfl (Or.inl rfl) (pe_op op_mod (pe_op op_mul (pe_op op_add (pe_op op_add (pe_op op_mod (pe_callTy call_intI (by rfl) T.m_int (by decide +kernel) (pa_cons (pv 3) pa_nil)) (pe_int)) (pe_op op_mul (pe_int) (pv 1))) (pe_int)) (pe_int)) (pe_int)))
      (pss_one (ps_ret (pe_lstN (pa_cons (pe_op op_mul (pe_callTy call_intB (by rfl) T.m_int (by decide +kernel) (pa_cons (pe_cmpR op_ge (pv 3) (pe_op op_pow (pe_int) (pe_int)) (nomark _)) pa_nil)) (pv 3)) (pa_cons (pv 4) pa_nil))))))), ?_⟩
  obtain ⟨sc, i, rfl, ns, hs, i0, i1, k⟩ := h
  simp only [exists_and_left, S_eq, tD1, rTupN, rAddZ, rSlZ, rIxZ, rInZ, rIntZ, rStrZ, rLenZ, rRepZ, tJoinZ, tJoinG, rCntZ, rTupG, rAll, rMax2, rMin2, tSl, tPart, tNoPart, rSlLN, rSlG, gUnlN, tYes, rLenS, rRepN, unset, calmS, cx_K, Value.ref.injEq, HO.xd.injEq, lk0, tSeq, tPar3, tPar, tCons, tNil, tVar, tC, tAsg, gName, gCons, gNil, gTupN, gSub, tOp, rI, rI0, rU, tTest, rNe, rEq, rIxTN, rIxLN, rLenL, rLenT, rIntI, rIntB, rAbs, rSetLN, tTruL, tRaiseX, rIsTy, rIsOw, ixN0, ixN1, tRet, tIf, tIfS, tNext, tBreak, tCont, tDrop, tTupN, tLstN, tUn, tCB, tCall, tNot, tAnd, tOr, tB, tAndV, tOrV, tNotV, tChain, tApp, LamX.tLam, tRevLN, rCatN, rInTN, rInLN, flatV, inV, List.all_cons, List.all_nil, List.any_cons, List.any_nil, Bool.and_self, Bool.and_true, if_true, Bool.false_eq_true, if_false, tMt, tFldN, tSto, HO.ins.injEq, lkh, List.drop_zero, List.drop_succ_cons, List.drop_nil, rListS, wipe, L2.start, List.map_cons, List.map_nil, List.length_cons, List.length_nil, List.replicate, List.cons_append, List.nil_append, List.append_nil, Nat.reduceAdd, Nat.reduceSub, Nat.zero_add, List.replicate_succ, List.replicate_zero, List.getElem?_cons_zero, List.getElem?_cons_succ, List.set_cons_zero, List.set_cons_succ, Option.some.injEq, V.int.injEq, V.bl.injEq, V.ref.injEq, V.str.injEq, V.ty.injEq, List.cons.injEq, HO.tup.injEq, HO.lst.injEq, and_true, true_and, and_assoc, exists_eq_left, exists_eq_left', exists_and_left, exists_eq', atI0, atI1, atI2, atI3, Int.cast_ofNat_Int, Int.reduceToNat, scal_ii, scal_in, scal_ni, scal_nn, scal_bb, scal_ss, scal_sn, scal_ns, scal_bn, scal_nb, ite_iff, decide_eq_true_eq, decide_eq_false_iff_not, Bool.not_eq_true', Classical.not_not, ne_eq, not_false_eq_true, not_true_eq_false, forall_const, true_implies, false_implies, imp_self, sizeLine_eq, Nat.reduceLeDiff, reduceCtorEq, decide_true, decide_false]
  refine ⟨_, hs, fun p H1 hp s1 h1 => ?_⟩
  intro q H2 hq s2 h2
  have h12 := s2 _ _ h1
  have hsm : (cutV (ns.map V.int) (some i) (some (i + 1))).length ≤ 1000 := by
    unfold cutV
    rw [List.length_take]
    have c0 : ∀ n : Nat, HT.sIx n n (some (i + 1)) ≤ 1000 := fun n => by
      show (if i + 1 < 0 then (i + 1 + (n : Int)).toNat else min (i + 1).toNat n) ≤ 1000
      rw [if_neg (by omega)]
      omega
    exact Nat.le_trans (Nat.min_le_left _ _) (by have := c0 (ns.map V.int).length; omega)
  obtain ⟨z, zs, e⟩ : ∃ (z : Int) (zs : List V), cutV (ns.map V.int) (some i) (some (i + 1)) ++ [.int 0] = .int z :: zs := by
    cases e : cutV (ns.map V.int) (some i) (some (i + 1)) with
    | nil => exact ⟨0, [], rfl⟩
    | cons v vs =>
      have hm : v ∈ ns.map V.int := by
        have : v ∈ cutV (ns.map V.int) (some i) (some (i + 1)) := by rw [e]; simp
        exact List.mem_of_mem_drop (List.mem_of_mem_take this)
      obtain ⟨z, _, rfl⟩ := List.mem_map.mp hm
      exact ⟨z, _, rfl⟩
  refine ⟨p, rfl, q, rfl, _, h12, _, h2, by simp; omega, ?_⟩
  intro r H3 hr s3 h3
  rw [e] at h3
  refine ⟨r, rfl, _, h3, _, atI0, z, rfl, z, rfl, by decide, .inl ⟨by decide, by decide⟩, .inr ⟨by decide, by decide⟩, by decide, ⟨by decide, by decide, by decide⟩, .inl (by split <;> decide), ?_⟩
  intro u H4 hu s4 h4
  exact k u H4 ((s1.trans (s2.trans s3)).free hu) (s1.trans ((s2.trans s3).trans s4)) ⟨_, _, h4⟩
def spPl : Sp := fun vs H Q _ => ∃ t x y, vs = [.ref t, .int x, .int y] ∧ ∃ w s h, T3 H t w s h ∧ LB w s h ∧ x.natAbs < 2 ^ 2000 ∧ y.natAbs < 2 ^ 2000 ∧ ∀ p H', Same H H' → P2 H' p (plX w s h x y) (plY h y) → Q (.ref p) H'
theorem o__law_place (T : Txt K mg) : OkF P w K mg base CX0 1 "_law_place" ["_law_three_here", "_law_x", "_law_y"] spPl := by
  obtain ⟨f, fd, g, F⟩ := T.d__law_place
  refine ⟨f, fd, g, F.kp, F.binds (fun _ _ _ _ _ _ us hl => match us, hl with | [_, _, _], _ => rfl), F.ok sc__law_place (fun vs H Q E h => ?_) (fun cdv A outer s H vs Q E hr h => ?_)⟩
  · first | (obtain ⟨_, rfl, _⟩ := h; rfl) | (obtain ⟨_, _, rfl, _⟩ := h; rfl) | (obtain ⟨_, _, _, rfl, _⟩ := h; rfl) | (obtain ⟨_, _, _, _, rfl, _⟩ := h; rfl) | (obtain ⟨_, _, _, _, _, rfl, _⟩ := h; rfl) | (obtain ⟨_, _, _, _, _, _, rfl, _⟩ := h; rfl) | (obtain ⟨_, _, _, _, _, _, _, rfl, _⟩ := h; rfl)
  have hu64 := hr.units
  refine ⟨_, pss_cons (ps_asg (pv 0) (pg_unlN (n := 3) (by rfl) (pgs_cons (pg_name (i := 3) sc__law_place.nd rfl (Or.inl rfl)) (pgs_cons (pg_name (i := 4) sc__law_place.nd rfl (Or.inl rfl)) (pgs_cons (pg_name (i := 5) sc__law_place.nd rfl (Or.inl rfl)) pgs_nil)))))
      (pss_one (ps_ret (pe_tupN (pa_cons (pe_op op_mod (pe_op op_sub (pv 1) (pe_op op_mulW (pv 4) (pe_op op_fdivW (pv 2) (pv 5)))) (pv 3)) (pa_cons (pe_op op_mod (pv 2) (pv 5)) pa_nil))))), ?_⟩
  obtain ⟨t, x, y, rfl, w, s, h, ht, B, xs, ys, k⟩ := h
  have d0 : 0 < h := by have := B.d1; omega
  have a0 : 0 < w := by have := B.a1; omega
  have hq : (y / h).natAbs < 2 ^ 2000 := Nat.lt_of_le_of_lt (Int.natAbs_ediv_le_natAbs _ _) ys
  have e : y % h = plY h y := Int.emod_def y h
  simp only [ht, exists_and_left, S_eq, tD1, rTupN, rAddZ, rSlZ, rIxZ, rInZ, rIntZ, rStrZ, rLenZ, rRepZ, tJoinZ, tJoinG, rCntZ, rTupG, rAll, rMax2, rMin2, tSl, tPart, tNoPart, rSlLN, rSlG, gUnlN, tYes, rLenS, rRepN, unset, calmS, cx_K, Value.ref.injEq, HO.xd.injEq, lk0, tSeq, tPar3, tPar, tCons, tNil, tVar, tC, tAsg, gName, gCons, gNil, gTupN, gSub, tOp, rI, rI0, rU, tTest, rNe, rEq, rIxTN, rIxLN, rLenL, rLenT, rIntI, rIntB, rAbs, rSetLN, tTruL, tRaiseX, rIsTy, rIsOw, ixN0, ixN1, tRet, tIf, tIfS, tNext, tBreak, tCont, tDrop, tTupN, tLstN, tUn, tCB, tCall, tNot, tAnd, tOr, tB, tAndV, tOrV, tNotV, tChain, tApp, LamX.tLam, tRevLN, rCatN, rInTN, rInLN, flatV, inV, List.all_cons, List.all_nil, List.any_cons, List.any_nil, Bool.and_self, Bool.and_true, if_true, Bool.false_eq_true, if_false, tMt, tFldN, tSto, HO.ins.injEq, lkh, List.drop_zero, List.drop_succ_cons, List.drop_nil, rListS, wipe, L2.start, List.map_cons, List.map_nil, List.length_cons, List.length_nil, List.replicate, List.cons_append, List.nil_append, List.append_nil, Nat.reduceAdd, Nat.reduceSub, Nat.zero_add, List.replicate_succ, List.replicate_zero, List.getElem?_cons_zero, List.getElem?_cons_succ, List.set_cons_zero, List.set_cons_succ, Option.some.injEq, V.int.injEq, V.bl.injEq, V.ref.injEq, V.str.injEq, V.ty.injEq, List.cons.injEq, HO.tup.injEq, HO.lst.injEq, and_true, true_and, and_assoc, exists_eq_left, exists_eq_left', exists_and_left, exists_eq', atI0, atI1, atI2, atI3, Int.cast_ofNat_Int, Int.reduceToNat, scal_ii, scal_in, scal_ni, scal_nn, scal_bb, scal_ss, scal_sn, scal_ns, scal_bn, scal_nb, ite_iff, decide_eq_true_eq, decide_eq_false_iff_not, Bool.not_eq_true', Classical.not_not, ne_eq, not_false_eq_true, not_true_eq_false, forall_const, true_implies, false_implies, imp_self, sizeLine_eq, Nat.reduceLeDiff, reduceCtorEq, decide_true, decide_false]
  refine ⟨wide_div d0 B.dS (by decide) (by decide), wide_mul B.bS hq (by decide) (by decide) (by decide), a0, d0, ?_⟩
  rw [e]
  exact fun q H' _ s hq => k q H' s hq

end
end Iz
/-! k12_g -/
set_option Elab.async false
set_option linter.all false
set_option maxRecDepth 100000
set_option maxHeartbeats 4000000
namespace Iz
open PySem PySem.Spec PyProof.Rows L2
open He (ga)
open SX (S S_len)
local macro_rules | `(tactic| walk_at "wp") => `(tactic| simp only [S_eq, tD1, rTupN, rAddZ, rSlZ, rIxZ, rInZ, rIntZ, rStrZ, rLenZ, rRepZ, tJoinZ, tJoinG, rCntZ, rTupG, rAll, rMax2, rMin2, tSl, tPart, tNoPart, rSlLN, rSlG, gUnlN, tYes, rLenS, rRepN, unset, calmS, cx_K, Value.ref.injEq, HO.xd.injEq, lk0, tSeq, tPar3, tPar, tCons, tNil, tVar, tC, tAsg, gName, gCons, gNil, gTupN, gSub, tOp, rI, rI0, rU, tTest, rNe, rEq, rIxTN, rIxLN, rLenL, rLenT, rIntI, rIntB, rAbs, rSetLN, tTruL, tRaiseX, rIsTy, rIsOw, ixN0, ixN1, tRet, tIf, tIfS, tNext, tBreak, tCont, tDrop, tTupN, tLstN, tUn, tCB, tCall, tNot, tAnd, tOr, tB, tAndV, tOrV, tNotV, tChain, tApp, LamX.tLam, tRevLN, rCatN, rInTN, rInLN, flatV, inV, List.all_cons, List.all_nil, List.any_cons, List.any_nil, Bool.and_self, Bool.and_true, if_true, Bool.false_eq_true, if_false, tMt, tFldN, tSto, HO.ins.injEq, lkh, List.drop_zero, List.drop_succ_cons, List.drop_nil, rListS, wipe, L2.start, List.map_cons, List.map_nil, List.length_cons, List.length_nil, List.replicate, List.cons_append, List.nil_append, List.append_nil, Nat.reduceAdd, Nat.reduceSub, Nat.zero_add, List.replicate_succ, List.replicate_zero, List.getElem?_cons_zero, List.getElem?_cons_succ, List.set_cons_zero, List.set_cons_succ, Option.some.injEq, V.int.injEq, V.bl.injEq, V.ref.injEq, V.str.injEq, V.ty.injEq, List.cons.injEq, HO.tup.injEq, HO.lst.injEq, and_true, true_and, and_assoc, exists_eq_left, exists_eq_left', exists_and_left, exists_eq', atI0, atI1, atI2, atI3, Int.cast_ofNat_Int, Int.reduceToNat, scal_ii, scal_in, scal_ni, scal_nn, scal_bb, scal_ss, scal_sn, scal_ns, scal_bn, scal_nb, ite_iff, decide_eq_true_eq, decide_eq_false_iff_not, Bool.not_eq_true', Classical.not_not, ne_eq, not_false_eq_true, not_true_eq_false, forall_const, true_implies, false_implies, imp_self, sizeLine_eq, Nat.reduceLeDiff, reduceCtorEq, decide_true, decide_false])
section
variable {P : Program} {w : World} {K : PySem.W.Frag} {mg : Str → Option Value} {base : Heap}
/-! ### told carpets -/
structure TD (H : Hp) (g t l : Addr) (a : Nat) (b : Int) (d : Nat) (rows : List (List Nat)) : Prop where
  g : H g = some (.lst [.ref t, .ref l])
  t : T3 H t a b d
  l : H l = some (.lst (strsV rows))
theorem strsV_no {rows : List (List Nat)} (g s : Int) : HO.lst (strsV rows) ≠ HO.lst [.int g, .int s] := fun h => by
  injection h with h
  match rows, h with
  | [], h => cases h
  | x :: r, h => simp [strsV] at h
section
variable {H H' : Hp} {g t l p : Addr} {a d : Nat} {b : Int} {rows : List (List Nat)}
theorem TD.same (x : TD H g t l a b d rows) (e : Same H H') : TD H' g t l a b d rows := ⟨e _ _ x.g, e _ _ x.t, e _ _ x.l⟩
theorem TD.stp (x : TD H g t l a b d rows) (P : Po H p) (e : StpP p H H') : TD H' g t l a b d rows := ⟨e.at P x.g (fun g s z => by cases z), x.t.stp P e, e.at P x.l strsV_no⟩
end
def spRows : Sp := fun vs H Q _ => ∃ p t, vs = [.ref p, .ref t] ∧ Po H p ∧ ∃ (a : Nat) (b : Int) (d : Nat), T3 H t a b d ∧ 1 ≤ a ∧ a ≤ 100 ∧ 1 ≤ d ∧ d ≤ 100 ∧ ∀ l rows H', Po H' p → StpP p H H' → H' l = some (.lst (strsV rows)) → RowsOk a d rows → figs rows → Q (.ref l) H'
theorem o__law_rows (T : Txt K mg) : OkF P w K mg base CX0 3 "_law_rows" ["_law_pool", "_law_three_here"] spRows := by
  have o__law_draw := o__law_draw (P := P) (w := w) (base := base) T
  have o__law_pick := o__law_pick (P := P) (w := w) (base := base) T
  obtain ⟨f, fd, g, F⟩ := T.d__law_rows
  refine ⟨f, fd, g, F.kp, F.binds (fun _ _ _ _ _ _ us hl => match us, hl with | [_, _], _ => rfl), F.ok sc__law_rows (fun vs H Q E h => ?_) (fun cdv A outer s H vs Q E hr h => ?_)⟩
  · first | (obtain ⟨_, rfl, _⟩ := h; rfl) | (obtain ⟨_, _, rfl, _⟩ := h; rfl) | (obtain ⟨_, _, _, rfl, _⟩ := h; rfl) | (obtain ⟨_, _, _, _, rfl, _⟩ := h; rfl) | (obtain ⟨_, _, _, _, _, rfl, _⟩ := h; rfl) | (obtain ⟨_, _, _, _, _, _, rfl, _⟩ := h; rfl) | (obtain ⟨_, _, _, _, _, _, _, rfl, _⟩ := h; rfl)
  have hu64 := hr.units
  refine ⟨_, pss_cons (ps_set (i := 2) sc__law_rows.nd rfl (Or.inr rfl) (pcl o__law_pick (hr.mono (by decide)) pass0 (pa_cons (pv 0) (pa_cons (pe_lstN (pa_cons ((pe_strZ [48, 49])) (pa_cons ((pe_strZ [48, 49])) (pa_cons ((pe_strZ [48, 49, 50])) (pa_cons ((pe_strZ [48, 49, 50, 51])) (pa_cons ((pe_strZ [55, 55, 56, 56])) (pa_cons ((pe_strZ [48, 48, 48, 49])) (pa_cons ((pe_strZ [48])) pa_nil)))))))) pa_nil))))
      (pss_cons (ps_set (i := 3) sc__law_rows.nd rfl (Or.inl rfl) (pe_lstN (pa_nil)))
      (pss_cons (ps_for PassesOwn.never rfl (pi_range1 rfl T.m_range (pa_cons (pe_ix ix_listN (pv 1) (pe_int) (fun _ _ => rfl)) pa_nil)) (pg_name (i := 4) sc__law_rows.nd rfl (Or.inl rfl)) (pss_one (ps_expr (pe_appN (pv 3) (pa_cons (pe_joinZ (by decide +kernel) (pe_lc (own := [("_law_i", 5)]) (g := gName 5) (by rfl) sc__law_rows.nd (pi_range1 (by rfl) T.m_range (pa_cons (pe_ix ix_listN (pv 1) (pe_int) (fun _ _ => rfl)) pa_nil)) (blkOk_by (N := ["_law_pool", "_law_three_here", "_law_signs", "_law_lines", "_law_j", "_law_i"]) (sc := defScope s__law_rows) (own := [("_law_i", 5)]) (by decide +kernel)) (fun _ _ _ _ _ => pg_name (i := 5) sc__law_rows.nd rfl (Or.inl rfl)) (fun _ _ _ _ _ => pts_nil) (fun _ _ _ _ _ => pe_ix ix_strZ (pv 2) (pcl o__law_draw (hr.mono (by decide)) pass0 (pa_cons (pv 0) (pa_cons (pe_callB call_lenZ (by rfl) T.m_len (by decide +kernel) (pa_cons (pv 2) pa_nil)) pa_nil))) (fun _ _ => rfl)))) pa_nil)))))
      (pss_one (ps_ret (pv 3))))), ?_⟩
  obtain ⟨p, t, rfl, hP, a, b, d, ht, a1, a9, d1, d9, k⟩ := h
  simp only [spPick, exists_and_left, S_eq, tD1, rTupN, rAddZ, rSlZ, rIxZ, rInZ, rIntZ, rStrZ, rLenZ, rRepZ, tJoinZ, tJoinG, rCntZ, rTupG, rAll, rMax2, rMin2, tSl, tPart, tNoPart, rSlLN, rSlG, gUnlN, tYes, rLenS, rRepN, unset, calmS, cx_K, Value.ref.injEq, HO.xd.injEq, lk0, tSeq, tPar3, tPar, tCons, tNil, tVar, tC, tAsg, gName, gCons, gNil, gTupN, gSub, tOp, rI, rI0, rU, tTest, rNe, rEq, rIxTN, rIxLN, rLenL, rLenT, rIntI, rIntB, rAbs, rSetLN, tTruL, tRaiseX, rIsTy, rIsOw, ixN0, ixN1, tRet, tIf, tIfS, tNext, tBreak, tCont, tDrop, tTupN, tLstN, tUn, tCB, tCall, tNot, tAnd, tOr, tB, tAndV, tOrV, tNotV, tChain, tApp, LamX.tLam, tRevLN, rCatN, rInTN, rInLN, flatV, inV, List.all_cons, List.all_nil, List.any_cons, List.any_nil, Bool.and_self, Bool.and_true, if_true, Bool.false_eq_true, if_false, tMt, tFldN, tSto, HO.ins.injEq, lkh, List.drop_zero, List.drop_succ_cons, List.drop_nil, rListS, wipe, L2.start, List.map_cons, List.map_nil, List.length_cons, List.length_nil, List.replicate, List.cons_append, List.nil_append, List.append_nil, Nat.reduceAdd, Nat.reduceSub, Nat.zero_add, List.replicate_succ, List.replicate_zero, List.getElem?_cons_zero, List.getElem?_cons_succ, List.set_cons_zero, List.set_cons_succ, Option.some.injEq, V.int.injEq, V.bl.injEq, V.ref.injEq, V.str.injEq, V.ty.injEq, List.cons.injEq, HO.tup.injEq, HO.lst.injEq, and_true, true_and, and_assoc, exists_eq_left, exists_eq_left', exists_and_left, exists_eq', atI0, atI1, atI2, atI3, Int.cast_ofNat_Int, Int.reduceToNat, scal_ii, scal_in, scal_ni, scal_nn, scal_bb, scal_ss, scal_sn, scal_ns, scal_bn, scal_nb, ite_iff, decide_eq_true_eq, decide_eq_false_iff_not, Bool.not_eq_true', Classical.not_not, ne_eq, not_false_eq_true, not_true_eq_false, forall_const, true_implies, false_implies, imp_self, sizeLine_eq, Nat.reduceLeDiff, reduceCtorEq, decide_true, decide_false]
  intro L H1 hL s1 h1
  have La : L ≠ p := by obtain ⟨_, _, z⟩ := hP; exact (ne_of_none z hL).symm
  refine ⟨L, rfl, hP.same s1, La, _, h1, by simp, by simp, fun v H2 hv P2 t2 => ?_⟩
  obtain ⟨z, rfl, zl, z9, zf⟩ : ∃ z, v = .str (S z) ∧ 1 ≤ z.length ∧ z.length ≤ 10 ∧ ∀ c ∈ z, 48 ≤ c ∧ c ≤ 57 := by
    simp only [List.mem_cons, List.not_mem_nil, or_false] at hv
    rcases hv with rfl | rfl | rfl | rfl | rfl | rfl | rfl <;> exact ⟨_, rfl, by decide, by decide, by decide⟩
  have T2 : StpP p H H2 := (StpP.of s1).trans t2
  have ht2 := ht.stp hP T2
  intro M H3 hM s3 h3
  have Mp : M ≠ p := by obtain ⟨_, _, z⟩ := P2; exact (ne_of_none z hM).symm
  refine st_forR1 d (by omega) (fun R r => (by have ht3 := s3 _ _ ht2; simp only [ht3, exists_and_left, S_eq, tD1, rTupN, rAddZ, rSlZ, rIxZ, rInZ, rIntZ, rStrZ, rLenZ, rRepZ, tJoinZ, tJoinG, rCntZ, rTupG, rAll, rMax2, rMin2, tSl, tPart, tNoPart, rSlLN, rSlG, gUnlN, tYes, rLenS, rRepN, unset, calmS, cx_K, Value.ref.injEq, HO.xd.injEq, lk0, tSeq, tPar3, tPar, tCons, tNil, tVar, tC, tAsg, gName, gCons, gNil, gTupN, gSub, tOp, rI, rI0, rU, tTest, rNe, rEq, rIxTN, rIxLN, rLenL, rLenT, rIntI, rIntB, rAbs, rSetLN, tTruL, tRaiseX, rIsTy, rIsOw, ixN0, ixN1, tRet, tIf, tIfS, tNext, tBreak, tCont, tDrop, tTupN, tLstN, tUn, tCB, tCall, tNot, tAnd, tOr, tB, tAndV, tOrV, tNotV, tChain, tApp, LamX.tLam, tRevLN, rCatN, rInTN, rInLN, flatV, inV, List.all_cons, List.all_nil, List.any_cons, List.any_nil, Bool.and_self, Bool.and_true, if_true, Bool.false_eq_true, if_false, tMt, tFldN, tSto, HO.ins.injEq, lkh, List.drop_zero, List.drop_succ_cons, List.drop_nil, rListS, wipe, L2.start, List.map_cons, List.map_nil, List.length_cons, List.length_nil, List.replicate, List.cons_append, List.nil_append, List.append_nil, Nat.reduceAdd, Nat.reduceSub, Nat.zero_add, List.replicate_succ, List.replicate_zero, List.getElem?_cons_zero, List.getElem?_cons_succ, List.set_cons_zero, List.set_cons_succ, Option.some.injEq, V.int.injEq, V.bl.injEq, V.ref.injEq, V.str.injEq, V.ty.injEq, List.cons.injEq, HO.tup.injEq, HO.lst.injEq, and_true, true_and, and_assoc, exists_eq_left, exists_eq_left', exists_and_left, exists_eq', atI0, atI1, atI2, atI3, Int.cast_ofNat_Int, Int.reduceToNat, scal_ii, scal_in, scal_ni, scal_nn, scal_bb, scal_ss, scal_sn, scal_ns, scal_bn, scal_nb, ite_iff, decide_eq_true_eq, decide_eq_false_iff_not, Bool.not_eq_true', Classical.not_not, ne_eq, not_false_eq_true, not_true_eq_false, forall_const, true_implies, false_implies, imp_self, sizeLine_eq, Nat.reduceLeDiff, reduceCtorEq, decide_true, decide_false]; exact r)) (fun i σ' H' => ∃ x4 x5 rows, σ' = [some (V.ref p), some (V.ref t), some (V.str (S z)), some (V.ref M), x4, x5] ∧ Po H' p ∧ StpP p H H' ∧ H' M = some (.lst (strsV rows)) ∧ rows.length = i ∧ (∀ r ∈ rows, r.length = a) ∧ figs rows)
    ⟨none, none, [], rfl, P2.same s3, T2.trans (StpP.of s3), h3, rfl, fun r h => (by cases h), fun r h => (by cases h)⟩ ?_ ?_
  · rintro i _ H4 hi ⟨x4, x5, rows, rfl, P4, T4, h4, ln, hr, hf⟩
    simp only [exists_and_left, S_eq, tD1, rTupN, rAddZ, rSlZ, rIxZ, rInZ, rIntZ, rStrZ, rLenZ, rRepZ, tJoinZ, tJoinG, rCntZ, rTupG, rAll, rMax2, rMin2, tSl, tPart, tNoPart, rSlLN, rSlG, gUnlN, tYes, rLenS, rRepN, unset, calmS, cx_K, Value.ref.injEq, HO.xd.injEq, lk0, tSeq, tPar3, tPar, tCons, tNil, tVar, tC, tAsg, gName, gCons, gNil, gTupN, gSub, tOp, rI, rI0, rU, tTest, rNe, rEq, rIxTN, rIxLN, rLenL, rLenT, rIntI, rIntB, rAbs, rSetLN, tTruL, tRaiseX, rIsTy, rIsOw, ixN0, ixN1, tRet, tIf, tIfS, tNext, tBreak, tCont, tDrop, tTupN, tLstN, tUn, tCB, tCall, tNot, tAnd, tOr, tB, tAndV, tOrV, tNotV, tChain, tApp, LamX.tLam, tRevLN, rCatN, rInTN, rInLN, flatV, inV, List.all_cons, List.all_nil, List.any_cons, List.any_nil, Bool.and_self, Bool.and_true, if_true, Bool.false_eq_true, if_false, tMt, tFldN, tSto, HO.ins.injEq, lkh, List.drop_zero, List.drop_succ_cons, List.drop_nil, rListS, wipe, L2.start, List.map_cons, List.map_nil, List.length_cons, List.length_nil, List.replicate, List.cons_append, List.nil_append, List.append_nil, Nat.reduceAdd, Nat.reduceSub, Nat.zero_add, List.replicate_succ, List.replicate_zero, List.getElem?_cons_zero, List.getElem?_cons_succ, List.set_cons_zero, List.set_cons_succ, Option.some.injEq, V.int.injEq, V.bl.injEq, V.ref.injEq, V.str.injEq, V.ty.injEq, List.cons.injEq, HO.tup.injEq, HO.lst.injEq, and_true, true_and, and_assoc, exists_eq_left, exists_eq_left', exists_and_left, exists_eq', atI0, atI1, atI2, atI3, Int.cast_ofNat_Int, Int.reduceToNat, scal_ii, scal_in, scal_ni, scal_nn, scal_bb, scal_ss, scal_sn, scal_ns, scal_bn, scal_nb, ite_iff, decide_eq_true_eq, decide_eq_false_iff_not, Bool.not_eq_true', Classical.not_not, ne_eq, not_false_eq_true, not_true_eq_false, forall_const, true_implies, false_implies, imp_self, sizeLine_eq, Nat.reduceLeDiff, reduceCtorEq, decide_true, decide_false]
    have ht4 := ht.stp hP T4
    refine ⟨⟨_, h4⟩, ?_⟩
    refine st_lcR1 a (by omega) (fun R r => (by simp only [ht4, exists_and_left, S_eq, tD1, rTupN, rAddZ, rSlZ, rIxZ, rInZ, rIntZ, rStrZ, rLenZ, rRepZ, tJoinZ, tJoinG, rCntZ, rTupG, rAll, rMax2, rMin2, tSl, tPart, tNoPart, rSlLN, rSlG, gUnlN, tYes, rLenS, rRepN, unset, calmS, cx_K, Value.ref.injEq, HO.xd.injEq, lk0, tSeq, tPar3, tPar, tCons, tNil, tVar, tC, tAsg, gName, gCons, gNil, gTupN, gSub, tOp, rI, rI0, rU, tTest, rNe, rEq, rIxTN, rIxLN, rLenL, rLenT, rIntI, rIntB, rAbs, rSetLN, tTruL, tRaiseX, rIsTy, rIsOw, ixN0, ixN1, tRet, tIf, tIfS, tNext, tBreak, tCont, tDrop, tTupN, tLstN, tUn, tCB, tCall, tNot, tAnd, tOr, tB, tAndV, tOrV, tNotV, tChain, tApp, LamX.tLam, tRevLN, rCatN, rInTN, rInLN, flatV, inV, List.all_cons, List.all_nil, List.any_cons, List.any_nil, Bool.and_self, Bool.and_true, if_true, Bool.false_eq_true, if_false, tMt, tFldN, tSto, HO.ins.injEq, lkh, List.drop_zero, List.drop_succ_cons, List.drop_nil, rListS, wipe, L2.start, List.map_cons, List.map_nil, List.length_cons, List.length_nil, List.replicate, List.cons_append, List.nil_append, List.append_nil, Nat.reduceAdd, Nat.reduceSub, Nat.zero_add, List.replicate_succ, List.replicate_zero, List.getElem?_cons_zero, List.getElem?_cons_succ, List.set_cons_zero, List.set_cons_succ, Option.some.injEq, V.int.injEq, V.bl.injEq, V.ref.injEq, V.str.injEq, V.ty.injEq, List.cons.injEq, HO.tup.injEq, HO.lst.injEq, and_true, true_and, and_assoc, exists_eq_left, exists_eq_left', exists_and_left, exists_eq', atI0, atI1, atI2, atI3, Int.cast_ofNat_Int, Int.reduceToNat, scal_ii, scal_in, scal_ni, scal_nn, scal_bb, scal_ss, scal_sn, scal_ns, scal_bn, scal_nb, ite_iff, decide_eq_true_eq, decide_eq_false_iff_not, Bool.not_eq_true', Classical.not_not, ne_eq, not_false_eq_true, not_true_eq_false, forall_const, true_implies, false_implies, imp_self, sizeLine_eq, Nat.reduceLeDiff, reduceCtorEq, decide_true, decide_false]; exact r)) (fun D j H' => H4 D = none ∧ Po H' p ∧ StpP p H4 H' ∧ ∃ acc : List Nat, H' D = some (.lst (strsV (acc.map fun c => [c]))) ∧ acc.length = j ∧ ∀ c ∈ acc, 48 ≤ c ∧ c ≤ 57)
      (fun D H5 hD s5 h5 => ⟨hD, P4.same s5, StpP.of s5, [], h5, rfl, fun c h => (by cases h)⟩) (fun D j H5 hj q => ?_) (fun D H5 q => ?_)
    · obtain ⟨hD, P5, t5, acc, h5, la, hc⟩ := q
      have Dp : D ≠ p := by obtain ⟨_, _, z⟩ := P4; exact (ne_of_none z hD).symm
      simp only [spDraw, exists_and_left, S_eq, tD1, rTupN, rAddZ, rSlZ, rIxZ, rInZ, rIntZ, rStrZ, rLenZ, rRepZ, tJoinZ, tJoinG, rCntZ, rTupG, rAll, rMax2, rMin2, tSl, tPart, tNoPart, rSlLN, rSlG, gUnlN, tYes, rLenS, rRepN, unset, calmS, cx_K, Value.ref.injEq, HO.xd.injEq, lk0, tSeq, tPar3, tPar, tCons, tNil, tVar, tC, tAsg, gName, gCons, gNil, gTupN, gSub, tOp, rI, rI0, rU, tTest, rNe, rEq, rIxTN, rIxLN, rLenL, rLenT, rIntI, rIntB, rAbs, rSetLN, tTruL, tRaiseX, rIsTy, rIsOw, ixN0, ixN1, tRet, tIf, tIfS, tNext, tBreak, tCont, tDrop, tTupN, tLstN, tUn, tCB, tCall, tNot, tAnd, tOr, tB, tAndV, tOrV, tNotV, tChain, tApp, LamX.tLam, tRevLN, rCatN, rInTN, rInLN, flatV, inV, List.all_cons, List.all_nil, List.any_cons, List.any_nil, Bool.and_self, Bool.and_true, if_true, Bool.false_eq_true, if_false, tMt, tFldN, tSto, HO.ins.injEq, lkh, List.drop_zero, List.drop_succ_cons, List.drop_nil, rListS, wipe, L2.start, List.map_cons, List.map_nil, List.length_cons, List.length_nil, List.replicate, List.cons_append, List.nil_append, List.append_nil, Nat.reduceAdd, Nat.reduceSub, Nat.zero_add, List.replicate_succ, List.replicate_zero, List.getElem?_cons_zero, List.getElem?_cons_succ, List.set_cons_zero, List.set_cons_succ, Option.some.injEq, V.int.injEq, V.bl.injEq, V.ref.injEq, V.str.injEq, V.ty.injEq, List.cons.injEq, HO.tup.injEq, HO.lst.injEq, and_true, true_and, and_assoc, exists_eq_left, exists_eq_left', exists_and_left, exists_eq', atI0, atI1, atI2, atI3, Int.cast_ofNat_Int, Int.reduceToNat, scal_ii, scal_in, scal_ni, scal_nn, scal_bb, scal_ss, scal_sn, scal_ns, scal_bn, scal_nb, ite_iff, decide_eq_true_eq, decide_eq_false_iff_not, Bool.not_eq_true', Classical.not_not, ne_eq, not_false_eq_true, not_true_eq_false, forall_const, true_implies, false_implies, imp_self, sizeLine_eq, Nat.reduceLeDiff, reduceCtorEq, decide_true, decide_false]
      refine ⟨by omega, P5, by omega, by omega, fun dd H6 d0 d1 P6 t6 => ?_⟩
      have hlt : dd.toNat < z.length := by omega
      have h6 := t6 _ _ h5 Dp
      refine ⟨by omega, _, atI_ok d0 (List.getElem?_eq_getElem hlt), _, h6, by rw [strsV_len, List.length_map]; omega, hD, ?_, fun b o hb nb => ?_, acc ++ [z[dd.toNat]], ?_, by simp [la], fun c hcm => ?_⟩
      · obtain ⟨g, n, hg⟩ := P6
        exact ⟨g, n, by rw [upd_ne Dp.symm]; exact hg⟩
      · rw [upd_ne (ne_of_none hb hD)]; exact t6 _ _ (t5 _ _ hb nb) nb
      · rw [upd_same]; simp [strsV]
      · rcases List.mem_append.mp hcm with h | h
        · exact hc c h
        · rw [List.mem_singleton.mp h]; exact zf _ (List.getElem_mem hlt)
    · obtain ⟨hD, P5, t5, acc, h5, la, hc⟩ := q
      have h5M := t5.at P4 h4 strsV_no
      have la' : acc.length = a := by rw [la]; exact Int.toNat_natCast a
      have fl : (acc.map fun c => [c]).flatten = acc := by clear h5 la la' hc; induction acc <;> simp_all
      have sm : ((acc.map fun c => [c]).map fun x => x.length).sum = acc.length := by clear h5 la la' hc fl; induction acc <;> simp_all; omega
      refine ⟨D, rfl, _, h5, by rw [sm]; omega, _, h5M, by rw [strsV_len]; omega, fun H6 p6 => ?_⟩
      rw [fl] at p6
      refine ⟨?_, fun b o hb nb => ?_, rows ++ [acc], ?_, by simp [ln], fun r h => ?_, fun r h => ?_⟩
      · obtain ⟨g, n, hg⟩ := P5
        exact ⟨g, n, by rw [p6.2 _ Mp.symm]; exact hg⟩
      · by_cases c : b = M
        · subst c; have := T2 _ _ hb nb; rw [hM] at this; cases this
        · rw [p6.2 b c]; exact t5 _ _ (T4 _ _ hb nb) nb
      · rw [p6.1]; simp [strsV]
      · rcases List.mem_append.mp h with h | h
        · exact hr r h
        · rw [List.mem_singleton.mp h]; exact la'
      · rcases List.mem_append.mp h with h | h
        · exact hf r h
        · rw [List.mem_singleton.mp h]; exact hc
  · rintro _ H4 ⟨x4, x5, rows, rfl, P4, T4, h4, ln, hr, hf⟩
    simp only [exists_and_left, S_eq, tD1, rTupN, rAddZ, rSlZ, rIxZ, rInZ, rIntZ, rStrZ, rLenZ, rRepZ, tJoinZ, tJoinG, rCntZ, rTupG, rAll, rMax2, rMin2, tSl, tPart, tNoPart, rSlLN, rSlG, gUnlN, tYes, rLenS, rRepN, unset, calmS, cx_K, Value.ref.injEq, HO.xd.injEq, lk0, tSeq, tPar3, tPar, tCons, tNil, tVar, tC, tAsg, gName, gCons, gNil, gTupN, gSub, tOp, rI, rI0, rU, tTest, rNe, rEq, rIxTN, rIxLN, rLenL, rLenT, rIntI, rIntB, rAbs, rSetLN, tTruL, tRaiseX, rIsTy, rIsOw, ixN0, ixN1, tRet, tIf, tIfS, tNext, tBreak, tCont, tDrop, tTupN, tLstN, tUn, tCB, tCall, tNot, tAnd, tOr, tB, tAndV, tOrV, tNotV, tChain, tApp, LamX.tLam, tRevLN, rCatN, rInTN, rInLN, flatV, inV, List.all_cons, List.all_nil, List.any_cons, List.any_nil, Bool.and_self, Bool.and_true, if_true, Bool.false_eq_true, if_false, tMt, tFldN, tSto, HO.ins.injEq, lkh, List.drop_zero, List.drop_succ_cons, List.drop_nil, rListS, wipe, L2.start, List.map_cons, List.map_nil, List.length_cons, List.length_nil, List.replicate, List.cons_append, List.nil_append, List.append_nil, Nat.reduceAdd, Nat.reduceSub, Nat.zero_add, List.replicate_succ, List.replicate_zero, List.getElem?_cons_zero, List.getElem?_cons_succ, List.set_cons_zero, List.set_cons_succ, Option.some.injEq, V.int.injEq, V.bl.injEq, V.ref.injEq, V.str.injEq, V.ty.injEq, List.cons.injEq, HO.tup.injEq, HO.lst.injEq, and_true, true_and, and_assoc, exists_eq_left, exists_eq_left', exists_and_left, exists_eq', atI0, atI1, atI2, atI3, Int.cast_ofNat_Int, Int.reduceToNat, scal_ii, scal_in, scal_ni, scal_nn, scal_bb, scal_ss, scal_sn, scal_ns, scal_bn, scal_nb, ite_iff, decide_eq_true_eq, decide_eq_false_iff_not, Bool.not_eq_true', Classical.not_not, ne_eq, not_false_eq_true, not_true_eq_false, forall_const, true_implies, false_implies, imp_self, sizeLine_eq, Nat.reduceLeDiff, reduceCtorEq, decide_true, decide_false]
    exact k M rows H4 P4 T4 h4 ⟨a1, d1, by omega, hr⟩ hf
def spColT : Sp := fun vs H Q _ => ∃ g x y, vs = [.ref g, .int x, .int y] ∧ ∃ t l a b d rows, TD H g t l a b d rows ∧ CT a b d rows ∧ x.natAbs < 2 ^ 2000 ∧ y.natAbs < 2 ^ 2000 ∧ ∀ H', Same H H' → Q (.int (colI b rows x y)) H'
theorem o__law_colour (T : Txt K mg) : OkF P w K mg base CX0 2 "_law_colour" ["_law_told", "_law_x", "_law_y"] spColT := by
  have o__law_place := o__law_place (P := P) (w := w) (base := base) T
  obtain ⟨f, fd, g, F⟩ := T.d__law_colour
  refine ⟨f, fd, g, F.kp, F.binds (fun _ _ _ _ _ _ us hl => match us, hl with | [_, _, _], _ => rfl), F.ok sc__law_colour (fun vs H Q E h => ?_) (fun cdv A outer s H vs Q E hr h => ?_)⟩
  · first | (obtain ⟨_, rfl, _⟩ := h; rfl) | (obtain ⟨_, _, rfl, _⟩ := h; rfl) | (obtain ⟨_, _, _, rfl, _⟩ := h; rfl) | (obtain ⟨_, _, _, _, rfl, _⟩ := h; rfl) | (obtain ⟨_, _, _, _, _, rfl, _⟩ := h; rfl) | (obtain ⟨_, _, _, _, _, _, rfl, _⟩ := h; rfl) | (obtain ⟨_, _, _, _, _, _, _, rfl, _⟩ := h; rfl)
  have hu64 := hr.units
  refine ⟨_, pss_cons (ps_set (i := 3) sc__law_colour.nd rfl (Or.inl rfl) (pcl o__law_place (hr.mono (by decide)) pass0 (pa_cons (pe_ix ix_listN (pv 0) (pe_int) (fun _ _ => rfl)) (pa_cons (pv 1) (pa_cons (pv 2) pa_nil)))))
      (pss_one (ps_ret (pe_callTy call_intZ (by rfl) T.m_int (by decide +kernel) (pa_cons (pe_ix ix_strZ (pe_ix ix_listN (pe_ix ix_listN (pv 0) (pe_int) (fun _ _ => rfl)) (pe_ix ix_tupN (pv 3) (pe_int) (fun _ _ => rfl)) (fun _ _ => rfl)) (pe_ix ix_tupN (pv 3) (pe_int) (fun _ _ => rfl)) (fun _ _ => rfl)) pa_nil)))), ?_⟩
  obtain ⟨g, x, y, rfl, t, l, a, b, d, rows, D, C, xs, ys, k⟩ := h
  have hg := D.g
  simp only [hg, spPl, exists_and_left, S_eq, tD1, rTupN, rAddZ, rSlZ, rIxZ, rInZ, rIntZ, rStrZ, rLenZ, rRepZ, tJoinZ, tJoinG, rCntZ, rTupG, rAll, rMax2, rMin2, tSl, tPart, tNoPart, rSlLN, rSlG, gUnlN, tYes, rLenS, rRepN, unset, calmS, cx_K, Value.ref.injEq, HO.xd.injEq, lk0, tSeq, tPar3, tPar, tCons, tNil, tVar, tC, tAsg, gName, gCons, gNil, gTupN, gSub, tOp, rI, rI0, rU, tTest, rNe, rEq, rIxTN, rIxLN, rLenL, rLenT, rIntI, rIntB, rAbs, rSetLN, tTruL, tRaiseX, rIsTy, rIsOw, ixN0, ixN1, tRet, tIf, tIfS, tNext, tBreak, tCont, tDrop, tTupN, tLstN, tUn, tCB, tCall, tNot, tAnd, tOr, tB, tAndV, tOrV, tNotV, tChain, tApp, LamX.tLam, tRevLN, rCatN, rInTN, rInLN, flatV, inV, List.all_cons, List.all_nil, List.any_cons, List.any_nil, Bool.and_self, Bool.and_true, if_true, Bool.false_eq_true, if_false, tMt, tFldN, tSto, HO.ins.injEq, lkh, List.drop_zero, List.drop_succ_cons, List.drop_nil, rListS, wipe, L2.start, List.map_cons, List.map_nil, List.length_cons, List.length_nil, List.replicate, List.cons_append, List.nil_append, List.append_nil, Nat.reduceAdd, Nat.reduceSub, Nat.zero_add, List.replicate_succ, List.replicate_zero, List.getElem?_cons_zero, List.getElem?_cons_succ, List.set_cons_zero, List.set_cons_succ, Option.some.injEq, V.int.injEq, V.bl.injEq, V.ref.injEq, V.str.injEq, V.ty.injEq, List.cons.injEq, HO.tup.injEq, HO.lst.injEq, and_true, true_and, and_assoc, exists_eq_left, exists_eq_left', exists_and_left, exists_eq', atI0, atI1, atI2, atI3, Int.cast_ofNat_Int, Int.reduceToNat, scal_ii, scal_in, scal_ni, scal_nn, scal_bb, scal_ss, scal_sn, scal_ns, scal_bn, scal_nb, ite_iff, decide_eq_true_eq, decide_eq_false_iff_not, Bool.not_eq_true', Classical.not_not, ne_eq, not_false_eq_true, not_true_eq_false, forall_const, true_implies, false_implies, imp_self, sizeLine_eq, Nat.reduceLeDiff, reduceCtorEq, decide_true, decide_false]
  refine ⟨a, b, d, D.t, C.LB, xs, ys, fun p H1 s1 h1 => ?_⟩
  obtain ⟨r, hy, y0, y1, x0, x1, lr, hx⟩ := C.at_ x y
  obtain ⟨f1, f2⟩ := C.fig_at x y
  have sm := C.small
  have h1' : H1 p = some (.tup [.int (plX a b d x y), .int (plY d y)]) := h1
  have hg1 := s1 _ _ hg
  have hl1 := s1 _ _ D.l
  simp only [h1', hg1, hl1, exists_and_left, S_eq, tD1, rTupN, rAddZ, rSlZ, rIxZ, rInZ, rIntZ, rStrZ, rLenZ, rRepZ, tJoinZ, tJoinG, rCntZ, rTupG, rAll, rMax2, rMin2, tSl, tPart, tNoPart, rSlLN, rSlG, gUnlN, tYes, rLenS, rRepN, unset, calmS, cx_K, Value.ref.injEq, HO.xd.injEq, lk0, tSeq, tPar3, tPar, tCons, tNil, tVar, tC, tAsg, gName, gCons, gNil, gTupN, gSub, tOp, rI, rI0, rU, tTest, rNe, rEq, rIxTN, rIxLN, rLenL, rLenT, rIntI, rIntB, rAbs, rSetLN, tTruL, tRaiseX, rIsTy, rIsOw, ixN0, ixN1, tRet, tIf, tIfS, tNext, tBreak, tCont, tDrop, tTupN, tLstN, tUn, tCB, tCall, tNot, tAnd, tOr, tB, tAndV, tOrV, tNotV, tChain, tApp, LamX.tLam, tRevLN, rCatN, rInTN, rInLN, flatV, inV, List.all_cons, List.all_nil, List.any_cons, List.any_nil, Bool.and_self, Bool.and_true, if_true, Bool.false_eq_true, if_false, tMt, tFldN, tSto, HO.ins.injEq, lkh, List.drop_zero, List.drop_succ_cons, List.drop_nil, rListS, wipe, L2.start, List.map_cons, List.map_nil, List.length_cons, List.length_nil, List.replicate, List.cons_append, List.nil_append, List.append_nil, Nat.reduceAdd, Nat.reduceSub, Nat.zero_add, List.replicate_succ, List.replicate_zero, List.getElem?_cons_zero, List.getElem?_cons_succ, List.set_cons_zero, List.set_cons_succ, Option.some.injEq, V.int.injEq, V.bl.injEq, V.ref.injEq, V.str.injEq, V.ty.injEq, List.cons.injEq, HO.tup.injEq, HO.lst.injEq, and_true, true_and, and_assoc, exists_eq_left, exists_eq_left', exists_and_left, exists_eq', atI0, atI1, atI2, atI3, Int.cast_ofNat_Int, Int.reduceToNat, scal_ii, scal_in, scal_ni, scal_nn, scal_bb, scal_ss, scal_sn, scal_ns, scal_bn, scal_nb, ite_iff, decide_eq_true_eq, decide_eq_false_iff_not, Bool.not_eq_true', Classical.not_not, ne_eq, not_false_eq_true, not_true_eq_false, forall_const, true_implies, false_implies, imp_self, sizeLine_eq, Nat.reduceLeDiff, reduceCtorEq, decide_true, decide_false]
  refine ⟨_, atI_ok y0 (strsV_get hy), ?_⟩
  simp only [exists_and_left, S_eq, tD1, rTupN, rAddZ, rSlZ, rIxZ, rInZ, rIntZ, rStrZ, rLenZ, rRepZ, tJoinZ, tJoinG, rCntZ, rTupG, rAll, rMax2, rMin2, tSl, tPart, tNoPart, rSlLN, rSlG, gUnlN, tYes, rLenS, rRepN, unset, calmS, cx_K, Value.ref.injEq, HO.xd.injEq, lk0, tSeq, tPar3, tPar, tCons, tNil, tVar, tC, tAsg, gName, gCons, gNil, gTupN, gSub, tOp, rI, rI0, rU, tTest, rNe, rEq, rIxTN, rIxLN, rLenL, rLenT, rIntI, rIntB, rAbs, rSetLN, tTruL, tRaiseX, rIsTy, rIsOw, ixN0, ixN1, tRet, tIf, tIfS, tNext, tBreak, tCont, tDrop, tTupN, tLstN, tUn, tCB, tCall, tNot, tAnd, tOr, tB, tAndV, tOrV, tNotV, tChain, tApp, LamX.tLam, tRevLN, rCatN, rInTN, rInLN, flatV, inV, List.all_cons, List.all_nil, List.any_cons, List.any_nil, Bool.and_self, Bool.and_true, if_true, Bool.false_eq_true, if_false, tMt, tFldN, tSto, HO.ins.injEq, lkh, List.drop_zero, List.drop_succ_cons, List.drop_nil, rListS, wipe, L2.start, List.map_cons, List.map_nil, List.length_cons, List.length_nil, List.replicate, List.cons_append, List.nil_append, List.append_nil, Nat.reduceAdd, Nat.reduceSub, Nat.zero_add, List.replicate_succ, List.replicate_zero, List.getElem?_cons_zero, List.getElem?_cons_succ, List.set_cons_zero, List.set_cons_succ, Option.some.injEq, V.int.injEq, V.bl.injEq, V.ref.injEq, V.str.injEq, V.ty.injEq, List.cons.injEq, HO.tup.injEq, HO.lst.injEq, and_true, true_and, and_assoc, exists_eq_left, exists_eq_left', exists_and_left, exists_eq', atI0, atI1, atI2, atI3, Int.cast_ofNat_Int, Int.reduceToNat, scal_ii, scal_in, scal_ni, scal_nn, scal_bb, scal_ss, scal_sn, scal_ns, scal_bn, scal_nb, ite_iff, decide_eq_true_eq, decide_eq_false_iff_not, Bool.not_eq_true', Classical.not_not, ne_eq, not_false_eq_true, not_true_eq_false, forall_const, true_implies, false_implies, imp_self, sizeLine_eq, Nat.reduceLeDiff, reduceCtorEq, decide_true, decide_false]
  exact ⟨by omega, _, atI_ok x0 hx, f1, f2, k H1 s1⟩

end
end Iz
/-! k12_h -/
set_option Elab.async false
set_option linter.all false
set_option maxRecDepth 100000
set_option maxHeartbeats 4000000
namespace Iz
open PySem PySem.Spec PyProof.Rows L2
open He (ga)
open SX (S S_len)
local macro_rules | `(tactic| walk_at "wp") => `(tactic| simp only [S_eq, tD1, rTupN, rAddZ, rSlZ, rIxZ, rInZ, rIntZ, rStrZ, rLenZ, rRepZ, tJoinZ, tJoinG, rCntZ, rTupG, rAll, rMax2, rMin2, tSl, tPart, tNoPart, rSlLN, rSlG, gUnlN, tYes, rLenS, rRepN, unset, calmS, cx_K, Value.ref.injEq, HO.xd.injEq, lk0, tSeq, tPar3, tPar, tCons, tNil, tVar, tC, tAsg, gName, gCons, gNil, gTupN, gSub, tOp, rI, rI0, rU, tTest, rNe, rEq, rIxTN, rIxLN, rLenL, rLenT, rIntI, rIntB, rAbs, rSetLN, tTruL, tRaiseX, rIsTy, rIsOw, ixN0, ixN1, tRet, tIf, tIfS, tNext, tBreak, tCont, tDrop, tTupN, tLstN, tUn, tCB, tCall, tNot, tAnd, tOr, tB, tAndV, tOrV, tNotV, tChain, tApp, LamX.tLam, tRevLN, rCatN, rInTN, rInLN, flatV, inV, List.all_cons, List.all_nil, List.any_cons, List.any_nil, Bool.and_self, Bool.and_true, if_true, Bool.false_eq_true, if_false, tMt, tFldN, tSto, HO.ins.injEq, lkh, List.drop_zero, List.drop_succ_cons, List.drop_nil, rListS, wipe, L2.start, List.map_cons, List.map_nil, List.length_cons, List.length_nil, List.replicate, List.cons_append, List.nil_append, List.append_nil, Nat.reduceAdd, Nat.reduceSub, Nat.zero_add, List.replicate_succ, List.replicate_zero, List.getElem?_cons_zero, List.getElem?_cons_succ, List.set_cons_zero, List.set_cons_succ, Option.some.injEq, V.int.injEq, V.bl.injEq, V.ref.injEq, V.str.injEq, V.ty.injEq, List.cons.injEq, HO.tup.injEq, HO.lst.injEq, and_true, true_and, and_assoc, exists_eq_left, exists_eq_left', exists_and_left, exists_eq', atI0, atI1, atI2, atI3, Int.cast_ofNat_Int, Int.reduceToNat, scal_ii, scal_in, scal_ni, scal_nn, scal_bb, scal_ss, scal_sn, scal_ns, scal_bn, scal_nb, ite_iff, decide_eq_true_eq, decide_eq_false_iff_not, Bool.not_eq_true', Classical.not_not, ne_eq, not_false_eq_true, not_true_eq_false, forall_const, true_implies, false_implies, imp_self, sizeLine_eq, Nat.reduceLeDiff, reduceCtorEq, decide_true, decide_false])
section
variable {P : Program} {w : World} {K : PySem.W.Frag} {mg : Str → Option Value} {base : Heap}
/-! ### told otherwise -/
theorem cells_succ {C : Int → Int → Nat} {w h : Nat} : cells C w (h + 1) = cells C w h ++ [(List.range w).map fun (i : Nat) => C i h] := by
  unfold cells
  rw [List.range_succ, List.map_append]; rfl
theorem CT.coarse {a d : Nat} {b : Int} {rows : List (List Nat)} (C : CT a b d rows) (m n : Nat) (k : Int) (hm : 1 ≤ m) (hn : 1 ≤ n) (ar : a * m * (d * n) ≤ 144) :
    CT (a * m) ((b * n + a * k) % ((a * m : Nat) : Int)) (d * n) (cells (colR b rows) (a * m) (d * n)) ∧ colR ((b * n + a * k) % ((a * m : Nat) : Int)) (cells (colR b rows) (a * m) (d * n)) = colR b rows := by
  have a1 := C.R.a1
  have d1 := C.R.d1
  have am : 1 ≤ a * m := Nat.mul_pos a1 hm
  have dn : 1 ≤ d * n := Nat.mul_pos d1 hn
  have P1 : Per (colR b rows) ((a * m : Nat) : Int) 0 := by
    have := (C.R.per_a (b := b)).smul (m : Int)
    rwa [Int.mul_zero, Int.mul_comm, ← Int.natCast_mul] at this
  have P2 : Per (colR b rows) ((b * n + a * k) % ((a * m : Nat) : Int)) ((d * n : Nat) : Int) := by
    have := (((C.R.per_bd (b := b)).smul (n : Int)).add ((C.R.per_a (b := b)).smul k)).sub (P1.smul ((b * n + a * k) / ((a * m : Nat) : Int)))
    rw [Int.mul_zero, Int.mul_zero, Int.add_zero, Int.sub_zero] at this
    have e := Int.emod_add_mul_ediv (b * n + a * k) ((a * m : Nat) : Int)
    rw [show (n : Int) * b + k * a - (b * n + a * k) / ((a * m : Nat) : Int) * ((a * m : Nat) : Int) = (b * n + a * k) % ((a * m : Nat) : Int) by rw [Int.mul_comm (n : Int) b, Int.mul_comm k, Int.mul_comm ((b * n + a * k) / _)]; omega, Int.mul_comm (n : Int) d, ← Int.natCast_mul] at this
    exact this
  refine ⟨⟨cells_ok am dn, Int.emod_nonneg _ (by omega), Int.emod_lt_of_pos _ (by omega), ar, fun l hl c hc => ?_⟩, cells_col am dn P1 P2⟩
  simp only [cells, List.mem_map] at hl
  obtain ⟨j, _, rfl⟩ := hl
  obtain ⟨i, _, rfl⟩ := List.mem_map.mp hc
  exact C.fig_at i j
def spCoarse : Sp := fun vs H Q _ => ∃ p g, vs = [.ref p, .ref g] ∧ Po H p ∧ ∃ t l a b d rows, TD H g t l a b d rows ∧ CT a b d rows ∧ ∀ g' t' l' a' b' d' rows' H', Po H' p → StpP p H H' → TD H' g' t' l' a' b' d' rows' → CT a' b' d' rows' → colR b' rows' = colR b rows → d' ≤ 3 * d → Q (.ref g') H'
theorem o__law_coarser (T : Txt K mg) : OkF P w K mg base CX0 3 "_law_coarser" ["_law_pool", "_law_told"] spCoarse := by
  have o__law_draw := o__law_draw (P := P) (w := w) (base := base) T
  have o__law_pick := o__law_pick (P := P) (w := w) (base := base) T
  have o__law_colour := o__law_colour (P := P) (w := w) (base := base) T
  obtain ⟨f, fd, g, F⟩ := T.d__law_coarser
  refine ⟨f, fd, g, F.kp, F.binds (fun _ _ _ _ _ _ us hl => match us, hl with | [_, _], _ => rfl), F.ok sc__law_coarser (fun vs H Q E h => ?_) (fun cdv A outer s H vs Q E hr h => ?_)⟩
  · first | (obtain ⟨_, rfl, _⟩ := h; rfl) | (obtain ⟨_, _, rfl, _⟩ := h; rfl) | (obtain ⟨_, _, _, rfl, _⟩ := h; rfl) | (obtain ⟨_, _, _, _, rfl, _⟩ := h; rfl) | (obtain ⟨_, _, _, _, _, rfl, _⟩ := h; rfl) | (obtain ⟨_, _, _, _, _, _, rfl, _⟩ := h; rfl) | (obtain ⟨_, _, _, _, _, _, _, rfl, _⟩ := h; rfl)
  have hu64 := hr.units
  refine ⟨_, pss_cons (ps_asg (pe_ix ix_listN (pv 1) (pe_int) (fun _ _ => rfl)) (pg_unlN (n := 3) (by rfl) (pgs_cons (pg_name (i := 2) sc__law_coarser.nd rfl (Or.inl rfl)) (pgs_cons (pg_name (i := 3) sc__law_coarser.nd rfl (Or.inl rfl)) (pgs_cons (pg_name (i := 4) sc__law_coarser.nd rfl (Or.inl rfl)) pgs_nil)))))
      (pss_cons (ps_par (i := 5) (j := 6) (by rfl) sc__law_coarser.nd rfl rfl (by decide) rfl rfl (pa_cons (pcl o__law_pick (hr.mono (by decide)) pass0 (pa_cons (pv 0) (pa_cons (pe_lstN (pa_cons (pe_int) (pa_cons (pe_int) (pa_cons (pe_int) (pa_cons (pe_int) pa_nil))))) pa_nil))) (pa_cons (pcl o__law_pick (hr.mono (by decide)) pass0 (pa_cons (pv 0) (pa_cons (pe_lstN (pa_cons (pe_int) (pa_cons (pe_int) (pa_cons (pe_int) (pa_cons (pe_int) pa_nil))))) pa_nil))) pa_nil)) (by rfl))
      (pss_cons (ps_cut (ps_if (pt_cmpR op_gt (pe_op op_mulW (pe_op op_mulW (pe_op op_mulW (pv 2) (pv 5)) (pv 4)) (pv 6)) (pe_int) (nomark _)) (pss_one (ps_asg (pe_tupN (pa_cons (pe_int) (pa_cons (pe_int) pa_nil))) (pg_tupN (n := 2) (by rfl) (pgs_cons (pg_name (i := 5) sc__law_coarser.nd rfl (Or.inl rfl)) (pgs_cons (pg_name (i := 6) sc__law_coarser.nd rfl (Or.inl rfl)) pgs_nil))))) (pss_nil)))
      (pss_cons (ps_par (i := 7) (j := 8) (by rfl) sc__law_coarser.nd rfl rfl (by decide) rfl rfl (pa_cons (pe_lstN (pa_cons (pe_op op_mulW (pv 2) (pv 5)) (pa_cons (pe_op op_mod (pe_op op_add (pe_op op_mulW (pv 3) (pv 6)) (pe_op op_mulW (pv 2) (pcl o__law_draw (hr.mono (by decide)) pass0 (pa_cons (pv 0) (pa_cons (pv 5) pa_nil))))) (pe_op op_mulW (pv 2) (pv 5))) (pa_cons (pe_op op_mulW (pv 4) (pv 6)) pa_nil)))) (pa_cons (pe_lstN (pa_nil)) pa_nil)) (by rfl))
      (pss_cons (ps_for PassesOwn.never rfl (pi_range1 rfl T.m_range (pa_cons (pe_ix ix_listN (pv 7) (pe_int) (fun _ _ => rfl)) pa_nil)) (pg_name (i := 9) sc__law_coarser.nd rfl (Or.inr rfl)) (pss_one (ps_expr (pe_appN (pv 8) (pa_cons (pe_joinZ (by decide +kernel) (pe_lc (own := [("_law_x", 10)]) (g := gName 10) (by rfl) sc__law_coarser.nd (pi_range1 (by rfl) T.m_range (pa_cons (pe_ix ix_listN (pv 7) (pe_int) (fun _ _ => rfl)) pa_nil)) (blkOk_by (N := ["_law_pool", "_law_told", "_law_wide", "_law_slant", "_law_high", "_law_across", "_law_up", "_law_three_here", "_law_lines", "_law_y", "_law_x"]) (sc := defScope s__law_coarser) (own := [("_law_x", 10)]) (by decide +kernel)) (fun _ _ _ _ _ => pg_name (i := 10) sc__law_coarser.nd rfl (Or.inl rfl)) (fun _ _ _ _ _ => pts_nil) (fun _ _ _ _ _ => pe_callTy call_strZ (by rfl) T.m_str (by decide +kernel) (pa_cons (pcl o__law_colour (hr.mono (by decide)) pass0 (pa_cons (pv 1) (pa_cons (pv 10) (pa_cons (pv 9) pa_nil)))) pa_nil)))) pa_nil)))))
      (pss_one (ps_ret (pe_lstN (pa_cons (pv 7) (pa_cons (pv 8) pa_nil))))))))), ?_⟩
  obtain ⟨p, g, rfl, hP, t, l, a, b, d, rows, D, C, k⟩ := h
  have hg := D.g
  have ht := D.t
  have sm := C.small
  have a1 := C.R.a1
  have d1 := C.R.d1
  simp only [hg, ht, spPick, exists_and_left, S_eq, tD1, rTupN, rAddZ, rSlZ, rIxZ, rInZ, rIntZ, rStrZ, rLenZ, rRepZ, tJoinZ, tJoinG, rCntZ, rTupG, rAll, rMax2, rMin2, tSl, tPart, tNoPart, rSlLN, rSlG, gUnlN, tYes, rLenS, rRepN, unset, calmS, cx_K, Value.ref.injEq, HO.xd.injEq, lk0, tSeq, tPar3, tPar, tCons, tNil, tVar, tC, tAsg, gName, gCons, gNil, gTupN, gSub, tOp, rI, rI0, rU, tTest, rNe, rEq, rIxTN, rIxLN, rLenL, rLenT, rIntI, rIntB, rAbs, rSetLN, tTruL, tRaiseX, rIsTy, rIsOw, ixN0, ixN1, tRet, tIf, tIfS, tNext, tBreak, tCont, tDrop, tTupN, tLstN, tUn, tCB, tCall, tNot, tAnd, tOr, tB, tAndV, tOrV, tNotV, tChain, tApp, LamX.tLam, tRevLN, rCatN, rInTN, rInLN, flatV, inV, List.all_cons, List.all_nil, List.any_cons, List.any_nil, Bool.and_self, Bool.and_true, if_true, Bool.false_eq_true, if_false, tMt, tFldN, tSto, HO.ins.injEq, lkh, List.drop_zero, List.drop_succ_cons, List.drop_nil, rListS, wipe, L2.start, List.map_cons, List.map_nil, List.length_cons, List.length_nil, List.replicate, List.cons_append, List.nil_append, List.append_nil, Nat.reduceAdd, Nat.reduceSub, Nat.zero_add, List.replicate_succ, List.replicate_zero, List.getElem?_cons_zero, List.getElem?_cons_succ, List.set_cons_zero, List.set_cons_succ, Option.some.injEq, V.int.injEq, V.bl.injEq, V.ref.injEq, V.str.injEq, V.ty.injEq, List.cons.injEq, HO.tup.injEq, HO.lst.injEq, and_true, true_and, and_assoc, exists_eq_left, exists_eq_left', exists_and_left, exists_eq', atI0, atI1, atI2, atI3, Int.cast_ofNat_Int, Int.reduceToNat, scal_ii, scal_in, scal_ni, scal_nn, scal_bb, scal_ss, scal_sn, scal_ns, scal_bn, scal_nb, ite_iff, decide_eq_true_eq, decide_eq_false_iff_not, Bool.not_eq_true', Classical.not_not, ne_eq, not_false_eq_true, not_true_eq_false, forall_const, true_implies, false_implies, imp_self, sizeLine_eq, Nat.reduceLeDiff, reduceCtorEq, decide_true, decide_false]
  intro L H1 hL s1 h1
  have La : L ≠ p := by obtain ⟨_, _, z⟩ := hP; exact (ne_of_none z hL).symm
  refine ⟨L, rfl, hP.same s1, La, _, h1, by simp, by simp, fun v H2 hv P2 t2 => ?_⟩
  obtain ⟨m, rfl, m1, m6⟩ : ∃ m : Nat, v = .int m ∧ 1 ≤ m ∧ m ≤ 3 := by
    simp only [List.mem_cons, List.not_mem_nil, or_false] at hv
    rcases hv with rfl | rfl | rfl | rfl <;> first | exact ⟨1, rfl, by decide, by decide⟩ | exact ⟨2, rfl, by decide, by decide⟩ | exact ⟨3, rfl, by decide, by decide⟩
  intro M2 H3 hL2 s3 h3
  have La2 : M2 ≠ p := by obtain ⟨_, _, z⟩ := P2; exact (ne_of_none z hL2).symm
  refine ⟨M2, rfl, P2.same s3, La2, _, h3, by simp, by simp, fun v H4 hv P4 t4 => ?_⟩
  obtain ⟨n, rfl, n1, n6⟩ : ∃ m : Nat, v = .int m ∧ 1 ≤ m ∧ m ≤ 3 := by
    simp only [List.mem_cons, List.not_mem_nil, or_false] at hv
    rcases hv with rfl | rfl | rfl | rfl <;> first | exact ⟨1, rfl, by decide, by decide⟩ | exact ⟨2, rfl, by decide, by decide⟩ | exact ⟨3, rfl, by decide, by decide⟩
  have T4 : StpP p H H4 := ((StpP.of s1).trans t2).trans ((StpP.of s3).trans t4)
  have D4 := D.stp hP T4
  have av : (a : Int).natAbs < 2 ^ 8 := by omega
  have dv : (d : Int).natAbs < 2 ^ 8 := by omega
  have bv : b.natAbs < 2 ^ 8 := by have := C.b0; have := C.ba; omega
  have mv : (m : Int).natAbs < 2 ^ 8 := by omega
  have nv : (n : Int).natAbs < 2 ^ 8 := by omega
  have am : a * m ≤ 144 * 3 := Nat.mul_le_mul sm.1 m6
  have amd : a * m * d ≤ 144 * 3 * 144 := Nat.mul_le_mul am sm.2
  refine ⟨fun σ' H' => ∃ m n : Nat, σ' = [some (V.ref p), some (V.ref g), some (V.int a), some (V.int b), some (V.int d), some (V.int m), some (V.int n), none, none, none, none] ∧ Po H' p ∧ StpP p H H' ∧ 1 ≤ m ∧ 1 ≤ n ∧ m ≤ 3 ∧ n ≤ 3 ∧ a * m * (d * n) ≤ 144, ?_, ?_⟩
  · simp only [exists_and_left, S_eq, tD1, rTupN, rAddZ, rSlZ, rIxZ, rInZ, rIntZ, rStrZ, rLenZ, rRepZ, tJoinZ, tJoinG, rCntZ, rTupG, rAll, rMax2, rMin2, tSl, tPart, tNoPart, rSlLN, rSlG, gUnlN, tYes, rLenS, rRepN, unset, calmS, cx_K, Value.ref.injEq, HO.xd.injEq, lk0, tSeq, tPar3, tPar, tCons, tNil, tVar, tC, tAsg, gName, gCons, gNil, gTupN, gSub, tOp, rI, rI0, rU, tTest, rNe, rEq, rIxTN, rIxLN, rLenL, rLenT, rIntI, rIntB, rAbs, rSetLN, tTruL, tRaiseX, rIsTy, rIsOw, ixN0, ixN1, tRet, tIf, tIfS, tNext, tBreak, tCont, tDrop, tTupN, tLstN, tUn, tCB, tCall, tNot, tAnd, tOr, tB, tAndV, tOrV, tNotV, tChain, tApp, LamX.tLam, tRevLN, rCatN, rInTN, rInLN, flatV, inV, List.all_cons, List.all_nil, List.any_cons, List.any_nil, Bool.and_self, Bool.and_true, if_true, Bool.false_eq_true, if_false, tMt, tFldN, tSto, HO.ins.injEq, lkh, List.drop_zero, List.drop_succ_cons, List.drop_nil, rListS, wipe, L2.start, List.map_cons, List.map_nil, List.length_cons, List.length_nil, List.replicate, List.cons_append, List.nil_append, List.append_nil, Nat.reduceAdd, Nat.reduceSub, Nat.zero_add, List.replicate_succ, List.replicate_zero, List.getElem?_cons_zero, List.getElem?_cons_succ, List.set_cons_zero, List.set_cons_succ, Option.some.injEq, V.int.injEq, V.bl.injEq, V.ref.injEq, V.str.injEq, V.ty.injEq, List.cons.injEq, HO.tup.injEq, HO.lst.injEq, and_true, true_and, and_assoc, exists_eq_left, exists_eq_left', exists_and_left, exists_eq', atI0, atI1, atI2, atI3, Int.cast_ofNat_Int, Int.reduceToNat, scal_ii, scal_in, scal_ni, scal_nn, scal_bb, scal_ss, scal_sn, scal_ns, scal_bn, scal_nb, ite_iff, decide_eq_true_eq, decide_eq_false_iff_not, Bool.not_eq_true', Classical.not_not, ne_eq, not_false_eq_true, not_true_eq_false, forall_const, true_implies, false_implies, imp_self, sizeLine_eq, Nat.reduceLeDiff, reduceCtorEq, decide_true, decide_false]
    have e1 : (a : Int) * (m : Int) = ((a * m : Nat) : Int) := (Int.natCast_mul a m).symm
    have e2 : ((a * m : Nat) : Int) * (d : Int) = ((a * m * d : Nat) : Int) := (Int.natCast_mul _ d).symm
    have e3 : ((a * m * d : Nat) : Int) * (n : Int) = ((a * m * d * n : Nat) : Int) := (Int.natCast_mul _ n).symm
    rw [e1, e2, e3]
    refine ⟨wide_mul av mv (by decide) (by decide) (by decide), wide_mul (a := 10) (b := 10) (by omega) (by omega) (by decide) (by decide) (by decide), wide_mul (a := 20) (b := 10) (by omega) (by omega) (by decide) (by decide) (by decide), fun h => ?_, fun h => ?_⟩
    · intro q H5 _ s5 h5
      simp only [h5, exists_and_left, S_eq, tD1, rTupN, rAddZ, rSlZ, rIxZ, rInZ, rIntZ, rStrZ, rLenZ, rRepZ, tJoinZ, tJoinG, rCntZ, rTupG, rAll, rMax2, rMin2, tSl, tPart, tNoPart, rSlLN, rSlG, gUnlN, tYes, rLenS, rRepN, unset, calmS, cx_K, Value.ref.injEq, HO.xd.injEq, lk0, tSeq, tPar3, tPar, tCons, tNil, tVar, tC, tAsg, gName, gCons, gNil, gTupN, gSub, tOp, rI, rI0, rU, tTest, rNe, rEq, rIxTN, rIxLN, rLenL, rLenT, rIntI, rIntB, rAbs, rSetLN, tTruL, tRaiseX, rIsTy, rIsOw, ixN0, ixN1, tRet, tIf, tIfS, tNext, tBreak, tCont, tDrop, tTupN, tLstN, tUn, tCB, tCall, tNot, tAnd, tOr, tB, tAndV, tOrV, tNotV, tChain, tApp, LamX.tLam, tRevLN, rCatN, rInTN, rInLN, flatV, inV, List.all_cons, List.all_nil, List.any_cons, List.any_nil, Bool.and_self, Bool.and_true, if_true, Bool.false_eq_true, if_false, tMt, tFldN, tSto, HO.ins.injEq, lkh, List.drop_zero, List.drop_succ_cons, List.drop_nil, rListS, wipe, L2.start, List.map_cons, List.map_nil, List.length_cons, List.length_nil, List.replicate, List.cons_append, List.nil_append, List.append_nil, Nat.reduceAdd, Nat.reduceSub, Nat.zero_add, List.replicate_succ, List.replicate_zero, List.getElem?_cons_zero, List.getElem?_cons_succ, List.set_cons_zero, List.set_cons_succ, Option.some.injEq, V.int.injEq, V.bl.injEq, V.ref.injEq, V.str.injEq, V.ty.injEq, List.cons.injEq, HO.tup.injEq, HO.lst.injEq, and_true, true_and, and_assoc, exists_eq_left, exists_eq_left', exists_and_left, exists_eq', atI0, atI1, atI2, atI3, Int.cast_ofNat_Int, Int.reduceToNat, scal_ii, scal_in, scal_ni, scal_nn, scal_bb, scal_ss, scal_sn, scal_ns, scal_bn, scal_nb, ite_iff, decide_eq_true_eq, decide_eq_false_iff_not, Bool.not_eq_true', Classical.not_not, ne_eq, not_false_eq_true, not_true_eq_false, forall_const, true_implies, false_implies, imp_self, sizeLine_eq, Nat.reduceLeDiff, reduceCtorEq, decide_true, decide_false]
      exact ⟨1, rfl, 1, rfl, P4.same s5, T4.trans (StpP.of s5), by decide, by decide, by decide, by decide, by rw [Nat.mul_one, Nat.mul_one]; exact C.ar⟩
    · refine ⟨m, rfl, n, rfl, P4, T4, m1, n1, m6, n6, ?_⟩
      rw [← Nat.mul_assoc]; omega
  · clear hv m1 m6 n1 n6 mv nv am amd T4 D4 P4 t4
    rintro _ H4 ⟨m, n, rfl, P4, T4, m1, n1, m6, n6, ar⟩
    have mv : (m : Int).natAbs < 2 ^ 8 := by omega
    have nv : (n : Int).natAbs < 2 ^ 8 := by omega
    have e1 : (a : Int) * (m : Int) = ((a * m : Nat) : Int) := (Int.natCast_mul a m).symm
    have e2 : (d : Int) * (n : Int) = ((d * n : Nat) : Int) := (Int.natCast_mul d n).symm
    have am1 : 1 ≤ a * m := Nat.mul_pos a1 m1
    have dn1 : 1 ≤ d * n := Nat.mul_pos d1 n1
    have amb : a * m ≤ 144 := Nat.le_trans (Nat.le_mul_of_pos_right _ dn1) ar
    have dnb : d * n ≤ 144 := Nat.le_trans (Nat.le_mul_of_pos_left _ am1) ar
    simp only [spDraw, exists_and_left, S_eq, tD1, rTupN, rAddZ, rSlZ, rIxZ, rInZ, rIntZ, rStrZ, rLenZ, rRepZ, tJoinZ, tJoinG, rCntZ, rTupG, rAll, rMax2, rMin2, tSl, tPart, tNoPart, rSlLN, rSlG, gUnlN, tYes, rLenS, rRepN, unset, calmS, cx_K, Value.ref.injEq, HO.xd.injEq, lk0, tSeq, tPar3, tPar, tCons, tNil, tVar, tC, tAsg, gName, gCons, gNil, gTupN, gSub, tOp, rI, rI0, rU, tTest, rNe, rEq, rIxTN, rIxLN, rLenL, rLenT, rIntI, rIntB, rAbs, rSetLN, tTruL, tRaiseX, rIsTy, rIsOw, ixN0, ixN1, tRet, tIf, tIfS, tNext, tBreak, tCont, tDrop, tTupN, tLstN, tUn, tCB, tCall, tNot, tAnd, tOr, tB, tAndV, tOrV, tNotV, tChain, tApp, LamX.tLam, tRevLN, rCatN, rInTN, rInLN, flatV, inV, List.all_cons, List.all_nil, List.any_cons, List.any_nil, Bool.and_self, Bool.and_true, if_true, Bool.false_eq_true, if_false, tMt, tFldN, tSto, HO.ins.injEq, lkh, List.drop_zero, List.drop_succ_cons, List.drop_nil, rListS, wipe, L2.start, List.map_cons, List.map_nil, List.length_cons, List.length_nil, List.replicate, List.cons_append, List.nil_append, List.append_nil, Nat.reduceAdd, Nat.reduceSub, Nat.zero_add, List.replicate_succ, List.replicate_zero, List.getElem?_cons_zero, List.getElem?_cons_succ, List.set_cons_zero, List.set_cons_succ, Option.some.injEq, V.int.injEq, V.bl.injEq, V.ref.injEq, V.str.injEq, V.ty.injEq, List.cons.injEq, HO.tup.injEq, HO.lst.injEq, and_true, true_and, and_assoc, exists_eq_left, exists_eq_left', exists_and_left, exists_eq', atI0, atI1, atI2, atI3, Int.cast_ofNat_Int, Int.reduceToNat, scal_ii, scal_in, scal_ni, scal_nn, scal_bb, scal_ss, scal_sn, scal_ns, scal_bn, scal_nb, ite_iff, decide_eq_true_eq, decide_eq_false_iff_not, Bool.not_eq_true', Classical.not_not, ne_eq, not_false_eq_true, not_true_eq_false, forall_const, true_implies, false_implies, imp_self, sizeLine_eq, Nat.reduceLeDiff, reduceCtorEq, decide_true, decide_false]
    refine ⟨wide_mul av mv (by decide) (by decide) (by decide), wide_mul bv nv (by decide) (by decide) (by decide), P4, by omega, by omega, fun kk H5 k0 k1 P5 t5 => ⟨wide_mul (b := 8) av (by omega) (by decide) (by decide) (by decide), wide_mul av mv (by decide) (by decide) (by decide), by rw [e1]; omega, wide_mul dv nv (by decide) (by decide) (by decide), ?_⟩⟩
    rw [e1, e2]
    obtain ⟨CC, ce⟩ := C.coarse m n kk m1 n1 ar
    generalize hA : a * m = A at *
    generalize hDD : d * n = DD at *
    generalize hB : (b * (n : Int) + (a : Int) * kk) % (A : Int) = B at *
    intro t6 H6 n6' s6 h6
    intro l7 H7 n7 s7 h7
    have T7 : StpP p H H7 := (T4.trans t5).trans ((StpP.of s6).trans (StpP.of s7))
    have P7 := (P5.same s6).same s7
    have h67 := s7 _ _ h6
    have l7p : l7 ≠ p := by obtain ⟨_, _, z⟩ := P5.same s6; exact (ne_of_none z n7).symm
    have new7 : ∀ o, H l7 = some o → False := fun o ho => by
      have := s6 _ _ ((T4.trans t5) _ _ ho l7p); rw [n7] at this; cases this
    have D7 := D.stp hP T7
    have l7t : t6 ≠ l7 := fun z => by subst z; rw [h7] at h67; cases h67
    have key : ∀ H', But l7 H7 H' → Po H' p ∧ StpP p H H' ∧ TD H' g t l a b d rows ∧ H' t6 = some (.lst [.int A, .int B, .int DD]) := fun H' b7 => by
      have T' : StpP p H H' := fun b o ob nb => b7 b o (fun z => by subst z; exact new7 o ob) (T7 _ _ ob nb)
      obtain ⟨g0, n0, h0⟩ := P7
      exact ⟨⟨g0, n0, b7 _ _ l7p.symm h0⟩, T', D.stp hP T', b7 _ _ l7t h67⟩
    refine st_forR1 DD (by omega) (fun R r => (by simp only [h67, exists_and_left, S_eq, tD1, rTupN, rAddZ, rSlZ, rIxZ, rInZ, rIntZ, rStrZ, rLenZ, rRepZ, tJoinZ, tJoinG, rCntZ, rTupG, rAll, rMax2, rMin2, tSl, tPart, tNoPart, rSlLN, rSlG, gUnlN, tYes, rLenS, rRepN, unset, calmS, cx_K, Value.ref.injEq, HO.xd.injEq, lk0, tSeq, tPar3, tPar, tCons, tNil, tVar, tC, tAsg, gName, gCons, gNil, gTupN, gSub, tOp, rI, rI0, rU, tTest, rNe, rEq, rIxTN, rIxLN, rLenL, rLenT, rIntI, rIntB, rAbs, rSetLN, tTruL, tRaiseX, rIsTy, rIsOw, ixN0, ixN1, tRet, tIf, tIfS, tNext, tBreak, tCont, tDrop, tTupN, tLstN, tUn, tCB, tCall, tNot, tAnd, tOr, tB, tAndV, tOrV, tNotV, tChain, tApp, LamX.tLam, tRevLN, rCatN, rInTN, rInLN, flatV, inV, List.all_cons, List.all_nil, List.any_cons, List.any_nil, Bool.and_self, Bool.and_true, if_true, Bool.false_eq_true, if_false, tMt, tFldN, tSto, HO.ins.injEq, lkh, List.drop_zero, List.drop_succ_cons, List.drop_nil, rListS, wipe, L2.start, List.map_cons, List.map_nil, List.length_cons, List.length_nil, List.replicate, List.cons_append, List.nil_append, List.append_nil, Nat.reduceAdd, Nat.reduceSub, Nat.zero_add, List.replicate_succ, List.replicate_zero, List.getElem?_cons_zero, List.getElem?_cons_succ, List.set_cons_zero, List.set_cons_succ, Option.some.injEq, V.int.injEq, V.bl.injEq, V.ref.injEq, V.str.injEq, V.ty.injEq, List.cons.injEq, HO.tup.injEq, HO.lst.injEq, and_true, true_and, and_assoc, exists_eq_left, exists_eq_left', exists_and_left, exists_eq', atI0, atI1, atI2, atI3, Int.cast_ofNat_Int, Int.reduceToNat, scal_ii, scal_in, scal_ni, scal_nn, scal_bb, scal_ss, scal_sn, scal_ns, scal_bn, scal_nb, ite_iff, decide_eq_true_eq, decide_eq_false_iff_not, Bool.not_eq_true', Classical.not_not, ne_eq, not_false_eq_true, not_true_eq_false, forall_const, true_implies, false_implies, imp_self, sizeLine_eq, Nat.reduceLeDiff, reduceCtorEq, decide_true, decide_false]; exact r)) (fun i σ' H' => ∃ x9, σ' = [some (V.ref p), some (V.ref g), some (V.int a), some (V.int b), some (V.int d), some (V.int m), some (V.int n), some (V.ref t6), some (V.ref l7), x9, none] ∧ But l7 H7 H' ∧ H' l7 = some (.lst (strsV (cells (colR b rows) A i))))
      ⟨none, rfl, fun _ _ _ h => h, h7⟩ ?_ ?_
    · rintro j _ H8 hj ⟨x9, rfl, b8, h8⟩
      obtain ⟨P8, T8, D8, h68⟩ := key H8 b8
      simp only [exists_and_left, S_eq, tD1, rTupN, rAddZ, rSlZ, rIxZ, rInZ, rIntZ, rStrZ, rLenZ, rRepZ, tJoinZ, tJoinG, rCntZ, rTupG, rAll, rMax2, rMin2, tSl, tPart, tNoPart, rSlLN, rSlG, gUnlN, tYes, rLenS, rRepN, unset, calmS, cx_K, Value.ref.injEq, HO.xd.injEq, lk0, tSeq, tPar3, tPar, tCons, tNil, tVar, tC, tAsg, gName, gCons, gNil, gTupN, gSub, tOp, rI, rI0, rU, tTest, rNe, rEq, rIxTN, rIxLN, rLenL, rLenT, rIntI, rIntB, rAbs, rSetLN, tTruL, tRaiseX, rIsTy, rIsOw, ixN0, ixN1, tRet, tIf, tIfS, tNext, tBreak, tCont, tDrop, tTupN, tLstN, tUn, tCB, tCall, tNot, tAnd, tOr, tB, tAndV, tOrV, tNotV, tChain, tApp, LamX.tLam, tRevLN, rCatN, rInTN, rInLN, flatV, inV, List.all_cons, List.all_nil, List.any_cons, List.any_nil, Bool.and_self, Bool.and_true, if_true, Bool.false_eq_true, if_false, tMt, tFldN, tSto, HO.ins.injEq, lkh, List.drop_zero, List.drop_succ_cons, List.drop_nil, rListS, wipe, L2.start, List.map_cons, List.map_nil, List.length_cons, List.length_nil, List.replicate, List.cons_append, List.nil_append, List.append_nil, Nat.reduceAdd, Nat.reduceSub, Nat.zero_add, List.replicate_succ, List.replicate_zero, List.getElem?_cons_zero, List.getElem?_cons_succ, List.set_cons_zero, List.set_cons_succ, Option.some.injEq, V.int.injEq, V.bl.injEq, V.ref.injEq, V.str.injEq, V.ty.injEq, List.cons.injEq, HO.tup.injEq, HO.lst.injEq, and_true, true_and, and_assoc, exists_eq_left, exists_eq_left', exists_and_left, exists_eq', atI0, atI1, atI2, atI3, Int.cast_ofNat_Int, Int.reduceToNat, scal_ii, scal_in, scal_ni, scal_nn, scal_bb, scal_ss, scal_sn, scal_ns, scal_bn, scal_nb, ite_iff, decide_eq_true_eq, decide_eq_false_iff_not, Bool.not_eq_true', Classical.not_not, ne_eq, not_false_eq_true, not_true_eq_false, forall_const, true_implies, false_implies, imp_self, sizeLine_eq, Nat.reduceLeDiff, reduceCtorEq, decide_true, decide_false]
      refine ⟨⟨_, h8⟩, ?_⟩
      refine st_lcR1 A (by omega) (fun R r => (by simp only [h68, exists_and_left, S_eq, tD1, rTupN, rAddZ, rSlZ, rIxZ, rInZ, rIntZ, rStrZ, rLenZ, rRepZ, tJoinZ, tJoinG, rCntZ, rTupG, rAll, rMax2, rMin2, tSl, tPart, tNoPart, rSlLN, rSlG, gUnlN, tYes, rLenS, rRepN, unset, calmS, cx_K, Value.ref.injEq, HO.xd.injEq, lk0, tSeq, tPar3, tPar, tCons, tNil, tVar, tC, tAsg, gName, gCons, gNil, gTupN, gSub, tOp, rI, rI0, rU, tTest, rNe, rEq, rIxTN, rIxLN, rLenL, rLenT, rIntI, rIntB, rAbs, rSetLN, tTruL, tRaiseX, rIsTy, rIsOw, ixN0, ixN1, tRet, tIf, tIfS, tNext, tBreak, tCont, tDrop, tTupN, tLstN, tUn, tCB, tCall, tNot, tAnd, tOr, tB, tAndV, tOrV, tNotV, tChain, tApp, LamX.tLam, tRevLN, rCatN, rInTN, rInLN, flatV, inV, List.all_cons, List.all_nil, List.any_cons, List.any_nil, Bool.and_self, Bool.and_true, if_true, Bool.false_eq_true, if_false, tMt, tFldN, tSto, HO.ins.injEq, lkh, List.drop_zero, List.drop_succ_cons, List.drop_nil, rListS, wipe, L2.start, List.map_cons, List.map_nil, List.length_cons, List.length_nil, List.replicate, List.cons_append, List.nil_append, List.append_nil, Nat.reduceAdd, Nat.reduceSub, Nat.zero_add, List.replicate_succ, List.replicate_zero, List.getElem?_cons_zero, List.getElem?_cons_succ, List.set_cons_zero, List.set_cons_succ, Option.some.injEq, V.int.injEq, V.bl.injEq, V.ref.injEq, V.str.injEq, V.ty.injEq, List.cons.injEq, HO.tup.injEq, HO.lst.injEq, and_true, true_and, and_assoc, exists_eq_left, exists_eq_left', exists_and_left, exists_eq', atI0, atI1, atI2, atI3, Int.cast_ofNat_Int, Int.reduceToNat, scal_ii, scal_in, scal_ni, scal_nn, scal_bb, scal_ss, scal_sn, scal_ns, scal_bn, scal_nb, ite_iff, decide_eq_true_eq, decide_eq_false_iff_not, Bool.not_eq_true', Classical.not_not, ne_eq, not_false_eq_true, not_true_eq_false, forall_const, true_implies, false_implies, imp_self, sizeLine_eq, Nat.reduceLeDiff, reduceCtorEq, decide_true, decide_false]; exact r)) (fun E' i H' => H8 E' = none ∧ Same H8 H' ∧ H' E' = some (.lst (strsV ((List.range i).map fun (x : Nat) => [colR b rows x j])))) (fun E' H9 hE s9 h9 => ⟨hE, s9, h9⟩) (fun E' i H9 hi q => ?_) (fun E' H9 q => ?_)
      · obtain ⟨hE, s9, h9⟩ := q
        obtain ⟨f1, f2⟩ := C.fig_at i j
        simp only [spColT, exists_and_left, S_eq, tD1, rTupN, rAddZ, rSlZ, rIxZ, rInZ, rIntZ, rStrZ, rLenZ, rRepZ, tJoinZ, tJoinG, rCntZ, rTupG, rAll, rMax2, rMin2, tSl, tPart, tNoPart, rSlLN, rSlG, gUnlN, tYes, rLenS, rRepN, unset, calmS, cx_K, Value.ref.injEq, HO.xd.injEq, lk0, tSeq, tPar3, tPar, tCons, tNil, tVar, tC, tAsg, gName, gCons, gNil, gTupN, gSub, tOp, rI, rI0, rU, tTest, rNe, rEq, rIxTN, rIxLN, rLenL, rLenT, rIntI, rIntB, rAbs, rSetLN, tTruL, tRaiseX, rIsTy, rIsOw, ixN0, ixN1, tRet, tIf, tIfS, tNext, tBreak, tCont, tDrop, tTupN, tLstN, tUn, tCB, tCall, tNot, tAnd, tOr, tB, tAndV, tOrV, tNotV, tChain, tApp, LamX.tLam, tRevLN, rCatN, rInTN, rInLN, flatV, inV, List.all_cons, List.all_nil, List.any_cons, List.any_nil, Bool.and_self, Bool.and_true, if_true, Bool.false_eq_true, if_false, tMt, tFldN, tSto, HO.ins.injEq, lkh, List.drop_zero, List.drop_succ_cons, List.drop_nil, rListS, wipe, L2.start, List.map_cons, List.map_nil, List.length_cons, List.length_nil, List.replicate, List.cons_append, List.nil_append, List.append_nil, Nat.reduceAdd, Nat.reduceSub, Nat.zero_add, List.replicate_succ, List.replicate_zero, List.getElem?_cons_zero, List.getElem?_cons_succ, List.set_cons_zero, List.set_cons_succ, Option.some.injEq, V.int.injEq, V.bl.injEq, V.ref.injEq, V.str.injEq, V.ty.injEq, List.cons.injEq, HO.tup.injEq, HO.lst.injEq, and_true, true_and, and_assoc, exists_eq_left, exists_eq_left', exists_and_left, exists_eq', atI0, atI1, atI2, atI3, Int.cast_ofNat_Int, Int.reduceToNat, scal_ii, scal_in, scal_ni, scal_nn, scal_bb, scal_ss, scal_sn, scal_ns, scal_bn, scal_nb, ite_iff, decide_eq_true_eq, decide_eq_false_iff_not, Bool.not_eq_true', Classical.not_not, ne_eq, not_false_eq_true, not_true_eq_false, forall_const, true_implies, false_implies, imp_self, sizeLine_eq, Nat.reduceLeDiff, reduceCtorEq, decide_true, decide_false]
        refine ⟨t, l, a, b, d, rows, D8.same s9, C, by omega, by omega, fun H10 s10 => ⟨by unfold colI; omega, by unfold colI; omega, _, s10 _ _ h9, by rw [strsV_len, List.length_map, List.length_range]; omega, hE, fun c o hc => ?_, ?_⟩⟩
        · rw [upd_ne (ne_of_none hc hE)]; exact s10 _ _ (s9 _ _ hc)
        · rw [upd_same, show 48 + (colI b rows i j).toNat = colR b rows i j by unfold colI; omega, List.range_succ, List.map_append]
          simp [strsV]
      · obtain ⟨hE, s9, h9⟩ := q
        have fl : ∀ n : Nat, (((List.range n).map fun (x : Nat) => [colR b rows x j]).flatten) = (List.range n).map fun (x : Nat) => colR b rows x j := fun n => by
          induction n with
          | zero => rfl
          | succ n ih => rw [List.range_succ, List.map_append, List.flatten_append, ih, List.map_append]; simp
        have sm2 : ∀ n : Nat, (((List.range n).map fun (x : Nat) => [colR b rows x j]).map fun x => x.length).sum = n := fun n => by
          induction n with
          | zero => rfl
          | succ n ih => rw [List.range_succ, List.map_append, List.map_append, List.sum_append_nat, ih]; simp
        refine ⟨E', rfl, _, h9, by rw [sm2]; omega, _, s9 _ _ h8, by rw [strsV_len]; simp [cells]; omega, fun H10 p10 => ?_⟩
        rw [fl] at p10
        refine ⟨fun c o nc oc => by rw [p10.2 c nc]; exact s9 _ _ (b8 _ _ nc oc), ?_⟩
        rw [p10.1, cells_succ, Int.toNat_natCast]
        simp [strsV]
    · rintro _ H8 ⟨x9, rfl, b8, h8⟩
      obtain ⟨P8, T8, D8, h68⟩ := key H8 b8
      rw [Int.toNat_natCast] at h8
      simp only [exists_and_left, S_eq, tD1, rTupN, rAddZ, rSlZ, rIxZ, rInZ, rIntZ, rStrZ, rLenZ, rRepZ, tJoinZ, tJoinG, rCntZ, rTupG, rAll, rMax2, rMin2, tSl, tPart, tNoPart, rSlLN, rSlG, gUnlN, tYes, rLenS, rRepN, unset, calmS, cx_K, Value.ref.injEq, HO.xd.injEq, lk0, tSeq, tPar3, tPar, tCons, tNil, tVar, tC, tAsg, gName, gCons, gNil, gTupN, gSub, tOp, rI, rI0, rU, tTest, rNe, rEq, rIxTN, rIxLN, rLenL, rLenT, rIntI, rIntB, rAbs, rSetLN, tTruL, tRaiseX, rIsTy, rIsOw, ixN0, ixN1, tRet, tIf, tIfS, tNext, tBreak, tCont, tDrop, tTupN, tLstN, tUn, tCB, tCall, tNot, tAnd, tOr, tB, tAndV, tOrV, tNotV, tChain, tApp, LamX.tLam, tRevLN, rCatN, rInTN, rInLN, flatV, inV, List.all_cons, List.all_nil, List.any_cons, List.any_nil, Bool.and_self, Bool.and_true, if_true, Bool.false_eq_true, if_false, tMt, tFldN, tSto, HO.ins.injEq, lkh, List.drop_zero, List.drop_succ_cons, List.drop_nil, rListS, wipe, L2.start, List.map_cons, List.map_nil, List.length_cons, List.length_nil, List.replicate, List.cons_append, List.nil_append, List.append_nil, Nat.reduceAdd, Nat.reduceSub, Nat.zero_add, List.replicate_succ, List.replicate_zero, List.getElem?_cons_zero, List.getElem?_cons_succ, List.set_cons_zero, List.set_cons_succ, Option.some.injEq, V.int.injEq, V.bl.injEq, V.ref.injEq, V.str.injEq, V.ty.injEq, List.cons.injEq, HO.tup.injEq, HO.lst.injEq, and_true, true_and, and_assoc, exists_eq_left, exists_eq_left', exists_and_left, exists_eq', atI0, atI1, atI2, atI3, Int.cast_ofNat_Int, Int.reduceToNat, scal_ii, scal_in, scal_ni, scal_nn, scal_bb, scal_ss, scal_sn, scal_ns, scal_bn, scal_nb, ite_iff, decide_eq_true_eq, decide_eq_false_iff_not, Bool.not_eq_true', Classical.not_not, ne_eq, not_false_eq_true, not_true_eq_false, forall_const, true_implies, false_implies, imp_self, sizeLine_eq, Nat.reduceLeDiff, reduceCtorEq, decide_true, decide_false]
      intro g9 H9 _ s9 h9
      exact k g9 t6 l7 A B DD _ H9 (P8.same s9) (T8.trans (StpP.of s9)) ⟨h9, s9 _ _ h68, s9 _ _ h8⟩ CC ce (by rw [← hDD, Nat.mul_comm 3]; exact Nat.mul_le_mul_left _ n6)

end
end Iz
/-! k12_i -/
set_option Elab.async false
set_option linter.all false
set_option maxRecDepth 100000
set_option maxHeartbeats 4000000
namespace Iz
open PySem PySem.Spec PyProof.Rows L2
open He (ga)
open SX (S S_len)
local macro_rules | `(tactic| walk_at "wp") => `(tactic| simp only [S_eq, tD1, rTupN, rAddZ, rSlZ, rIxZ, rInZ, rIntZ, rStrZ, rLenZ, rRepZ, tJoinZ, tJoinG, rCntZ, rTupG, rAll, rMax2, rMin2, tSl, tPart, tNoPart, rSlLN, rSlG, gUnlN, tYes, rLenS, rRepN, unset, calmS, cx_K, Value.ref.injEq, HO.xd.injEq, lk0, tSeq, tPar3, tPar, tCons, tNil, tVar, tC, tAsg, gName, gCons, gNil, gTupN, gSub, tOp, rI, rI0, rU, tTest, rNe, rEq, rIxTN, rIxLN, rLenL, rLenT, rIntI, rIntB, rAbs, rSetLN, tTruL, tRaiseX, rIsTy, rIsOw, ixN0, ixN1, tRet, tIf, tIfS, tNext, tBreak, tCont, tDrop, tTupN, tLstN, tUn, tCB, tCall, tNot, tAnd, tOr, tB, tAndV, tOrV, tNotV, tChain, tApp, LamX.tLam, tRevLN, rCatN, rInTN, rInLN, flatV, inV, List.all_cons, List.all_nil, List.any_cons, List.any_nil, Bool.and_self, Bool.and_true, if_true, Bool.false_eq_true, if_false, tMt, tFldN, tSto, HO.ins.injEq, lkh, List.drop_zero, List.drop_succ_cons, List.drop_nil, rListS, wipe, L2.start, List.map_cons, List.map_nil, List.length_cons, List.length_nil, List.replicate, List.cons_append, List.nil_append, List.append_nil, Nat.reduceAdd, Nat.reduceSub, Nat.zero_add, List.replicate_succ, List.replicate_zero, List.getElem?_cons_zero, List.getElem?_cons_succ, List.set_cons_zero, List.set_cons_succ, Option.some.injEq, V.int.injEq, V.bl.injEq, V.ref.injEq, V.str.injEq, V.ty.injEq, List.cons.injEq, HO.tup.injEq, HO.lst.injEq, and_true, true_and, and_assoc, exists_eq_left, exists_eq_left', exists_and_left, exists_eq', atI0, atI1, atI2, atI3, Int.cast_ofNat_Int, Int.reduceToNat, scal_ii, scal_in, scal_ni, scal_nn, scal_bb, scal_ss, scal_sn, scal_ns, scal_bn, scal_nb, ite_iff, decide_eq_true_eq, decide_eq_false_iff_not, Bool.not_eq_true', Classical.not_not, ne_eq, not_false_eq_true, not_true_eq_false, forall_const, true_implies, false_implies, imp_self, sizeLine_eq, Nat.reduceLeDiff, reduceCtorEq, decide_true, decide_false])
section
variable {P : Program} {w : World} {K : PySem.W.Frag} {mg : Str → Option Value} {base : Heap}
def spBent : Sp := fun vs H Q _ => ∃ p g, vs = [.ref p, .ref g] ∧ Po H p ∧ ∃ t l a b d rows, TD H g t l a b d rows ∧ CT a b d rows ∧ ∀ g' l' rows' H', Po H' p → StpP p H H' → TD H' g' t l' a b d rows' → CT a b d rows' → Q (.ref g') H'
theorem o__law_bent (T : Txt K mg) : OkF P w K mg base CX0 3 "_law_bent" ["_law_pool", "_law_told"] spBent := by
  have o__law_draw := o__law_draw (P := P) (w := w) (base := base) T
  have o__law_pick := o__law_pick (P := P) (w := w) (base := base) T
  obtain ⟨f, fd, g, F⟩ := T.d__law_bent
  refine ⟨f, fd, g, F.kp, F.binds (fun _ _ _ _ _ _ us hl => match us, hl with | [_, _], _ => rfl), F.ok sc__law_bent (fun vs H Q E h => ?_) (fun cdv A outer s H vs Q E hr h => ?_)⟩
  · first | (obtain ⟨_, rfl, _⟩ := h; rfl) | (obtain ⟨_, _, rfl, _⟩ := h; rfl) | (obtain ⟨_, _, _, rfl, _⟩ := h; rfl) | (obtain ⟨_, _, _, _, rfl, _⟩ := h; rfl) | (obtain ⟨_, _, _, _, _, rfl, _⟩ := h; rfl) | (obtain ⟨_, _, _, _, _, _, rfl, _⟩ := h; rfl) | (obtain ⟨_, _, _, _, _, _, _, rfl, _⟩ := h; rfl)
  have hu64 := hr.units
  refine ⟨_, pss_cons (ps_par (i := 2) (j := 3) (by rfl) sc__law_bent.nd rfl rfl (by decide) rfl rfl (pa_cons (pe_callTy call_listS (by rfl) T.m_list (by decide +kernel) (pa_cons (pe_ix ix_listN (pv 1) (pe_int) (fun _ _ => rfl)) pa_nil)) (pa_cons (pcl o__law_draw (hr.mono (by decide)) pass0 (pa_cons (pv 0) (pa_cons (pe_ix ix_listN (pe_ix ix_listN (pv 1) (pe_int) (fun _ _ => rfl)) (pe_int) (fun _ _ => rfl)) pa_nil))) pa_nil)) (by rfl))
      (pss_cons (ps_set (i := 4) sc__law_bent.nd rfl (Or.inl rfl) (pcl o__law_draw (hr.mono (by decide)) pass0 (pa_cons (pv 0) (pa_cons (pe_ix ix_listN (pe_ix ix_listN (pv 1) (pe_int) (fun _ _ => rfl)) (pe_int) (fun _ _ => rfl)) pa_nil))))
      (pss_cons (ps_asg (pe_op op_addZ (pe_op op_addZ (pe_slice sl_strZ (pe_ix ix_listN (pv 2) (pv 3) (fun _ _ => rfl)) (po_none) (po_some (pv 4))) (pcl o__law_pick (hr.mono (by decide)) pass0 (pa_cons (pv 0) (pa_cons (pe_lstN (pa_cons ((pe_strZ [48])) (pa_cons ((pe_strZ [49])) (pa_cons ((pe_strZ [57])) pa_nil)))) pa_nil)))) (pe_slice sl_strZ (pe_ix ix_listN (pv 2) (pv 3) (fun _ _ => rfl)) (po_some (pe_op op_add (pv 4) (pe_int))) (po_none))) (pg_sub (pv 2) (pv 3) set_listN))
      (pss_one (ps_ret (pe_lstN (pa_cons (pe_ix ix_listN (pv 1) (pe_int) (fun _ _ => rfl)) (pa_cons (pv 2) pa_nil))))))), ?_⟩
  obtain ⟨p, g, rfl, hP, t, l, a, b, d, rows, D, C, k⟩ := h
  have hg := D.g
  have ht := D.t
  have hl := D.l
  have sm := C.small
  have a1 := C.R.a1
  have d1 := C.R.d1
  simp only [hg, ht, hl, spPick, spDraw, exists_and_left, S_eq, tD1, rTupN, rAddZ, rSlZ, rIxZ, rInZ, rIntZ, rStrZ, rLenZ, rRepZ, tJoinZ, tJoinG, rCntZ, rTupG, rAll, rMax2, rMin2, tSl, tPart, tNoPart, rSlLN, rSlG, gUnlN, tYes, rLenS, rRepN, unset, calmS, cx_K, Value.ref.injEq, HO.xd.injEq, lk0, tSeq, tPar3, tPar, tCons, tNil, tVar, tC, tAsg, gName, gCons, gNil, gTupN, gSub, tOp, rI, rI0, rU, tTest, rNe, rEq, rIxTN, rIxLN, rLenL, rLenT, rIntI, rIntB, rAbs, rSetLN, tTruL, tRaiseX, rIsTy, rIsOw, ixN0, ixN1, tRet, tIf, tIfS, tNext, tBreak, tCont, tDrop, tTupN, tLstN, tUn, tCB, tCall, tNot, tAnd, tOr, tB, tAndV, tOrV, tNotV, tChain, tApp, LamX.tLam, tRevLN, rCatN, rInTN, rInLN, flatV, inV, List.all_cons, List.all_nil, List.any_cons, List.any_nil, Bool.and_self, Bool.and_true, if_true, Bool.false_eq_true, if_false, tMt, tFldN, tSto, HO.ins.injEq, lkh, List.drop_zero, List.drop_succ_cons, List.drop_nil, rListS, wipe, L2.start, List.map_cons, List.map_nil, List.length_cons, List.length_nil, List.replicate, List.cons_append, List.nil_append, List.append_nil, Nat.reduceAdd, Nat.reduceSub, Nat.zero_add, List.replicate_succ, List.replicate_zero, List.getElem?_cons_zero, List.getElem?_cons_succ, List.set_cons_zero, List.set_cons_succ, Option.some.injEq, V.int.injEq, V.bl.injEq, V.ref.injEq, V.str.injEq, V.ty.injEq, List.cons.injEq, HO.tup.injEq, HO.lst.injEq, and_true, true_and, and_assoc, exists_eq_left, exists_eq_left', exists_and_left, exists_eq', atI0, atI1, atI2, atI3, Int.cast_ofNat_Int, Int.reduceToNat, scal_ii, scal_in, scal_ni, scal_nn, scal_bb, scal_ss, scal_sn, scal_ns, scal_bn, scal_nb, ite_iff, decide_eq_true_eq, decide_eq_false_iff_not, Bool.not_eq_true', Classical.not_not, ne_eq, not_false_eq_true, not_true_eq_false, forall_const, true_implies, false_implies, imp_self, sizeLine_eq, Nat.reduceLeDiff, reduceCtorEq, decide_true, decide_false]
  refine ⟨_, SqL.of hl, ?_⟩
  intro l2 H1 n1 s1 h1
  have l2p : l2 ≠ p := by obtain ⟨_, _, z⟩ := hP; exact (ne_of_none z n1).symm
  refine ⟨_, s1 _ _ hg, _, atI0, t, rfl, _, s1 _ _ ht, _, atI2, d, rfl, hP.same s1, by omega, by omega, fun y H2 y0 y1 P2 t2 => ?_⟩
  have T2 : StpP p H H2 := (StpP.of s1).trans t2
  have D2 := D.stp hP T2
  have h2 := t2 _ _ h1 l2p
  refine ⟨_, D2.g, _, atI0, t, rfl, _, D2.t, _, atI0, a, rfl, P2, by omega, by omega, fun x H3 x0 x1 P3 t3 => ?_⟩
  have T3 := T2.trans t3
  have D3 := D2.stp P2 t3
  have h3 := t3 _ _ h2 l2p
  have yl : y.toNat < rows.length := by rw [C.R.len]; omega
  have hy := List.getElem?_eq_getElem yl
  have ly := C.R.all _ (List.mem_of_getElem? hy)
  refine ⟨l2, rfl, _, h3, _, atI_ok y0 (strsV_get hy), _, rfl, by omega, ?_⟩
  intro M H4 nM s4 h4
  have Mp : M ≠ p := by obtain ⟨_, _, z⟩ := P3; exact (ne_of_none z nM).symm
  refine ⟨M, rfl, P3.same s4, Mp, _, h4, by simp, by simp, fun v H5 hv P5 t5 => ?_⟩
  obtain ⟨c, rfl, c0, c9⟩ : ∃ c, v = .str (S [c]) ∧ 48 ≤ c ∧ c ≤ 57 := by
    simp only [List.mem_cons, List.not_mem_nil, or_false] at hv
    rcases hv with rfl | rfl | rfl <;> exact ⟨_, rfl, by decide, by decide⟩
  have h5 := t5 _ _ (s4 _ _ h3) l2p
  have T5 : StpP p H H5 := (T3.trans (StpP.of s4)).trans t5
  have D5 := (D3.same s4).stp (P3.same s4) t5
  refine ⟨[c], rfl, by rw [cutZ_to x0, List.length_take]; simp; omega, l2, rfl, _, h5, _, atI_ok y0 (strsV_get hy), _, rfl, by omega, ?_⟩
  rw [cutZ_to x0, cutZ_from (show 0 ≤ x + 1 by omega)]
  obtain ⟨row, hrow⟩ : ∃ row, row = List.take x.toNat rows[y.toNat] ++ [c] ++ List.drop (x + 1).toNat rows[y.toNat] := ⟨_, rfl⟩
  have lrow : row.length = a := by
    rw [hrow, List.length_append, List.length_append, List.length_take, List.length_drop]; simp; omega
  refine ⟨by rw [← List.length_append, ← hrow]; omega, l2, rfl, _, h5, _, ixN_ok y0 (by rw [strsV_len, C.R.len]; omega), fun H6 p6 => ?_⟩
  rw [← hrow] at p6
  have set_ : (strsV rows).set y.toNat (.str (S row)) = strsV (rows.set y.toNat row) := by unfold strsV; rw [List.map_set]
  rw [set_] at p6
  have new2 : ∀ o, H l2 = some o → False := fun o ho => by rw [n1] at ho; cases ho
  have gl2 : g ≠ l2 := fun z => by subst z; exact new2 _ D.g
  have tl2 : t ≠ l2 := fun z => by subst z; exact new2 _ D.t
  have D6g : H6 g = some (.lst [.ref t, .ref l]) := by rw [p6.2 _ gl2]; exact D5.g
  have D6t : H6 t = some (.lst [.int a, .int b, .int d]) := by rw [p6.2 _ tl2]; exact D5.t
  refine ⟨_, D6g, _, atI0, ?_⟩
  intro g7 H7 _ s7 h7
  have P6 : Po H6 p := by obtain ⟨g0, n0, h0⟩ := P5; exact ⟨g0, n0, by rw [p6.2 _ l2p.symm]; exact h0⟩
  have T6 : StpP p H H6 := fun b o hb nb => by rw [p6.2 b (fun z => by subst z; exact new2 _ hb)]; exact T5 _ _ hb nb
  have mem : ∀ r ∈ rows.set y.toNat row, r ∈ rows ∨ r = row := fun r hr => List.mem_or_eq_of_mem_set hr
  refine k g7 l2 (rows.set y.toNat row) H7 (P6.same s7) (T6.trans (StpP.of s7)) ⟨h7, s7 _ _ D6t, s7 _ _ p6.1⟩ ⟨⟨a1, d1, by rw [List.length_set]; exact C.R.len, fun r hr => ?_⟩, C.b0, C.ba, C.ar, fun r hr c' hc' => ?_⟩
  · rcases mem r hr with h | rfl
    · exact C.R.all r h
    · exact lrow
  · rcases mem r hr with h | rfl
    · exact C.fig r h c' hc'
    · have fr := C.fig _ (List.mem_of_getElem? hy)
      rw [hrow] at hc'
      rcases List.mem_append.mp hc' with hc' | hc'
      · rcases List.mem_append.mp hc' with hc' | hc'
        · exact fr _ (List.mem_of_mem_take hc')
        · rw [List.mem_singleton.mp hc']; exact ⟨c0, c9⟩
      · exact fr _ (List.mem_of_mem_drop hc')

end
end Iz
/-! k12_j -/
set_option Elab.async false
set_option linter.all false
set_option maxRecDepth 100000
set_option maxHeartbeats 4000000
namespace Iz
open PySem PySem.Spec PyProof.Rows L2
open He (ga)
open SX (S S_len)
local macro_rules | `(tactic| walk_at "wp") => `(tactic| simp only [S_eq, tD1, rTupN, rAddZ, rSlZ, rIxZ, rInZ, rIntZ, rStrZ, rLenZ, rRepZ, tJoinZ, tJoinG, rCntZ, rTupG, rAll, rMax2, rMin2, tSl, tPart, tNoPart, rSlLN, rSlG, gUnlN, tYes, rLenS, rRepN, unset, calmS, cx_K, Value.ref.injEq, HO.xd.injEq, lk0, tSeq, tPar3, tPar, tCons, tNil, tVar, tC, tAsg, gName, gCons, gNil, gTupN, gSub, tOp, rI, rI0, rU, tTest, rNe, rEq, rIxTN, rIxLN, rLenL, rLenT, rIntI, rIntB, rAbs, rSetLN, tTruL, tRaiseX, rIsTy, rIsOw, ixN0, ixN1, tRet, tIf, tIfS, tNext, tBreak, tCont, tDrop, tTupN, tLstN, tUn, tCB, tCall, tNot, tAnd, tOr, tB, tAndV, tOrV, tNotV, tChain, tApp, LamX.tLam, tRevLN, rCatN, rInTN, rInLN, flatV, inV, List.all_cons, List.all_nil, List.any_cons, List.any_nil, Bool.and_self, Bool.and_true, if_true, Bool.false_eq_true, if_false, tMt, tFldN, tSto, HO.ins.injEq, lkh, List.drop_zero, List.drop_succ_cons, List.drop_nil, rListS, wipe, L2.start, List.map_cons, List.map_nil, List.length_cons, List.length_nil, List.replicate, List.cons_append, List.nil_append, List.append_nil, Nat.reduceAdd, Nat.reduceSub, Nat.zero_add, List.replicate_succ, List.replicate_zero, List.getElem?_cons_zero, List.getElem?_cons_succ, List.set_cons_zero, List.set_cons_succ, Option.some.injEq, V.int.injEq, V.bl.injEq, V.ref.injEq, V.str.injEq, V.ty.injEq, List.cons.injEq, HO.tup.injEq, HO.lst.injEq, and_true, true_and, and_assoc, exists_eq_left, exists_eq_left', exists_and_left, exists_eq', atI0, atI1, atI2, atI3, Int.cast_ofNat_Int, Int.reduceToNat, scal_ii, scal_in, scal_ni, scal_nn, scal_bb, scal_ss, scal_sn, scal_ns, scal_bn, scal_nb, ite_iff, decide_eq_true_eq, decide_eq_false_iff_not, Bool.not_eq_true', Classical.not_not, ne_eq, not_false_eq_true, not_true_eq_false, forall_const, true_implies, false_implies, imp_self, sizeLine_eq, Nat.reduceLeDiff, reduceCtorEq, decide_true, decide_false])
section
variable {P : Program} {w : World} {K : PySem.W.Frag} {mg : Str → Option Value} {base : Heap}
/-! ### the least unlike cell, by going through -/
theorem Carp.ins {H : Hp} {c : Addr} {a d : Nat} {b : Int} {rows : List (List Nat)} (C : Carp K H c a b d rows) : ∃ dx x1 x2 x3 x4 x5, H c = some (.ins (ga K "Carpet") dx [("a", x1), ("b", x2), ("d", x3), ("rows", x4), ("_normal", x5)]) :=
  let ⟨_, dx, _, _, _, _, _, _, _, h1, _⟩ := C; ⟨dx, _, _, _, _, _, h1⟩
def spMade (K : PySem.W.Frag) : Sp := fun vs H Q _ => ∃ g, vs = [.ref g] ∧ ∃ t l a b d rows, TD H g t l a b d rows ∧ CT a b d rows ∧ ∀ c H', H c = none → Same H H' → Carp K H' c a b d rows → Q (.ref c) H'
theorem o__law_made (T : Txt K mg) : OkF P w K mg base (L2.CX P w) 9 "_law_made" ["_law_told"] (spMade K) := by
  have o_Carpet := o_Carpet (P := P) (w := w) (base := base) T
  obtain ⟨f, fd, g, F⟩ := T.d__law_made
  refine ⟨f, fd, g, F.kp, F.binds (fun _ _ _ _ _ _ us hl => match us, hl with | [_], _ => rfl), F.okX sc__law_made (fun vs H Q E h => ?_) (fun cdv A outer s H vs Q E hr h => ?_)⟩
  · first | (obtain ⟨_, rfl, _⟩ := h; rfl) | (obtain ⟨_, _, rfl, _⟩ := h; rfl) | (obtain ⟨_, _, _, rfl, _⟩ := h; rfl) | (obtain ⟨_, _, _, _, rfl, _⟩ := h; rfl) | (obtain ⟨_, _, _, _, _, rfl, _⟩ := h; rfl) | (obtain ⟨_, _, _, _, _, _, rfl, _⟩ := h; rfl) | (obtain ⟨_, _, _, _, _, _, _, rfl, _⟩ := h; rfl)
  have hu64 := hr.units
  refine ⟨_, pss_one (ps_ret (pmk (j := 0) o_Carpet (by decide) (hr.mono (by decide)) passE (pa_cons (pe_ix ix_listN (pe_ix ix_listN (pv 0) (pe_int) (fun _ _ => rfl)) (pe_int) (fun _ _ => rfl)) (pa_cons (pe_ix ix_listN (pe_ix ix_listN (pv 0) (pe_int) (fun _ _ => rfl)) (pe_int) (fun _ _ => rfl)) (pa_cons (pe_ix ix_listN (pe_ix ix_listN (pv 0) (pe_int) (fun _ _ => rfl)) (pe_int) (fun _ _ => rfl)) (pa_cons (pe_ix ix_listN (pv 0) (pe_int) (fun _ _ => rfl)) pa_nil)))))), ?_⟩
  obtain ⟨g, rfl, t, l, a, b, d, rows, D, C, k⟩ := h
  have hg := D.g
  have ht := D.t
  simp only [hg, ht, exists_and_left, S_eq, tD1, rTupN, rAddZ, rSlZ, rIxZ, rInZ, rIntZ, rStrZ, rLenZ, rRepZ, tJoinZ, tJoinG, rCntZ, rTupG, rAll, rMax2, rMin2, tSl, tPart, tNoPart, rSlLN, rSlG, gUnlN, tYes, rLenS, rRepN, unset, calmS, cx_K, Value.ref.injEq, HO.xd.injEq, lk0, tSeq, tPar3, tPar, tCons, tNil, tVar, tC, tAsg, gName, gCons, gNil, gTupN, gSub, tOp, rI, rI0, rU, tTest, rNe, rEq, rIxTN, rIxLN, rLenL, rLenT, rIntI, rIntB, rAbs, rSetLN, tTruL, tRaiseX, rIsTy, rIsOw, ixN0, ixN1, tRet, tIf, tIfS, tNext, tBreak, tCont, tDrop, tTupN, tLstN, tUn, tCB, tCall, tNot, tAnd, tOr, tB, tAndV, tOrV, tNotV, tChain, tApp, LamX.tLam, tRevLN, rCatN, rInTN, rInLN, flatV, inV, List.all_cons, List.all_nil, List.any_cons, List.any_nil, Bool.and_self, Bool.and_true, if_true, Bool.false_eq_true, if_false, tMt, tFldN, tSto, HO.ins.injEq, lkh, List.drop_zero, List.drop_succ_cons, List.drop_nil, rListS, wipe, L2.start, List.map_cons, List.map_nil, List.length_cons, List.length_nil, List.replicate, List.cons_append, List.nil_append, List.append_nil, Nat.reduceAdd, Nat.reduceSub, Nat.zero_add, List.replicate_succ, List.replicate_zero, List.getElem?_cons_zero, List.getElem?_cons_succ, List.set_cons_zero, List.set_cons_succ, Option.some.injEq, V.int.injEq, V.bl.injEq, V.ref.injEq, V.str.injEq, V.ty.injEq, List.cons.injEq, HO.tup.injEq, HO.lst.injEq, and_true, true_and, and_assoc, exists_eq_left, exists_eq_left', exists_and_left, exists_eq', atI0, atI1, atI2, atI3, Int.cast_ofNat_Int, Int.reduceToNat, scal_ii, scal_in, scal_ni, scal_nn, scal_bb, scal_ss, scal_sn, scal_ns, scal_bn, scal_nb, ite_iff, decide_eq_true_eq, decide_eq_false_iff_not, Bool.not_eq_true', Classical.not_not, ne_eq, not_false_eq_true, not_true_eq_false, forall_const, true_implies, false_implies, imp_self, sizeLine_eq, Nat.reduceLeDiff, reduceCtorEq, decide_true, decide_false]
  exact ⟨_, _, _, _, rfl, CG.of C (.inr (.inr (.inr ⟨l, rows, rfl, .inl D.l, C.R, C.fig, fun c H1 n1 s1 Cc => k c H1 n1 s1 Cc⟩)))⟩
def spPrt : Sp := fun vs H Q _ => ∃ (g g' : Addr) (W N : Nat), vs = [.ref g, .ref g', .int W, .int N] ∧ ∃ t l a b d rows t' l' a' b' d' rows', TD H g t l a b d rows ∧ CT a b d rows ∧ TD H g' t' l' a' b' d' rows' ∧ CT a' b' d' rows' ∧ 1 ≤ W ∧ W ≤ 1000 ∧ N ≤ 100 ∧ Per (colR b rows) W 0 ∧ Per (colR b' rows') W 0 ∧
  (∀ H', Same H H' → (∀ j : Nat, j < N → ∀ x, colR b rows x j = colR b' rows' x j) → Q .non H') ∧ ∀ u v t H', Same H H' → Lst (colR b rows) (colR b' rows') u v → P2 H' t u v → Q (.ref t) H'
theorem o__law_parting (T : Txt K mg) : OkF P w K mg base CX0 3 "_law_parting" ["_law_one", "_law_other", "_law_wide", "_law_high"] spPrt := by
  have o__law_colour := o__law_colour (P := P) (w := w) (base := base) T
  obtain ⟨f, fd, g, F⟩ := T.d__law_parting
  refine ⟨f, fd, g, F.kp, F.binds (fun _ _ _ _ _ _ us hl => match us, hl with | [_, _, _, _], _ => rfl), F.ok sc__law_parting (fun vs H Q E h => ?_) (fun cdv A outer s H vs Q E hr h => ?_)⟩
  · first | (obtain ⟨_, rfl, _⟩ := h; rfl) | (obtain ⟨_, _, rfl, _⟩ := h; rfl) | (obtain ⟨_, _, _, rfl, _⟩ := h; rfl) | (obtain ⟨_, _, _, _, rfl, _⟩ := h; rfl) | (obtain ⟨_, _, _, _, _, rfl, _⟩ := h; rfl) | (obtain ⟨_, _, _, _, _, _, rfl, _⟩ := h; rfl) | (obtain ⟨_, _, _, _, _, _, _, rfl, _⟩ := h; rfl)
  have hu64 := hr.units
  refine ⟨_, pss_cons (ps_for PassesOwn.never rfl (pi_range1 rfl T.m_range (pa_cons (pv 3) pa_nil)) (pg_name (i := 4) sc__law_parting.nd rfl (Or.inl rfl)) (pss_one (ps_for PassesOwn.never rfl (pi_range1 rfl T.m_range (pa_cons (pv 2) pa_nil)) (pg_name (i := 5) sc__law_parting.nd rfl (Or.inl rfl)) (pss_one (ps_if (pt_cmpR op_ne (pcl o__law_colour (hr.mono (by decide)) pass0 (pa_cons (pv 0) (pa_cons (pv 5) (pa_cons (pv 4) pa_nil)))) (pcl o__law_colour (hr.mono (by decide)) pass0 (pa_cons (pv 1) (pa_cons (pv 5) (pa_cons (pv 4) pa_nil)))) (nomark _)) (pss_one (ps_ret (pe_tupN (pa_cons (pv 5) (pa_cons (pv 4) pa_nil))))) (pss_nil))))))
      (pss_one (ps_ret (pe_non))), ?_⟩
  obtain ⟨g, g', W, N, rfl, t, l, a, b, d, rows, t', l', a', b', d', rows', D, C, D', C', W1, W9, N9, P, P', k1, k2⟩ := h
  have bnd0 : ∀ i : Nat, i ≤ 1000 → (i : Int).natAbs < 2 ^ 2000 := fun i hi => pow_small (m := 10) (by omega) (by decide)
  have eqc : ∀ x y : Int, colI b rows x y = colI b' rows' x y ↔ colR b rows x y = colR b' rows' x y := fun x y => by
    have := (C.fig_at (b := b) x y).1; have := (C'.fig_at (b := b') x y).1
    unfold colI; omega
  simp only [exists_and_left, S_eq, tD1, rTupN, rAddZ, rSlZ, rIxZ, rInZ, rIntZ, rStrZ, rLenZ, rRepZ, tJoinZ, tJoinG, rCntZ, rTupG, rAll, rMax2, rMin2, tSl, tPart, tNoPart, rSlLN, rSlG, gUnlN, tYes, rLenS, rRepN, unset, calmS, cx_K, Value.ref.injEq, HO.xd.injEq, lk0, tSeq, tPar3, tPar, tCons, tNil, tVar, tC, tAsg, gName, gCons, gNil, gTupN, gSub, tOp, rI, rI0, rU, tTest, rNe, rEq, rIxTN, rIxLN, rLenL, rLenT, rIntI, rIntB, rAbs, rSetLN, tTruL, tRaiseX, rIsTy, rIsOw, ixN0, ixN1, tRet, tIf, tIfS, tNext, tBreak, tCont, tDrop, tTupN, tLstN, tUn, tCB, tCall, tNot, tAnd, tOr, tB, tAndV, tOrV, tNotV, tChain, tApp, LamX.tLam, tRevLN, rCatN, rInTN, rInLN, flatV, inV, List.all_cons, List.all_nil, List.any_cons, List.any_nil, Bool.and_self, Bool.and_true, if_true, Bool.false_eq_true, if_false, tMt, tFldN, tSto, HO.ins.injEq, lkh, List.drop_zero, List.drop_succ_cons, List.drop_nil, rListS, wipe, L2.start, List.map_cons, List.map_nil, List.length_cons, List.length_nil, List.replicate, List.cons_append, List.nil_append, List.append_nil, Nat.reduceAdd, Nat.reduceSub, Nat.zero_add, List.replicate_succ, List.replicate_zero, List.getElem?_cons_zero, List.getElem?_cons_succ, List.set_cons_zero, List.set_cons_succ, Option.some.injEq, V.int.injEq, V.bl.injEq, V.ref.injEq, V.str.injEq, V.ty.injEq, List.cons.injEq, HO.tup.injEq, HO.lst.injEq, and_true, true_and, and_assoc, exists_eq_left, exists_eq_left', exists_and_left, exists_eq', atI0, atI1, atI2, atI3, Int.cast_ofNat_Int, Int.reduceToNat, scal_ii, scal_in, scal_ni, scal_nn, scal_bb, scal_ss, scal_sn, scal_ns, scal_bn, scal_nb, ite_iff, decide_eq_true_eq, decide_eq_false_iff_not, Bool.not_eq_true', Classical.not_not, ne_eq, not_false_eq_true, not_true_eq_false, forall_const, true_implies, false_implies, imp_self, sizeLine_eq, Nat.reduceLeDiff, reduceCtorEq, decide_true, decide_false]
  refine st_forR1 N (by omega) (fun R r => (by simp only [exists_and_left, S_eq, tD1, rTupN, rAddZ, rSlZ, rIxZ, rInZ, rIntZ, rStrZ, rLenZ, rRepZ, tJoinZ, tJoinG, rCntZ, rTupG, rAll, rMax2, rMin2, tSl, tPart, tNoPart, rSlLN, rSlG, gUnlN, tYes, rLenS, rRepN, unset, calmS, cx_K, Value.ref.injEq, HO.xd.injEq, lk0, tSeq, tPar3, tPar, tCons, tNil, tVar, tC, tAsg, gName, gCons, gNil, gTupN, gSub, tOp, rI, rI0, rU, tTest, rNe, rEq, rIxTN, rIxLN, rLenL, rLenT, rIntI, rIntB, rAbs, rSetLN, tTruL, tRaiseX, rIsTy, rIsOw, ixN0, ixN1, tRet, tIf, tIfS, tNext, tBreak, tCont, tDrop, tTupN, tLstN, tUn, tCB, tCall, tNot, tAnd, tOr, tB, tAndV, tOrV, tNotV, tChain, tApp, LamX.tLam, tRevLN, rCatN, rInTN, rInLN, flatV, inV, List.all_cons, List.all_nil, List.any_cons, List.any_nil, Bool.and_self, Bool.and_true, if_true, Bool.false_eq_true, if_false, tMt, tFldN, tSto, HO.ins.injEq, lkh, List.drop_zero, List.drop_succ_cons, List.drop_nil, rListS, wipe, L2.start, List.map_cons, List.map_nil, List.length_cons, List.length_nil, List.replicate, List.cons_append, List.nil_append, List.append_nil, Nat.reduceAdd, Nat.reduceSub, Nat.zero_add, List.replicate_succ, List.replicate_zero, List.getElem?_cons_zero, List.getElem?_cons_succ, List.set_cons_zero, List.set_cons_succ, Option.some.injEq, V.int.injEq, V.bl.injEq, V.ref.injEq, V.str.injEq, V.ty.injEq, List.cons.injEq, HO.tup.injEq, HO.lst.injEq, and_true, true_and, and_assoc, exists_eq_left, exists_eq_left', exists_and_left, exists_eq', atI0, atI1, atI2, atI3, Int.cast_ofNat_Int, Int.reduceToNat, scal_ii, scal_in, scal_ni, scal_nn, scal_bb, scal_ss, scal_sn, scal_ns, scal_bn, scal_nb, ite_iff, decide_eq_true_eq, decide_eq_false_iff_not, Bool.not_eq_true', Classical.not_not, ne_eq, not_false_eq_true, not_true_eq_false, forall_const, true_implies, false_implies, imp_self, sizeLine_eq, Nat.reduceLeDiff, reduceCtorEq, decide_true, decide_false]; exact r)) (fun j σ' H' => ∃ x4 x5, σ' = [some (V.ref g), some (V.ref g'), some (V.int W), some (V.int N), x4, x5] ∧ Same H H' ∧ ∀ j' : Nat, j' < j → ∀ x, colR b rows x j' = colR b' rows' x j') ⟨none, none, rfl, fun _ _ h => h, fun j' h => absurd h (by omega)⟩ ?_ ?_
  · rintro j _ H1 hj ⟨x4, x5, rfl, s1, e1⟩
    simp only [exists_and_left, S_eq, tD1, rTupN, rAddZ, rSlZ, rIxZ, rInZ, rIntZ, rStrZ, rLenZ, rRepZ, tJoinZ, tJoinG, rCntZ, rTupG, rAll, rMax2, rMin2, tSl, tPart, tNoPart, rSlLN, rSlG, gUnlN, tYes, rLenS, rRepN, unset, calmS, cx_K, Value.ref.injEq, HO.xd.injEq, lk0, tSeq, tPar3, tPar, tCons, tNil, tVar, tC, tAsg, gName, gCons, gNil, gTupN, gSub, tOp, rI, rI0, rU, tTest, rNe, rEq, rIxTN, rIxLN, rLenL, rLenT, rIntI, rIntB, rAbs, rSetLN, tTruL, tRaiseX, rIsTy, rIsOw, ixN0, ixN1, tRet, tIf, tIfS, tNext, tBreak, tCont, tDrop, tTupN, tLstN, tUn, tCB, tCall, tNot, tAnd, tOr, tB, tAndV, tOrV, tNotV, tChain, tApp, LamX.tLam, tRevLN, rCatN, rInTN, rInLN, flatV, inV, List.all_cons, List.all_nil, List.any_cons, List.any_nil, Bool.and_self, Bool.and_true, if_true, Bool.false_eq_true, if_false, tMt, tFldN, tSto, HO.ins.injEq, lkh, List.drop_zero, List.drop_succ_cons, List.drop_nil, rListS, wipe, L2.start, List.map_cons, List.map_nil, List.length_cons, List.length_nil, List.replicate, List.cons_append, List.nil_append, List.append_nil, Nat.reduceAdd, Nat.reduceSub, Nat.zero_add, List.replicate_succ, List.replicate_zero, List.getElem?_cons_zero, List.getElem?_cons_succ, List.set_cons_zero, List.set_cons_succ, Option.some.injEq, V.int.injEq, V.bl.injEq, V.ref.injEq, V.str.injEq, V.ty.injEq, List.cons.injEq, HO.tup.injEq, HO.lst.injEq, and_true, true_and, and_assoc, exists_eq_left, exists_eq_left', exists_and_left, exists_eq', atI0, atI1, atI2, atI3, Int.cast_ofNat_Int, Int.reduceToNat, scal_ii, scal_in, scal_ni, scal_nn, scal_bb, scal_ss, scal_sn, scal_ns, scal_bn, scal_nb, ite_iff, decide_eq_true_eq, decide_eq_false_iff_not, Bool.not_eq_true', Classical.not_not, ne_eq, not_false_eq_true, not_true_eq_false, forall_const, true_implies, false_implies, imp_self, sizeLine_eq, Nat.reduceLeDiff, reduceCtorEq, decide_true, decide_false]
    refine st_forR1 W (by omega) (fun R r => (by simp only [exists_and_left, S_eq, tD1, rTupN, rAddZ, rSlZ, rIxZ, rInZ, rIntZ, rStrZ, rLenZ, rRepZ, tJoinZ, tJoinG, rCntZ, rTupG, rAll, rMax2, rMin2, tSl, tPart, tNoPart, rSlLN, rSlG, gUnlN, tYes, rLenS, rRepN, unset, calmS, cx_K, Value.ref.injEq, HO.xd.injEq, lk0, tSeq, tPar3, tPar, tCons, tNil, tVar, tC, tAsg, gName, gCons, gNil, gTupN, gSub, tOp, rI, rI0, rU, tTest, rNe, rEq, rIxTN, rIxLN, rLenL, rLenT, rIntI, rIntB, rAbs, rSetLN, tTruL, tRaiseX, rIsTy, rIsOw, ixN0, ixN1, tRet, tIf, tIfS, tNext, tBreak, tCont, tDrop, tTupN, tLstN, tUn, tCB, tCall, tNot, tAnd, tOr, tB, tAndV, tOrV, tNotV, tChain, tApp, LamX.tLam, tRevLN, rCatN, rInTN, rInLN, flatV, inV, List.all_cons, List.all_nil, List.any_cons, List.any_nil, Bool.and_self, Bool.and_true, if_true, Bool.false_eq_true, if_false, tMt, tFldN, tSto, HO.ins.injEq, lkh, List.drop_zero, List.drop_succ_cons, List.drop_nil, rListS, wipe, L2.start, List.map_cons, List.map_nil, List.length_cons, List.length_nil, List.replicate, List.cons_append, List.nil_append, List.append_nil, Nat.reduceAdd, Nat.reduceSub, Nat.zero_add, List.replicate_succ, List.replicate_zero, List.getElem?_cons_zero, List.getElem?_cons_succ, List.set_cons_zero, List.set_cons_succ, Option.some.injEq, V.int.injEq, V.bl.injEq, V.ref.injEq, V.str.injEq, V.ty.injEq, List.cons.injEq, HO.tup.injEq, HO.lst.injEq, and_true, true_and, and_assoc, exists_eq_left, exists_eq_left', exists_and_left, exists_eq', atI0, atI1, atI2, atI3, Int.cast_ofNat_Int, Int.reduceToNat, scal_ii, scal_in, scal_ni, scal_nn, scal_bb, scal_ss, scal_sn, scal_ns, scal_bn, scal_nb, ite_iff, decide_eq_true_eq, decide_eq_false_iff_not, Bool.not_eq_true', Classical.not_not, ne_eq, not_false_eq_true, not_true_eq_false, forall_const, true_implies, false_implies, imp_self, sizeLine_eq, Nat.reduceLeDiff, reduceCtorEq, decide_true, decide_false]; exact r)) (fun i σ' H' => ∃ x5, σ' = [some (V.ref g), some (V.ref g'), some (V.int W), some (V.int N), some (V.int j), x5] ∧ Same H H' ∧ ∀ i' : Nat, i' < i → colR b rows i' j = colR b' rows' i' j) ⟨x5, rfl, s1, fun j' h => absurd h (by omega)⟩ ?_ ?_
    · rintro i _ H2 hi ⟨x5, rfl, s2, e2⟩
      simp only [spColT, exists_and_left, S_eq, tD1, rTupN, rAddZ, rSlZ, rIxZ, rInZ, rIntZ, rStrZ, rLenZ, rRepZ, tJoinZ, tJoinG, rCntZ, rTupG, rAll, rMax2, rMin2, tSl, tPart, tNoPart, rSlLN, rSlG, gUnlN, tYes, rLenS, rRepN, unset, calmS, cx_K, Value.ref.injEq, HO.xd.injEq, lk0, tSeq, tPar3, tPar, tCons, tNil, tVar, tC, tAsg, gName, gCons, gNil, gTupN, gSub, tOp, rI, rI0, rU, tTest, rNe, rEq, rIxTN, rIxLN, rLenL, rLenT, rIntI, rIntB, rAbs, rSetLN, tTruL, tRaiseX, rIsTy, rIsOw, ixN0, ixN1, tRet, tIf, tIfS, tNext, tBreak, tCont, tDrop, tTupN, tLstN, tUn, tCB, tCall, tNot, tAnd, tOr, tB, tAndV, tOrV, tNotV, tChain, tApp, LamX.tLam, tRevLN, rCatN, rInTN, rInLN, flatV, inV, List.all_cons, List.all_nil, List.any_cons, List.any_nil, Bool.and_self, Bool.and_true, if_true, Bool.false_eq_true, if_false, tMt, tFldN, tSto, HO.ins.injEq, lkh, List.drop_zero, List.drop_succ_cons, List.drop_nil, rListS, wipe, L2.start, List.map_cons, List.map_nil, List.length_cons, List.length_nil, List.replicate, List.cons_append, List.nil_append, List.append_nil, Nat.reduceAdd, Nat.reduceSub, Nat.zero_add, List.replicate_succ, List.replicate_zero, List.getElem?_cons_zero, List.getElem?_cons_succ, List.set_cons_zero, List.set_cons_succ, Option.some.injEq, V.int.injEq, V.bl.injEq, V.ref.injEq, V.str.injEq, V.ty.injEq, List.cons.injEq, HO.tup.injEq, HO.lst.injEq, and_true, true_and, and_assoc, exists_eq_left, exists_eq_left', exists_and_left, exists_eq', atI0, atI1, atI2, atI3, Int.cast_ofNat_Int, Int.reduceToNat, scal_ii, scal_in, scal_ni, scal_nn, scal_bb, scal_ss, scal_sn, scal_ns, scal_bn, scal_nb, ite_iff, decide_eq_true_eq, decide_eq_false_iff_not, Bool.not_eq_true', Classical.not_not, ne_eq, not_false_eq_true, not_true_eq_false, forall_const, true_implies, false_implies, imp_self, sizeLine_eq, Nat.reduceLeDiff, reduceCtorEq, decide_true, decide_false]
      refine ⟨t, l, a, b, d, rows, D.same s2, C, bnd0 i (by omega), bnd0 j (by omega), fun H3 s3 => ⟨t', l', a', b', d', rows', (D'.same s2).same s3, C', bnd0 i (by omega), bnd0 j (by omega), fun H4 s4 => ⟨fun ne => ?_, fun eq => ⟨(s2.trans s3).trans s4, fun i' hi' => ?_⟩⟩⟩⟩
      · intro q H5 _ s5 h5
        refine k2 i j q H5 (((s2.trans s3).trans s4).trans s5) ⟨by omega, by omega, fun e => ne ((eqc _ _).mpr e), fun u u0 u1 => ?_, fun v v0 v1 u => ?_⟩ h5
        · obtain ⟨m, rfl⟩ := Int.eq_ofNat_of_zero_le u0
          exact e2 m (by omega)
        · obtain ⟨m, rfl⟩ := Int.eq_ofNat_of_zero_le v0
          exact e1 m (by omega) u
      · by_cases c : i' = i
        · subst c; exact (eqc _ _).mp eq
        · exact e2 i' (by omega)
    · rintro _ H2 ⟨x5, rfl, s2, e2⟩
      refine ⟨_, _, rfl, s2, fun j' hj' x => ?_⟩
      by_cases c : j' = j
      · subst c
        exact one_per (f := fun x => colR b rows x j') (g := fun x => colR b' rows' x j') W1 (fun x => P.row j' x) (fun x => P'.row j' x) (fun i hi => e2 i (by omega)) x
      · exact e1 j' (by omega) x
  · rintro _ H1 ⟨x4, x5, rfl, s1, e1⟩
    simp only [exists_and_left, S_eq, tD1, rTupN, rAddZ, rSlZ, rIxZ, rInZ, rIntZ, rStrZ, rLenZ, rRepZ, tJoinZ, tJoinG, rCntZ, rTupG, rAll, rMax2, rMin2, tSl, tPart, tNoPart, rSlLN, rSlG, gUnlN, tYes, rLenS, rRepN, unset, calmS, cx_K, Value.ref.injEq, HO.xd.injEq, lk0, tSeq, tPar3, tPar, tCons, tNil, tVar, tC, tAsg, gName, gCons, gNil, gTupN, gSub, tOp, rI, rI0, rU, tTest, rNe, rEq, rIxTN, rIxLN, rLenL, rLenT, rIntI, rIntB, rAbs, rSetLN, tTruL, tRaiseX, rIsTy, rIsOw, ixN0, ixN1, tRet, tIf, tIfS, tNext, tBreak, tCont, tDrop, tTupN, tLstN, tUn, tCB, tCall, tNot, tAnd, tOr, tB, tAndV, tOrV, tNotV, tChain, tApp, LamX.tLam, tRevLN, rCatN, rInTN, rInLN, flatV, inV, List.all_cons, List.all_nil, List.any_cons, List.any_nil, Bool.and_self, Bool.and_true, if_true, Bool.false_eq_true, if_false, tMt, tFldN, tSto, HO.ins.injEq, lkh, List.drop_zero, List.drop_succ_cons, List.drop_nil, rListS, wipe, L2.start, List.map_cons, List.map_nil, List.length_cons, List.length_nil, List.replicate, List.cons_append, List.nil_append, List.append_nil, Nat.reduceAdd, Nat.reduceSub, Nat.zero_add, List.replicate_succ, List.replicate_zero, List.getElem?_cons_zero, List.getElem?_cons_succ, List.set_cons_zero, List.set_cons_succ, Option.some.injEq, V.int.injEq, V.bl.injEq, V.ref.injEq, V.str.injEq, V.ty.injEq, List.cons.injEq, HO.tup.injEq, HO.lst.injEq, and_true, true_and, and_assoc, exists_eq_left, exists_eq_left', exists_and_left, exists_eq', atI0, atI1, atI2, atI3, Int.cast_ofNat_Int, Int.reduceToNat, scal_ii, scal_in, scal_ni, scal_nn, scal_bb, scal_ss, scal_sn, scal_ns, scal_bn, scal_nb, ite_iff, decide_eq_true_eq, decide_eq_false_iff_not, Bool.not_eq_true', Classical.not_not, ne_eq, not_false_eq_true, not_true_eq_false, forall_const, true_implies, false_implies, imp_self, sizeLine_eq, Nat.reduceLeDiff, reduceCtorEq, decide_true, decide_false]
    exact k1 H1 s1 fun j hj => e1 j (by omega)
def spWin : Sp := fun vs H Q _ => ∃ g g', vs = [.ref g, .ref g'] ∧ ∃ t l a b d rows t' l' a' b' d' rows', TD H g t l a b d rows ∧ CT a b d rows ∧ TD H g' t' l' a' b' d' rows' ∧ CT a' b' d' rows' ∧ a ≤ 4 ∧
  ∀ (W : Nat) L H', Same H H' → 1 ≤ W → W ≤ a * a' → a ∣ W → a' ∣ W → H' L = some (.lst [.int W, .int 40]) → Q (.ref L) H'
theorem o__law_window (T : Txt K mg) : OkF P w K mg base CX0 1 "_law_window" ["_law_one", "_law_other"] spWin := by
  obtain ⟨f, fd, g, F⟩ := T.d__law_window
  refine ⟨f, fd, g, F.kp, F.binds (fun _ _ _ _ _ _ us hl => match us, hl with | [_, _], _ => rfl), F.ok sc__law_window (fun vs H Q E h => ?_) (fun cdv A outer s H vs Q E hr h => ?_)⟩
  · first | (obtain ⟨_, rfl, _⟩ := h; rfl) | (obtain ⟨_, _, rfl, _⟩ := h; rfl) | (obtain ⟨_, _, _, rfl, _⟩ := h; rfl) | (obtain ⟨_, _, _, _, rfl, _⟩ := h; rfl) | (obtain ⟨_, _, _, _, _, rfl, _⟩ := h; rfl) | (obtain ⟨_, _, _, _, _, _, rfl, _⟩ := h; rfl) | (obtain ⟨_, _, _, _, _, _, _, rfl, _⟩ := h; rfl)
  have hu64 := hr.units
  refine ⟨_, pss_cons (ps_set (i := 2) sc__law_window.nd rfl (Or.inl rfl) (pe_ix ix_listN (pe_ix ix_listN (pv 0) (pe_int) (fun _ _ => rfl)) (pe_int) (fun _ _ => rfl)))
      (pss_cons (ps_while PassesOwn.never (PTm (pt_cmpR op_ne (pe_op op_mod (pv 2) (pe_ix ix_listN (pe_ix ix_listN (pv 1) (pe_int) (fun _ _ => rfl)) (pe_int) (fun _ _ => rfl))) (pe_int) (nomark _))) (pss_one (ps_set (i := 2) sc__law_window.nd rfl (Or.inl rfl) (pe_op op_add (pv 2) (pe_ix ix_listN (pe_ix ix_listN (pv 0) (pe_int) (fun _ _ => rfl)) (pe_int) (fun _ _ => rfl))))))
      (pss_one (ps_ret (pe_lstN (pa_cons (pv 2) (pa_cons (pe_int) pa_nil)))))), ?_⟩
  obtain ⟨g, g', rfl, t, l, a, b, d, rows, t', l', a', b', d', rows', D, C, D', C', a4, k⟩ := h
  have hg := D.g
  have ht := D.t
  have hg' := D'.g
  have ht' := D'.t
  have a1 := C.R.a1
  have a1' := C'.R.a1
  simp only [hg, ht, exists_and_left, S_eq, tD1, rTupN, rAddZ, rSlZ, rIxZ, rInZ, rIntZ, rStrZ, rLenZ, rRepZ, tJoinZ, tJoinG, rCntZ, rTupG, rAll, rMax2, rMin2, tSl, tPart, tNoPart, rSlLN, rSlG, gUnlN, tYes, rLenS, rRepN, unset, calmS, cx_K, Value.ref.injEq, HO.xd.injEq, lk0, tSeq, tPar3, tPar, tCons, tNil, tVar, tC, tAsg, gName, gCons, gNil, gTupN, gSub, tOp, rI, rI0, rU, tTest, rNe, rEq, rIxTN, rIxLN, rLenL, rLenT, rIntI, rIntB, rAbs, rSetLN, tTruL, tRaiseX, rIsTy, rIsOw, ixN0, ixN1, tRet, tIf, tIfS, tNext, tBreak, tCont, tDrop, tTupN, tLstN, tUn, tCB, tCall, tNot, tAnd, tOr, tB, tAndV, tOrV, tNotV, tChain, tApp, LamX.tLam, tRevLN, rCatN, rInTN, rInLN, flatV, inV, List.all_cons, List.all_nil, List.any_cons, List.any_nil, Bool.and_self, Bool.and_true, if_true, Bool.false_eq_true, if_false, tMt, tFldN, tSto, HO.ins.injEq, lkh, List.drop_zero, List.drop_succ_cons, List.drop_nil, rListS, wipe, L2.start, List.map_cons, List.map_nil, List.length_cons, List.length_nil, List.replicate, List.cons_append, List.nil_append, List.append_nil, Nat.reduceAdd, Nat.reduceSub, Nat.zero_add, List.replicate_succ, List.replicate_zero, List.getElem?_cons_zero, List.getElem?_cons_succ, List.set_cons_zero, List.set_cons_succ, Option.some.injEq, V.int.injEq, V.bl.injEq, V.ref.injEq, V.str.injEq, V.ty.injEq, List.cons.injEq, HO.tup.injEq, HO.lst.injEq, and_true, true_and, and_assoc, exists_eq_left, exists_eq_left', exists_and_left, exists_eq', atI0, atI1, atI2, atI3, Int.cast_ofNat_Int, Int.reduceToNat, scal_ii, scal_in, scal_ni, scal_nn, scal_bb, scal_ss, scal_sn, scal_ns, scal_bn, scal_nb, ite_iff, decide_eq_true_eq, decide_eq_false_iff_not, Bool.not_eq_true', Classical.not_not, ne_eq, not_false_eq_true, not_true_eq_false, forall_const, true_implies, false_implies, imp_self, sizeLine_eq, Nat.reduceLeDiff, reduceCtorEq, decide_true, decide_false]
  refine while_by (fun σ' H' => H' = H ∧ ∃ m : Nat, σ' = [some (V.ref g), some (V.ref g'), some (V.int ((a * m : Nat) : Int))] ∧ 1 ≤ m ∧ m ≤ a')
    (fun σ' _ => match σ' with | [_, _, some (.int i)] => a * a' - i.toNat | _ => 0) ⟨rfl, 1, by rw [Nat.mul_one], Nat.le_refl _, a1'⟩ ?_ mono_mcl
  rintro _ _ ⟨rfl, m, rfl, m1, m9⟩
  refine ⟨_, ?_, fun b H2 q => q⟩
  simp only [hg, ht, hg', ht', exists_and_left, S_eq, tD1, rTupN, rAddZ, rSlZ, rIxZ, rInZ, rIntZ, rStrZ, rLenZ, rRepZ, tJoinZ, tJoinG, rCntZ, rTupG, rAll, rMax2, rMin2, tSl, tPart, tNoPart, rSlLN, rSlG, gUnlN, tYes, rLenS, rRepN, unset, calmS, cx_K, Value.ref.injEq, HO.xd.injEq, lk0, tSeq, tPar3, tPar, tCons, tNil, tVar, tC, tAsg, gName, gCons, gNil, gTupN, gSub, tOp, rI, rI0, rU, tTest, rNe, rEq, rIxTN, rIxLN, rLenL, rLenT, rIntI, rIntB, rAbs, rSetLN, tTruL, tRaiseX, rIsTy, rIsOw, ixN0, ixN1, tRet, tIf, tIfS, tNext, tBreak, tCont, tDrop, tTupN, tLstN, tUn, tCB, tCall, tNot, tAnd, tOr, tB, tAndV, tOrV, tNotV, tChain, tApp, LamX.tLam, tRevLN, rCatN, rInTN, rInLN, flatV, inV, List.all_cons, List.all_nil, List.any_cons, List.any_nil, Bool.and_self, Bool.and_true, if_true, Bool.false_eq_true, if_false, tMt, tFldN, tSto, HO.ins.injEq, lkh, List.drop_zero, List.drop_succ_cons, List.drop_nil, rListS, wipe, L2.start, List.map_cons, List.map_nil, List.length_cons, List.length_nil, List.replicate, List.cons_append, List.nil_append, List.append_nil, Nat.reduceAdd, Nat.reduceSub, Nat.zero_add, List.replicate_succ, List.replicate_zero, List.getElem?_cons_zero, List.getElem?_cons_succ, List.set_cons_zero, List.set_cons_succ, Option.some.injEq, V.int.injEq, V.bl.injEq, V.ref.injEq, V.str.injEq, V.ty.injEq, List.cons.injEq, HO.tup.injEq, HO.lst.injEq, and_true, true_and, and_assoc, exists_eq_left, exists_eq_left', exists_and_left, exists_eq', atI0, atI1, atI2, atI3, Int.cast_ofNat_Int, Int.reduceToNat, scal_ii, scal_in, scal_ni, scal_nn, scal_bb, scal_ss, scal_sn, scal_ns, scal_bn, scal_nb, ite_iff, decide_eq_true_eq, decide_eq_false_iff_not, Bool.not_eq_true', Classical.not_not, ne_eq, not_false_eq_true, not_true_eq_false, forall_const, true_implies, false_implies, imp_self, sizeLine_eq, Nat.reduceLeDiff, reduceCtorEq, decide_true, decide_false]
  have am : a * m ≤ a * a' := Nat.mul_le_mul_left _ m9
  refine ⟨by omega, fun h => ⟨⟨m + 1, by rw [Nat.mul_succ]; omega, by omega, ?_⟩, ?_⟩, fun h => ?_⟩
  · by_cases c : m + 1 ≤ a'
    · exact c
    · obtain rfl : m = a' := by omega
      exact absurd (by rw [Int.natCast_mul]; exact Int.mul_emod_left _ _) h
  · by_cases c : m < a'
    · have : a * (m + 1) ≤ a * a' := Nat.mul_le_mul_left _ (by omega)
      rw [Nat.mul_succ] at this
      omega
    · obtain rfl : m = a' := by omega
      exact absurd (by rw [Int.natCast_mul]; exact Int.mul_emod_left _ _) h
  · intro L H1 _ s1 h1
    refine k (a * m) L H1 s1 (Nat.mul_pos a1 m1) am (Nat.dvd_mul_right _ _) (Int.natCast_dvd_natCast.mp (Int.dvd_of_emod_eq_zero h)) h1
def spPair2 (K : PySem.W.Frag) : Sp := fun vs H Q _ => ∃ g g', vs = [.ref g, .ref g'] ∧ ∃ t l a b d rows t' l' a' b' d' rows', TD H g t l a b d rows ∧ CT a b d rows ∧ TD H g' t' l' a' b' d' rows' ∧ CT a' b' d' rows' ∧ a ≤ 4 ∧ Near (colR b rows) (colR b' rows') 40 ∧ ∀ H', Same H H' → Q (.bl true) H'
theorem o__law_pair_right (T : Txt K mg) : OkF P w K mg base (L2.CX P w) 11 "_law_pair_right" ["_law_one", "_law_other"] (spPair2 K) := by
  have o__law_made := o__law_made (P := P) (w := w) (base := base) T
  have o__law_window := o__law_window (P := P) (w := w) (base := base) T
  have o__law_parting := o__law_parting (P := P) (w := w) (base := base) T
  have o_parting_cell := o_parting_cell (P := P) (w := w) (base := base) T
  have o_Carpet___eq__ := o_Carpet___eq__ (P := P) (w := w) (base := base) T
  obtain ⟨f, fd, g, F⟩ := T.d__law_pair_right
  refine ⟨f, fd, g, F.kp, F.binds (fun _ _ _ _ _ _ us hl => match us, hl with | [_, _], _ => rfl), F.okX sc__law_pair_right (fun vs H Q E h => ?_) (fun cdv A outer s H vs Q E hr h => ?_)⟩
  · first | (obtain ⟨_, rfl, _⟩ := h; rfl) | (obtain ⟨_, _, rfl, _⟩ := h; rfl) | (obtain ⟨_, _, _, rfl, _⟩ := h; rfl) | (obtain ⟨_, _, _, _, rfl, _⟩ := h; rfl) | (obtain ⟨_, _, _, _, _, rfl, _⟩ := h; rfl) | (obtain ⟨_, _, _, _, _, _, rfl, _⟩ := h; rfl) | (obtain ⟨_, _, _, _, _, _, _, rfl, _⟩ := h; rfl)
  have hu64 := hr.units
  refine ⟨_, pss_cons (ps_par (i := 2) (j := 3) (by rfl) sc__law_pair_right.nd rfl rfl (by decide) rfl rfl (pa_cons (pcl o__law_made (hr.mono (by decide)) passE (pa_cons (pv 0) pa_nil)) (pa_cons (pcl o__law_made (hr.mono (by decide)) passE (pa_cons (pv 1) pa_nil)) pa_nil)) (by rfl))
      (pss_cons (ps_asg (pcl o__law_window (hr.mono (by decide)) pass0 (pa_cons (pv 0) (pa_cons (pv 1) pa_nil))) (pg_unlN (n := 2) (by rfl) (pgs_cons (pg_name (i := 4) sc__law_pair_right.nd rfl (Or.inl rfl)) (pgs_cons (pg_name (i := 5) sc__law_pair_right.nd rfl (Or.inl rfl)) pgs_nil))))
      (pss_cons (ps_set (i := 6) sc__law_pair_right.nd rfl (Or.inl rfl) (pcl o__law_parting (hr.mono (by decide)) pass0 (pa_cons (pv 0) (pa_cons (pv 1) (pa_cons (pv 4) (pa_cons (pv 5) pa_nil))))))
      (pss_cons (ps_if (PW.pt (pw_or (pt_cmpR (op_neDk (K := K) rfl hu64) (pcl o_parting_cell (hr.mono (by decide)) passE (pa_cons (pv 2) (pa_cons (pv 3) pa_nil))) (pv 6) (nomark _)) (pw_or1 (pt_cmpR (op_neDk (K := K) rfl hu64) (pcl o_parting_cell (hr.mono (by decide)) passE (pa_cons (pv 3) (pa_cons (pv 2) pa_nil))) (pv 6) (nomark _))))) (pss_one (ps_ret (pe_bl))) (pss_nil))
      (pss_one (ps_ret (pe_cmpR op_eq (pe_cmpR (op_own (fun _ _ => rfl) o_Carpet___eq__ rfl (hr.mono (by decide)) pass0) (pv 2) (pv 3) (nomark _)) (pe_cmpR op_isN (pv 6) (pe_non) (nomark _)) (nomark _))))))), ?_⟩
  obtain ⟨g, g', rfl, t, l, a, b, d, rows, t', l', a', b', d', rows', D, C, D', C', a4, near, k⟩ := h
  have a1 := C.R.a1
  have a1' := C'.R.a1
  have sm' := C'.small
  simp only [spMade, exists_and_left, S_eq, tD1, rTupN, rAddZ, rSlZ, rIxZ, rInZ, rIntZ, rStrZ, rLenZ, rRepZ, tJoinZ, tJoinG, rCntZ, rTupG, rAll, rMax2, rMin2, tSl, tPart, tNoPart, rSlLN, rSlG, gUnlN, tYes, rLenS, rRepN, unset, calmS, cx_K, Value.ref.injEq, HO.xd.injEq, lk0, tSeq, tPar3, tPar, tCons, tNil, tVar, tC, tAsg, gName, gCons, gNil, gTupN, gSub, tOp, rI, rI0, rU, tTest, rNe, rEq, rIxTN, rIxLN, rLenL, rLenT, rIntI, rIntB, rAbs, rSetLN, tTruL, tRaiseX, rIsTy, rIsOw, ixN0, ixN1, tRet, tIf, tIfS, tNext, tBreak, tCont, tDrop, tTupN, tLstN, tUn, tCB, tCall, tNot, tAnd, tOr, tB, tAndV, tOrV, tNotV, tChain, tApp, LamX.tLam, tRevLN, rCatN, rInTN, rInLN, flatV, inV, List.all_cons, List.all_nil, List.any_cons, List.any_nil, Bool.and_self, Bool.and_true, if_true, Bool.false_eq_true, if_false, tMt, tFldN, tSto, HO.ins.injEq, lkh, List.drop_zero, List.drop_succ_cons, List.drop_nil, rListS, wipe, L2.start, List.map_cons, List.map_nil, List.length_cons, List.length_nil, List.replicate, List.cons_append, List.nil_append, List.append_nil, Nat.reduceAdd, Nat.reduceSub, Nat.zero_add, List.replicate_succ, List.replicate_zero, List.getElem?_cons_zero, List.getElem?_cons_succ, List.set_cons_zero, List.set_cons_succ, Option.some.injEq, V.int.injEq, V.bl.injEq, V.ref.injEq, V.str.injEq, V.ty.injEq, List.cons.injEq, HO.tup.injEq, HO.lst.injEq, and_true, true_and, and_assoc, exists_eq_left, exists_eq_left', exists_and_left, exists_eq', atI0, atI1, atI2, atI3, Int.cast_ofNat_Int, Int.reduceToNat, scal_ii, scal_in, scal_ni, scal_nn, scal_bb, scal_ss, scal_sn, scal_ns, scal_bn, scal_nb, ite_iff, decide_eq_true_eq, decide_eq_false_iff_not, Bool.not_eq_true', Classical.not_not, ne_eq, not_false_eq_true, not_true_eq_false, forall_const, true_implies, false_implies, imp_self, sizeLine_eq, Nat.reduceLeDiff, reduceCtorEq, decide_true, decide_false]
  refine ⟨t, l, a, b, d, rows, D, C, fun c H1 n1 s1 Cc => ⟨t', l', a', b', d', rows', D'.same s1, C', fun c' H2 n2 s2 Cc' => ?_⟩⟩
  have Cc2 := Cc.same s2
  have s02 := s1.trans s2
  refine ⟨g, g', rfl, t, l, a, b, d, rows, t', l', a', b', d', rows', D.same s02, C, D'.same s02, C', a4, fun W L H3 s3 W1 W9 da da' h3 => ?_⟩
  have s03 := s02.trans s3
  have aa : a * a' ≤ 4 * 144 := Nat.mul_le_mul a4 sm'.1
  have P : Per (colR b rows) W 0 := by
    obtain ⟨m, rfl⟩ := da
    have := (C.R.per_a (b := b)).smul (m : Int)
    rwa [Int.mul_zero, Int.mul_comm, ← Int.natCast_mul] at this
  have P' : Per (colR b' rows') W 0 := by
    obtain ⟨m, rfl⟩ := da'
    have := (C'.R.per_a (b := b')).smul (m : Int)
    rwa [Int.mul_zero, Int.mul_comm, ← Int.natCast_mul] at this
  simp only [h3, exists_and_left, S_eq, tD1, rTupN, rAddZ, rSlZ, rIxZ, rInZ, rIntZ, rStrZ, rLenZ, rRepZ, tJoinZ, tJoinG, rCntZ, rTupG, rAll, rMax2, rMin2, tSl, tPart, tNoPart, rSlLN, rSlG, gUnlN, tYes, rLenS, rRepN, unset, calmS, cx_K, Value.ref.injEq, HO.xd.injEq, lk0, tSeq, tPar3, tPar, tCons, tNil, tVar, tC, tAsg, gName, gCons, gNil, gTupN, gSub, tOp, rI, rI0, rU, tTest, rNe, rEq, rIxTN, rIxLN, rLenL, rLenT, rIntI, rIntB, rAbs, rSetLN, tTruL, tRaiseX, rIsTy, rIsOw, ixN0, ixN1, tRet, tIf, tIfS, tNext, tBreak, tCont, tDrop, tTupN, tLstN, tUn, tCB, tCall, tNot, tAnd, tOr, tB, tAndV, tOrV, tNotV, tChain, tApp, LamX.tLam, tRevLN, rCatN, rInTN, rInLN, flatV, inV, List.all_cons, List.all_nil, List.any_cons, List.any_nil, Bool.and_self, Bool.and_true, if_true, Bool.false_eq_true, if_false, tMt, tFldN, tSto, HO.ins.injEq, lkh, List.drop_zero, List.drop_succ_cons, List.drop_nil, rListS, wipe, L2.start, List.map_cons, List.map_nil, List.length_cons, List.length_nil, List.replicate, List.cons_append, List.nil_append, List.append_nil, Nat.reduceAdd, Nat.reduceSub, Nat.zero_add, List.replicate_succ, List.replicate_zero, List.getElem?_cons_zero, List.getElem?_cons_succ, List.set_cons_zero, List.set_cons_succ, Option.some.injEq, V.int.injEq, V.bl.injEq, V.ref.injEq, V.str.injEq, V.ty.injEq, List.cons.injEq, HO.tup.injEq, HO.lst.injEq, and_true, true_and, and_assoc, exists_eq_left, exists_eq_left', exists_and_left, exists_eq', atI0, atI1, atI2, atI3, Int.cast_ofNat_Int, Int.reduceToNat, scal_ii, scal_in, scal_ni, scal_nn, scal_bb, scal_ss, scal_sn, scal_ns, scal_bn, scal_nb, ite_iff, decide_eq_true_eq, decide_eq_false_iff_not, Bool.not_eq_true', Classical.not_not, ne_eq, not_false_eq_true, not_true_eq_false, forall_const, true_implies, false_implies, imp_self, sizeLine_eq, Nat.reduceLeDiff, reduceCtorEq, decide_true, decide_false]
  have D3 := D.same s03
  have D3' := D'.same s03
  have C3 := Cc2.same s3
  have C3' := Cc'.same s3
  obtain ⟨dx, x1, x2, x3, x4, x5, hc⟩ := C3.ins
  obtain ⟨dx', x1', x2', x3', x4', x5', hc'⟩ := C3'.ins
  refine ⟨g, g', W, 40, rfl, t, l, a, b, d, rows, t', l', a', b', d', rows', D3, C, D3', C', W1, by omega, by decide, P, P', fun H4 s4 e => ?_, fun u v q H4 s4 Lq hq => ?_⟩
  · have eqC : colR b rows = colR b' rows' := near e
    refine part_at (C3.same s4) (C3'.same s4) (fun _ H5 s5 => ?_) (fun u v t' H5 s5 L _ => absurd eqC L.unlike)
    refine ne_sameN .non .non (ShN.non (n := 0)) ⟨_, rfl, fun e => (by cases e), fun _ => ?_⟩
    have s35 := s4.trans s5
    refine part_at (C3'.same s35) (C3.same s35) (fun _ H6 s6 => ?_) (fun u v t' H5 s5 L _ => absurd eqC.symm L.unlike)
    refine ne_sameN .non .non (ShN.non (n := 0)) ⟨_, rfl, fun e => (by cases e), fun _ => ?_⟩
    have s36 := s35.trans s6
    refine own_op (s36 _ _ hc) (T.ci_Carpet.ty (s36 _ _ hc')) notFirst_self ⟨c, _, rfl, _, _, _, _, C3.same s36, .inr ⟨c', _, _, _, _, rfl, C3'.same s36, fun r0 hr0 => ⟨_, rfl, rfl, ?_⟩⟩⟩
    obtain rfl : r0 = true := hr0.mpr eqC
    simpa using k H6 (s03.trans s36)
  · have dpP : ∀ {H' : Hp} {t : Addr}, P2 H' t u v → Dp K H' (.ref t) (.tuple [.int u, .int v]) := fun h => .tup (SqT.of h) (.cons (.int _) (.cons (.int _) .nil))
    have shP : ShN 1 (.tuple [.int u, .int v]) := ShN.tuple (n := 0) fun z hz => by
      simp only [List.mem_cons, List.not_mem_nil, or_false] at hz
      rcases hz with rfl | rfl <;> exact .int
    refine part_at (C3.same s4) (C3'.same s4) (fun e => absurd e Lq.unlike) (fun u' v' t1 H5 s5 L1 h1 => ?_)
    obtain ⟨rfl, rfl⟩ := L1.uniq Lq
    refine ne_sameN (dpP h1) (dpP (s5 _ _ hq)) shP ⟨_, rfl, fun e => (by cases e), fun _ => ?_⟩
    have s35 := s4.trans s5
    refine part_at (C3'.same s35) (C3.same s35) (fun e => absurd e.symm Lq.unlike) (fun u' v' t2 H6 s6 L2 h2 => ?_)
    obtain ⟨rfl, rfl⟩ := L2.swap.uniq Lq
    refine ne_sameN (dpP h2) (dpP (s6 _ _ (s5 _ _ hq))) shP ⟨_, rfl, fun e => (by cases e), fun _ => ?_⟩
    have s36 := s35.trans s6
    refine own_op (s36 _ _ hc) (T.ci_Carpet.ty (s36 _ _ hc')) notFirst_self ⟨c, _, rfl, _, _, _, _, C3.same s36, .inr ⟨c', _, _, _, _, rfl, C3'.same s36, fun r0 hr0 => ⟨_, rfl, rfl, ?_⟩⟩⟩
    obtain rfl : r0 = false := by
      cases r0 with
      | false => rfl
      | true => exact absurd (hr0.mp rfl) Lq.unlike
    simpa using k H6 (s03.trans s36)
/-! ### what stays of a carpet -/
/-- all but lists and tables stays -/
def Kp (H H' : Hp) : Prop := ∀ b o, H b = some o → (∀ xs, o ≠ .lst xs) → (∀ ps, o ≠ .tbl ps) → H' b = some o
theorem Kp.stp {H H' : Hp} {p : Addr} (P : Po H p) (e : StpP p H H') : Kp H H' := fun b o h n _ => e.at P h fun g s z => n _ z
theorem Kp.same {H H' : Hp} (e : Same H H') : Kp H H' := fun b o h _ _ => e _ _ h
theorem Kp.ext {H H' : Hp} (e : LamX.ExtN H H') : Kp H H' := fun b o h _ n => e _ _ h n
theorem Kp.put {H H' : Hp} {L : Addr} {xs ys : List V} (h : H L = some (.lst xs)) (p : Put H H' L (.lst ys)) : Kp H H' := fun b o hb n _ => by
  rw [p.2 b (fun z => by subst z; rw [h] at hb; exact n _ (Option.some.inj hb).symm)]; exact hb
theorem Kp.trans {H H1 H2 : Hp} (x : Kp H H1) (y : Kp H1 H2) : Kp H H2 := fun b o h n m => y _ _ (x _ _ h n m) n m
theorem SqT.kp {H H' : Hp} {q : Addr} {xs : List V} (h : SqT K H q xs) (k : Kp H H') : SqT K H' q xs := by
  rcases h with (h | ⟨o, h⟩) | h
  · exact .inl (.inl (k _ _ h (fun _ z => by cases z) fun _ z => by cases z))
  · exact .inl (.inr ⟨o, k _ _ h (fun _ z => by cases z) fun _ z => by cases z⟩)
  · exact .inr h
theorem Carp.kp {H H' : Hp} {c : Addr} {a d : Nat} {b : Int} {rows : List (List Nat)} (C : Carp K H c a b d rows) (k : Kp H H') : Carp K H' c a b d rows :=
  let ⟨t, dx, rp, np, q, w, s, h, R, h1, h2, h3, h4⟩ := C
  ⟨t, dx, rp, np, q, w, s, h, R, k _ _ h1 (fun _ z => by cases z) (fun _ z => by cases z), SqT.kp h2 k, ⟨k _ _ h3.n (fun _ z => by cases z) (fun _ z => by cases z), k _ _ h3.q (fun _ z => by cases z) (fun _ z => by cases z)⟩, h4⟩
theorem break_at {H : Hp} {c t : Addr} {a d : Nat} {b u z : Int} {rows : List (List Nat)} {R : VK} {E : XK} (C : Carp K H c a b d rows) (ht : P2 H t u z) (us : u.natAbs < 2 ^ 900) (zs : z.natAbs < 2 ^ 900)
    (k1 : Per (colR b rows) u z → ∀ H', Same H H' → R .non H') (k2 : ∀ x y t H', Same H H' → Lst (colR b rows) (mv (colR b rows) (-u) (-z)) x y → P2 H' t x y → R (.ref t) H') : spBreak K [.ref c, .ref t] H R E :=
  ⟨_, _, rfl, .inr ⟨c, a, b, d, rows, rfl, C, P2.k ht, fun e => (by rw [pairV_of ht] at e; cases e), fun x y e => (by rw [pairV_of ht] at e; cases e; exact ⟨us, zs⟩), fun x y e => by rw [pairV_of ht] at e; cases e; exact ⟨k1, k2⟩⟩⟩
def spBrk (K : PySem.W.Frag) : Sp := fun vs H Q _ => ∃ p g, vs = [.ref p, .ref g] ∧ Po H p ∧ ∃ t l a b d rows, TD H g t l a b d rows ∧ CT a b d rows ∧ ∀ H', Po H' p → StpP p H H' → Q (.bl true) H'
theorem o__law_breaking_right (T : Txt K mg) : OkF P w K mg base (L2.CX P w) 11 "_law_breaking_right" ["_law_pool", "_law_told"] (spBrk K) := by
  have o__law_made := o__law_made (P := P) (w := w) (base := base) T
  have o__law_pick := o__law_pick (P := P) (w := w) (base := base) T
  have o__law_draw := o__law_draw (P := P) (w := w) (base := base) T
  have o__law_colour := o__law_colour (P := P) (w := w) (base := base) T
  have o_breaking_cell := o_breaking_cell (P := P) (w := w) (base := base) T
  have o_Carpet_is_period := o_Carpet_is_period (P := P) (w := w) (base := base) T
  obtain ⟨f, fd, g, F⟩ := T.d__law_breaking_right
  refine ⟨f, fd, g, F.kp, F.binds (fun _ _ _ _ _ _ us hl => match us, hl with | [_, _], _ => rfl), F.okX sc__law_breaking_right (fun vs H Q E h => ?_) (fun cdv A outer s H vs Q E hr h => ?_)⟩
  · first | (obtain ⟨_, rfl, _⟩ := h; rfl) | (obtain ⟨_, _, rfl, _⟩ := h; rfl) | (obtain ⟨_, _, _, rfl, _⟩ := h; rfl) | (obtain ⟨_, _, _, _, rfl, _⟩ := h; rfl) | (obtain ⟨_, _, _, _, _, rfl, _⟩ := h; rfl) | (obtain ⟨_, _, _, _, _, _, rfl, _⟩ := h; rfl) | (obtain ⟨_, _, _, _, _, _, _, rfl, _⟩ := h; rfl)
  have hu64 := hr.units
  refine ⟨_, pss_cons (ps_par3 (i := 2) (j := 3) (l := 4) (by rfl) sc__law_breaking_right.nd rfl rfl rfl (by decide) (by decide) (by decide) rfl rfl rfl (pa_cons (pcl o__law_made (hr.mono (by decide)) passE (pa_cons (pv 1) pa_nil)) (pa_cons (pe_ix ix_listN (pe_ix ix_listN (pv 1) (pe_int) (fun _ _ => rfl)) (pe_int) (fun _ _ => rfl)) (pa_cons (pe_ix ix_listN (pe_ix ix_listN (pv 1) (pe_int) (fun _ _ => rfl)) (pe_int) (fun _ _ => rfl)) pa_nil))) (by rfl))
      (pss_cons (ps_for (passes_of rfl) rfl (pi_range1 rfl T.m_range (pa_cons (pe_int) pa_nil)) (pg_name (i := 5) sc__law_breaking_right.nd rfl (Or.inl rfl)) (pss_cons (ps_set (i := 6) sc__law_breaking_right.nd rfl (Or.inr rfl) (pcl o__law_pick (hr.mono (by decide)) pass0 (pa_cons (pv 0) (pa_cons (pe_lstN (pa_cons (pe_op op_sub (pcl o__law_draw (hr.mono (by decide)) pass0 (pa_cons (pv 0) (pa_cons (pe_int) pa_nil))) (pe_int)) (pa_cons (pv 3) (pa_cons (pe_ix ix_listN (pe_ix ix_listN (pv 1) (pe_int) (fun _ _ => rfl)) (pe_int) (fun _ _ => rfl)) (pa_cons (pe_int) pa_nil))))) pa_nil))))
      (pss_cons (ps_set (i := 7) sc__law_breaking_right.nd rfl (Or.inr rfl) (pcl o__law_pick (hr.mono (by decide)) pass0 (pa_cons (pv 0) (pa_cons (pe_lstN (pa_cons (pe_op op_sub (pcl o__law_draw (hr.mono (by decide)) pass0 (pa_cons (pv 0) (pa_cons (pe_int) pa_nil))) (pe_int)) (pa_cons (pv 4) (pa_cons (pe_int) pa_nil)))) pa_nil))))
      (pss_cons (ps_set (i := 8) sc__law_breaking_right.nd rfl (Or.inl rfl) (pe_non))
      (pss_cons (ps_for (passes_of rfl) rfl (pi_range1 rfl T.m_range (pa_cons (pv 4) pa_nil)) (pg_name (i := 9) sc__law_breaking_right.nd rfl (Or.inr rfl)) (pss_cons (ps_setLc (i := 10) (own := [("_law_i", 11)]) (g := gName 11) (by rfl) sc__law_breaking_right.nd rfl rfl (sw_true rfl rfl rfl (by decide +kernel)) (pi_range1 (by rfl) T.m_range (pa_cons (pv 3) pa_nil)) (blkOk_by (N := ["_law_pool", "_law_told", "_law_carpet", "_law_a", "_law_d", "_law_step", "_law_x", "_law_y", "_law_due", "_law_j", "_law_some", "_law_i"]) (sc := defScope s__law_breaking_right) (own := [("_law_i", 11)]) (by decide +kernel)) (fun _ _ _ _ _ => pg_name (i := 11) sc__law_breaking_right.nd rfl (Or.inl rfl)) (fun _ _ _ _ _ => pts_one (pt_cmpR op_ne (pcl o__law_colour (hr.mono (by decide)) pass0 (pa_cons (pv 1) (pa_cons (pv 11) (pa_cons (pv 9) pa_nil)))) (pcl o__law_colour (hr.mono (by decide)) pass0 (pa_cons (pv 1) (pa_cons (pe_op op_add (pv 11) (pv 6)) (pa_cons (pe_op op_add (pv 9) (pv 7)) pa_nil)))) (nomark _))) (fun _ _ _ _ _ => pv 11))
      (pss_one (ps_if (PW.pt (pw_and (pt_cmpR (op_neDk (K := K) rfl hu64) (pv 10) (pe_lstN (pa_nil)) (nomark _)) (pw_and1 (pt_cmpR op_isN (pv 8) (pe_non) (nomark _))))) (pss_one (ps_set (i := 8) sc__law_breaking_right.nd rfl (Or.inl rfl) (pe_tupN (pa_cons (pe_ix ix_listN (pv 10) (pe_int) (fun _ _ => rfl)) (pa_cons (pv 9) pa_nil))))) (pss_nil)))))
      (pss_cons (ps_if (PW.pt (pw_or (pt_cmpR (op_neDk (K := K) rfl hu64) (pcl o_breaking_cell (hr.mono (by decide)) passE (pa_cons (pv 2) (pa_cons (pe_tupN (pa_cons (pv 6) (pa_cons (pv 7) pa_nil))) pa_nil))) (pv 8) (nomark _)) (pw_or1 (pt_cmpR op_ne (pmt (j := 0) o_Carpet_is_period T.c_Carpet (pv 2) (by decide) (hr.mono (by decide)) passE (pa_cons (pe_tupN (pa_cons (pv 6) (pa_cons (pv 7) pa_nil))) pa_nil)) (pe_cmpR op_isN (pv 8) (pe_non) (nomark _)) (nomark _))))) (pss_one (ps_ret (pe_bl))) (pss_nil))
      (pss_one (ps_if (pt_cmpR (op_neDk (K := K) rfl hu64) (pcl o_breaking_cell (hr.mono (by decide)) passE (pa_cons (pv 2) (pa_cons (pe_tupN (pa_cons (pe_op op_add (pv 6) (pe_op op_mulW (pe_op op_pow (pe_int) (pe_int)) (pv 3))) (pa_cons (pv 7) pa_nil))) pa_nil))) (pv 8) (nomark _)) (pss_one (ps_ret (pe_bl))) (pss_nil)))))))))
      (pss_one (ps_ret (pe_bl)))), ?_⟩
  obtain ⟨p, g, rfl, hP, t, l, a, b, d, rows, D, C, k⟩ := h
  have a1 := C.R.a1
  have d1 := C.R.d1
  have sm := C.small
  simp only [spMade, exists_and_left, S_eq, tD1, rTupN, rAddZ, rSlZ, rIxZ, rInZ, rIntZ, rStrZ, rLenZ, rRepZ, tJoinZ, tJoinG, rCntZ, rTupG, rAll, rMax2, rMin2, tSl, tPart, tNoPart, rSlLN, rSlG, gUnlN, tYes, rLenS, rRepN, unset, calmS, cx_K, Value.ref.injEq, HO.xd.injEq, lk0, tSeq, tPar3, tPar, tCons, tNil, tVar, tC, tAsg, gName, gCons, gNil, gTupN, gSub, tOp, rI, rI0, rU, tTest, rNe, rEq, rIxTN, rIxLN, rLenL, rLenT, rIntI, rIntB, rAbs, rSetLN, tTruL, tRaiseX, rIsTy, rIsOw, ixN0, ixN1, tRet, tIf, tIfS, tNext, tBreak, tCont, tDrop, tTupN, tLstN, tUn, tCB, tCall, tNot, tAnd, tOr, tB, tAndV, tOrV, tNotV, tChain, tApp, LamX.tLam, tRevLN, rCatN, rInTN, rInLN, flatV, inV, List.all_cons, List.all_nil, List.any_cons, List.any_nil, Bool.and_self, Bool.and_true, if_true, Bool.false_eq_true, if_false, tMt, tFldN, tSto, HO.ins.injEq, lkh, List.drop_zero, List.drop_succ_cons, List.drop_nil, rListS, wipe, L2.start, List.map_cons, List.map_nil, List.length_cons, List.length_nil, List.replicate, List.cons_append, List.nil_append, List.append_nil, Nat.reduceAdd, Nat.reduceSub, Nat.zero_add, List.replicate_succ, List.replicate_zero, List.getElem?_cons_zero, List.getElem?_cons_succ, List.set_cons_zero, List.set_cons_succ, Option.some.injEq, V.int.injEq, V.bl.injEq, V.ref.injEq, V.str.injEq, V.ty.injEq, List.cons.injEq, HO.tup.injEq, HO.lst.injEq, and_true, true_and, and_assoc, exists_eq_left, exists_eq_left', exists_and_left, exists_eq', atI0, atI1, atI2, atI3, Int.cast_ofNat_Int, Int.reduceToNat, scal_ii, scal_in, scal_ni, scal_nn, scal_bb, scal_ss, scal_sn, scal_ns, scal_bn, scal_nb, ite_iff, decide_eq_true_eq, decide_eq_false_iff_not, Bool.not_eq_true', Classical.not_not, ne_eq, not_false_eq_true, not_true_eq_false, forall_const, true_implies, false_implies, imp_self, sizeLine_eq, Nat.reduceLeDiff, reduceCtorEq, decide_true, decide_false]
  refine ⟨t, l, a, b, d, rows, D, C, fun c H1 n1 s1 Cc => ?_⟩
  have hg := (D.same s1).g
  have ht := (D.same s1).t
  simp only [hg, ht, exists_and_left, S_eq, tD1, rTupN, rAddZ, rSlZ, rIxZ, rInZ, rIntZ, rStrZ, rLenZ, rRepZ, tJoinZ, tJoinG, rCntZ, rTupG, rAll, rMax2, rMin2, tSl, tPart, tNoPart, rSlLN, rSlG, gUnlN, tYes, rLenS, rRepN, unset, calmS, cx_K, Value.ref.injEq, HO.xd.injEq, lk0, tSeq, tPar3, tPar, tCons, tNil, tVar, tC, tAsg, gName, gCons, gNil, gTupN, gSub, tOp, rI, rI0, rU, tTest, rNe, rEq, rIxTN, rIxLN, rLenL, rLenT, rIntI, rIntB, rAbs, rSetLN, tTruL, tRaiseX, rIsTy, rIsOw, ixN0, ixN1, tRet, tIf, tIfS, tNext, tBreak, tCont, tDrop, tTupN, tLstN, tUn, tCB, tCall, tNot, tAnd, tOr, tB, tAndV, tOrV, tNotV, tChain, tApp, LamX.tLam, tRevLN, rCatN, rInTN, rInLN, flatV, inV, List.all_cons, List.all_nil, List.any_cons, List.any_nil, Bool.and_self, Bool.and_true, if_true, Bool.false_eq_true, if_false, tMt, tFldN, tSto, HO.ins.injEq, lkh, List.drop_zero, List.drop_succ_cons, List.drop_nil, rListS, wipe, L2.start, List.map_cons, List.map_nil, List.length_cons, List.length_nil, List.replicate, List.cons_append, List.nil_append, List.append_nil, Nat.reduceAdd, Nat.reduceSub, Nat.zero_add, List.replicate_succ, List.replicate_zero, List.getElem?_cons_zero, List.getElem?_cons_succ, List.set_cons_zero, List.set_cons_succ, Option.some.injEq, V.int.injEq, V.bl.injEq, V.ref.injEq, V.str.injEq, V.ty.injEq, List.cons.injEq, HO.tup.injEq, HO.lst.injEq, and_true, true_and, and_assoc, exists_eq_left, exists_eq_left', exists_and_left, exists_eq', atI0, atI1, atI2, atI3, Int.cast_ofNat_Int, Int.reduceToNat, scal_ii, scal_in, scal_ni, scal_nn, scal_bb, scal_ss, scal_sn, scal_ns, scal_bn, scal_nb, ite_iff, decide_eq_true_eq, decide_eq_false_iff_not, Bool.not_eq_true', Classical.not_not, ne_eq, not_false_eq_true, not_true_eq_false, forall_const, true_implies, false_implies, imp_self, sizeLine_eq, Nat.reduceLeDiff, reduceCtorEq, decide_true, decide_false]
  clear hg ht
  refine st_forR1 8 (by decide) (fun R r => (by simp only [exists_and_left, S_eq, tD1, rTupN, rAddZ, rSlZ, rIxZ, rInZ, rIntZ, rStrZ, rLenZ, rRepZ, tJoinZ, tJoinG, rCntZ, rTupG, rAll, rMax2, rMin2, tSl, tPart, tNoPart, rSlLN, rSlG, gUnlN, tYes, rLenS, rRepN, unset, calmS, cx_K, Value.ref.injEq, HO.xd.injEq, lk0, tSeq, tPar3, tPar, tCons, tNil, tVar, tC, tAsg, gName, gCons, gNil, gTupN, gSub, tOp, rI, rI0, rU, tTest, rNe, rEq, rIxTN, rIxLN, rLenL, rLenT, rIntI, rIntB, rAbs, rSetLN, tTruL, tRaiseX, rIsTy, rIsOw, ixN0, ixN1, tRet, tIf, tIfS, tNext, tBreak, tCont, tDrop, tTupN, tLstN, tUn, tCB, tCall, tNot, tAnd, tOr, tB, tAndV, tOrV, tNotV, tChain, tApp, LamX.tLam, tRevLN, rCatN, rInTN, rInLN, flatV, inV, List.all_cons, List.all_nil, List.any_cons, List.any_nil, Bool.and_self, Bool.and_true, if_true, Bool.false_eq_true, if_false, tMt, tFldN, tSto, HO.ins.injEq, lkh, List.drop_zero, List.drop_succ_cons, List.drop_nil, rListS, wipe, L2.start, List.map_cons, List.map_nil, List.length_cons, List.length_nil, List.replicate, List.cons_append, List.nil_append, List.append_nil, Nat.reduceAdd, Nat.reduceSub, Nat.zero_add, List.replicate_succ, List.replicate_zero, List.getElem?_cons_zero, List.getElem?_cons_succ, List.set_cons_zero, List.set_cons_succ, Option.some.injEq, V.int.injEq, V.bl.injEq, V.ref.injEq, V.str.injEq, V.ty.injEq, List.cons.injEq, HO.tup.injEq, HO.lst.injEq, and_true, true_and, and_assoc, exists_eq_left, exists_eq_left', exists_and_left, exists_eq', atI0, atI1, atI2, atI3, Int.cast_ofNat_Int, Int.reduceToNat, scal_ii, scal_in, scal_ni, scal_nn, scal_bb, scal_ss, scal_sn, scal_ns, scal_bn, scal_nb, ite_iff, decide_eq_true_eq, decide_eq_false_iff_not, Bool.not_eq_true', Classical.not_not, ne_eq, not_false_eq_true, not_true_eq_false, forall_const, true_implies, false_implies, imp_self, sizeLine_eq, Nat.reduceLeDiff, reduceCtorEq, decide_true, decide_false]; exact r)) (fun i σ' H' => ∃ y5 y6 y7 y8 y9 y10 y11, σ' = [some (V.ref p), some (V.ref g), some (V.ref c), some (V.int a), some (V.int d), y5, y6, y7, y8, y9, y10, y11] ∧ Po H' p ∧ StpP p H H' ∧ Carp K H' c a b d rows) ⟨_, _, _, _, _, _, _, rfl, hP.same s1, StpP.of s1, Cc⟩ ?_ ?_
  · clear Cc n1 s1
    rintro i _ H2 hi ⟨y5, y6, y7, y8, y9, y10, y11, rfl, P2', t2, C2⟩
    simp only [spPick, spDraw, exists_and_left, S_eq, tD1, rTupN, rAddZ, rSlZ, rIxZ, rInZ, rIntZ, rStrZ, rLenZ, rRepZ, tJoinZ, tJoinG, rCntZ, rTupG, rAll, rMax2, rMin2, tSl, tPart, tNoPart, rSlLN, rSlG, gUnlN, tYes, rLenS, rRepN, unset, calmS, cx_K, Value.ref.injEq, HO.xd.injEq, lk0, tSeq, tPar3, tPar, tCons, tNil, tVar, tC, tAsg, gName, gCons, gNil, gTupN, gSub, tOp, rI, rI0, rU, tTest, rNe, rEq, rIxTN, rIxLN, rLenL, rLenT, rIntI, rIntB, rAbs, rSetLN, tTruL, tRaiseX, rIsTy, rIsOw, ixN0, ixN1, tRet, tIf, tIfS, tNext, tBreak, tCont, tDrop, tTupN, tLstN, tUn, tCB, tCall, tNot, tAnd, tOr, tB, tAndV, tOrV, tNotV, tChain, tApp, LamX.tLam, tRevLN, rCatN, rInTN, rInLN, flatV, inV, List.all_cons, List.all_nil, List.any_cons, List.any_nil, Bool.and_self, Bool.and_true, if_true, Bool.false_eq_true, if_false, tMt, tFldN, tSto, HO.ins.injEq, lkh, List.drop_zero, List.drop_succ_cons, List.drop_nil, rListS, wipe, L2.start, List.map_cons, List.map_nil, List.length_cons, List.length_nil, List.replicate, List.cons_append, List.nil_append, List.append_nil, Nat.reduceAdd, Nat.reduceSub, Nat.zero_add, List.replicate_succ, List.replicate_zero, List.getElem?_cons_zero, List.getElem?_cons_succ, List.set_cons_zero, List.set_cons_succ, Option.some.injEq, V.int.injEq, V.bl.injEq, V.ref.injEq, V.str.injEq, V.ty.injEq, List.cons.injEq, HO.tup.injEq, HO.lst.injEq, and_true, true_and, and_assoc, exists_eq_left, exists_eq_left', exists_and_left, exists_eq', atI0, atI1, atI2, atI3, Int.cast_ofNat_Int, Int.reduceToNat, scal_ii, scal_in, scal_ni, scal_nn, scal_bb, scal_ss, scal_sn, scal_ns, scal_bn, scal_nb, ite_iff, decide_eq_true_eq, decide_eq_false_iff_not, Bool.not_eq_true', Classical.not_not, ne_eq, not_false_eq_true, not_true_eq_false, forall_const, true_implies, false_implies, imp_self, sizeLine_eq, Nat.reduceLeDiff, reduceCtorEq, decide_true, decide_false]
    refine ⟨P2', by decide, by decide, fun e1 H3 e10 e11 P3 t3 => ?_⟩
    have T3' : StpP p H H3 := t2.trans t3
    have D3 := D.stp hP T3'
    have C3 := C2.kp (Kp.stp P2' t3)
    refine ⟨_, D3.g, _, atI0, t, rfl, _, D3.t, _, atI1, ?_⟩
    intro L H4 nL s4 h4
    have La : L ≠ p := by obtain ⟨_, _, z⟩ := P3; exact (ne_of_none z nL).symm
    have P4 := P3.same s4
    refine ⟨L, rfl, P4, La, _, h4, by simp, by simp, fun v H5 hv P5 t5 => ?_⟩
    have b0 := C.b0
    have ba := C.ba
    obtain ⟨x, rfl, xb⟩ : ∃ x : Int, v = .int x ∧ x.natAbs < 2 ^ 8 := by
      simp only [List.mem_cons, List.not_mem_nil, or_false] at hv
      rcases hv with rfl | rfl | rfl | rfl <;> exact ⟨_, rfl, by omega⟩
    have T5 : StpP p H H5 := (T3'.trans (StpP.of s4)).trans t5
    have C5 := (C3.same s4).kp (Kp.stp P4 t5)
    clear C2 C3 D3 T3' P3 P4 t3 t5 s4 h4 nL La hv P2' t2
    refine ⟨P5, by decide, by decide, fun e2 H6 e20 e21 P6 t6 => ?_⟩
    intro M H7 nM s7 h7
    have Ma : M ≠ p := by obtain ⟨_, _, z⟩ := P6; exact (ne_of_none z nM).symm
    have P7 := P6.same s7
    refine ⟨M, rfl, P7, Ma, _, h7, by simp, by simp, fun v H8 hv P8 t8 => ?_⟩
    obtain ⟨y, rfl, yb⟩ : ∃ y : Int, v = .int y ∧ y.natAbs < 2 ^ 8 := by
      simp only [List.mem_cons, List.not_mem_nil, or_false] at hv
      rcases hv with rfl | rfl | rfl <;> exact ⟨_, rfl, by omega⟩
    have T8 : StpP p H H8 := ((T5.trans t6).trans (StpP.of s7)).trans t8
    have C8' := ((C5.kp (Kp.stp P5 t6)).same s7).kp (Kp.stp P7 t8)
    have D8 := D.stp hP T8
    clear C5 T5 P5 P6 P7 t6 t8 s7 h7 nM Ma hv
    have R1 := C.R.per_a (b := b)
    have R2 := C.R.per_bd (b := b)
    have M1 : Per (mv (colR b rows) (-x) (-y)) a 0 := mv_per.mpr R1
    have M2 : Per (mv (colR b rows) (-x) (-y)) b d := mv_per.mpr R2
    refine st_forR1 d (by omega) (fun R r => (by simp only [exists_and_left, S_eq, tD1, rTupN, rAddZ, rSlZ, rIxZ, rInZ, rIntZ, rStrZ, rLenZ, rRepZ, tJoinZ, tJoinG, rCntZ, rTupG, rAll, rMax2, rMin2, tSl, tPart, tNoPart, rSlLN, rSlG, gUnlN, tYes, rLenS, rRepN, unset, calmS, cx_K, Value.ref.injEq, HO.xd.injEq, lk0, tSeq, tPar3, tPar, tCons, tNil, tVar, tC, tAsg, gName, gCons, gNil, gTupN, gSub, tOp, rI, rI0, rU, tTest, rNe, rEq, rIxTN, rIxLN, rLenL, rLenT, rIntI, rIntB, rAbs, rSetLN, tTruL, tRaiseX, rIsTy, rIsOw, ixN0, ixN1, tRet, tIf, tIfS, tNext, tBreak, tCont, tDrop, tTupN, tLstN, tUn, tCB, tCall, tNot, tAnd, tOr, tB, tAndV, tOrV, tNotV, tChain, tApp, LamX.tLam, tRevLN, rCatN, rInTN, rInLN, flatV, inV, List.all_cons, List.all_nil, List.any_cons, List.any_nil, Bool.and_self, Bool.and_true, if_true, Bool.false_eq_true, if_false, tMt, tFldN, tSto, HO.ins.injEq, lkh, List.drop_zero, List.drop_succ_cons, List.drop_nil, rListS, wipe, L2.start, List.map_cons, List.map_nil, List.length_cons, List.length_nil, List.replicate, List.cons_append, List.nil_append, List.append_nil, Nat.reduceAdd, Nat.reduceSub, Nat.zero_add, List.replicate_succ, List.replicate_zero, List.getElem?_cons_zero, List.getElem?_cons_succ, List.set_cons_zero, List.set_cons_succ, Option.some.injEq, V.int.injEq, V.bl.injEq, V.ref.injEq, V.str.injEq, V.ty.injEq, List.cons.injEq, HO.tup.injEq, HO.lst.injEq, and_true, true_and, and_assoc, exists_eq_left, exists_eq_left', exists_and_left, exists_eq', atI0, atI1, atI2, atI3, Int.cast_ofNat_Int, Int.reduceToNat, scal_ii, scal_in, scal_ni, scal_nn, scal_bb, scal_ss, scal_sn, scal_ns, scal_bn, scal_nb, ite_iff, decide_eq_true_eq, decide_eq_false_iff_not, Bool.not_eq_true', Classical.not_not, ne_eq, not_false_eq_true, not_true_eq_false, forall_const, true_implies, false_implies, imp_self, sizeLine_eq, Nat.reduceLeDiff, reduceCtorEq, decide_true, decide_false]; exact r)) (fun j σ' H' => ∃ dv z9 z10 z11, σ' = [some (V.ref p), some (V.ref g), some (V.ref c), some (V.int a), some (V.int d), some (V.int i), some (V.int x), some (V.int y), some dv, z9, z10, z11] ∧ Same H8 H' ∧
      ((dv = .non ∧ ∀ j' : Nat, j' < j → ∀ u, colR b rows u j' = mv (colR b rows) (-x) (-y) u j') ∨ ∃ q u v, dv = .ref q ∧ P2 H' q u v ∧ Lst (colR b rows) (mv (colR b rows) (-x) (-y)) u v)) ⟨_, _, _, _, rfl, fun _ _ h => h, .inl ⟨rfl, fun j' h => absurd h (by omega)⟩⟩ ?_ ?_
    · rintro j _ H9 hj ⟨dv, z9, z10, z11, rfl, s9, I⟩
      simp only [exists_and_left, S_eq, tD1, rTupN, rAddZ, rSlZ, rIxZ, rInZ, rIntZ, rStrZ, rLenZ, rRepZ, tJoinZ, tJoinG, rCntZ, rTupG, rAll, rMax2, rMin2, tSl, tPart, tNoPart, rSlLN, rSlG, gUnlN, tYes, rLenS, rRepN, unset, calmS, cx_K, Value.ref.injEq, HO.xd.injEq, lk0, tSeq, tPar3, tPar, tCons, tNil, tVar, tC, tAsg, gName, gCons, gNil, gTupN, gSub, tOp, rI, rI0, rU, tTest, rNe, rEq, rIxTN, rIxLN, rLenL, rLenT, rIntI, rIntB, rAbs, rSetLN, tTruL, tRaiseX, rIsTy, rIsOw, ixN0, ixN1, tRet, tIf, tIfS, tNext, tBreak, tCont, tDrop, tTupN, tLstN, tUn, tCB, tCall, tNot, tAnd, tOr, tB, tAndV, tOrV, tNotV, tChain, tApp, LamX.tLam, tRevLN, rCatN, rInTN, rInLN, flatV, inV, List.all_cons, List.all_nil, List.any_cons, List.any_nil, Bool.and_self, Bool.and_true, if_true, Bool.false_eq_true, if_false, tMt, tFldN, tSto, HO.ins.injEq, lkh, List.drop_zero, List.drop_succ_cons, List.drop_nil, rListS, wipe, L2.start, List.map_cons, List.map_nil, List.length_cons, List.length_nil, List.replicate, List.cons_append, List.nil_append, List.append_nil, Nat.reduceAdd, Nat.reduceSub, Nat.zero_add, List.replicate_succ, List.replicate_zero, List.getElem?_cons_zero, List.getElem?_cons_succ, List.set_cons_zero, List.set_cons_succ, Option.some.injEq, V.int.injEq, V.bl.injEq, V.ref.injEq, V.str.injEq, V.ty.injEq, List.cons.injEq, HO.tup.injEq, HO.lst.injEq, and_true, true_and, and_assoc, exists_eq_left, exists_eq_left', exists_and_left, exists_eq', atI0, atI1, atI2, atI3, Int.cast_ofNat_Int, Int.reduceToNat, scal_ii, scal_in, scal_ni, scal_nn, scal_bb, scal_ss, scal_sn, scal_ns, scal_bn, scal_nb, ite_iff, decide_eq_true_eq, decide_eq_false_iff_not, Bool.not_eq_true', Classical.not_not, ne_eq, not_false_eq_true, not_true_eq_false, forall_const, true_implies, false_implies, imp_self, sizeLine_eq, Nat.reduceLeDiff, reduceCtorEq, decide_true, decide_false]
      have D9 := D8.same s9
      have bnd : ∀ (i z : Int), 0 ≤ i → i ≤ 144 → z.natAbs < 2 ^ 8 → i.natAbs < 2 ^ 2000 ∧ (i + z).natAbs < 2 ^ 2000 := fun i z i0 i1 hz => ⟨pow_small (m := 10) (by omega) (by decide), pow_small (m := 10) (by omega) (by decide)⟩
      have eqc : ∀ u : Int, colI b rows u j = colI b rows (u + x) (j + y) ↔ colR b rows u j = mv (colR b rows) (-x) (-y) u j := fun u => by
        have := (C.fig_at (b := b) u j).1; have := (C.fig_at (b := b) (u + x) (j + y)).1
        unfold colI mv
        rw [show u - -x = u + x by omega, show (j : Int) - -y = j + y by omega]
        omega
      refine st_lcR1F a (by omega) (fun R r => (by simp only [exists_and_left, S_eq, tD1, rTupN, rAddZ, rSlZ, rIxZ, rInZ, rIntZ, rStrZ, rLenZ, rRepZ, tJoinZ, tJoinG, rCntZ, rTupG, rAll, rMax2, rMin2, tSl, tPart, tNoPart, rSlLN, rSlG, gUnlN, tYes, rLenS, rRepN, unset, calmS, cx_K, Value.ref.injEq, HO.xd.injEq, lk0, tSeq, tPar3, tPar, tCons, tNil, tVar, tC, tAsg, gName, gCons, gNil, gTupN, gSub, tOp, rI, rI0, rU, tTest, rNe, rEq, rIxTN, rIxLN, rLenL, rLenT, rIntI, rIntB, rAbs, rSetLN, tTruL, tRaiseX, rIsTy, rIsOw, ixN0, ixN1, tRet, tIf, tIfS, tNext, tBreak, tCont, tDrop, tTupN, tLstN, tUn, tCB, tCall, tNot, tAnd, tOr, tB, tAndV, tOrV, tNotV, tChain, tApp, LamX.tLam, tRevLN, rCatN, rInTN, rInLN, flatV, inV, List.all_cons, List.all_nil, List.any_cons, List.any_nil, Bool.and_self, Bool.and_true, if_true, Bool.false_eq_true, if_false, tMt, tFldN, tSto, HO.ins.injEq, lkh, List.drop_zero, List.drop_succ_cons, List.drop_nil, rListS, wipe, L2.start, List.map_cons, List.map_nil, List.length_cons, List.length_nil, List.replicate, List.cons_append, List.nil_append, List.append_nil, Nat.reduceAdd, Nat.reduceSub, Nat.zero_add, List.replicate_succ, List.replicate_zero, List.getElem?_cons_zero, List.getElem?_cons_succ, List.set_cons_zero, List.set_cons_succ, Option.some.injEq, V.int.injEq, V.bl.injEq, V.ref.injEq, V.str.injEq, V.ty.injEq, List.cons.injEq, HO.tup.injEq, HO.lst.injEq, and_true, true_and, and_assoc, exists_eq_left, exists_eq_left', exists_and_left, exists_eq', atI0, atI1, atI2, atI3, Int.cast_ofNat_Int, Int.reduceToNat, scal_ii, scal_in, scal_ni, scal_nn, scal_bb, scal_ss, scal_sn, scal_ns, scal_bn, scal_nb, ite_iff, decide_eq_true_eq, decide_eq_false_iff_not, Bool.not_eq_true', Classical.not_not, ne_eq, not_false_eq_true, not_true_eq_false, forall_const, true_implies, false_implies, imp_self, sizeLine_eq, Nat.reduceLeDiff, reduceCtorEq, decide_true, decide_false]; exact r)) (by rw [sizeLine_eq]; omega) (fun u => !decide (colR b rows u j = mv (colR b rows) (-x) (-y) u j)) V.int (fun u H10 A B u0 u1 s10 hA hB => ?_) (fun L H10 nL s10 h10 => ?_)
      · simp only [spColT, exists_and_left, S_eq, tD1, rTupN, rAddZ, rSlZ, rIxZ, rInZ, rIntZ, rStrZ, rLenZ, rRepZ, tJoinZ, tJoinG, rCntZ, rTupG, rAll, rMax2, rMin2, tSl, tPart, tNoPart, rSlLN, rSlG, gUnlN, tYes, rLenS, rRepN, unset, calmS, cx_K, Value.ref.injEq, HO.xd.injEq, lk0, tSeq, tPar3, tPar, tCons, tNil, tVar, tC, tAsg, gName, gCons, gNil, gTupN, gSub, tOp, rI, rI0, rU, tTest, rNe, rEq, rIxTN, rIxLN, rLenL, rLenT, rIntI, rIntB, rAbs, rSetLN, tTruL, tRaiseX, rIsTy, rIsOw, ixN0, ixN1, tRet, tIf, tIfS, tNext, tBreak, tCont, tDrop, tTupN, tLstN, tUn, tCB, tCall, tNot, tAnd, tOr, tB, tAndV, tOrV, tNotV, tChain, tApp, LamX.tLam, tRevLN, rCatN, rInTN, rInLN, flatV, inV, List.all_cons, List.all_nil, List.any_cons, List.any_nil, Bool.and_self, Bool.and_true, if_true, Bool.false_eq_true, if_false, tMt, tFldN, tSto, HO.ins.injEq, lkh, List.drop_zero, List.drop_succ_cons, List.drop_nil, rListS, wipe, L2.start, List.map_cons, List.map_nil, List.length_cons, List.length_nil, List.replicate, List.cons_append, List.nil_append, List.append_nil, Nat.reduceAdd, Nat.reduceSub, Nat.zero_add, List.replicate_succ, List.replicate_zero, List.getElem?_cons_zero, List.getElem?_cons_succ, List.set_cons_zero, List.set_cons_succ, Option.some.injEq, V.int.injEq, V.bl.injEq, V.ref.injEq, V.str.injEq, V.ty.injEq, List.cons.injEq, HO.tup.injEq, HO.lst.injEq, and_true, true_and, and_assoc, exists_eq_left, exists_eq_left', exists_and_left, exists_eq', atI0, atI1, atI2, atI3, Int.cast_ofNat_Int, Int.reduceToNat, scal_ii, scal_in, scal_ni, scal_nn, scal_bb, scal_ss, scal_sn, scal_ns, scal_bn, scal_nb, ite_iff, decide_eq_true_eq, decide_eq_false_iff_not, Bool.not_eq_true', Classical.not_not, ne_eq, not_false_eq_true, not_true_eq_false, forall_const, true_implies, false_implies, imp_self, sizeLine_eq, Nat.reduceLeDiff, reduceCtorEq, decide_true, decide_false]
        refine ⟨t, l, a, b, d, rows, D9.same s10, C, (bnd u x u0 (by omega) xb).1, (bnd j y (by omega) (by omega) yb).1, fun H11 s11 => ⟨t, l, a, b, d, rows, (D9.same s10).same s11, C, (bnd u x u0 (by omega) xb).2, (bnd j y (by omega) (by omega) yb).2, fun H12 s12 => ⟨fun ne => hB (by simpa using fun e => ne ((eqc u).mpr e)) H12 (s11.trans s12), fun eq => hA (by simpa using (eqc u).mp eq) H12 (s11.trans s12)⟩⟩⟩
      · intro E2 H11 _ s11 h11
        have s811 : Same H8 H11 := (s9.trans s10).trans s11
        have keep : (∃ q u v, dv = .ref q ∧ P2 H9 q u v ∧ Lst (colR b rows) (mv (colR b rows) (-x) (-y)) u v) → ∃ q, dv = .ref q ∧ ∃ u v, P2 H11 q u v ∧ Lst (colR b rows) (mv (colR b rows) (-x) (-y)) u v := fun ⟨q, u, v, e, h, L⟩ => ⟨q, e, u, v, s11 _ _ (s10 _ _ h), L⟩
        rcases first_ints (fun u => !decide (colR b rows u j = mv (colR b rows) (-x) (-y) u j)) 0 a with ⟨u, r2, e2, pu, u0, u1, lu⟩ | ⟨e2, no⟩
        · rw [e2] at h10
          have h10' := s11 _ _ h10
          refine ne_ints (ns := u :: r2) (ms := []) h10' h11 ⟨_, rfl, fun _ => ⟨fun dn => ?_, fun dn => ?_⟩, fun e => absurd (by rfl) e⟩
          · refine ⟨L, rfl, _, h10', _, atI0, ?_⟩
            intro q H12 _ s12 h12
            refine ⟨s811.trans s12, .inr ⟨q, rfl, u, j, h12, u0, by omega, by simpa using pu, fun w w0 w1 => by simpa using lu w w0 w1, fun v v0 v1 w => ?_⟩⟩
            obtain ⟨m, rfl⟩ := Int.eq_ofNat_of_zero_le v0
            rcases I with ⟨_, e⟩ | ⟨q, _, _, e, _⟩
            · exact e m (by omega) w
            · rw [dn] at e; cases e
          · rcases I with ⟨e, _⟩ | I
            · exact absurd e dn
            · exact ⟨s811, .inr (keep I)⟩
        · rw [e2] at h10
          refine ne_ints (ns := []) (ms := []) (s11 _ _ h10) h11 ⟨_, rfl, fun e => (by cases e), fun _ => ⟨s811, ?_⟩⟩
          rcases I with ⟨dn, e⟩ | I
          · refine .inl ⟨dn, fun j' hj' w => ?_⟩
            by_cases c1 : j' = j
            · subst c1
              exact one_per (f := fun w => colR b rows w j') (g := fun w => mv (colR b rows) (-x) (-y) w j') a1 (fun w => R1.row j' w) (fun w => M1.row j' w) (fun m hm => by simpa using no m (by omega) (by omega)) w
            · exact e j' (by omega) w
          · exact .inr (keep I)
    · rintro _ H9 ⟨dv, z9, z10, z11, rfl, s9, I⟩
      rw [Int.toNat_natCast] at I
      simp only [exists_and_left, S_eq, tD1, rTupN, rAddZ, rSlZ, rIxZ, rInZ, rIntZ, rStrZ, rLenZ, rRepZ, tJoinZ, tJoinG, rCntZ, rTupG, rAll, rMax2, rMin2, tSl, tPart, tNoPart, rSlLN, rSlG, gUnlN, tYes, rLenS, rRepN, unset, calmS, cx_K, Value.ref.injEq, HO.xd.injEq, lk0, tSeq, tPar3, tPar, tCons, tNil, tVar, tC, tAsg, gName, gCons, gNil, gTupN, gSub, tOp, rI, rI0, rU, tTest, rNe, rEq, rIxTN, rIxLN, rLenL, rLenT, rIntI, rIntB, rAbs, rSetLN, tTruL, tRaiseX, rIsTy, rIsOw, ixN0, ixN1, tRet, tIf, tIfS, tNext, tBreak, tCont, tDrop, tTupN, tLstN, tUn, tCB, tCall, tNot, tAnd, tOr, tB, tAndV, tOrV, tNotV, tChain, tApp, LamX.tLam, tRevLN, rCatN, rInTN, rInLN, flatV, inV, List.all_cons, List.all_nil, List.any_cons, List.any_nil, Bool.and_self, Bool.and_true, if_true, Bool.false_eq_true, if_false, tMt, tFldN, tSto, HO.ins.injEq, lkh, List.drop_zero, List.drop_succ_cons, List.drop_nil, rListS, wipe, L2.start, List.map_cons, List.map_nil, List.length_cons, List.length_nil, List.replicate, List.cons_append, List.nil_append, List.append_nil, Nat.reduceAdd, Nat.reduceSub, Nat.zero_add, List.replicate_succ, List.replicate_zero, List.getElem?_cons_zero, List.getElem?_cons_succ, List.set_cons_zero, List.set_cons_succ, Option.some.injEq, V.int.injEq, V.bl.injEq, V.ref.injEq, V.str.injEq, V.ty.injEq, List.cons.injEq, HO.tup.injEq, HO.lst.injEq, and_true, true_and, and_assoc, exists_eq_left, exists_eq_left', exists_and_left, exists_eq', atI0, atI1, atI2, atI3, Int.cast_ofNat_Int, Int.reduceToNat, scal_ii, scal_in, scal_ni, scal_nn, scal_bb, scal_ss, scal_sn, scal_ns, scal_bn, scal_nb, ite_iff, decide_eq_true_eq, decide_eq_false_iff_not, Bool.not_eq_true', Classical.not_not, ne_eq, not_false_eq_true, not_true_eq_false, forall_const, true_implies, false_implies, imp_self, sizeLine_eq, Nat.reduceLeDiff, reduceCtorEq, decide_true, decide_false]
      have C9 := C8'.same s9
      obtain ⟨dx, x1, x2, x3, x4, x5, hc⟩ := C9.ins
      have e20 : (10 : Int) ^ 20 = 100000000000000000000 := rfl
      have sh : mv (colR b rows) (-(x + 10 ^ 20 * (a : Int))) (-y) = mv (colR b rows) (-x) (-y) := by
        have h1 := M1.smul (-(10 ^ 20))
        rw [Int.mul_zero] at h1
        have h2 := mv_eq.mpr h1
        rw [mv_mv, Int.add_zero, show -x + -(10 ^ 20) * (a : Int) = -(x + 10 ^ 20 * (a : Int)) by omega] at h2
        exact h2
      have perI : ∀ {u z : Int}, mv (colR b rows) (-u) (-z) = colR b rows ↔ Per (colR b rows) u z := fun {u z} => by
        rw [mv_eq]
        constructor
        · intro h; have := h.neg; rwa [Int.neg_neg, Int.neg_neg] at this
        · exact fun h => h.neg
      have b1 : x.natAbs < 2 ^ 900 := pow_small xb (by decide)
      have b2 : y.natAbs < 2 ^ 900 := pow_small yb (by decide)
      have b3 : (x + 10 ^ 20 * (a : Int)).natAbs < 2 ^ 900 := pow_small (m := 80) (by rw [e20]; omega) (by decide)
      intro q1 G1 _ r1 g1
      have fin : ∀ {G G' : Hp}, Same H9 G' → Po G' p ∧ StpP p H G' ∧ Carp K G' c a b d rows := fun s => ⟨P8.same (s9.trans s), T8.trans (StpP.of (s9.trans s)), C9.same s⟩
      rcases I with ⟨rfl, all⟩ | ⟨q, u, v, rfl, hq, Lq⟩
      · have eqC : colR b rows = mv (colR b rows) (-x) (-y) := same_latt a1 d1 R1 R2 M1 M2 all
        refine break_at (C9.same r1) g1 b1 b2 (fun _ G2 r2 => ?_) (fun u v t' G2 r2 L _ => absurd eqC L.unlike)
        refine ne_sameN .non .non (ShN.non (n := 0)) ⟨_, rfl, fun e => (by cases e), fun _ => ?_⟩
        refine ⟨_, _, r2 _ _ (r1 _ _ hc), lkCno, ?_⟩
        intro q3 G3 _ r3 g3
        have r13 := (r1.trans r2).trans r3
        refine isper_at (C9.same r13) g3 (pow_small xb (by decide)) (pow_small yb (by decide)) fun r0 G4 r4 hr0 => ?_
        obtain rfl : r0 = true := hr0.mpr (perI.mp eqC.symm)
        refine ⟨rfl, fun e => absurd (by simp) e, fun _ => ⟨⟨by decide, by decide, by decide⟩, wide_mul (a := 80) (b := 10) (by decide) (by omega) (by decide) (by decide) (by decide), ?_⟩⟩
        intro q5 G5 _ r5 g5
        have r15 := (r13.trans r4).trans r5
        refine break_at (C9.same r15) g5 b3 b2 (fun _ G6 r6 => ?_) (fun u v t' G6 r6 L _ => absurd (eqC.trans sh.symm) L.unlike)
        exact ne_sameN .non .non (ShN.non (n := 0)) ⟨_, rfl, fun e => (by cases e), fun _ => fin (G := G6) (r15.trans r6)⟩
      · have noP : ¬ Per (colR b rows) x y := fun P => absurd (perI.mpr P).symm Lq.unlike
        refine break_at (C9.same r1) g1 b1 b2 (fun P => absurd P noP) (fun u' v' t' G2 r2 L h2 => ?_)
        obtain ⟨rfl, rfl⟩ := L.uniq Lq
        refine ne_sameN h2.dp (P2.dp (r2 _ _ (r1 _ _ hq))) (sh_P2 (n := 0)) ⟨_, rfl, fun e => (by cases e), fun _ => ?_⟩
        refine ⟨_, _, r2 _ _ (r1 _ _ hc), lkCno, ?_⟩
        intro q3 G3 _ r3 g3
        have r13 := (r1.trans r2).trans r3
        refine isper_at (C9.same r13) g3 (pow_small xb (by decide)) (pow_small yb (by decide)) fun r0 G4 r4 hr0 => ?_
        obtain rfl : r0 = false := by
          cases r0 with
          | false => rfl
          | true => exact absurd (hr0.mp rfl) noP
        refine ⟨rfl, fun e => absurd (by simp) e, fun _ => ⟨⟨by decide, by decide, by decide⟩, wide_mul (a := 80) (b := 10) (by decide) (by omega) (by decide) (by decide) (by decide), ?_⟩⟩
        intro q5 G5 _ r5 g5
        have r15 := (r13.trans r4).trans r5
        refine break_at (C9.same r15) g5 b3 b2 (fun P => absurd (sh.symm.trans (perI.mpr P)).symm Lq.unlike) (fun u' v' t' G6 r6 L h6 => ?_)
        rw [sh] at L
        obtain ⟨rfl, rfl⟩ := L.uniq Lq
        exact ne_sameN h6.dp (P2.dp (r6 _ _ (r15 _ _ hq))) (sh_P2 (n := 0)) ⟨_, rfl, fun e => (by cases e), fun _ => fin (G := G6) (r15.trans r6)⟩
  · rintro _ H2 ⟨y5, y6, y7, y8, y9, y10, y11, rfl, P2', t2, C2⟩
    simp only [exists_and_left, S_eq, tD1, rTupN, rAddZ, rSlZ, rIxZ, rInZ, rIntZ, rStrZ, rLenZ, rRepZ, tJoinZ, tJoinG, rCntZ, rTupG, rAll, rMax2, rMin2, tSl, tPart, tNoPart, rSlLN, rSlG, gUnlN, tYes, rLenS, rRepN, unset, calmS, cx_K, Value.ref.injEq, HO.xd.injEq, lk0, tSeq, tPar3, tPar, tCons, tNil, tVar, tC, tAsg, gName, gCons, gNil, gTupN, gSub, tOp, rI, rI0, rU, tTest, rNe, rEq, rIxTN, rIxLN, rLenL, rLenT, rIntI, rIntB, rAbs, rSetLN, tTruL, tRaiseX, rIsTy, rIsOw, ixN0, ixN1, tRet, tIf, tIfS, tNext, tBreak, tCont, tDrop, tTupN, tLstN, tUn, tCB, tCall, tNot, tAnd, tOr, tB, tAndV, tOrV, tNotV, tChain, tApp, LamX.tLam, tRevLN, rCatN, rInTN, rInLN, flatV, inV, List.all_cons, List.all_nil, List.any_cons, List.any_nil, Bool.and_self, Bool.and_true, if_true, Bool.false_eq_true, if_false, tMt, tFldN, tSto, HO.ins.injEq, lkh, List.drop_zero, List.drop_succ_cons, List.drop_nil, rListS, wipe, L2.start, List.map_cons, List.map_nil, List.length_cons, List.length_nil, List.replicate, List.cons_append, List.nil_append, List.append_nil, Nat.reduceAdd, Nat.reduceSub, Nat.zero_add, List.replicate_succ, List.replicate_zero, List.getElem?_cons_zero, List.getElem?_cons_succ, List.set_cons_zero, List.set_cons_succ, Option.some.injEq, V.int.injEq, V.bl.injEq, V.ref.injEq, V.str.injEq, V.ty.injEq, List.cons.injEq, HO.tup.injEq, HO.lst.injEq, and_true, true_and, and_assoc, exists_eq_left, exists_eq_left', exists_and_left, exists_eq', atI0, atI1, atI2, atI3, Int.cast_ofNat_Int, Int.reduceToNat, scal_ii, scal_in, scal_ni, scal_nn, scal_bb, scal_ss, scal_sn, scal_ns, scal_bn, scal_nb, ite_iff, decide_eq_true_eq, decide_eq_false_iff_not, Bool.not_eq_true', Classical.not_not, ne_eq, not_false_eq_true, not_true_eq_false, forall_const, true_implies, false_implies, imp_self, sizeLine_eq, Nat.reduceLeDiff, reduceCtorEq, decide_true, decide_false]
    exact k H2 P2' t2

end
end Iz
/-! k12_k -/
set_option Elab.async false
set_option linter.all false
set_option maxRecDepth 100000
set_option maxHeartbeats 4000000
namespace Iz
open PySem PySem.Spec PyProof.Rows L2
open He (ga)
open SX (S S_len)
local macro_rules | `(tactic| walk_at "wp") => `(tactic| simp only [S_eq, tD1, rTupN, rAddZ, rSlZ, rIxZ, rInZ, rIntZ, rStrZ, rLenZ, rRepZ, tJoinZ, tJoinG, rCntZ, rTupG, rAll, rMax2, rMin2, tSl, tPart, tNoPart, rSlLN, rSlG, gUnlN, tYes, rLenS, rRepN, unset, calmS, cx_K, Value.ref.injEq, HO.xd.injEq, lk0, tSeq, tPar3, tPar, tCons, tNil, tVar, tC, tAsg, gName, gCons, gNil, gTupN, gSub, tOp, rI, rI0, rU, tTest, rNe, rEq, rIxTN, rIxLN, rLenL, rLenT, rIntI, rIntB, rAbs, rSetLN, tTruL, tRaiseX, rIsTy, rIsOw, ixN0, ixN1, tRet, tIf, tIfS, tNext, tBreak, tCont, tDrop, tTupN, tLstN, tUn, tCB, tCall, tNot, tAnd, tOr, tB, tAndV, tOrV, tNotV, tChain, tApp, LamX.tLam, tRevLN, rCatN, rInTN, rInLN, flatV, inV, List.all_cons, List.all_nil, List.any_cons, List.any_nil, Bool.and_self, Bool.and_true, if_true, Bool.false_eq_true, if_false, tMt, tFldN, tSto, HO.ins.injEq, lkh, List.drop_zero, List.drop_succ_cons, List.drop_nil, rListS, wipe, L2.start, List.map_cons, List.map_nil, List.length_cons, List.length_nil, List.replicate, List.cons_append, List.nil_append, List.append_nil, Nat.reduceAdd, Nat.reduceSub, Nat.zero_add, List.replicate_succ, List.replicate_zero, List.getElem?_cons_zero, List.getElem?_cons_succ, List.set_cons_zero, List.set_cons_succ, Option.some.injEq, V.int.injEq, V.bl.injEq, V.ref.injEq, V.str.injEq, V.ty.injEq, List.cons.injEq, HO.tup.injEq, HO.lst.injEq, and_true, true_and, and_assoc, exists_eq_left, exists_eq_left', exists_and_left, exists_eq', atI0, atI1, atI2, atI3, Int.cast_ofNat_Int, Int.reduceToNat, scal_ii, scal_in, scal_ni, scal_nn, scal_bb, scal_ss, scal_sn, scal_ns, scal_bn, scal_nb, ite_iff, decide_eq_true_eq, decide_eq_false_iff_not, Bool.not_eq_true', Classical.not_not, ne_eq, not_false_eq_true, not_true_eq_false, forall_const, true_implies, false_implies, imp_self, sizeLine_eq, Nat.reduceLeDiff, reduceCtorEq, decide_true, decide_false])
section
variable {P : Program} {w : World} {K : PySem.W.Frag} {mg : Str → Option Value} {base : Heap}
/-! ### what is refused -/
open LamX
def qn_law : Str := (("law" : Str) ++ ".<locals>.") ++ "<lambda>"
abbrev Tb1 (K : PySem.W.Frag) : List (Addr × Str) := [(pOf K "law", qn_law)]
theorem hu_law : ∀ q ∈ Tb1 K, q.1 = pOf K "law" → q.2 = qn_law := by
  intro q hq e
  rw [List.mem_singleton.mp hq]
/-- what _law_refused makes of an error -/
def RefQ (K : PySem.W.Frag) (Q : VK) : XK := fun cls d H' => ∃ dd, d = some dd ∧ ((cls = .ref (ga K "BadPart") ∧ ∃ v, H' dd = some (.xd [("part", v)]) ∧ News H' (.lst [.str "part", v]) Q) ∨ (cls = .ref (ga K "BadNumber") ∧ ∃ v z, H' dd = some (.xd [("number", v)]) ∧ ReprV v z ∧ News H' (.lst [.str "number", .str z]) Q) ∨
  (cls = .ref (ga K "BadIndex") ∧ ∃ v z, H' dd = some (.xd [("index", v)]) ∧ ReprV v z ∧ News H' (.lst [.str "index", .str z]) Q) ∨ (cls = .ref (ga K "TooMany") ∧ ∃ v, H' dd = some (.xd [("limit", v)]) ∧ News H' (.lst [.str "many", v]) Q))
def TTr (K : PySem.W.Frag) : (XK → Hp → VK → Prop) → Hp → VK → Prop := fun tl H Q => tl (RefQ K Q) H fun _ H' => News H' (.lst [.str "none"]) Q
theorem refused_gives {X : Cx} {g : Addr} {cdg : Value} {q : Str} (T : Txt X.K X.mg) : GivesTo X ["_law_call", "e"] "_law_refused" (defScope s__law_refused) g cdg (defBody s__law_refused) "_law_call" q (TTr X.K) := by
  intro f c' s H Q tl act hc h
  refine ⟨_, pss_cons (ps_try_named (X := (cxOf C8.CX0 X.prog X.w X.K X.mg X.base ["_law_call", "e"] "_law_refused" (defScope s__law_refused) g cdg X.A X.stack s H C8.E0).nox)
    (tb := fun W D σ H => ∃ Ech : XK, (∀ cls d σ' H', Ech cls d H' → W cls d σ' H') ∧ σ[0]? = some (some (.ref f)) ∧ H c' = some (CodeO c' q) ∧ tl Ech H fun _ H1 => D.nx σ H1)
    sc__law_refused.nd (fun W pn xe tk _ => ?_)
    (.cons (q := (.ref (ga X.K "BadPart"), 1, fun a cls d => _)) ⟨rfl, rfl, ⟨rfl, by decide, .inl T.x_BadPart.g⟩, fun a oe cls d pn hz hf => pss_len (n := 2) (pss_one (ps_ret (pe_lstN (pa_cons pe_str (pa_cons (pe_xf T.x_BadPart.xf T.x_BadPart.no hz hf (pv 1)) pa_nil))))) rfl⟩
      (.cons (q := (.ref (ga X.K "BadNumber"), 1, fun a cls d => _)) ⟨rfl, rfl, ⟨rfl, by decide, .inl T.x_BadNumber.g⟩, fun a oe cls d pn hz hf => pss_len (n := 2) (pss_one (ps_ret (pe_lstN (pa_cons pe_str (pa_cons (pe_callB call_reprN (by rfl) T.m_repr (by decide +kernel) (pa_cons (pe_xf T.x_BadNumber.xf T.x_BadNumber.no hz hf (pv 1)) pa_nil)) pa_nil))))) rfl⟩
        (.cons (q := (.ref (ga X.K "BadIndex"), 1, fun a cls d => _)) ⟨rfl, rfl, ⟨rfl, by decide, .inl T.x_BadIndex.g⟩, fun a oe cls d pn hz hf => pss_len (n := 2) (pss_one (ps_ret (pe_lstN (pa_cons pe_str (pa_cons (pe_callB call_reprN (by rfl) T.m_repr (by decide +kernel) (pa_cons (pe_xf T.x_BadIndex.xf T.x_BadIndex.no hz hf (pv 1)) pa_nil)) pa_nil))))) rfl⟩
          (.cons (q := (.ref (ga X.K "NotSo"), 1, fun _ _ _ _ _ _ => False)) ⟨rfl, rfl, ⟨rfl, by decide, .inl T.gS⟩, fun _ _ _ _ _ _ _ => pss_one ps_never⟩
            (.cons (q := (.ref (ga X.K "TooMany"), 1, fun a cls d => _)) ⟨rfl, rfl, ⟨rfl, by decide, .inl T.x_TooMany.g⟩, fun a oe cls d pn hz hf => pss_len (n := 2) (pss_one (ps_ret (pe_lstN (pa_cons pe_str (pa_cons (pe_xf T.x_TooMany.xf T.x_TooMany.no hz hf (pv 1)) pa_nil))))) rfl⟩ .nil))))))
    (pss_one (ps_ret (pe_lstN (pa_cons pe_str pa_nil)))), ?_⟩
  · refine ⟨fun pins s' σ H' D I h' => ?_⟩
    obtain ⟨Ech, hW, h1, h2, h3⟩ := h'
    exact (pss_one (ps_expr (act W pn xe Ech _ _ tk hW))).run pins s' σ H' D I ⟨h1, h2, h3⟩
  · refine ⟨RefQ X.K Q, fun cls d σ' H' hh => ?_, rfl, hc, ?_⟩
    · obtain ⟨dd, rfl, ⟨rfl, v, hd, n⟩ | ⟨rfl, v, z, hd, hz, n⟩ | ⟨rfl, v, z, hd, hz, n⟩ | ⟨rfl, v, hd, n⟩⟩ := hh
      · refine ⟨true, T.mPP, fun _ a ha hlen => ?_, fun z => nomatch z⟩
        rw [List.length_set] at hlen
        have hs1 : (σ'.set 1 (some (V.ref a)))[1]? = some (some (V.ref a)) := by simp [hlen]
        simp only [rIsX, tXf, hs1, hd, exists_and_left, unset, S_eq, tD1, rTupN, rAddZ, rSlZ, rIxZ, rInZ, rIntZ, rStrZ, rLenZ, rRepZ, tJoinZ, tJoinG, rCntZ, rTupG, rAll, rMax2, rMin2, tSl, tPart, tNoPart, rSlLN, rSlG, gUnlN, tYes, rLenS, rRepN, unset, calmS, cx_K, Value.ref.injEq, HO.xd.injEq, lk0, tSeq, tPar3, tPar, tCons, tNil, tVar, tC, tAsg, gName, gCons, gNil, gTupN, gSub, tOp, rI, rI0, rU, tTest, rNe, rEq, rIxTN, rIxLN, rLenL, rLenT, rIntI, rIntB, rAbs, rSetLN, tTruL, tRaiseX, rIsTy, rIsOw, ixN0, ixN1, tRet, tIf, tIfS, tNext, tBreak, tCont, tDrop, tTupN, tLstN, tUn, tCB, tCall, tNot, tAnd, tOr, tB, tAndV, tOrV, tNotV, tChain, tApp, LamX.tLam, tRevLN, rCatN, rInTN, rInLN, flatV, inV, List.all_cons, List.all_nil, List.any_cons, List.any_nil, Bool.and_self, Bool.and_true, if_true, Bool.false_eq_true, if_false, tMt, tFldN, tSto, HO.ins.injEq, lkh, List.drop_zero, List.drop_succ_cons, List.drop_nil, rListS, wipe, L2.start, List.map_cons, List.map_nil, List.length_cons, List.length_nil, List.replicate, List.cons_append, List.nil_append, List.append_nil, Nat.reduceAdd, Nat.reduceSub, Nat.zero_add, List.replicate_succ, List.replicate_zero, List.getElem?_cons_zero, List.getElem?_cons_succ, List.set_cons_zero, List.set_cons_succ, Option.some.injEq, V.int.injEq, V.bl.injEq, V.ref.injEq, V.str.injEq, V.ty.injEq, List.cons.injEq, HO.tup.injEq, HO.lst.injEq, and_true, true_and, and_assoc, exists_eq_left, exists_eq_left', exists_and_left, exists_eq', atI0, atI1, atI2, atI3, Int.cast_ofNat_Int, Int.reduceToNat, scal_ii, scal_in, scal_ni, scal_nn, scal_bb, scal_ss, scal_sn, scal_ns, scal_bn, scal_nb, ite_iff, decide_eq_true_eq, decide_eq_false_iff_not, Bool.not_eq_true', Classical.not_not, ne_eq, not_false_eq_true, not_true_eq_false, forall_const, true_implies, false_implies, imp_self, sizeLine_eq, Nat.reduceLeDiff, reduceCtorEq, decide_true, decide_false]
        exact n
      · refine ⟨false, T.mNP, (fun z => nomatch z), fun _ => ⟨true, T.mNN, fun _ a ha hlen => ?_, fun z => nomatch z⟩⟩
        rw [List.length_set] at hlen
        have hs1 : (σ'.set 1 (some (V.ref a)))[1]? = some (some (V.ref a)) := by simp [hlen]
        simp only [rIsX, tXf, rRepr, hs1, hd, exists_and_left, unset, S_eq, tD1, rTupN, rAddZ, rSlZ, rIxZ, rInZ, rIntZ, rStrZ, rLenZ, rRepZ, tJoinZ, tJoinG, rCntZ, rTupG, rAll, rMax2, rMin2, tSl, tPart, tNoPart, rSlLN, rSlG, gUnlN, tYes, rLenS, rRepN, unset, calmS, cx_K, Value.ref.injEq, HO.xd.injEq, lk0, tSeq, tPar3, tPar, tCons, tNil, tVar, tC, tAsg, gName, gCons, gNil, gTupN, gSub, tOp, rI, rI0, rU, tTest, rNe, rEq, rIxTN, rIxLN, rLenL, rLenT, rIntI, rIntB, rAbs, rSetLN, tTruL, tRaiseX, rIsTy, rIsOw, ixN0, ixN1, tRet, tIf, tIfS, tNext, tBreak, tCont, tDrop, tTupN, tLstN, tUn, tCB, tCall, tNot, tAnd, tOr, tB, tAndV, tOrV, tNotV, tChain, tApp, LamX.tLam, tRevLN, rCatN, rInTN, rInLN, flatV, inV, List.all_cons, List.all_nil, List.any_cons, List.any_nil, Bool.and_self, Bool.and_true, if_true, Bool.false_eq_true, if_false, tMt, tFldN, tSto, HO.ins.injEq, lkh, List.drop_zero, List.drop_succ_cons, List.drop_nil, rListS, wipe, L2.start, List.map_cons, List.map_nil, List.length_cons, List.length_nil, List.replicate, List.cons_append, List.nil_append, List.append_nil, Nat.reduceAdd, Nat.reduceSub, Nat.zero_add, List.replicate_succ, List.replicate_zero, List.getElem?_cons_zero, List.getElem?_cons_succ, List.set_cons_zero, List.set_cons_succ, Option.some.injEq, V.int.injEq, V.bl.injEq, V.ref.injEq, V.str.injEq, V.ty.injEq, List.cons.injEq, HO.tup.injEq, HO.lst.injEq, and_true, true_and, and_assoc, exists_eq_left, exists_eq_left', exists_and_left, exists_eq', atI0, atI1, atI2, atI3, Int.cast_ofNat_Int, Int.reduceToNat, scal_ii, scal_in, scal_ni, scal_nn, scal_bb, scal_ss, scal_sn, scal_ns, scal_bn, scal_nb, ite_iff, decide_eq_true_eq, decide_eq_false_iff_not, Bool.not_eq_true', Classical.not_not, ne_eq, not_false_eq_true, not_true_eq_false, forall_const, true_implies, false_implies, imp_self, sizeLine_eq, Nat.reduceLeDiff, reduceCtorEq, decide_true, decide_false]
        exact ⟨z, hz, n⟩
      · refine ⟨false, T.mIP, (fun z => nomatch z), fun _ => ⟨false, T.mIN, (fun z => nomatch z), fun _ => ⟨true, T.mII, fun _ a ha hlen => ?_, fun z => nomatch z⟩⟩⟩
        rw [List.length_set] at hlen
        have hs1 : (σ'.set 1 (some (V.ref a)))[1]? = some (some (V.ref a)) := by simp [hlen]
        simp only [rIsX, tXf, rRepr, hs1, hd, exists_and_left, unset, S_eq, tD1, rTupN, rAddZ, rSlZ, rIxZ, rInZ, rIntZ, rStrZ, rLenZ, rRepZ, tJoinZ, tJoinG, rCntZ, rTupG, rAll, rMax2, rMin2, tSl, tPart, tNoPart, rSlLN, rSlG, gUnlN, tYes, rLenS, rRepN, unset, calmS, cx_K, Value.ref.injEq, HO.xd.injEq, lk0, tSeq, tPar3, tPar, tCons, tNil, tVar, tC, tAsg, gName, gCons, gNil, gTupN, gSub, tOp, rI, rI0, rU, tTest, rNe, rEq, rIxTN, rIxLN, rLenL, rLenT, rIntI, rIntB, rAbs, rSetLN, tTruL, tRaiseX, rIsTy, rIsOw, ixN0, ixN1, tRet, tIf, tIfS, tNext, tBreak, tCont, tDrop, tTupN, tLstN, tUn, tCB, tCall, tNot, tAnd, tOr, tB, tAndV, tOrV, tNotV, tChain, tApp, LamX.tLam, tRevLN, rCatN, rInTN, rInLN, flatV, inV, List.all_cons, List.all_nil, List.any_cons, List.any_nil, Bool.and_self, Bool.and_true, if_true, Bool.false_eq_true, if_false, tMt, tFldN, tSto, HO.ins.injEq, lkh, List.drop_zero, List.drop_succ_cons, List.drop_nil, rListS, wipe, L2.start, List.map_cons, List.map_nil, List.length_cons, List.length_nil, List.replicate, List.cons_append, List.nil_append, List.append_nil, Nat.reduceAdd, Nat.reduceSub, Nat.zero_add, List.replicate_succ, List.replicate_zero, List.getElem?_cons_zero, List.getElem?_cons_succ, List.set_cons_zero, List.set_cons_succ, Option.some.injEq, V.int.injEq, V.bl.injEq, V.ref.injEq, V.str.injEq, V.ty.injEq, List.cons.injEq, HO.tup.injEq, HO.lst.injEq, and_true, true_and, and_assoc, exists_eq_left, exists_eq_left', exists_and_left, exists_eq', atI0, atI1, atI2, atI3, Int.cast_ofNat_Int, Int.reduceToNat, scal_ii, scal_in, scal_ni, scal_nn, scal_bb, scal_ss, scal_sn, scal_ns, scal_bn, scal_nb, ite_iff, decide_eq_true_eq, decide_eq_false_iff_not, Bool.not_eq_true', Classical.not_not, ne_eq, not_false_eq_true, not_true_eq_false, forall_const, true_implies, false_implies, imp_self, sizeLine_eq, Nat.reduceLeDiff, reduceCtorEq, decide_true, decide_false]
        exact ⟨z, hz, n⟩
      · refine ⟨false, T.mMP, (fun z => nomatch z), fun _ => ⟨false, T.mMN, (fun z => nomatch z), fun _ => ⟨false, T.mMI, (fun z => nomatch z), fun _ => ⟨false, T.mMS, (fun z => nomatch z), fun _ => ⟨true, T.mMM, fun _ a ha hlen => ?_, fun z => nomatch z⟩⟩⟩⟩⟩
        rw [List.length_set] at hlen
        have hs1 : (σ'.set 1 (some (V.ref a)))[1]? = some (some (V.ref a)) := by simp [hlen]
        simp only [rIsX, tXf, hs1, hd, exists_and_left, unset, S_eq, tD1, rTupN, rAddZ, rSlZ, rIxZ, rInZ, rIntZ, rStrZ, rLenZ, rRepZ, tJoinZ, tJoinG, rCntZ, rTupG, rAll, rMax2, rMin2, tSl, tPart, tNoPart, rSlLN, rSlG, gUnlN, tYes, rLenS, rRepN, unset, calmS, cx_K, Value.ref.injEq, HO.xd.injEq, lk0, tSeq, tPar3, tPar, tCons, tNil, tVar, tC, tAsg, gName, gCons, gNil, gTupN, gSub, tOp, rI, rI0, rU, tTest, rNe, rEq, rIxTN, rIxLN, rLenL, rLenT, rIntI, rIntB, rAbs, rSetLN, tTruL, tRaiseX, rIsTy, rIsOw, ixN0, ixN1, tRet, tIf, tIfS, tNext, tBreak, tCont, tDrop, tTupN, tLstN, tUn, tCB, tCall, tNot, tAnd, tOr, tB, tAndV, tOrV, tNotV, tChain, tApp, LamX.tLam, tRevLN, rCatN, rInTN, rInLN, flatV, inV, List.all_cons, List.all_nil, List.any_cons, List.any_nil, Bool.and_self, Bool.and_true, if_true, Bool.false_eq_true, if_false, tMt, tFldN, tSto, HO.ins.injEq, lkh, List.drop_zero, List.drop_succ_cons, List.drop_nil, rListS, wipe, L2.start, List.map_cons, List.map_nil, List.length_cons, List.length_nil, List.replicate, List.cons_append, List.nil_append, List.append_nil, Nat.reduceAdd, Nat.reduceSub, Nat.zero_add, List.replicate_succ, List.replicate_zero, List.getElem?_cons_zero, List.getElem?_cons_succ, List.set_cons_zero, List.set_cons_succ, Option.some.injEq, V.int.injEq, V.bl.injEq, V.ref.injEq, V.str.injEq, V.ty.injEq, List.cons.injEq, HO.tup.injEq, HO.lst.injEq, and_true, true_and, and_assoc, exists_eq_left, exists_eq_left', exists_and_left, exists_eq', atI0, atI1, atI2, atI3, Int.cast_ofNat_Int, Int.reduceToNat, scal_ii, scal_in, scal_ni, scal_nn, scal_bb, scal_ss, scal_sn, scal_ns, scal_bn, scal_nb, ite_iff, decide_eq_true_eq, decide_eq_false_iff_not, Bool.not_eq_true', Classical.not_not, ne_eq, not_false_eq_true, not_true_eq_false, forall_const, true_implies, false_implies, imp_self, sizeLine_eq, Nat.reduceLeDiff, reduceCtorEq, decide_true, decide_false]
        exact n
    · simp only [exists_and_left, S_eq, tD1, rTupN, rAddZ, rSlZ, rIxZ, rInZ, rIntZ, rStrZ, rLenZ, rRepZ, tJoinZ, tJoinG, rCntZ, rTupG, rAll, rMax2, rMin2, tSl, tPart, tNoPart, rSlLN, rSlG, gUnlN, tYes, rLenS, rRepN, unset, calmS, cx_K, Value.ref.injEq, HO.xd.injEq, lk0, tSeq, tPar3, tPar, tCons, tNil, tVar, tC, tAsg, gName, gCons, gNil, gTupN, gSub, tOp, rI, rI0, rU, tTest, rNe, rEq, rIxTN, rIxLN, rLenL, rLenT, rIntI, rIntB, rAbs, rSetLN, tTruL, tRaiseX, rIsTy, rIsOw, ixN0, ixN1, tRet, tIf, tIfS, tNext, tBreak, tCont, tDrop, tTupN, tLstN, tUn, tCB, tCall, tNot, tAnd, tOr, tB, tAndV, tOrV, tNotV, tChain, tApp, LamX.tLam, tRevLN, rCatN, rInTN, rInLN, flatV, inV, List.all_cons, List.all_nil, List.any_cons, List.any_nil, Bool.and_self, Bool.and_true, if_true, Bool.false_eq_true, if_false, tMt, tFldN, tSto, HO.ins.injEq, lkh, List.drop_zero, List.drop_succ_cons, List.drop_nil, rListS, wipe, L2.start, List.map_cons, List.map_nil, List.length_cons, List.length_nil, List.replicate, List.cons_append, List.nil_append, List.append_nil, Nat.reduceAdd, Nat.reduceSub, Nat.zero_add, List.replicate_succ, List.replicate_zero, List.getElem?_cons_zero, List.getElem?_cons_succ, List.set_cons_zero, List.set_cons_succ, Option.some.injEq, V.int.injEq, V.bl.injEq, V.ref.injEq, V.str.injEq, V.ty.injEq, List.cons.injEq, HO.tup.injEq, HO.lst.injEq, and_true, true_and, and_assoc, exists_eq_left, exists_eq_left', exists_and_left, exists_eq', atI0, atI1, atI2, atI3, Int.cast_ofNat_Int, Int.reduceToNat, scal_ii, scal_in, scal_ni, scal_nn, scal_bb, scal_ss, scal_sn, scal_ns, scal_bn, scal_nb, ite_iff, decide_eq_true_eq, decide_eq_false_iff_not, Bool.not_eq_true', Classical.not_not, ne_eq, not_false_eq_true, not_true_eq_false, forall_const, true_implies, false_implies, imp_self, sizeLine_eq, Nat.reduceLeDiff, reduceCtorEq, decide_true, decide_false]
      exact h
section
variable {H : Hp} {v : V} {z : Str} {TT0 : List (Addr × Str)} {tl : XK → Hp → VK → Prop} {R : VK}
theorem told_part (hT : Tabs TT0 H) (hsp : ∀ H1 (Q : VK) (E : XK), ExtN H H1 → Rse K E H1 "BadPart" "part" v → tl E H1 Q)
    (k : ∀ H2 q, ExtN H H2 → Tabs TT0 H2 → H2 q = some (.lst [.str "part", v]) → R (.ref q) H2) : Tabs TT0 H ∧ ∀ H1, ExtN H H1 → Tabs TT0 H1 → TTr K tl H1 R :=
  ⟨hT, fun H1 e1 hT1 => hsp H1 _ _ e1 (fun d H' hd hs h2 => ⟨d, rfl, .inl ⟨rfl, v, h2, fun q H3 hq s3 h3 => k H3 q (e1.trans (extS (hs.trans s3))) (hT1.ext (hs.trans s3)) h3⟩⟩)⟩
theorem told_many (hT : Tabs TT0 H) (hsp : ∀ H1 (Q : VK) (E : XK), ExtN H H1 → Rse K E H1 "TooMany" "limit" v → tl E H1 Q)
    (k : ∀ H2 q, ExtN H H2 → Tabs TT0 H2 → H2 q = some (.lst [.str "many", v]) → R (.ref q) H2) : Tabs TT0 H ∧ ∀ H1, ExtN H H1 → Tabs TT0 H1 → TTr K tl H1 R :=
  ⟨hT, fun H1 e1 hT1 => hsp H1 _ _ e1 (fun d H' hd hs h2 => ⟨d, rfl, .inr (.inr (.inr ⟨rfl, v, h2, fun q H3 hq s3 h3 => k H3 q (e1.trans (extS (hs.trans s3))) (hT1.ext (hs.trans s3)) h3⟩))⟩)⟩
theorem told_num (hT : Tabs TT0 H) (hz : ReprV v z) (hsp : ∀ H1 (Q : VK) (E : XK), ExtN H H1 → Rse K E H1 "BadNumber" "number" v → tl E H1 Q)
    (k : ∀ H2 q, ExtN H H2 → Tabs TT0 H2 → H2 q = some (.lst [.str "number", .str z]) → R (.ref q) H2) : Tabs TT0 H ∧ ∀ H1, ExtN H H1 → Tabs TT0 H1 → TTr K tl H1 R :=
  ⟨hT, fun H1 e1 hT1 => hsp H1 _ _ e1 (fun d H' hd hs h2 => ⟨d, rfl, .inr (.inl ⟨rfl, v, z, h2, hz, fun q H3 hq s3 h3 => k H3 q (e1.trans (extS (hs.trans s3))) (hT1.ext (hs.trans s3)) h3⟩)⟩)⟩
theorem told_idx (hT : Tabs TT0 H) (hz : ReprV v z) (hsp : ∀ H1 (Q : VK) (E : XK), ExtN H H1 → Rse K E H1 "BadIndex" "index" v → tl E H1 Q)
    (k : ∀ H2 q, ExtN H H2 → Tabs TT0 H2 → H2 q = some (.lst [.str "index", .str z]) → R (.ref q) H2) : Tabs TT0 H ∧ ∀ H1, ExtN H H1 → Tabs TT0 H1 → TTr K tl H1 R :=
  ⟨hT, fun H1 e1 hT1 => hsp H1 _ _ e1 (fun d H' hd hs h2 => ⟨d, rfl, .inr (.inr (.inl ⟨rfl, v, z, h2, hz, fun q H3 hq s3 h3 => k H3 q (e1.trans (extS (hs.trans s3))) (hT1.ext (hs.trans s3)) h3⟩))⟩)⟩
end

end
end Iz
/-! k12_l -/
set_option Elab.async false
set_option linter.all false
set_option maxRecDepth 100000
set_option maxHeartbeats 4000000
namespace Iz
open PySem PySem.Spec PyProof.Rows L2
open He (ga)
open SX (S S_len)
local macro_rules | `(tactic| walk_at "wp") => `(tactic| simp only [S_eq, tD1, rTupN, rAddZ, rSlZ, rIxZ, rInZ, rIntZ, rStrZ, rLenZ, rRepZ, tJoinZ, tJoinG, rCntZ, rTupG, rAll, rMax2, rMin2, tSl, tPart, tNoPart, rSlLN, rSlG, gUnlN, tYes, rLenS, rRepN, unset, calmS, cx_K, Value.ref.injEq, HO.xd.injEq, lk0, tSeq, tPar3, tPar, tCons, tNil, tVar, tC, tAsg, gName, gCons, gNil, gTupN, gSub, tOp, rI, rI0, rU, tTest, rNe, rEq, rIxTN, rIxLN, rLenL, rLenT, rIntI, rIntB, rAbs, rSetLN, tTruL, tRaiseX, rIsTy, rIsOw, ixN0, ixN1, tRet, tIf, tIfS, tNext, tBreak, tCont, tDrop, tTupN, tLstN, tUn, tCB, tCall, tNot, tAnd, tOr, tB, tAndV, tOrV, tNotV, tChain, tApp, LamX.tLam, tRevLN, rCatN, rInTN, rInLN, flatV, inV, List.all_cons, List.all_nil, List.any_cons, List.any_nil, Bool.and_self, Bool.and_true, if_true, Bool.false_eq_true, if_false, tMt, tFldN, tSto, HO.ins.injEq, lkh, List.drop_zero, List.drop_succ_cons, List.drop_nil, rListS, wipe, L2.start, List.map_cons, List.map_nil, List.length_cons, List.length_nil, List.replicate, List.cons_append, List.nil_append, List.append_nil, Nat.reduceAdd, Nat.reduceSub, Nat.zero_add, List.replicate_succ, List.replicate_zero, List.getElem?_cons_zero, List.getElem?_cons_succ, List.set_cons_zero, List.set_cons_succ, Option.some.injEq, V.int.injEq, V.bl.injEq, V.ref.injEq, V.str.injEq, V.ty.injEq, List.cons.injEq, HO.tup.injEq, HO.lst.injEq, and_true, true_and, and_assoc, exists_eq_left, exists_eq_left', exists_and_left, exists_eq', atI0, atI1, atI2, atI3, Int.cast_ofNat_Int, Int.reduceToNat, scal_ii, scal_in, scal_ni, scal_nn, scal_bb, scal_ss, scal_sn, scal_ns, scal_bn, scal_nb, ite_iff, decide_eq_true_eq, decide_eq_false_iff_not, Bool.not_eq_true', Classical.not_not, ne_eq, not_false_eq_true, not_true_eq_false, forall_const, true_implies, false_implies, imp_self, sizeLine_eq, Nat.reduceLeDiff, reduceCtorEq, decide_true, decide_false])
section
variable {P : Program} {w : World} {K : PySem.W.Frag} {mg : Str → Option Value} {base : Heap}
open LamX
/-- an error as told, and as it should be -/
theorem ne_l2 {H : Hp} {p q : Addr} {x y : Str} {R : VK} (h1 : H p = some (.lst [.str x, .str y])) (h2 : H q = some (.lst [.str x, .str y])) (ox : PyData.strOk x = true) (oy : PyData.strOk y = true) (r : R (.bl false) H) : rNeD K (.ref p) (.ref q) H R :=
  ne_sameN (dp_l2 h1) (dp_l2 h2) (sh_l2 (n := 0) ox oy) r
theorem Tabs.stpP {T : List (Addr × Str)} {a : Addr} {H H' : Hp} (hT : Tabs T H) (hP : Po H a) (e : StpP a H H') : Tabs T H' := by
  intro p hp
  obtain ⟨ps, h1, h2, h3⟩ := hT p hp
  refine ⟨ps, e.at hP h1 (fun g s z => by cases z), h2, fun pos cv hcv => ?_⟩
  obtain ⟨c0, e1, e2⟩ := h3 pos cv hcv
  exact ⟨c0, e1, e.at hP e2 (fun g s z => by unfold CodeO at z; cases z)⟩
/-- a turn of the law: what stood before stands, the pool is new -/
structure LP (K : PySem.W.Frag) (H0 H : Hp) (a : Addr) : Prop where
  P : Po H a
  n : ∀ b o, H0 b = some o → (∀ ps, o ≠ .tbl ps) → b ≠ a
  E : ExtN H0 H
  hT : Tabs (Tb1 K) H
section
variable {H0 H H' : Hp} {a : Addr}
theorem LP.same (x : LP K H0 H a) (s : Same H H') : LP K H0 H' a := ⟨x.P.same s, x.n, x.E.trans (extS s), Tabs.ext x.hT s⟩
theorem LP.stp (x : LP K H0 H a) (P : Po H' a) (s : StpP a H H') : LP K H0 H' a := ⟨P, x.n, fun b o h n => s b o (x.E b o h n) (x.n b o h n), Tabs.stpP x.hT x.P s⟩
theorem LP.put {L : Addr} {xs ys : List V} (x : LP K H0 H a) (hL : H L = some (.lst xs)) (nL : L ≠ a) (f : ∀ b o, H0 b = some o → (∀ ps, o ≠ .tbl ps) → b ≠ L) (p : Put H H' L (.lst ys)) : LP K H0 H' a :=
  ⟨by obtain ⟨g, n, h⟩ := x.P; exact ⟨g, n, by rw [p.2 _ nL.symm]; exact h⟩, x.n, fun b o h n => by rw [p.2 b (f b o h n)]; exact x.E b o h n, Tabs.put x.hT hL p⟩
theorem LP.ext (x : LP K H0 H a) (e : ExtN H H') (hT : Tabs (Tb1 K) H') : LP K H0 H' a := ⟨let ⟨g, n, h⟩ := x.P; ⟨g, n, extL e h⟩, x.n, x.E.trans e, hT⟩
end
/-- the drawn carpet stands by, told and made -/
structure LS (K : PySem.W.Frag) (H0 H : Hp) (p g t l c : Addr) (a : Nat) (b : Int) (d : Nat) (rows : List (List Nat)) : Prop where
  W : LP K H0 H p
  D : TD H g t l a b d rows
  C : Carp K H c a b d rows
section
variable {H0 H H' : Hp} {p g t l c : Addr} {a d : Nat} {b : Int} {rows : List (List Nat)}
theorem LS.same (x : LS K H0 H p g t l c a b d rows) (s : Same H H') : LS K H0 H' p g t l c a b d rows := ⟨x.W.same s, x.D.same s, x.C.same s⟩
theorem LS.stp (x : LS K H0 H p g t l c a b d rows) (P : Po H' p) (s : StpP p H H') : LS K H0 H' p g t l c a b d rows := ⟨x.W.stp P s, x.D.stp x.W.P s, x.C.kp (Kp.stp x.W.P s)⟩
theorem LS.ext (x : LS K H0 H p g t l c a b d rows) (e : ExtN H H') (hT : Tabs (Tb1 K) H') : LS K H0 H' p g t l c a b d rows := ⟨x.W.ext e hT, ⟨extL e x.D.g, extL e x.D.t, extL e x.D.l⟩, x.C.kp (Kp.ext e)⟩
end
theorem sr_ne {H : Hp} {q R : Addr} {x y : Str} {b : Addr} {ys : List V} (h : H q = some (.lst [.str x, .str y])) (k : H R = some (.lst (.ref b :: ys))) : q ≠ R := fun z => by subst z; rw [h] at k; cases k
theorem sh_3 {x y : Str} (hx : PyData.strOk x = true) (hy : PyData.strOk y = true) : ShN 2 (.list [.list [.str x, .str y], .list [.str x, .str y], .list [.str x, .str y]]) := ShN.list (n := 1) fun d h => by
  simp only [List.mem_cons, List.not_mem_nil, or_false] at h
  rcases h with rfl | rfl | rfl <;> exact sh_l2 (n := 0) hx hy
theorem S_lits : S [112, 97, 114, 116] = ("part" : Str) ∧ S [115, 104, 105, 102, 116] = ("shift" : Str) := by decide +kernel
theorem lit_ok : PyData.strOk "part" = true ∧ PyData.strOk "shift" = true ∧ PyData.strOk "carpet" = true := by decide +kernel
/-- a told carpet, near another one -/
def Fm (C0 : Int → Int → Nat) (H : Hp) (x : V) : Prop := ∃ g t l a b d rows, x = .ref g ∧ TD H g t l a b d rows ∧ CT a b d rows ∧ Near C0 (colR b rows) 40
theorem Fm.same {C0 : Int → Int → Nat} {H H' : Hp} {x : V} (f : Fm C0 H x) (s : Same H H') : Fm C0 H' x := let ⟨g, t, l, a, b, d, rows, e, D, r⟩ := f; ⟨g, t, l, a, b, d, rows, e, D.same s, r⟩
theorem Fm.stp {C0 : Int → Int → Nat} {H H' : Hp} {x : V} {p : Addr} (f : Fm C0 H x) (P : Po H p) (s : StpP p H H') : Fm C0 H' x := let ⟨g, t, l, a, b, d, rows, e, D, r⟩ := f; ⟨g, t, l, a, b, d, rows, e, D.stp P s, r⟩
theorem LS.put {H0 H H' : Hp} {p g t l c L : Addr} {a d : Nat} {b : Int} {rows : List (List Nat)} {xs ys : List V} (x : LS K H0 H p g t l c a b d rows) (hL : H L = some (.lst xs)) (nL : L ≠ p) (f : ∀ b o, H0 b = some o → (∀ ps, o ≠ .tbl ps) → b ≠ L) (ng : g ≠ L ∧ t ≠ L ∧ l ≠ L) (q : Put H H' L (.lst ys)) : LS K H0 H' p g t l c a b d rows :=
  ⟨x.W.put hL nL f q, ⟨q.other x.D.g ng.1, q.other x.D.t ng.2.1, q.other x.D.l ng.2.2⟩, x.C.kp (Kp.put hL q)⟩
theorem LS.na {H0 H : Hp} {p g t l c R : Addr} {a d : Nat} {b : Int} {rows : List (List Nat)} (x : LS K H0 H p g t l c a b d rows) (hR : H R = none) : R ≠ p ∧ (∀ b o, H0 b = some o → (∀ ps, o ≠ .tbl ps) → b ≠ R) ∧ g ≠ R ∧ t ≠ R ∧ l ≠ R :=
  ⟨(let ⟨_, _, z⟩ := x.W.P; (ne_of_none z hR).symm), fun b o h m => ne_of_none (x.W.E b o h m) hR, ne_of_none x.D.g hR, ne_of_none x.D.t hR, ne_of_none x.D.l hR⟩
theorem sh_22 {x y : Str} (hx : PyData.strOk x = true) (hy : PyData.strOk y = true) : ShN 2 (.list [.list [.str x, .str y], .list [.str x, .str y]]) := ShN.list (n := 1) fun d h => by
  simp only [List.mem_cons, List.not_mem_nil, or_false] at h
  rcases h with rfl | rfl <;> exact sh_l2 (n := 0) hx hy
def spLaw (K : PySem.W.Frag) : Sp := fun vs H Q _ => ∃ sc, vs = [.ref sc] ∧ ∃ ns : List Int, SqL K H sc (ns.map V.int) ∧ ns.length ≤ 63 ∧ Tabs (Tb1 K) H ∧ ∀ H', Q (.bl true) H'
theorem o_law (T : Txt K mg) (TB : TabB base mg (cOf K "law") (pOf K "law")) (f : Addr) (A : Around) (outer : List Env) (s : Shared) (H : Hp) (vs : List V) (Q : VK) (E : XK) (hr : Room 13 (A.deeper (envOfC "law" (defScope s_law) s.heap.objs.size f (.ref (cOf K "law"))))) (h : (spLaw K) vs H Q E) : ∃ t, PSs (cxOf (L2.CX P w) P w K mg base ["_law_script", "_law_k", "_law_pool", "_law_three_here", "_law_told", "_law_others", "_law_other", "_law_rows_here", "_law_carpet", "_law_odd"] "law" (defScope s_law) f (.ref (cOf K "law")) A outer s H E) (defBody s_law) t ∧ t { nx := fun _ H' => Q .non H', rt := Q } (L2.start ["_law_script", "_law_k", "_law_pool", "_law_three_here", "_law_told", "_law_others", "_law_other", "_law_rows_here", "_law_carpet", "_law_odd"] vs) H := by
  have o__law_opened := o__law_opened (P := P) (w := w) (base := base) T
  have o__law_three := o__law_three (P := P) (w := w) (base := base) T
  have o__law_pick := o__law_pick (P := P) (w := w) (base := base) T
  have o__law_rows := o__law_rows (P := P) (w := w) (base := base) T
  have o__law_coarser := o__law_coarser (P := P) (w := w) (base := base) T
  have o__law_bent := o__law_bent (P := P) (w := w) (base := base) T
  have o__law_made := o__law_made (P := P) (w := w) (base := base) T
  have o__law_pair_right := o__law_pair_right (P := P) (w := w) (base := base) T
  have o__law_breaking_right := o__law_breaking_right (P := P) (w := w) (base := base) T
  have o_parting_cell := o_parting_cell (P := P) (w := w) (base := base) T
  have o_breaking_cell := o_breaking_cell (P := P) (w := w) (base := base) T
  have o_Carpet_is_period := o_Carpet_is_period (P := P) (w := w) (base := base) T
  have hu64 := hr.units
  refine ⟨_, pss_cons (ps_for (passes_of rfl) rfl (pi_range1 rfl T.m_range (pa_cons (pe_callB (call_max2N rfl) (by rfl) T.m_max (by decide +kernel) (pa_cons (pe_int) (pa_cons (pe_callB (call_min2N rfl) (by rfl) T.m_min (by decide +kernel) (pa_cons (pe_int) (pa_cons (pe_callB call_lenS (by rfl) T.m_len (by decide +kernel) (pa_cons (pv 0) pa_nil)) pa_nil))) pa_nil))) pa_nil)) (pg_name (i := 1) sc_law.nd rfl (Or.inl rfl)) (pss_cons (ps_set (i := 2) sc_law.nd rfl (Or.inl rfl) (pcl o__law_opened (hr.mono (by decide)) pass0 (pa_cons (pv 0) (pa_cons (pv 1) pa_nil))))
      (pss_cons (ps_set (i := 3) sc_law.nd rfl (Or.inl rfl) (pcl o__law_three (hr.mono (by decide)) pass0 (pa_cons (pv 2) (pa_cons (pcl o__law_pick (hr.mono (by decide)) pass0 (pa_cons (pv 2) (pa_cons (pe_lstN (pa_cons (pe_int) (pa_cons (pe_int) (pa_cons (pe_int) pa_nil)))) pa_nil))) pa_nil))))
      (pss_cons (ps_set (i := 4) sc_law.nd rfl (Or.inl rfl) (pe_lstN (pa_cons (pv 3) (pa_cons (pcl o__law_rows (hr.mono (by decide)) pass0 (pa_cons (pv 2) (pa_cons (pv 3) pa_nil))) pa_nil))))
      (pss_cons (ps_set (i := 5) sc_law.nd rfl (Or.inl rfl) (pe_lstN (pa_cons (pv 4) (pa_cons (pcl o__law_coarser (hr.mono (by decide)) pass0 (pa_cons (pv 2) (pa_cons (pv 4) pa_nil))) (pa_cons (pcl o__law_bent (hr.mono (by decide)) pass0 (pa_cons (pv 2) (pa_cons (pv 4) pa_nil))) (pa_cons (pcl o__law_bent (hr.mono (by decide)) pass0 (pa_cons (pv 2) (pa_cons (pcl o__law_coarser (hr.mono (by decide)) pass0 (pa_cons (pv 2) (pa_cons (pv 4) pa_nil))) pa_nil))) pa_nil))))))
      (pss_cons (ps_set (i := 3) sc_law.nd rfl (Or.inl rfl) (pcl o__law_three (hr.mono (by decide)) pass0 (pa_cons (pv 2) (pa_cons (pe_int) pa_nil))))
      (pss_cons (ps_for (passes_of rfl) rfl (pi_list (pe_op op_catN (pv 5) (pe_lstN (pa_cons (pe_lstN (pa_cons (pv 3) (pa_cons (pcl o__law_rows (hr.mono (by decide)) pass0 (pa_cons (pv 2) (pa_cons (pv 3) pa_nil))) pa_nil))) pa_nil)))) (pg_name (i := 6) sc_law.nd rfl (Or.inl rfl)) (pss_one (ps_if (PW.pt (pw_or (pt_not (pt_val (pcl o__law_pair_right (hr.mono (by decide)) passE (pa_cons (pv 4) (pa_cons (pv 6) pa_nil))))) (pw_or1 (pt_not (pt_val (pcl o__law_breaking_right (hr.mono (by decide)) passE (pa_cons (pv 2) (pa_cons (pv 6) pa_nil)))))))) (pss_one (ps_ret (pe_bl))) (pss_nil))))
      (pss_cons (ps_set (i := 8) sc_law.nd rfl (Or.inr rfl) (pcl o__law_made (hr.mono (by decide)) passE (pa_cons (pv 4) pa_nil)))
      (pss_cons (ps_for (passes_of rfl) rfl (pi_list (pe_lstN (pa_cons (pe_non) (pa_cons (pe_int) (pa_cons (pv 4) (pa_cons (pe_str) pa_nil)))))) (pg_name (i := 9) sc_law.nd rfl (Or.inr rfl)) (pss_cons (ps_set (i := 7) sc_law.nd rfl (Or.inl rfl) (pe_lstN (pa_cons (plamT (k := 10) (qn := qn_law) (TS := (Tb1 K)) T.d__law_refused sc__law_refused (fun _ _ _ _ _ _ us hl => match us, hl with | [_], _ => rfl) (fun g cdg => refused_gives T) (.head _) hu_law TB rfl rfl (hr.mono (by decide)) (by show lamSB (defScope s_law) _ = true; decide +kernel) (fun A outer s H E f c hr2 => by exact (pcl o_parting_cell (hr2.mono (by decide)) passLam (pa_cons (pv 9) (pa_cons (pv 8) pa_nil))))) pa_nil)))
      (pss_cons (ps_expr (pe_appN (pv 7) (pa_cons (plamT (k := 10) (qn := qn_law) (TS := (Tb1 K)) T.d__law_refused sc__law_refused (fun _ _ _ _ _ _ us hl => match us, hl with | [_], _ => rfl) (fun g cdg => refused_gives T) (.head _) hu_law TB rfl rfl (hr.mono (by decide)) (by show lamSB (defScope s_law) _ = true; decide +kernel) (fun A outer s H E f c hr2 => by exact (pcl o_parting_cell (hr2.mono (by decide)) passLam (pa_cons (pv 8) (pa_cons (pv 9) pa_nil))))) pa_nil)))
      (pss_cons (ps_expr (pe_appN (pv 7) (pa_cons (plamT (k := 10) (qn := qn_law) (TS := (Tb1 K)) T.d__law_refused sc__law_refused (fun _ _ _ _ _ _ us hl => match us, hl with | [_], _ => rfl) (fun g cdg => refused_gives T) (.head _) hu_law TB rfl rfl (hr.mono (by decide)) (by show lamSB (defScope s_law) _ = true; decide +kernel) (fun A outer s H E f c hr2 => by exact (pcl o_breaking_cell (hr2.mono (by decide)) passLam (pa_cons (pv 9) (pa_cons (pe_non) pa_nil))))) pa_nil)))
      (pss_one (ps_if (pt_cmpR (op_neDk (K := K) rfl hu64) (pv 7) (pe_op op_repN (pe_lstN (pa_cons (pe_lstN (pa_cons (pe_str) (pa_cons (pe_str) pa_nil))) pa_nil)) (pe_int)) (nomark _)) (pss_one (ps_ret (pe_bl))) (pss_nil)))))))
      (pss_one (ps_for (passes_of rfl) rfl (pi_list (pe_lstN (pa_cons (pe_non) (pa_cons (pe_tupN (pa_cons (pe_int) pa_nil)) (pa_cons (pe_lstN (pa_cons (pe_int) (pa_cons (pe_int) pa_nil))) (pa_cons (pe_tupN (pa_cons (pe_bl) (pa_cons (pe_int) pa_nil))) (pa_cons (pe_str) pa_nil))))))) (pg_name (i := 9) sc_law.nd rfl (Or.inr rfl)) (pss_cons (ps_set (i := 7) sc_law.nd rfl (Or.inl rfl) (pe_lstN (pa_cons (plamT (k := 10) (qn := qn_law) (TS := (Tb1 K)) T.d__law_refused sc__law_refused (fun _ _ _ _ _ _ us hl => match us, hl with | [_], _ => rfl) (fun g cdg => refused_gives T) (.head _) hu_law TB rfl rfl (hr.mono (by decide)) (by show lamSB (defScope s_law) _ = true; decide +kernel) (fun A outer s H E f c hr2 => by exact (pcl o_breaking_cell (hr2.mono (by decide)) passLam (pa_cons (pv 8) (pa_cons (pv 9) pa_nil))))) pa_nil)))
      (pss_cons (ps_expr (pe_appN (pv 7) (pa_cons (plamT (k := 10) (qn := qn_law) (TS := (Tb1 K)) T.d__law_refused sc__law_refused (fun _ _ _ _ _ _ us hl => match us, hl with | [_], _ => rfl) (fun g cdg => refused_gives T) (.head _) hu_law TB rfl rfl (hr.mono (by decide)) (by show lamSB (defScope s_law) _ = true; decide +kernel) (fun A outer s H E f c hr2 => by exact (pmtK (K := K) rfl (j := 0) o_Carpet_is_period T.c_Carpet (pv 8) (by decide) (hr2.mono (by decide)) passLam (pa_cons (pv 9) pa_nil)))) pa_nil)))
      (pss_one (ps_if (pt_cmpR (op_neDk (K := K) rfl hu64) (pv 7) (pe_op op_repN (pe_lstN (pa_cons (pe_lstN (pa_cons (pe_str) (pa_cons (pe_str) pa_nil))) pa_nil)) (pe_int)) (nomark _)) (pss_one (ps_ret (pe_bl))) (pss_nil))))))))))))))))
      (pss_one (ps_ret (pe_bl))), ?_⟩
  obtain ⟨sc, rfl, ns, hsc, hns, hT, k⟩ := h
  obtain ⟨Opart, Oshift, Ocarp⟩ := lit_ok
  simp only [exists_and_left, S_eq, tD1, rTupN, rAddZ, rSlZ, rIxZ, rInZ, rIntZ, rStrZ, rLenZ, rRepZ, tJoinZ, tJoinG, rCntZ, rTupG, rAll, rMax2, rMin2, tSl, tPart, tNoPart, rSlLN, rSlG, gUnlN, tYes, rLenS, rRepN, unset, calmS, cx_K, Value.ref.injEq, HO.xd.injEq, lk0, tSeq, tPar3, tPar, tCons, tNil, tVar, tC, tAsg, gName, gCons, gNil, gTupN, gSub, tOp, rI, rI0, rU, tTest, rNe, rEq, rIxTN, rIxLN, rLenL, rLenT, rIntI, rIntB, rAbs, rSetLN, tTruL, tRaiseX, rIsTy, rIsOw, ixN0, ixN1, tRet, tIf, tIfS, tNext, tBreak, tCont, tDrop, tTupN, tLstN, tUn, tCB, tCall, tNot, tAnd, tOr, tB, tAndV, tOrV, tNotV, tChain, tApp, LamX.tLam, tRevLN, rCatN, rInTN, rInLN, flatV, inV, List.all_cons, List.all_nil, List.any_cons, List.any_nil, Bool.and_self, Bool.and_true, if_true, Bool.false_eq_true, if_false, tMt, tFldN, tSto, HO.ins.injEq, lkh, List.drop_zero, List.drop_succ_cons, List.drop_nil, rListS, wipe, L2.start, List.map_cons, List.map_nil, List.length_cons, List.length_nil, List.replicate, List.cons_append, List.nil_append, List.append_nil, Nat.reduceAdd, Nat.reduceSub, Nat.zero_add, List.replicate_succ, List.replicate_zero, List.getElem?_cons_zero, List.getElem?_cons_succ, List.set_cons_zero, List.set_cons_succ, Option.some.injEq, V.int.injEq, V.bl.injEq, V.ref.injEq, V.str.injEq, V.ty.injEq, List.cons.injEq, HO.tup.injEq, HO.lst.injEq, and_true, true_and, and_assoc, exists_eq_left, exists_eq_left', exists_and_left, exists_eq', atI0, atI1, atI2, atI3, Int.cast_ofNat_Int, Int.reduceToNat, scal_ii, scal_in, scal_ni, scal_nn, scal_bb, scal_ss, scal_sn, scal_ns, scal_bn, scal_nb, ite_iff, decide_eq_true_eq, decide_eq_false_iff_not, Bool.not_eq_true', Classical.not_not, ne_eq, not_false_eq_true, not_true_eq_false, forall_const, true_implies, false_implies, imp_self, sizeLine_eq, Nat.reduceLeDiff, reduceCtorEq, decide_true, decide_false]
  refine st_forR1 (max 1 (min 2 (ns.length : Int))) (by omega) (fun R r => ?_) (fun i σ' H' => ExtN H H' ∧ Tabs (Tb1 K) H' ∧ ∃ x1 x2 x3 x4 x5 x6 x7 x8 x9, σ' = [some (V.ref sc), x1, x2, x3, x4, x5, x6, x7, x8, x9]) ⟨ExtN.refl H, hT, _, _, _, _, _, _, _, _, _, rfl⟩ ?_ ?_
  · simp only [exists_and_left, S_eq, tD1, rTupN, rAddZ, rSlZ, rIxZ, rInZ, rIntZ, rStrZ, rLenZ, rRepZ, tJoinZ, tJoinG, rCntZ, rTupG, rAll, rMax2, rMin2, tSl, tPart, tNoPart, rSlLN, rSlG, gUnlN, tYes, rLenS, rRepN, unset, calmS, cx_K, Value.ref.injEq, HO.xd.injEq, lk0, tSeq, tPar3, tPar, tCons, tNil, tVar, tC, tAsg, gName, gCons, gNil, gTupN, gSub, tOp, rI, rI0, rU, tTest, rNe, rEq, rIxTN, rIxLN, rLenL, rLenT, rIntI, rIntB, rAbs, rSetLN, tTruL, tRaiseX, rIsTy, rIsOw, ixN0, ixN1, tRet, tIf, tIfS, tNext, tBreak, tCont, tDrop, tTupN, tLstN, tUn, tCB, tCall, tNot, tAnd, tOr, tB, tAndV, tOrV, tNotV, tChain, tApp, LamX.tLam, tRevLN, rCatN, rInTN, rInLN, flatV, inV, List.all_cons, List.all_nil, List.any_cons, List.any_nil, Bool.and_self, Bool.and_true, if_true, Bool.false_eq_true, if_false, tMt, tFldN, tSto, HO.ins.injEq, lkh, List.drop_zero, List.drop_succ_cons, List.drop_nil, rListS, wipe, L2.start, List.map_cons, List.map_nil, List.length_cons, List.length_nil, List.replicate, List.cons_append, List.nil_append, List.append_nil, Nat.reduceAdd, Nat.reduceSub, Nat.zero_add, List.replicate_succ, List.replicate_zero, List.getElem?_cons_zero, List.getElem?_cons_succ, List.set_cons_zero, List.set_cons_succ, Option.some.injEq, V.int.injEq, V.bl.injEq, V.ref.injEq, V.str.injEq, V.ty.injEq, List.cons.injEq, HO.tup.injEq, HO.lst.injEq, and_true, true_and, and_assoc, exists_eq_left, exists_eq_left', exists_and_left, exists_eq', atI0, atI1, atI2, atI3, Int.cast_ofNat_Int, Int.reduceToNat, scal_ii, scal_in, scal_ni, scal_nn, scal_bb, scal_ss, scal_sn, scal_ns, scal_bn, scal_nb, ite_iff, decide_eq_true_eq, decide_eq_false_iff_not, Bool.not_eq_true', Classical.not_not, ne_eq, not_false_eq_true, not_true_eq_false, forall_const, true_implies, false_implies, imp_self, sizeLine_eq, Nat.reduceLeDiff, reduceCtorEq, decide_true, decide_false]
    exact ⟨_, hsc, by simpa using r⟩
  · rintro i _ H3 hi ⟨E3, T3', x1, x2, x3, x4, x5, x6, x7, x8, x9, rfl⟩
    simp only [spOpened, exists_and_left, S_eq, tD1, rTupN, rAddZ, rSlZ, rIxZ, rInZ, rIntZ, rStrZ, rLenZ, rRepZ, tJoinZ, tJoinG, rCntZ, rTupG, rAll, rMax2, rMin2, tSl, tPart, tNoPart, rSlLN, rSlG, gUnlN, tYes, rLenS, rRepN, unset, calmS, cx_K, Value.ref.injEq, HO.xd.injEq, lk0, tSeq, tPar3, tPar, tCons, tNil, tVar, tC, tAsg, gName, gCons, gNil, gTupN, gSub, tOp, rI, rI0, rU, tTest, rNe, rEq, rIxTN, rIxLN, rLenL, rLenT, rIntI, rIntB, rAbs, rSetLN, tTruL, tRaiseX, rIsTy, rIsOw, ixN0, ixN1, tRet, tIf, tIfS, tNext, tBreak, tCont, tDrop, tTupN, tLstN, tUn, tCB, tCall, tNot, tAnd, tOr, tB, tAndV, tOrV, tNotV, tChain, tApp, LamX.tLam, tRevLN, rCatN, rInTN, rInLN, flatV, inV, List.all_cons, List.all_nil, List.any_cons, List.any_nil, Bool.and_self, Bool.and_true, if_true, Bool.false_eq_true, if_false, tMt, tFldN, tSto, HO.ins.injEq, lkh, List.drop_zero, List.drop_succ_cons, List.drop_nil, rListS, wipe, L2.start, List.map_cons, List.map_nil, List.length_cons, List.length_nil, List.replicate, List.cons_append, List.nil_append, List.append_nil, Nat.reduceAdd, Nat.reduceSub, Nat.zero_add, List.replicate_succ, List.replicate_zero, List.getElem?_cons_zero, List.getElem?_cons_succ, List.set_cons_zero, List.set_cons_succ, Option.some.injEq, V.int.injEq, V.bl.injEq, V.ref.injEq, V.str.injEq, V.ty.injEq, List.cons.injEq, HO.tup.injEq, HO.lst.injEq, and_true, true_and, and_assoc, exists_eq_left, exists_eq_left', exists_and_left, exists_eq', atI0, atI1, atI2, atI3, Int.cast_ofNat_Int, Int.reduceToNat, scal_ii, scal_in, scal_ni, scal_nn, scal_bb, scal_ss, scal_sn, scal_ns, scal_bn, scal_nb, ite_iff, decide_eq_true_eq, decide_eq_false_iff_not, Bool.not_eq_true', Classical.not_not, ne_eq, not_false_eq_true, not_true_eq_false, forall_const, true_implies, false_implies, imp_self, sizeLine_eq, Nat.reduceLeDiff, reduceCtorEq, decide_true, decide_false]
    refine ⟨ns, sqL_ext hsc E3, by omega, by omega, fun p H4 hp s4 P4 => ?_⟩
    have W4 : LP K H H4 p := ⟨P4, fun b o h n => ne_of_none (E3 b o h n) hp, E3.trans (extS s4), Tabs.ext T3' s4⟩
    clear E3 T3' hp s4
    simp only [spPick, spThree, spRows, exists_and_left, S_eq, tD1, rTupN, rAddZ, rSlZ, rIxZ, rInZ, rIntZ, rStrZ, rLenZ, rRepZ, tJoinZ, tJoinG, rCntZ, rTupG, rAll, rMax2, rMin2, tSl, tPart, tNoPart, rSlLN, rSlG, gUnlN, tYes, rLenS, rRepN, unset, calmS, cx_K, Value.ref.injEq, HO.xd.injEq, lk0, tSeq, tPar3, tPar, tCons, tNil, tVar, tC, tAsg, gName, gCons, gNil, gTupN, gSub, tOp, rI, rI0, rU, tTest, rNe, rEq, rIxTN, rIxLN, rLenL, rLenT, rIntI, rIntB, rAbs, rSetLN, tTruL, tRaiseX, rIsTy, rIsOw, ixN0, ixN1, tRet, tIf, tIfS, tNext, tBreak, tCont, tDrop, tTupN, tLstN, tUn, tCB, tCall, tNot, tAnd, tOr, tB, tAndV, tOrV, tNotV, tChain, tApp, LamX.tLam, tRevLN, rCatN, rInTN, rInLN, flatV, inV, List.all_cons, List.all_nil, List.any_cons, List.any_nil, Bool.and_self, Bool.and_true, if_true, Bool.false_eq_true, if_false, tMt, tFldN, tSto, HO.ins.injEq, lkh, List.drop_zero, List.drop_succ_cons, List.drop_nil, rListS, wipe, L2.start, List.map_cons, List.map_nil, List.length_cons, List.length_nil, List.replicate, List.cons_append, List.nil_append, List.append_nil, Nat.reduceAdd, Nat.reduceSub, Nat.zero_add, List.replicate_succ, List.replicate_zero, List.getElem?_cons_zero, List.getElem?_cons_succ, List.set_cons_zero, List.set_cons_succ, Option.some.injEq, V.int.injEq, V.bl.injEq, V.ref.injEq, V.str.injEq, V.ty.injEq, List.cons.injEq, HO.tup.injEq, HO.lst.injEq, and_true, true_and, and_assoc, exists_eq_left, exists_eq_left', exists_and_left, exists_eq', atI0, atI1, atI2, atI3, Int.cast_ofNat_Int, Int.reduceToNat, scal_ii, scal_in, scal_ni, scal_nn, scal_bb, scal_ss, scal_sn, scal_ns, scal_bn, scal_nb, ite_iff, decide_eq_true_eq, decide_eq_false_iff_not, Bool.not_eq_true', Classical.not_not, ne_eq, not_false_eq_true, not_true_eq_false, forall_const, true_implies, false_implies, imp_self, sizeLine_eq, Nat.reduceLeDiff, reduceCtorEq, decide_true, decide_false]
    intro L H5 hL s5 h5
    have P5 := P4.same s5
    have La : L ≠ p := by obtain ⟨_, _, z⟩ := P4; exact (ne_of_none z hL).symm
    have W5 := W4.same s5
    refine ⟨L, rfl, P5, La, _, h5, by simp, by simp, fun v H6 hv P6 t6 => ?_⟩
    obtain ⟨m, rfl, m1, m6⟩ : ∃ m : Int, v = .int m ∧ 1 ≤ m ∧ m ≤ 4 := by
      simp only [List.mem_cons, List.not_mem_nil, or_false] at hv
      rcases hv with rfl | rfl | rfl <;> exact ⟨_, rfl, by decide, by decide⟩
    have W6 := W5.stp P6 t6
    clear W4 W5 P4 P5 hL s5 h5 La hv
    refine ⟨_, rfl, P6, m1, by omega, fun t w b h H7 w1 wm s0 sw h1 hm P7 t7 ht => ?_⟩
    obtain ⟨a, rfl⟩ := Int.eq_ofNat_of_zero_le (show 0 ≤ w by omega)
    obtain ⟨d, rfl⟩ := Int.eq_ofNat_of_zero_le (show 0 ≤ h by omega)
    have W7 := W6.stp P7 t7
    clear W6 P6 t6 t7
    refine ⟨P7, a, b, d, ht, by omega, by omega, by omega, by omega, fun l rows H8 P8 t8 h8 R f => ?_⟩
    have ht8 := ht.stp P7 t8
    have W8 := W7.stp P8 t8
    have a4 : a ≤ 4 := by omega
    have d4 : d ≤ 4 := by omega
    have ar : a * d ≤ 4 * 4 := Nat.mul_le_mul a4 d4
    have C0 : CT a b d rows := ⟨R, s0, sw, by omega, f⟩
    clear W7 P7 P8 t8 ht
    intro g H9 ng s9 h9
    have D9 : TD H9 g t l a b d rows := ⟨h9, s9 _ _ ht8, s9 _ _ h8⟩
    have W9 := W8.same s9
    clear W8 ht8 h8 h9 s9 ng
    have F9 : Fm (colR b rows) H9 (.ref g) := ⟨g, t, l, a, b, d, rows, rfl, D9, C0, fun _ => rfl⟩
    have latt : ∀ {a' d' : Nat} {b' : Int} {rows1 rows2 : List (List Nat)}, CT a' b' d' rows1 → colR b' rows1 = colR b rows → CT a' b' d' rows2 → d' ≤ 12 → Near (colR b rows) (colR b' rows2) 40 := fun {a' d' b' rows1 rows2} C1 e C2 dl h => by
      rw [← e]
      exact same_latt C1.R.a1 C1.R.d1 C1.R.per_a C1.R.per_bd C2.R.per_a C2.R.per_bd fun j hj x => by rw [e]; exact h j (by omega) x
    simp only [spCoarse, spBent, exists_and_left, S_eq, tD1, rTupN, rAddZ, rSlZ, rIxZ, rInZ, rIntZ, rStrZ, rLenZ, rRepZ, tJoinZ, tJoinG, rCntZ, rTupG, rAll, rMax2, rMin2, tSl, tPart, tNoPart, rSlLN, rSlG, gUnlN, tYes, rLenS, rRepN, unset, calmS, cx_K, Value.ref.injEq, HO.xd.injEq, lk0, tSeq, tPar3, tPar, tCons, tNil, tVar, tC, tAsg, gName, gCons, gNil, gTupN, gSub, tOp, rI, rI0, rU, tTest, rNe, rEq, rIxTN, rIxLN, rLenL, rLenT, rIntI, rIntB, rAbs, rSetLN, tTruL, tRaiseX, rIsTy, rIsOw, ixN0, ixN1, tRet, tIf, tIfS, tNext, tBreak, tCont, tDrop, tTupN, tLstN, tUn, tCB, tCall, tNot, tAnd, tOr, tB, tAndV, tOrV, tNotV, tChain, tApp, LamX.tLam, tRevLN, rCatN, rInTN, rInLN, flatV, inV, List.all_cons, List.all_nil, List.any_cons, List.any_nil, Bool.and_self, Bool.and_true, if_true, Bool.false_eq_true, if_false, tMt, tFldN, tSto, HO.ins.injEq, lkh, List.drop_zero, List.drop_succ_cons, List.drop_nil, rListS, wipe, L2.start, List.map_cons, List.map_nil, List.length_cons, List.length_nil, List.replicate, List.cons_append, List.nil_append, List.append_nil, Nat.reduceAdd, Nat.reduceSub, Nat.zero_add, List.replicate_succ, List.replicate_zero, List.getElem?_cons_zero, List.getElem?_cons_succ, List.set_cons_zero, List.set_cons_succ, Option.some.injEq, V.int.injEq, V.bl.injEq, V.ref.injEq, V.str.injEq, V.ty.injEq, List.cons.injEq, HO.tup.injEq, HO.lst.injEq, and_true, true_and, and_assoc, exists_eq_left, exists_eq_left', exists_and_left, exists_eq', atI0, atI1, atI2, atI3, Int.cast_ofNat_Int, Int.reduceToNat, scal_ii, scal_in, scal_ni, scal_nn, scal_bb, scal_ss, scal_sn, scal_ns, scal_bn, scal_nb, ite_iff, decide_eq_true_eq, decide_eq_false_iff_not, Bool.not_eq_true', Classical.not_not, ne_eq, not_false_eq_true, not_true_eq_false, forall_const, true_implies, false_implies, imp_self, sizeLine_eq, Nat.reduceLeDiff, reduceCtorEq, decide_true, decide_false]
    refine ⟨W9.P, t, l, a, b, d, rows, D9, C0, fun g2 t2 l2 a2 b2 d2 rows2 H10 P10 t10 D10 C2 ce2 dl2 => ?_⟩
    have F10 := F9.stp W9.P t10
    have F10b : Fm (colR b rows) H10 (.ref g2) := ⟨g2, t2, l2, a2, b2, d2, rows2, rfl, D10, C2, fun _ => ce2.symm⟩
    have D10' := D9.stp W9.P t10
    have W10 := W9.stp P10 t10
    clear W9 D9 F9 P10 t10 D10
    refine ⟨W10.P, t, l, a, b, d, rows, D10', C0, fun g3 l3 rows3 H11 P11 t11 D11 C3 => ?_⟩
    have F11 := F10.stp W10.P t11
    have F11b := F10b.stp W10.P t11
    have F11c : Fm (colR b rows) H11 (.ref g3) := ⟨g3, t, l3, a, b, d, rows3, rfl, D11, C3, latt C0 rfl C3 (by omega)⟩
    have D11' := D10'.stp W10.P t11
    have W11 := W10.stp P11 t11
    clear W10 F10 F10b P11 t11 D10' D11
    refine ⟨W11.P, t, l, a, b, d, rows, D11', C0, fun g5 t5 l5 a5 b5 d5 rows5 H12 P12 t12 D12 C5 ce5 dl5 => ?_⟩
    have F12 := F11.stp W11.P t12
    have F12b := F11b.stp W11.P t12
    have F12c := F11c.stp W11.P t12
    have D12' := D11'.stp W11.P t12
    have W12 := W11.stp P12 t12
    clear W11 F11 F11b F11c P12 t12 D11'
    refine ⟨W12.P, t5, l5, a5, b5, d5, rows5, D12, C5, fun g4 l4 rows4 H13 P13 t13 D13 C4 => ?_⟩
    have F13 := F12.stp W12.P t13
    have F13b := F12b.stp W12.P t13
    have F13c := F12c.stp W12.P t13
    have F13d : Fm (colR b rows) H13 (.ref g4) := ⟨g4, t5, l4, a5, b5, d5, rows4, rfl, D13, C4, latt C5 ce5 C4 (by omega)⟩
    have D13' := D12'.stp W12.P t13
    have W13 := W12.stp P13 t13
    clear W12 F12 F12b F12c P13 t13 D12' D12 D13
    intro M H14 nM s14 h14
    have fm : ∀ x ∈ [V.ref g, .ref g2, .ref g3, .ref g4], Fm (colR b rows) H14 x := fun x hx => by
      simp only [List.mem_cons, List.not_mem_nil, or_false] at hx
      rcases hx with rfl | rfl | rfl | rfl
      · exact F13.same s14
      · exact F13b.same s14
      · exact F13c.same s14
      · exact F13d.same s14
    have D14 := D13'.same s14
    have W14 := W13.same s14
    have Mp : M ≠ p := by obtain ⟨_, _, z⟩ := W13.P; exact (ne_of_none z nM).symm
    clear W13 F13 F13b F13c F13d D13' nM s14
    refine ⟨W14.P, by decide, by decide, fun t9 w9 b9 h9 H15 w1' wm' s0' sw' h1' hm' P15 t15 ht9 => ?_⟩
    obtain ⟨a9, rfl⟩ := Int.eq_ofNat_of_zero_le (show 0 ≤ w9 by omega)
    obtain ⟨d9, rfl⟩ := Int.eq_ofNat_of_zero_le (show 0 ≤ h9 by omega)
    have W15 := W14.stp P15 t15
    have D15 := D14.stp W14.P t15
    have h15 := t15 _ _ h14 Mp
    have fm15 : ∀ x ∈ [V.ref g, .ref g2, .ref g3, .ref g4], Fm (colR b rows) H15 x := fun x hx => (fm x hx).stp W14.P t15
    clear W14 D14 h14 fm t15
    refine for_inL ?_
    simp only [spRows, exists_and_left, S_eq, tD1, rTupN, rAddZ, rSlZ, rIxZ, rInZ, rIntZ, rStrZ, rLenZ, rRepZ, tJoinZ, tJoinG, rCntZ, rTupG, rAll, rMax2, rMin2, tSl, tPart, tNoPart, rSlLN, rSlG, gUnlN, tYes, rLenS, rRepN, unset, calmS, cx_K, Value.ref.injEq, HO.xd.injEq, lk0, tSeq, tPar3, tPar, tCons, tNil, tVar, tC, tAsg, gName, gCons, gNil, gTupN, gSub, tOp, rI, rI0, rU, tTest, rNe, rEq, rIxTN, rIxLN, rLenL, rLenT, rIntI, rIntB, rAbs, rSetLN, tTruL, tRaiseX, rIsTy, rIsOw, ixN0, ixN1, tRet, tIf, tIfS, tNext, tBreak, tCont, tDrop, tTupN, tLstN, tUn, tCB, tCall, tNot, tAnd, tOr, tB, tAndV, tOrV, tNotV, tChain, tApp, LamX.tLam, tRevLN, rCatN, rInTN, rInLN, flatV, inV, List.all_cons, List.all_nil, List.any_cons, List.any_nil, Bool.and_self, Bool.and_true, if_true, Bool.false_eq_true, if_false, tMt, tFldN, tSto, HO.ins.injEq, lkh, List.drop_zero, List.drop_succ_cons, List.drop_nil, rListS, wipe, L2.start, List.map_cons, List.map_nil, List.length_cons, List.length_nil, List.replicate, List.cons_append, List.nil_append, List.append_nil, Nat.reduceAdd, Nat.reduceSub, Nat.zero_add, List.replicate_succ, List.replicate_zero, List.getElem?_cons_zero, List.getElem?_cons_succ, List.set_cons_zero, List.set_cons_succ, Option.some.injEq, V.int.injEq, V.bl.injEq, V.ref.injEq, V.str.injEq, V.ty.injEq, List.cons.injEq, HO.tup.injEq, HO.lst.injEq, and_true, true_and, and_assoc, exists_eq_left, exists_eq_left', exists_and_left, exists_eq', atI0, atI1, atI2, atI3, Int.cast_ofNat_Int, Int.reduceToNat, scal_ii, scal_in, scal_ni, scal_nn, scal_bb, scal_ss, scal_sn, scal_ns, scal_bn, scal_nb, ite_iff, decide_eq_true_eq, decide_eq_false_iff_not, Bool.not_eq_true', Classical.not_not, ne_eq, not_false_eq_true, not_true_eq_false, forall_const, true_implies, false_implies, imp_self, sizeLine_eq, Nat.reduceLeDiff, reduceCtorEq, decide_true, decide_false]
    refine ⟨P15, a9, b9, d9, ht9, by omega, by omega, by omega, by omega, fun l9 rows9 H16 P16 t16 h16 R9 f9 => ?_⟩
    have W16 := W15.stp P16 t16
    have D16 := D15.stp W15.P t16
    have hM16 := t16 _ _ h15 Mp
    have ht16 := ht9.stp P15 t16
    have fm16 : ∀ x ∈ [V.ref g, .ref g2, .ref g3, .ref g4], Fm (colR b rows) H16 x := fun x hx => (fm15 x hx).stp W15.P t16
    have ar9 : a9 * d9 ≤ 3 * 3 := Nat.mul_le_mul (by omega) (by omega)
    have C9 : CT a9 b9 d9 rows9 := ⟨R9, s0', sw', by omega, f9⟩
    clear W15 D15 h15 fm15 t16 P15 P16 ht9
    intro g9 H17 _ s17 h17
    intro M1 H18 _ s18 h18
    have D9 : TD H18 g9 t9 l9 a9 b9 d9 rows9 := ⟨s18 _ _ h17, s18 _ _ (s17 _ _ ht16), s18 _ _ (s17 _ _ h16)⟩
    have F9 : Fm (colR b rows) H18 (.ref g9) := by
      have up : ∀ {a d : Nat} {b : Int}, 1 ≤ a → 1 ≤ d → 1 ≤ d * (a / Int.gcd a b) ∧ d * (a / Int.gcd a b) ≤ a * d := fun {a d b} a1 d1 => by
        have g1 : 0 < Int.gcd a b := Int.gcd_pos_of_ne_zero_left _ (by omega)
        have ga : Int.gcd a b ≤ a := Nat.le_of_dvd a1 (Int.natCast_dvd_natCast.mp (Int.gcd_dvd_left ..))
        exact ⟨Nat.mul_pos d1 ((Nat.one_le_div_iff g1).mpr ga), by rw [Nat.mul_comm a]; exact Nat.mul_le_mul_left _ (Nat.div_le_self ..)⟩
      obtain ⟨u1, u2⟩ := up (b := b) C0.R.a1 C0.R.d1
      obtain ⟨v1, v2⟩ := up (b := b9) C9.R.a1 C9.R.d1
      exact ⟨g9, t9, l9, a9, b9, d9, rows9, rfl, D9, C9, fun h => same_rows u1 v1 (Per.up C0.R.a1 C0.R.per_a C0.R.per_bd) (Per.up C9.R.a1 C9.R.per_a C9.R.per_bd) fun j hj => h j (by omega)⟩
    have s1618 := s17.trans s18
    refine ⟨M1, rfl, _, s1618 _ _ hM16, _, h18, by simp, ?_⟩
    intro M2 H19 nM2 s19 h19
    have M2p : M2 ≠ p := by obtain ⟨_, _, z⟩ := (W16.same s1618).P; exact (ne_of_none z nM2).symm
    have s1619 := s1618.trans s19
    have W19 := W16.same s1619
    have D19 := D16.same s1619
    have fm19 : ∀ x ∈ [V.ref g, .ref g2, .ref g3, .ref g4, .ref g9], Fm (colR b rows) H19 x := fun x hx => by
      rw [show [V.ref g, .ref g2, .ref g3, .ref g4, .ref g9] = [V.ref g, .ref g2, .ref g3, .ref g4] ++ [.ref g9] from rfl] at hx
      rcases List.mem_append.mp hx with hx | hx
      · exact (fm16 x hx).same s1619
      · rw [List.mem_singleton.mp hx]; exact F9.same s19
    clear W16 D16 hM16 ht16 fm16 s17 h17 s18 h18 D9 F9 s1618 s19 s1619 h16
    have h19 : H19 M2 = some (.lst [V.ref g, .ref g2, .ref g3, .ref g4, .ref g9]) := h19
    generalize hxs : [V.ref g, .ref g2, .ref g3, .ref g4, .ref g9] = xs at *
    refine st_forL (fun R r => r) h19 (fun j σ' H' => ∃ y6, σ' = [some (V.ref sc), some (V.int i), some (V.ref p), some (V.ref t9), some (V.ref g), some (V.ref M), y6, x7, x8, x9] ∧ LP K H H' p ∧ TD H' g t l a b d rows ∧ (∀ x ∈ xs, Fm (colR b rows) H' x) ∧ H' M2 = some (.lst xs)) ⟨_, rfl, W19, D19, fm19, h19⟩ (fun _ _ _ h => by obtain ⟨_, _, _, _, _, h⟩ := h; exact h) ?_ ?_
    · clear W19 D19 fm19 h19
      rintro j v _ G hv ⟨y6, rfl, W, D, fm, hM⟩
      obtain ⟨g', t', l', a', b', d', rows', rfl, D', C', near⟩ := fm v (List.mem_of_getElem? hv)
      simp only [exists_and_left, S_eq, tD1, rTupN, rAddZ, rSlZ, rIxZ, rInZ, rIntZ, rStrZ, rLenZ, rRepZ, tJoinZ, tJoinG, rCntZ, rTupG, rAll, rMax2, rMin2, tSl, tPart, tNoPart, rSlLN, rSlG, gUnlN, tYes, rLenS, rRepN, unset, calmS, cx_K, Value.ref.injEq, HO.xd.injEq, lk0, tSeq, tPar3, tPar, tCons, tNil, tVar, tC, tAsg, gName, gCons, gNil, gTupN, gSub, tOp, rI, rI0, rU, tTest, rNe, rEq, rIxTN, rIxLN, rLenL, rLenT, rIntI, rIntB, rAbs, rSetLN, tTruL, tRaiseX, rIsTy, rIsOw, ixN0, ixN1, tRet, tIf, tIfS, tNext, tBreak, tCont, tDrop, tTupN, tLstN, tUn, tCB, tCall, tNot, tAnd, tOr, tB, tAndV, tOrV, tNotV, tChain, tApp, LamX.tLam, tRevLN, rCatN, rInTN, rInLN, flatV, inV, List.all_cons, List.all_nil, List.any_cons, List.any_nil, Bool.and_self, Bool.and_true, if_true, Bool.false_eq_true, if_false, tMt, tFldN, tSto, HO.ins.injEq, lkh, List.drop_zero, List.drop_succ_cons, List.drop_nil, rListS, wipe, L2.start, List.map_cons, List.map_nil, List.length_cons, List.length_nil, List.replicate, List.cons_append, List.nil_append, List.append_nil, Nat.reduceAdd, Nat.reduceSub, Nat.zero_add, List.replicate_succ, List.replicate_zero, List.getElem?_cons_zero, List.getElem?_cons_succ, List.set_cons_zero, List.set_cons_succ, Option.some.injEq, V.int.injEq, V.bl.injEq, V.ref.injEq, V.str.injEq, V.ty.injEq, List.cons.injEq, HO.tup.injEq, HO.lst.injEq, and_true, true_and, and_assoc, exists_eq_left, exists_eq_left', exists_and_left, exists_eq', atI0, atI1, atI2, atI3, Int.cast_ofNat_Int, Int.reduceToNat, scal_ii, scal_in, scal_ni, scal_nn, scal_bb, scal_ss, scal_sn, scal_ns, scal_bn, scal_nb, ite_iff, decide_eq_true_eq, decide_eq_false_iff_not, Bool.not_eq_true', Classical.not_not, ne_eq, not_false_eq_true, not_true_eq_false, forall_const, true_implies, false_implies, imp_self, sizeLine_eq, Nat.reduceLeDiff, reduceCtorEq, decide_true, decide_false]
      refine ⟨g, g', rfl, t, l, a, b, d, rows, t', l', a', b', d', rows', D, C0, D', C', a4, near, fun G1 r1 => ⟨_, rfl, fun e => (by cases e), fun _ => ?_⟩⟩
      have W1 := W.same r1
      refine ⟨p, g', rfl, W1.P, t', l', a', b', d', rows', D'.same r1, C', fun G2 P2 t2 => ⟨_, rfl, fun e => (by cases e), fun _ => ?_⟩⟩
      exact ⟨W1.stp P2 t2, (D.same r1).stp W1.P t2, fun x hx => ((fm x hx).same r1).stp W1.P t2, t2 _ _ (r1 _ _ hM) M2p⟩
    · clear W19 D19 fm19 h19
      rintro _ G ⟨y6, rfl, W, D, _, _⟩
      simp only [spMade, exists_and_left, S_eq, tD1, rTupN, rAddZ, rSlZ, rIxZ, rInZ, rIntZ, rStrZ, rLenZ, rRepZ, tJoinZ, tJoinG, rCntZ, rTupG, rAll, rMax2, rMin2, tSl, tPart, tNoPart, rSlLN, rSlG, gUnlN, tYes, rLenS, rRepN, unset, calmS, cx_K, Value.ref.injEq, HO.xd.injEq, lk0, tSeq, tPar3, tPar, tCons, tNil, tVar, tC, tAsg, gName, gCons, gNil, gTupN, gSub, tOp, rI, rI0, rU, tTest, rNe, rEq, rIxTN, rIxLN, rLenL, rLenT, rIntI, rIntB, rAbs, rSetLN, tTruL, tRaiseX, rIsTy, rIsOw, ixN0, ixN1, tRet, tIf, tIfS, tNext, tBreak, tCont, tDrop, tTupN, tLstN, tUn, tCB, tCall, tNot, tAnd, tOr, tB, tAndV, tOrV, tNotV, tChain, tApp, LamX.tLam, tRevLN, rCatN, rInTN, rInLN, flatV, inV, List.all_cons, List.all_nil, List.any_cons, List.any_nil, Bool.and_self, Bool.and_true, if_true, Bool.false_eq_true, if_false, tMt, tFldN, tSto, HO.ins.injEq, lkh, List.drop_zero, List.drop_succ_cons, List.drop_nil, rListS, wipe, L2.start, List.map_cons, List.map_nil, List.length_cons, List.length_nil, List.replicate, List.cons_append, List.nil_append, List.append_nil, Nat.reduceAdd, Nat.reduceSub, Nat.zero_add, List.replicate_succ, List.replicate_zero, List.getElem?_cons_zero, List.getElem?_cons_succ, List.set_cons_zero, List.set_cons_succ, Option.some.injEq, V.int.injEq, V.bl.injEq, V.ref.injEq, V.str.injEq, V.ty.injEq, List.cons.injEq, HO.tup.injEq, HO.lst.injEq, and_true, true_and, and_assoc, exists_eq_left, exists_eq_left', exists_and_left, exists_eq', atI0, atI1, atI2, atI3, Int.cast_ofNat_Int, Int.reduceToNat, scal_ii, scal_in, scal_ni, scal_nn, scal_bb, scal_ss, scal_sn, scal_ns, scal_bn, scal_nb, ite_iff, decide_eq_true_eq, decide_eq_false_iff_not, Bool.not_eq_true', Classical.not_not, ne_eq, not_false_eq_true, not_true_eq_false, forall_const, true_implies, false_implies, imp_self, sizeLine_eq, Nat.reduceLeDiff, reduceCtorEq, decide_true, decide_false]
      refine ⟨t, l, a, b, d, rows, D, C0, fun c G1 n1 r1 Cc => ?_⟩
      have S1 : LS K H G1 p g t l c a b d rows := ⟨W.same r1, D.same r1, Cc⟩
      clear W D Cc n1 r1
      refine for_inL ?_
      simp only [exists_and_left, S_eq, tD1, rTupN, rAddZ, rSlZ, rIxZ, rInZ, rIntZ, rStrZ, rLenZ, rRepZ, tJoinZ, tJoinG, rCntZ, rTupG, rAll, rMax2, rMin2, tSl, tPart, tNoPart, rSlLN, rSlG, gUnlN, tYes, rLenS, rRepN, unset, calmS, cx_K, Value.ref.injEq, HO.xd.injEq, lk0, tSeq, tPar3, tPar, tCons, tNil, tVar, tC, tAsg, gName, gCons, gNil, gTupN, gSub, tOp, rI, rI0, rU, tTest, rNe, rEq, rIxTN, rIxLN, rLenL, rLenT, rIntI, rIntB, rAbs, rSetLN, tTruL, tRaiseX, rIsTy, rIsOw, ixN0, ixN1, tRet, tIf, tIfS, tNext, tBreak, tCont, tDrop, tTupN, tLstN, tUn, tCB, tCall, tNot, tAnd, tOr, tB, tAndV, tOrV, tNotV, tChain, tApp, LamX.tLam, tRevLN, rCatN, rInTN, rInLN, flatV, inV, List.all_cons, List.all_nil, List.any_cons, List.any_nil, Bool.and_self, Bool.and_true, if_true, Bool.false_eq_true, if_false, tMt, tFldN, tSto, HO.ins.injEq, lkh, List.drop_zero, List.drop_succ_cons, List.drop_nil, rListS, wipe, L2.start, List.map_cons, List.map_nil, List.length_cons, List.length_nil, List.replicate, List.cons_append, List.nil_append, List.append_nil, Nat.reduceAdd, Nat.reduceSub, Nat.zero_add, List.replicate_succ, List.replicate_zero, List.getElem?_cons_zero, List.getElem?_cons_succ, List.set_cons_zero, List.set_cons_succ, Option.some.injEq, V.int.injEq, V.bl.injEq, V.ref.injEq, V.str.injEq, V.ty.injEq, List.cons.injEq, HO.tup.injEq, HO.lst.injEq, and_true, true_and, and_assoc, exists_eq_left, exists_eq_left', exists_and_left, exists_eq', atI0, atI1, atI2, atI3, Int.cast_ofNat_Int, Int.reduceToNat, scal_ii, scal_in, scal_ni, scal_nn, scal_bb, scal_ss, scal_sn, scal_ns, scal_bn, scal_nb, ite_iff, decide_eq_true_eq, decide_eq_false_iff_not, Bool.not_eq_true', Classical.not_not, ne_eq, not_false_eq_true, not_true_eq_false, forall_const, true_implies, false_implies, imp_self, sizeLine_eq, Nat.reduceLeDiff, reduceCtorEq, decide_true, decide_false]
      intro N1 G2 _ r2 g2
      have S2 := S1.same r2
      clear S1 r2
      refine st_forL (fun R r => r) g2 (fun j σ' H' => ∃ y7 y9, σ' = [some (V.ref sc), some (V.int i), some (V.ref p), some (V.ref t9), some (V.ref g), some (V.ref M), y6, y7, some (V.ref c), y9] ∧ LS K H H' p g t l c a b d rows ∧ H' N1 = some (.lst [V.non, .int 5, .ref g, .str ("01" : Str)])) ⟨_, _, rfl, S2, g2⟩ (fun _ _ _ h => by obtain ⟨_, _, _, _, h⟩ := h; exact h) ?_ ?_
      · clear S2 g2
        rintro j v _ G3 hv ⟨y7, y9, rfl, Z, hN⟩
        have no : ∀ {H' : Hp}, ExtN G3 H' → NoC K H' v := fun {H'} e => by
          have hv := List.mem_of_getElem? hv
          simp only [List.mem_cons, List.not_mem_nil, or_false] at hv
          rcases hv with rfl | rfl | rfl | rfl
          · exact ⟨_, .base .non, T.kC_NoneType⟩
          · exact ⟨_, .base (.int _), T.kC_int⟩
          · exact ⟨_, .base (.lst (extL e Z.D.g)), T.kC_list⟩
          · exact ⟨_, .base (.str _), T.kC_str⟩
        simp only [exists_and_left, S_eq, tD1, rTupN, rAddZ, rSlZ, rIxZ, rInZ, rIntZ, rStrZ, rLenZ, rRepZ, tJoinZ, tJoinG, rCntZ, rTupG, rAll, rMax2, rMin2, tSl, tPart, tNoPart, rSlLN, rSlG, gUnlN, tYes, rLenS, rRepN, unset, calmS, cx_K, Value.ref.injEq, HO.xd.injEq, lk0, tSeq, tPar3, tPar, tCons, tNil, tVar, tC, tAsg, gName, gCons, gNil, gTupN, gSub, tOp, rI, rI0, rU, tTest, rNe, rEq, rIxTN, rIxLN, rLenL, rLenT, rIntI, rIntB, rAbs, rSetLN, tTruL, tRaiseX, rIsTy, rIsOw, ixN0, ixN1, tRet, tIf, tIfS, tNext, tBreak, tCont, tDrop, tTupN, tLstN, tUn, tCB, tCall, tNot, tAnd, tOr, tB, tAndV, tOrV, tNotV, tChain, tApp, LamX.tLam, tRevLN, rCatN, rInTN, rInLN, flatV, inV, List.all_cons, List.all_nil, List.any_cons, List.any_nil, Bool.and_self, Bool.and_true, if_true, Bool.false_eq_true, if_false, tMt, tFldN, tSto, HO.ins.injEq, lkh, List.drop_zero, List.drop_succ_cons, List.drop_nil, rListS, wipe, L2.start, List.map_cons, List.map_nil, List.length_cons, List.length_nil, List.replicate, List.cons_append, List.nil_append, List.append_nil, Nat.reduceAdd, Nat.reduceSub, Nat.zero_add, List.replicate_succ, List.replicate_zero, List.getElem?_cons_zero, List.getElem?_cons_succ, List.set_cons_zero, List.set_cons_succ, Option.some.injEq, V.int.injEq, V.bl.injEq, V.ref.injEq, V.str.injEq, V.ty.injEq, List.cons.injEq, HO.tup.injEq, HO.lst.injEq, and_true, true_and, and_assoc, exists_eq_left, exists_eq_left', exists_and_left, exists_eq', atI0, atI1, atI2, atI3, Int.cast_ofNat_Int, Int.reduceToNat, scal_ii, scal_in, scal_ni, scal_nn, scal_bb, scal_ss, scal_sn, scal_ns, scal_bn, scal_nb, ite_iff, decide_eq_true_eq, decide_eq_false_iff_not, Bool.not_eq_true', Classical.not_not, ne_eq, not_false_eq_true, not_true_eq_false, forall_const, true_implies, false_implies, imp_self, sizeLine_eq, Nat.reduceLeDiff, reduceCtorEq, decide_true, decide_false]
        refine told_part (v := .str "carpet") Z.W.hT (fun H1 Q E e r => ⟨_, _, rfl, .inl ⟨no e, r⟩⟩) (fun H1 q1 e1 hT1 k1 => ?_)
        have Z1 := Z.ext e1 hT1
        intro R H2 hR s2 k2
        obtain ⟨na, n0, nD⟩ := Z1.na hR
        have Z2 := Z1.same s2
        have k12 := s2 _ _ k1
        have hN2 := s2 _ _ (extL e1 hN)
        have NR : N1 ≠ R := ne_of_none (extL e1 hN) hR
        have E2 : ExtN G3 H2 := e1.trans (extS s2)
        refine ⟨R, rfl, ⟨_, k2⟩, told_part (v := .str "carpet") Z2.W.hT (fun H3 Q E e r => ⟨_, _, rfl, .inr ⟨c, a, b, d, rows, rfl, Z2.C.kp (Kp.ext e), .inl ⟨no (E2.trans e), r⟩⟩⟩) (fun H3 q3 e3 hT3 k3 => ?_)⟩
        refine ⟨_, extL e3 k2, by simp, fun H4 pt => ?_⟩
        have Z4 := (Z2.ext e3 hT3).put (extL e3 k2) na n0 nD pt
        have k14 := pt.other (extL e3 k12) (sr_ne (extL e3 k12) (extL e3 k2))
        have k34 := pt.other k3 (sr_ne k3 (extL e3 k2))
        have hN4 := pt.other (extL e3 hN2) NR
        have kR := pt.1
        have no4 : ∀ {H' : Hp}, ExtN H4 H' → NoC K H' v := fun {H'} e => by
          have hv := List.mem_of_getElem? hv
          simp only [List.mem_cons, List.not_mem_nil, or_false] at hv
          rcases hv with rfl | rfl | rfl | rfl
          · exact ⟨_, .base .non, T.kC_NoneType⟩
          · exact ⟨_, .base (.int _), T.kC_int⟩
          · exact ⟨_, .base (.lst (extL e Z4.D.g)), T.kC_list⟩
          · exact ⟨_, .base (.str _), T.kC_str⟩
        clear Z Z1 Z2 k1 k2 k12 k3 hR s2 e1 hT1 hT3 pt e3 hN hN2 E2 no
        refine ⟨R, rfl, ⟨_, kR⟩, told_part (v := .str "carpet") Z4.W.hT (fun H3 Q E e r => ⟨_, _, rfl, .inl ⟨no4 e, r⟩⟩) (fun H5 q5 e5 hT5 k5 => ?_)⟩
        refine ⟨_, extL e5 kR, by simp, fun H6 pt => ?_⟩
        have Z6 := (Z4.ext e5 hT5).put (extL e5 kR) na n0 nD pt
        have k16 := pt.other (extL e5 k14) (sr_ne (extL e5 k14) (extL e5 kR))
        have k36 := pt.other (extL e5 k34) (sr_ne (extL e5 k34) (extL e5 kR))
        have k56 := pt.other k5 (sr_ne k5 (extL e5 kR))
        have hN6 := pt.other (extL e5 hN4) NR
        have kR6 := pt.1
        clear Z4 k14 k34 kR hT5 k5 pt e5 hN4 no4
        intro u1 H7 _ s7 k7
        intro u2 H8 _ s8 k8
        refine ⟨u2, rfl, _, k8, by decide, by decide, by simp, ?_⟩
        intro u3 H9 _ s9 k9
        have S := (s7.trans s8).trans s9
        have k79 := s9 _ _ (s8 _ _ k7)
        exact ne_sameN (.lst (SqL.of (S _ _ kR6)) (.cons (dp_l2 (S _ _ k16)) (.cons (dp_l2 (S _ _ k36)) (.cons (dp_l2 (S _ _ k56)) .nil)))) (.lst (SqL.of k9) (.cons (dp_l2 k79) (.cons (dp_l2 k79) (.cons (dp_l2 k79) .nil)))) (sh_3 Opart Ocarp)
          ⟨false, rfl, fun e => (by cases e), fun _ => ⟨Z6.same S, S _ _ hN6⟩⟩
      · clear S2 g2
        rintro _ G3 ⟨y7, y9, rfl, Z, _⟩
        simp only [exists_and_left, S_eq, tD1, rTupN, rAddZ, rSlZ, rIxZ, rInZ, rIntZ, rStrZ, rLenZ, rRepZ, tJoinZ, tJoinG, rCntZ, rTupG, rAll, rMax2, rMin2, tSl, tPart, tNoPart, rSlLN, rSlG, gUnlN, tYes, rLenS, rRepN, unset, calmS, cx_K, Value.ref.injEq, HO.xd.injEq, lk0, tSeq, tPar3, tPar, tCons, tNil, tVar, tC, tAsg, gName, gCons, gNil, gTupN, gSub, tOp, rI, rI0, rU, tTest, rNe, rEq, rIxTN, rIxLN, rLenL, rLenT, rIntI, rIntB, rAbs, rSetLN, tTruL, tRaiseX, rIsTy, rIsOw, ixN0, ixN1, tRet, tIf, tIfS, tNext, tBreak, tCont, tDrop, tTupN, tLstN, tUn, tCB, tCall, tNot, tAnd, tOr, tB, tAndV, tOrV, tNotV, tChain, tApp, LamX.tLam, tRevLN, rCatN, rInTN, rInLN, flatV, inV, List.all_cons, List.all_nil, List.any_cons, List.any_nil, Bool.and_self, Bool.and_true, if_true, Bool.false_eq_true, if_false, tMt, tFldN, tSto, HO.ins.injEq, lkh, List.drop_zero, List.drop_succ_cons, List.drop_nil, rListS, wipe, L2.start, List.map_cons, List.map_nil, List.length_cons, List.length_nil, List.replicate, List.cons_append, List.nil_append, List.append_nil, Nat.reduceAdd, Nat.reduceSub, Nat.zero_add, List.replicate_succ, List.replicate_zero, List.getElem?_cons_zero, List.getElem?_cons_succ, List.set_cons_zero, List.set_cons_succ, Option.some.injEq, V.int.injEq, V.bl.injEq, V.ref.injEq, V.str.injEq, V.ty.injEq, List.cons.injEq, HO.tup.injEq, HO.lst.injEq, and_true, true_and, and_assoc, exists_eq_left, exists_eq_left', exists_and_left, exists_eq', atI0, atI1, atI2, atI3, Int.cast_ofNat_Int, Int.reduceToNat, scal_ii, scal_in, scal_ni, scal_nn, scal_bb, scal_ss, scal_sn, scal_ns, scal_bn, scal_nb, ite_iff, decide_eq_true_eq, decide_eq_false_iff_not, Bool.not_eq_true', Classical.not_not, ne_eq, not_false_eq_true, not_true_eq_false, forall_const, true_implies, false_implies, imp_self, sizeLine_eq, Nat.reduceLeDiff, reduceCtorEq, decide_true, decide_false]
        refine for_inL ?_
        simp only [exists_and_left, S_eq, tD1, rTupN, rAddZ, rSlZ, rIxZ, rInZ, rIntZ, rStrZ, rLenZ, rRepZ, tJoinZ, tJoinG, rCntZ, rTupG, rAll, rMax2, rMin2, tSl, tPart, tNoPart, rSlLN, rSlG, gUnlN, tYes, rLenS, rRepN, unset, calmS, cx_K, Value.ref.injEq, HO.xd.injEq, lk0, tSeq, tPar3, tPar, tCons, tNil, tVar, tC, tAsg, gName, gCons, gNil, gTupN, gSub, tOp, rI, rI0, rU, tTest, rNe, rEq, rIxTN, rIxLN, rLenL, rLenT, rIntI, rIntB, rAbs, rSetLN, tTruL, tRaiseX, rIsTy, rIsOw, ixN0, ixN1, tRet, tIf, tIfS, tNext, tBreak, tCont, tDrop, tTupN, tLstN, tUn, tCB, tCall, tNot, tAnd, tOr, tB, tAndV, tOrV, tNotV, tChain, tApp, LamX.tLam, tRevLN, rCatN, rInTN, rInLN, flatV, inV, List.all_cons, List.all_nil, List.any_cons, List.any_nil, Bool.and_self, Bool.and_true, if_true, Bool.false_eq_true, if_false, tMt, tFldN, tSto, HO.ins.injEq, lkh, List.drop_zero, List.drop_succ_cons, List.drop_nil, rListS, wipe, L2.start, List.map_cons, List.map_nil, List.length_cons, List.length_nil, List.replicate, List.cons_append, List.nil_append, List.append_nil, Nat.reduceAdd, Nat.reduceSub, Nat.zero_add, List.replicate_succ, List.replicate_zero, List.getElem?_cons_zero, List.getElem?_cons_succ, List.set_cons_zero, List.set_cons_succ, Option.some.injEq, V.int.injEq, V.bl.injEq, V.ref.injEq, V.str.injEq, V.ty.injEq, List.cons.injEq, HO.tup.injEq, HO.lst.injEq, and_true, true_and, and_assoc, exists_eq_left, exists_eq_left', exists_and_left, exists_eq', atI0, atI1, atI2, atI3, Int.cast_ofNat_Int, Int.reduceToNat, scal_ii, scal_in, scal_ni, scal_nn, scal_bb, scal_ss, scal_sn, scal_ns, scal_bn, scal_nb, ite_iff, decide_eq_true_eq, decide_eq_false_iff_not, Bool.not_eq_true', Classical.not_not, ne_eq, not_false_eq_true, not_true_eq_false, forall_const, true_implies, false_implies, imp_self, sizeLine_eq, Nat.reduceLeDiff, reduceCtorEq, decide_true, decide_false]
        intro p1 G4 _ r4 g4
        intro p2 G5 _ r5 g5
        intro p3 G6 _ r6 g6
        intro N2 G7 _ r7 g7
        have Z7 := (((Z.same r4).same r5).same r6).same r7
        have q1 := r7 _ _ (r6 _ _ (r5 _ _ g4))
        have q2 := r7 _ _ (r6 _ _ g5)
        have q3 := r7 _ _ g6
        have OO : ∀ v ∈ [V.non, .ref p1, .ref p2, .ref p3, .str ("00" : Str)], PairK K G7 v ∧ pairV G7 v = none := by
          intro v hv
          simp only [List.mem_cons, List.not_mem_nil, or_false] at hv
          rcases hv with rfl | rfl | rfl | rfl | rfl
          · exact ⟨.non, rfl⟩
          · exact ⟨.tup q1 (fun z hz => by simp at hz; subst hz; exact wh_int), by simp only [pairV, q1]; rfl⟩
          · exact ⟨.lst q2, by simp only [pairV, q2]⟩
          · exact ⟨.tup q3 (fun z hz => by simp at hz; rcases hz with rfl | rfl; exact wh_bl; exact wh_int), by simp only [pairV, q3]; rfl⟩
          · exact ⟨.str _, rfl⟩
        clear Z r4 g4 r5 g5 r6 g6 r7 q1 q2 q3
        refine st_forL (fun R r => r) g7 (fun j σ' H' => ∃ y7 y9, σ' = [some (V.ref sc), some (V.int i), some (V.ref p), some (V.ref t9), some (V.ref g), some (V.ref M), y6, y7, some (V.ref c), y9] ∧ LS K H H' p g t l c a b d rows ∧ H' N2 = some (.lst [V.non, .ref p1, .ref p2, .ref p3, .str ("00" : Str)]) ∧ ∀ v ∈ [V.non, .ref p1, .ref p2, .ref p3, .str ("00" : Str)], PairK K H' v ∧ pairV H' v = none) ⟨_, _, rfl, Z7, g7, OO⟩ (fun _ _ _ h => by obtain ⟨_, _, _, _, h, _⟩ := h; exact h) ?_ ?_
        · clear Z7 g7 OO
          rintro j v _ G3 hv ⟨y7, y9, rfl, Z, hN, OO⟩
          obtain ⟨Ok, On⟩ := OO v (List.mem_of_getElem? hv)
          simp only [exists_and_left, S_eq, tD1, rTupN, rAddZ, rSlZ, rIxZ, rInZ, rIntZ, rStrZ, rLenZ, rRepZ, tJoinZ, tJoinG, rCntZ, rTupG, rAll, rMax2, rMin2, tSl, tPart, tNoPart, rSlLN, rSlG, gUnlN, tYes, rLenS, rRepN, unset, calmS, cx_K, Value.ref.injEq, HO.xd.injEq, lk0, tSeq, tPar3, tPar, tCons, tNil, tVar, tC, tAsg, gName, gCons, gNil, gTupN, gSub, tOp, rI, rI0, rU, tTest, rNe, rEq, rIxTN, rIxLN, rLenL, rLenT, rIntI, rIntB, rAbs, rSetLN, tTruL, tRaiseX, rIsTy, rIsOw, ixN0, ixN1, tRet, tIf, tIfS, tNext, tBreak, tCont, tDrop, tTupN, tLstN, tUn, tCB, tCall, tNot, tAnd, tOr, tB, tAndV, tOrV, tNotV, tChain, tApp, LamX.tLam, tRevLN, rCatN, rInTN, rInLN, flatV, inV, List.all_cons, List.all_nil, List.any_cons, List.any_nil, Bool.and_self, Bool.and_true, if_true, Bool.false_eq_true, if_false, tMt, tFldN, tSto, HO.ins.injEq, lkh, List.drop_zero, List.drop_succ_cons, List.drop_nil, rListS, wipe, L2.start, List.map_cons, List.map_nil, List.length_cons, List.length_nil, List.replicate, List.cons_append, List.nil_append, List.append_nil, Nat.reduceAdd, Nat.reduceSub, Nat.zero_add, List.replicate_succ, List.replicate_zero, List.getElem?_cons_zero, List.getElem?_cons_succ, List.set_cons_zero, List.set_cons_succ, Option.some.injEq, V.int.injEq, V.bl.injEq, V.ref.injEq, V.str.injEq, V.ty.injEq, List.cons.injEq, HO.tup.injEq, HO.lst.injEq, and_true, true_and, and_assoc, exists_eq_left, exists_eq_left', exists_and_left, exists_eq', atI0, atI1, atI2, atI3, Int.cast_ofNat_Int, Int.reduceToNat, scal_ii, scal_in, scal_ni, scal_nn, scal_bb, scal_ss, scal_sn, scal_ns, scal_bn, scal_nb, ite_iff, decide_eq_true_eq, decide_eq_false_iff_not, Bool.not_eq_true', Classical.not_not, ne_eq, not_false_eq_true, not_true_eq_false, forall_const, true_implies, false_implies, imp_self, sizeLine_eq, Nat.reduceLeDiff, reduceCtorEq, decide_true, decide_false]
          refine told_part (v := .str "shift") Z.W.hT (fun H1 Q E e r => ?_) (fun H1 q1 e1 hT1 k1 => ?_)
          · exact ⟨_, _, rfl, .inr ⟨c, a, b, d, rows, rfl, Z.C.kp (Kp.ext e), Ok.ext e, fun _ => r, fun x y e2 => (by rw [Ok.sameX e, On] at e2; cases e2), fun x y e2 => (by rw [Ok.sameX e, On] at e2; cases e2)⟩⟩
          have Z1 := Z.ext e1 hT1
          intro R H2 hR s2 k2
          obtain ⟨na, n0, nD⟩ := Z1.na hR
          have Z2 := Z1.same s2
          have k12 := s2 _ _ k1
          have hN2 := s2 _ _ (extL e1 hN)
          have NR : N2 ≠ R := ne_of_none (extL e1 hN) hR
          have E2 : ExtN G3 H2 := e1.trans (extS s2)
          refine ⟨R, rfl, ⟨_, k2⟩, told_part (v := .str "shift") Z2.W.hT (fun H3 Q E e r => ?_) (fun H3 q3 e3 hT3 k3 => ?_)⟩
          · have C3 := Z2.C.kp (Kp.ext e)
            obtain ⟨dx, z1, z2, z3, z4, z5, hc⟩ := C3.ins
            have eE := E2.trans e
            exact ⟨_, _, hc, lkCno, c, v, rfl, a, b, d, rows, C3, Ok.ext eE, fun _ => r, fun x y e2 => (by rw [Ok.sameX eE, On] at e2; cases e2), fun x y e2 => (by rw [Ok.sameX eE, On] at e2; cases e2)⟩
          refine ⟨_, extL e3 k2, by simp, fun H4 pt => ?_⟩
          have Z4 := (Z2.ext e3 hT3).put (extL e3 k2) na n0 nD pt
          have k14 := pt.other (extL e3 k12) (sr_ne (extL e3 k12) (extL e3 k2))
          have k34 := pt.other k3 (sr_ne k3 (extL e3 k2))
          have hN4 := pt.other (extL e3 hN2) NR
          have kR := pt.1
          have E3 : ExtN G3 H3 := E2.trans e3
          have E4 : ExtN G3 H4 := fun b o h n => by rw [pt.2 b (ne_of_none (e1 b o h n) hR)]; exact E3 b o h n
          have OO4 : ∀ v ∈ [V.non, .ref p1, .ref p2, .ref p3, .str ("00" : Str)], PairK K H4 v ∧ pairV H4 v = none := fun v' hv' => by
            obtain ⟨o1, o2⟩ := OO v' hv'
            exact ⟨o1.ext E4, by rw [o1.sameX E4]; exact o2⟩
          intro u1 H7 _ s7 k7
          intro u2 H8 _ s8 k8
          refine ⟨u2, rfl, _, k8, by decide, by decide, by simp, ?_⟩
          intro u3 H9 _ s9 k9
          have S := (s7.trans s8).trans s9
          have k79 := s9 _ _ (s8 _ _ k7)
          exact ne_sameN (.lst (SqL.of (S _ _ kR)) (.cons (dp_l2 (S _ _ k14)) (.cons (dp_l2 (S _ _ k34)) .nil))) (.lst (SqL.of k9) (.cons (dp_l2 k79) (.cons (dp_l2 k79) .nil))) (sh_22 Opart Oshift)
            ⟨false, rfl, fun e => (by cases e), fun _ => ⟨Z4.same S, S _ _ hN4, fun v' hv' => by
              obtain ⟨o1, o2⟩ := OO4 v' hv'
              exact ⟨o1.mono S, by rw [o1.same S]; exact o2⟩⟩⟩
        · clear Z7 g7 OO
          rintro _ G3 ⟨y7, y9, rfl, Z, _, _⟩
          simp only [exists_and_left, S_eq, tD1, rTupN, rAddZ, rSlZ, rIxZ, rInZ, rIntZ, rStrZ, rLenZ, rRepZ, tJoinZ, tJoinG, rCntZ, rTupG, rAll, rMax2, rMin2, tSl, tPart, tNoPart, rSlLN, rSlG, gUnlN, tYes, rLenS, rRepN, unset, calmS, cx_K, Value.ref.injEq, HO.xd.injEq, lk0, tSeq, tPar3, tPar, tCons, tNil, tVar, tC, tAsg, gName, gCons, gNil, gTupN, gSub, tOp, rI, rI0, rU, tTest, rNe, rEq, rIxTN, rIxLN, rLenL, rLenT, rIntI, rIntB, rAbs, rSetLN, tTruL, tRaiseX, rIsTy, rIsOw, ixN0, ixN1, tRet, tIf, tIfS, tNext, tBreak, tCont, tDrop, tTupN, tLstN, tUn, tCB, tCall, tNot, tAnd, tOr, tB, tAndV, tOrV, tNotV, tChain, tApp, LamX.tLam, tRevLN, rCatN, rInTN, rInLN, flatV, inV, List.all_cons, List.all_nil, List.any_cons, List.any_nil, Bool.and_self, Bool.and_true, if_true, Bool.false_eq_true, if_false, tMt, tFldN, tSto, HO.ins.injEq, lkh, List.drop_zero, List.drop_succ_cons, List.drop_nil, rListS, wipe, L2.start, List.map_cons, List.map_nil, List.length_cons, List.length_nil, List.replicate, List.cons_append, List.nil_append, List.append_nil, Nat.reduceAdd, Nat.reduceSub, Nat.zero_add, List.replicate_succ, List.replicate_zero, List.getElem?_cons_zero, List.getElem?_cons_succ, List.set_cons_zero, List.set_cons_succ, Option.some.injEq, V.int.injEq, V.bl.injEq, V.ref.injEq, V.str.injEq, V.ty.injEq, List.cons.injEq, HO.tup.injEq, HO.lst.injEq, and_true, true_and, and_assoc, exists_eq_left, exists_eq_left', exists_and_left, exists_eq', atI0, atI1, atI2, atI3, Int.cast_ofNat_Int, Int.reduceToNat, scal_ii, scal_in, scal_ni, scal_nn, scal_bb, scal_ss, scal_sn, scal_ns, scal_bn, scal_nb, ite_iff, decide_eq_true_eq, decide_eq_false_iff_not, Bool.not_eq_true', Classical.not_not, ne_eq, not_false_eq_true, not_true_eq_false, forall_const, true_implies, false_implies, imp_self, sizeLine_eq, Nat.reduceLeDiff, reduceCtorEq, decide_true, decide_false]
          exact ⟨Z.W.E, Z.W.hT⟩
  · rintro _ H3 ⟨_, _, x1, x2, x3, x4, x5, x6, x7, x8, x9, rfl⟩
    simp only [exists_and_left, S_eq, tD1, rTupN, rAddZ, rSlZ, rIxZ, rInZ, rIntZ, rStrZ, rLenZ, rRepZ, tJoinZ, tJoinG, rCntZ, rTupG, rAll, rMax2, rMin2, tSl, tPart, tNoPart, rSlLN, rSlG, gUnlN, tYes, rLenS, rRepN, unset, calmS, cx_K, Value.ref.injEq, HO.xd.injEq, lk0, tSeq, tPar3, tPar, tCons, tNil, tVar, tC, tAsg, gName, gCons, gNil, gTupN, gSub, tOp, rI, rI0, rU, tTest, rNe, rEq, rIxTN, rIxLN, rLenL, rLenT, rIntI, rIntB, rAbs, rSetLN, tTruL, tRaiseX, rIsTy, rIsOw, ixN0, ixN1, tRet, tIf, tIfS, tNext, tBreak, tCont, tDrop, tTupN, tLstN, tUn, tCB, tCall, tNot, tAnd, tOr, tB, tAndV, tOrV, tNotV, tChain, tApp, LamX.tLam, tRevLN, rCatN, rInTN, rInLN, flatV, inV, List.all_cons, List.all_nil, List.any_cons, List.any_nil, Bool.and_self, Bool.and_true, if_true, Bool.false_eq_true, if_false, tMt, tFldN, tSto, HO.ins.injEq, lkh, List.drop_zero, List.drop_succ_cons, List.drop_nil, rListS, wipe, L2.start, List.map_cons, List.map_nil, List.length_cons, List.length_nil, List.replicate, List.cons_append, List.nil_append, List.append_nil, Nat.reduceAdd, Nat.reduceSub, Nat.zero_add, List.replicate_succ, List.replicate_zero, List.getElem?_cons_zero, List.getElem?_cons_succ, List.set_cons_zero, List.set_cons_succ, Option.some.injEq, V.int.injEq, V.bl.injEq, V.ref.injEq, V.str.injEq, V.ty.injEq, List.cons.injEq, HO.tup.injEq, HO.lst.injEq, and_true, true_and, and_assoc, exists_eq_left, exists_eq_left', exists_and_left, exists_eq', atI0, atI1, atI2, atI3, Int.cast_ofNat_Int, Int.reduceToNat, scal_ii, scal_in, scal_ni, scal_nn, scal_bb, scal_ss, scal_sn, scal_ns, scal_bn, scal_nb, ite_iff, decide_eq_true_eq, decide_eq_false_iff_not, Bool.not_eq_true', Classical.not_not, ne_eq, not_false_eq_true, not_true_eq_false, forall_const, true_implies, false_implies, imp_self, sizeLine_eq, Nat.reduceLeDiff, reduceCtorEq, decide_true, decide_false]
    exact k H3

end
end Iz
/-! k12_m -/
set_option Elab.async false
set_option linter.all false
set_option maxRecDepth 100000
set_option maxHeartbeats 4000000
namespace Iz
open PySem PySem.Spec PyProof.Rows L2
open He (ga)
open SX (S S_len)
local macro_rules | `(tactic| walk_at "wp") => `(tactic| simp only [S_eq, tD1, rTupN, rAddZ, rSlZ, rIxZ, rInZ, rIntZ, rStrZ, rLenZ, rRepZ, tJoinZ, tJoinG, rCntZ, rTupG, rAll, rMax2, rMin2, tSl, tPart, tNoPart, rSlLN, rSlG, gUnlN, tYes, rLenS, rRepN, unset, calmS, cx_K, Value.ref.injEq, HO.xd.injEq, lk0, tSeq, tPar3, tPar, tCons, tNil, tVar, tC, tAsg, gName, gCons, gNil, gTupN, gSub, tOp, rI, rI0, rU, tTest, rNe, rEq, rIxTN, rIxLN, rLenL, rLenT, rIntI, rIntB, rAbs, rSetLN, tTruL, tRaiseX, rIsTy, rIsOw, ixN0, ixN1, tRet, tIf, tIfS, tNext, tBreak, tCont, tDrop, tTupN, tLstN, tUn, tCB, tCall, tNot, tAnd, tOr, tB, tAndV, tOrV, tNotV, tChain, tApp, LamX.tLam, tRevLN, rCatN, rInTN, rInLN, flatV, inV, List.all_cons, List.all_nil, List.any_cons, List.any_nil, Bool.and_self, Bool.and_true, if_true, Bool.false_eq_true, if_false, tMt, tFldN, tSto, HO.ins.injEq, lkh, List.drop_zero, List.drop_succ_cons, List.drop_nil, rListS, wipe, L2.start, List.map_cons, List.map_nil, List.length_cons, List.length_nil, List.replicate, List.cons_append, List.nil_append, List.append_nil, Nat.reduceAdd, Nat.reduceSub, Nat.zero_add, List.replicate_succ, List.replicate_zero, List.getElem?_cons_zero, List.getElem?_cons_succ, List.set_cons_zero, List.set_cons_succ, Option.some.injEq, V.int.injEq, V.bl.injEq, V.ref.injEq, V.str.injEq, V.ty.injEq, List.cons.injEq, HO.tup.injEq, HO.lst.injEq, and_true, true_and, and_assoc, exists_eq_left, exists_eq_left', exists_and_left, exists_eq', atI0, atI1, atI2, atI3, Int.cast_ofNat_Int, Int.reduceToNat, scal_ii, scal_in, scal_ni, scal_nn, scal_bb, scal_ss, scal_sn, scal_ns, scal_bn, scal_nb, ite_iff, decide_eq_true_eq, decide_eq_false_iff_not, Bool.not_eq_true', Classical.not_not, ne_eq, not_false_eq_true, not_true_eq_false, forall_const, true_implies, false_implies, imp_self, sizeLine_eq, Nat.reduceLeDiff, reduceCtorEq, decide_true, decide_false])
section
variable {P : Program} {w : World} {K : PySem.W.Frag} {mg : Str → Option Value} {base : Heap}
theorem txt_mk {h : Heap} (X : K.In h) (G : h.Ns mainGlobals mg) {f_is_whole f_is_from f_is_row f_is_pair f_is_shift f_require_whole f_require_pair f_greatest_divisor f_weighed_divisor f_Lattice___init__ f_Lattice___contains__ f_Lattice_place f_require_lattice_numbers f_Carpet___init__ f_Carpet___eq__ f_Carpet_colour f_Carpet_lattice f_Carpet_least f_Carpet_normal f_Carpet_moved_by f_Carpet_is_period f_require_carpet f_row_text f__is_row_of_figures f__turned_row f__normal_form f__least_width f__least_rise f__comes_again f_parting_cell f_breaking_cell f__column_length f__unlike_index f__law_opened f__law_draw f__law_pick f__law_three f__law_place f__law_rows f__law_colour f__law_coarser f__law_parting f__law_bent f__law_refused f__law_made f__law_window f__law_pair_right f__law_breaking_right f_law c_law P_law C_BadNumber N_BadNumber fi_BadNumber C_BadPart N_BadPart fi_BadPart C_BadIndex N_BadIndex fi_BadIndex C_TooMany N_TooMany fi_TooMany C_NotSo : Addr} {od_is_whole an_is_whole od_is_from an_is_from od_is_row an_is_row od_is_pair an_is_pair od_is_shift an_is_shift od_require_whole an_require_whole od_require_pair an_require_pair od_greatest_divisor an_greatest_divisor od_weighed_divisor an_weighed_divisor od_Lattice___init__ an_Lattice___init__ od_Lattice___contains__ an_Lattice___contains__ od_Lattice_place an_Lattice_place od_require_lattice_numbers an_require_lattice_numbers od_Carpet___init__ an_Carpet___init__ od_Carpet___eq__ an_Carpet___eq__ od_Carpet_colour an_Carpet_colour od_Carpet_lattice an_Carpet_lattice od_Carpet_least an_Carpet_least od_Carpet_normal an_Carpet_normal od_Carpet_moved_by an_Carpet_moved_by od_Carpet_is_period an_Carpet_is_period od_require_carpet an_require_carpet od_row_text an_row_text od__is_row_of_figures an__is_row_of_figures od__turned_row an__turned_row od__normal_form an__normal_form od__least_width an__least_width od__least_rise an__least_rise od__comes_again an__comes_again od_parting_cell an_parting_cell od_breaking_cell an_breaking_cell od__column_length an__column_length od__unlike_index an__unlike_index od__law_opened an__law_opened od__law_draw an__law_draw od__law_pick an__law_pick od__law_three an__law_three od__law_place an__law_place od__law_rows an__law_rows od__law_colour an__law_colour od__law_coarser an__law_coarser od__law_parting an__law_parting od__law_bent an__law_bent od__law_refused an__law_refused od__law_made an__law_made od__law_window an__law_window od__law_pair_right an__law_pair_right od__law_breaking_right an__law_breaking_right od_law an_law : Option Addr} {sl_is_whole sl_is_from sl_is_row sl_is_pair sl_is_shift sl_require_whole sl_require_pair sl_greatest_divisor sl_weighed_divisor sl_Lattice___init__ sl_Lattice___contains__ sl_Lattice_place sl_require_lattice_numbers sl_Carpet___init__ sl_Carpet___eq__ sl_Carpet_colour sl_Carpet_lattice sl_Carpet_least sl_Carpet_normal sl_Carpet_moved_by sl_Carpet_is_period sl_require_carpet sl_row_text sl__is_row_of_figures sl__turned_row sl__normal_form sl__least_width sl__least_rise sl__comes_again sl_parting_cell sl_breaking_cell sl__column_length sl__unlike_index sl__law_opened sl__law_draw sl__law_pick sl__law_three sl__law_place sl__law_rows sl__law_colour sl__law_coarser sl__law_parting sl__law_bent sl__law_refused sl__law_made sl__law_window sl__law_pair_right sl__law_breaking_right sl_law : Array (Option Value)} {oc_is_whole kV_is_whole dc_is_whole pm_is_whole ct_is_whole oc_is_from kV_is_from dc_is_from pm_is_from ct_is_from oc_is_row kV_is_row dc_is_row pm_is_row ct_is_row oc_is_pair kV_is_pair dc_is_pair pm_is_pair ct_is_pair oc_is_shift kV_is_shift dc_is_shift pm_is_shift ct_is_shift oc_require_whole kV_require_whole dc_require_whole pm_require_whole ct_require_whole oc_require_pair kV_require_pair dc_require_pair pm_require_pair ct_require_pair oc_greatest_divisor kV_greatest_divisor dc_greatest_divisor pm_greatest_divisor ct_greatest_divisor oc_weighed_divisor kV_weighed_divisor dc_weighed_divisor pm_weighed_divisor ct_weighed_divisor oc_Lattice___init__ kV_Lattice___init__ dc_Lattice___init__ pm_Lattice___init__ ct_Lattice___init__ oc_Lattice___contains__ kV_Lattice___contains__ dc_Lattice___contains__ pm_Lattice___contains__ ct_Lattice___contains__ oc_Lattice_place kV_Lattice_place dc_Lattice_place pm_Lattice_place ct_Lattice_place oc_require_lattice_numbers kV_require_lattice_numbers dc_require_lattice_numbers pm_require_lattice_numbers ct_require_lattice_numbers oc_Carpet___init__ kV_Carpet___init__ dc_Carpet___init__ pm_Carpet___init__ ct_Carpet___init__ oc_Carpet___eq__ kV_Carpet___eq__ dc_Carpet___eq__ pm_Carpet___eq__ ct_Carpet___eq__ oc_Carpet_colour kV_Carpet_colour dc_Carpet_colour pm_Carpet_colour ct_Carpet_colour oc_Carpet_lattice kV_Carpet_lattice dc_Carpet_lattice pm_Carpet_lattice ct_Carpet_lattice oc_Carpet_least kV_Carpet_least dc_Carpet_least pm_Carpet_least ct_Carpet_least oc_Carpet_normal kV_Carpet_normal dc_Carpet_normal pm_Carpet_normal ct_Carpet_normal oc_Carpet_moved_by kV_Carpet_moved_by dc_Carpet_moved_by pm_Carpet_moved_by ct_Carpet_moved_by oc_Carpet_is_period kV_Carpet_is_period dc_Carpet_is_period pm_Carpet_is_period ct_Carpet_is_period oc_require_carpet kV_require_carpet dc_require_carpet pm_require_carpet ct_require_carpet oc_row_text kV_row_text dc_row_text pm_row_text ct_row_text oc__is_row_of_figures kV__is_row_of_figures dc__is_row_of_figures pm__is_row_of_figures ct__is_row_of_figures oc__turned_row kV__turned_row dc__turned_row pm__turned_row ct__turned_row oc__normal_form kV__normal_form dc__normal_form pm__normal_form ct__normal_form oc__least_width kV__least_width dc__least_width pm__least_width ct__least_width oc__least_rise kV__least_rise dc__least_rise pm__least_rise ct__least_rise oc__comes_again kV__comes_again dc__comes_again pm__comes_again ct__comes_again oc_parting_cell kV_parting_cell dc_parting_cell pm_parting_cell ct_parting_cell oc_breaking_cell kV_breaking_cell dc_breaking_cell pm_breaking_cell ct_breaking_cell oc__column_length kV__column_length dc__column_length pm__column_length ct__column_length oc__unlike_index kV__unlike_index dc__unlike_index pm__unlike_index ct__unlike_index oc__law_opened kV__law_opened dc__law_opened pm__law_opened ct__law_opened oc__law_draw kV__law_draw dc__law_draw pm__law_draw ct__law_draw oc__law_pick kV__law_pick dc__law_pick pm__law_pick ct__law_pick oc__law_three kV__law_three dc__law_three pm__law_three ct__law_three oc__law_place kV__law_place dc__law_place pm__law_place ct__law_place oc__law_rows kV__law_rows dc__law_rows pm__law_rows ct__law_rows oc__law_colour kV__law_colour dc__law_colour pm__law_colour ct__law_colour oc__law_coarser kV__law_coarser dc__law_coarser pm__law_coarser ct__law_coarser oc__law_parting kV__law_parting dc__law_parting pm__law_parting ct__law_parting oc__law_bent kV__law_bent dc__law_bent pm__law_bent ct__law_bent oc__law_refused kV__law_refused dc__law_refused pm__law_refused ct__law_refused oc__law_made kV__law_made dc__law_made pm__law_made ct__law_made oc__law_window kV__law_window dc__law_window pm__law_window ct__law_window oc__law_pair_right kV__law_pair_right dc__law_pair_right pm__law_pair_right ct__law_pair_right oc__law_breaking_right kV__law_breaking_right dc__law_breaking_right pm__law_breaking_right ct__law_breaking_right oc_law kV_law dc_law pm_law ct_law cd_is_whole cd_is_from cd_is_row cd_is_pair cd_is_shift cd_require_whole cd_require_pair cd_greatest_divisor cd_weighed_divisor cd_Lattice___init__ cd_Lattice___contains__ cd_Lattice_place cd_require_lattice_numbers cd_Carpet___init__ cd_Carpet___eq__ cd_Carpet_colour cd_Carpet_lattice cd_Carpet_least cd_Carpet_normal cd_Carpet_moved_by cd_Carpet_is_period cd_require_carpet cd_row_text cd__is_row_of_figures cd__turned_row cd__normal_form cd__least_width cd__least_rise cd__comes_again cd_parting_cell cd_breaking_cell cd__column_length cd__unlike_index cd__law_opened cd__law_draw cd__law_pick cd__law_three cd__law_place cd__law_rows cd__law_colour cd__law_coarser cd__law_parting cd__law_bent cd__law_refused cd__law_made cd__law_window cd__law_pair_right cd__law_breaking_right : Value} {C_Lattice C_Carpet : Addr} {tc_FIGURES tc_MOST_PLACES : Tok} {dd_BadNumber odx_BadNumber anx_BadNumber dd_BadPart odx_BadPart anx_BadPart dd_BadIndex odx_BadIndex anx_BadIndex dd_TooMany odx_TooMany anx_TooMany : Option Addr} {nm_BadNumber q_BadNumber nm_BadPart q_BadPart nm_BadIndex q_BadIndex nm_TooMany q_TooMany : Str} {bs_BadNumber bm_BadNumber sub_BadNumber bs_BadPart bm_BadPart sub_BadPart bs_BadIndex bm_BadIndex sub_BadIndex bs_TooMany bm_TooMany sub_TooMany : List Value} {sn_BadNumber sn_BadPart sn_BadIndex sn_TooMany : List Str} {ab_BadNumber ab_BadPart ab_BadIndex ab_TooMany : Bool} {col_BadNumber col_BadPart col_BadIndex col_TooMany : Option Bool} {m0_BadNumber m1_BadNumber m2_BadNumber m3_BadNumber m5_BadNumber m0_BadPart m1_BadPart m2_BadPart m3_BadPart m5_BadPart m0_BadIndex m1_BadIndex m2_BadIndex m3_BadIndex m5_BadIndex m0_TooMany m1_TooMany m2_TooMany m3_TooMany m5_TooMany : Option Value} {ocx_BadNumber kVx_BadNumber dcx_BadNumber pmx_BadNumber cdx_BadNumber ctx_BadNumber ocx_BadPart kVx_BadPart dcx_BadPart pmx_BadPart cdx_BadPart ctx_BadPart ocx_BadIndex kVx_BadIndex dcx_BadIndex pmx_BadIndex cdx_BadIndex ctx_BadIndex ocx_TooMany kVx_TooMany dcx_TooMany pmx_TooMany cdx_TooMany ctx_TooMany : Value} {slx_BadNumber slx_BadPart slx_BadIndex slx_TooMany : Array (Option Value)}
    (a_is_whole : PySem.W.nsIn K mainGlobals "is_whole" = some (some (.ref f_is_whole)))
    (l_is_whole : K.lookup f_is_whole = some ⟨oc_is_whole, od_is_whole, .func (PySem.W.fnOf "is_whole" "is_whole" (defArgs s_is_whole) (defBody s_is_whole) (defScope s_is_whole) .none kV_is_whole dc_is_whole pm_is_whole an_is_whole cd_is_whole ct_is_whole), sl_is_whole⟩)
    (d_is_whole : PySem.W.codeIn K cd_is_whole "is_whole" = true)
    (k_is_whole : PySem.W.keepIn K (.ref f_is_whole) = true)
    (a_is_from : PySem.W.nsIn K mainGlobals "is_from" = some (some (.ref f_is_from)))
    (l_is_from : K.lookup f_is_from = some ⟨oc_is_from, od_is_from, .func (PySem.W.fnOf "is_from" "is_from" (defArgs s_is_from) (defBody s_is_from) (defScope s_is_from) .none kV_is_from dc_is_from pm_is_from an_is_from cd_is_from ct_is_from), sl_is_from⟩)
    (d_is_from : PySem.W.codeIn K cd_is_from "is_from" = true)
    (k_is_from : PySem.W.keepIn K (.ref f_is_from) = true)
    (a_is_row : PySem.W.nsIn K mainGlobals "is_row" = some (some (.ref f_is_row)))
    (l_is_row : K.lookup f_is_row = some ⟨oc_is_row, od_is_row, .func (PySem.W.fnOf "is_row" "is_row" (defArgs s_is_row) (defBody s_is_row) (defScope s_is_row) .none kV_is_row dc_is_row pm_is_row an_is_row cd_is_row ct_is_row), sl_is_row⟩)
    (d_is_row : PySem.W.codeIn K cd_is_row "is_row" = true)
    (k_is_row : PySem.W.keepIn K (.ref f_is_row) = true)
    (a_is_pair : PySem.W.nsIn K mainGlobals "is_pair" = some (some (.ref f_is_pair)))
    (l_is_pair : K.lookup f_is_pair = some ⟨oc_is_pair, od_is_pair, .func (PySem.W.fnOf "is_pair" "is_pair" (defArgs s_is_pair) (defBody s_is_pair) (defScope s_is_pair) .none kV_is_pair dc_is_pair pm_is_pair an_is_pair cd_is_pair ct_is_pair), sl_is_pair⟩)
    (d_is_pair : PySem.W.codeIn K cd_is_pair "is_pair" = true)
    (k_is_pair : PySem.W.keepIn K (.ref f_is_pair) = true)
    (a_is_shift : PySem.W.nsIn K mainGlobals "is_shift" = some (some (.ref f_is_shift)))
    (l_is_shift : K.lookup f_is_shift = some ⟨oc_is_shift, od_is_shift, .func (PySem.W.fnOf "is_shift" "is_shift" (defArgs s_is_shift) (defBody s_is_shift) (defScope s_is_shift) .none kV_is_shift dc_is_shift pm_is_shift an_is_shift cd_is_shift ct_is_shift), sl_is_shift⟩)
    (d_is_shift : PySem.W.codeIn K cd_is_shift "is_shift" = true)
    (k_is_shift : PySem.W.keepIn K (.ref f_is_shift) = true)
    (a_require_whole : PySem.W.nsIn K mainGlobals "require_whole" = some (some (.ref f_require_whole)))
    (l_require_whole : K.lookup f_require_whole = some ⟨oc_require_whole, od_require_whole, .func (PySem.W.fnOf "require_whole" "require_whole" (defArgs s_require_whole) (defBody s_require_whole) (defScope s_require_whole) .none kV_require_whole dc_require_whole pm_require_whole an_require_whole cd_require_whole ct_require_whole), sl_require_whole⟩)
    (d_require_whole : PySem.W.codeIn K cd_require_whole "require_whole" = true)
    (k_require_whole : PySem.W.keepIn K (.ref f_require_whole) = true)
    (a_require_pair : PySem.W.nsIn K mainGlobals "require_pair" = some (some (.ref f_require_pair)))
    (l_require_pair : K.lookup f_require_pair = some ⟨oc_require_pair, od_require_pair, .func (PySem.W.fnOf "require_pair" "require_pair" (defArgs s_require_pair) (defBody s_require_pair) (defScope s_require_pair) .none kV_require_pair dc_require_pair pm_require_pair an_require_pair cd_require_pair ct_require_pair), sl_require_pair⟩)
    (d_require_pair : PySem.W.codeIn K cd_require_pair "require_pair" = true)
    (k_require_pair : PySem.W.keepIn K (.ref f_require_pair) = true)
    (a_greatest_divisor : PySem.W.nsIn K mainGlobals "greatest_divisor" = some (some (.ref f_greatest_divisor)))
    (l_greatest_divisor : K.lookup f_greatest_divisor = some ⟨oc_greatest_divisor, od_greatest_divisor, .func (PySem.W.fnOf "greatest_divisor" "greatest_divisor" (defArgs s_greatest_divisor) (defBody s_greatest_divisor) (defScope s_greatest_divisor) .none kV_greatest_divisor dc_greatest_divisor pm_greatest_divisor an_greatest_divisor cd_greatest_divisor ct_greatest_divisor), sl_greatest_divisor⟩)
    (d_greatest_divisor : PySem.W.codeIn K cd_greatest_divisor "greatest_divisor" = true)
    (k_greatest_divisor : PySem.W.keepIn K (.ref f_greatest_divisor) = true)
    (a_weighed_divisor : PySem.W.nsIn K mainGlobals "weighed_divisor" = some (some (.ref f_weighed_divisor)))
    (l_weighed_divisor : K.lookup f_weighed_divisor = some ⟨oc_weighed_divisor, od_weighed_divisor, .func (PySem.W.fnOf "weighed_divisor" "weighed_divisor" (defArgs s_weighed_divisor) (defBody s_weighed_divisor) (defScope s_weighed_divisor) .none kV_weighed_divisor dc_weighed_divisor pm_weighed_divisor an_weighed_divisor cd_weighed_divisor ct_weighed_divisor), sl_weighed_divisor⟩)
    (d_weighed_divisor : PySem.W.codeIn K cd_weighed_divisor "weighed_divisor" = true)
    (k_weighed_divisor : PySem.W.keepIn K (.ref f_weighed_divisor) = true)
    (a_require_lattice_numbers : PySem.W.nsIn K mainGlobals "require_lattice_numbers" = some (some (.ref f_require_lattice_numbers)))
    (l_require_lattice_numbers : K.lookup f_require_lattice_numbers = some ⟨oc_require_lattice_numbers, od_require_lattice_numbers, .func (PySem.W.fnOf "require_lattice_numbers" "require_lattice_numbers" (defArgs s_require_lattice_numbers) (defBody s_require_lattice_numbers) (defScope s_require_lattice_numbers) .none kV_require_lattice_numbers dc_require_lattice_numbers pm_require_lattice_numbers an_require_lattice_numbers cd_require_lattice_numbers ct_require_lattice_numbers), sl_require_lattice_numbers⟩)
    (d_require_lattice_numbers : PySem.W.codeIn K cd_require_lattice_numbers "require_lattice_numbers" = true)
    (k_require_lattice_numbers : PySem.W.keepIn K (.ref f_require_lattice_numbers) = true)
    (a_require_carpet : PySem.W.nsIn K mainGlobals "require_carpet" = some (some (.ref f_require_carpet)))
    (l_require_carpet : K.lookup f_require_carpet = some ⟨oc_require_carpet, od_require_carpet, .func (PySem.W.fnOf "require_carpet" "require_carpet" (defArgs s_require_carpet) (defBody s_require_carpet) (defScope s_require_carpet) .none kV_require_carpet dc_require_carpet pm_require_carpet an_require_carpet cd_require_carpet ct_require_carpet), sl_require_carpet⟩)
    (d_require_carpet : PySem.W.codeIn K cd_require_carpet "require_carpet" = true)
    (k_require_carpet : PySem.W.keepIn K (.ref f_require_carpet) = true)
    (a_row_text : PySem.W.nsIn K mainGlobals "row_text" = some (some (.ref f_row_text)))
    (l_row_text : K.lookup f_row_text = some ⟨oc_row_text, od_row_text, .func (PySem.W.fnOf "row_text" "row_text" (defArgs s_row_text) (defBody s_row_text) (defScope s_row_text) .none kV_row_text dc_row_text pm_row_text an_row_text cd_row_text ct_row_text), sl_row_text⟩)
    (d_row_text : PySem.W.codeIn K cd_row_text "row_text" = true)
    (k_row_text : PySem.W.keepIn K (.ref f_row_text) = true)
    (a__is_row_of_figures : PySem.W.nsIn K mainGlobals "_is_row_of_figures" = some (some (.ref f__is_row_of_figures)))
    (l__is_row_of_figures : K.lookup f__is_row_of_figures = some ⟨oc__is_row_of_figures, od__is_row_of_figures, .func (PySem.W.fnOf "_is_row_of_figures" "_is_row_of_figures" (defArgs s__is_row_of_figures) (defBody s__is_row_of_figures) (defScope s__is_row_of_figures) .none kV__is_row_of_figures dc__is_row_of_figures pm__is_row_of_figures an__is_row_of_figures cd__is_row_of_figures ct__is_row_of_figures), sl__is_row_of_figures⟩)
    (d__is_row_of_figures : PySem.W.codeIn K cd__is_row_of_figures "_is_row_of_figures" = true)
    (k__is_row_of_figures : PySem.W.keepIn K (.ref f__is_row_of_figures) = true)
    (a__turned_row : PySem.W.nsIn K mainGlobals "_turned_row" = some (some (.ref f__turned_row)))
    (l__turned_row : K.lookup f__turned_row = some ⟨oc__turned_row, od__turned_row, .func (PySem.W.fnOf "_turned_row" "_turned_row" (defArgs s__turned_row) (defBody s__turned_row) (defScope s__turned_row) .none kV__turned_row dc__turned_row pm__turned_row an__turned_row cd__turned_row ct__turned_row), sl__turned_row⟩)
    (d__turned_row : PySem.W.codeIn K cd__turned_row "_turned_row" = true)
    (k__turned_row : PySem.W.keepIn K (.ref f__turned_row) = true)
    (a__normal_form : PySem.W.nsIn K mainGlobals "_normal_form" = some (some (.ref f__normal_form)))
    (l__normal_form : K.lookup f__normal_form = some ⟨oc__normal_form, od__normal_form, .func (PySem.W.fnOf "_normal_form" "_normal_form" (defArgs s__normal_form) (defBody s__normal_form) (defScope s__normal_form) .none kV__normal_form dc__normal_form pm__normal_form an__normal_form cd__normal_form ct__normal_form), sl__normal_form⟩)
    (d__normal_form : PySem.W.codeIn K cd__normal_form "_normal_form" = true)
    (k__normal_form : PySem.W.keepIn K (.ref f__normal_form) = true)
    (a__least_width : PySem.W.nsIn K mainGlobals "_least_width" = some (some (.ref f__least_width)))
    (l__least_width : K.lookup f__least_width = some ⟨oc__least_width, od__least_width, .func (PySem.W.fnOf "_least_width" "_least_width" (defArgs s__least_width) (defBody s__least_width) (defScope s__least_width) .none kV__least_width dc__least_width pm__least_width an__least_width cd__least_width ct__least_width), sl__least_width⟩)
    (d__least_width : PySem.W.codeIn K cd__least_width "_least_width" = true)
    (k__least_width : PySem.W.keepIn K (.ref f__least_width) = true)
    (a__least_rise : PySem.W.nsIn K mainGlobals "_least_rise" = some (some (.ref f__least_rise)))
    (l__least_rise : K.lookup f__least_rise = some ⟨oc__least_rise, od__least_rise, .func (PySem.W.fnOf "_least_rise" "_least_rise" (defArgs s__least_rise) (defBody s__least_rise) (defScope s__least_rise) .none kV__least_rise dc__least_rise pm__least_rise an__least_rise cd__least_rise ct__least_rise), sl__least_rise⟩)
    (d__least_rise : PySem.W.codeIn K cd__least_rise "_least_rise" = true)
    (k__least_rise : PySem.W.keepIn K (.ref f__least_rise) = true)
    (a__comes_again : PySem.W.nsIn K mainGlobals "_comes_again" = some (some (.ref f__comes_again)))
    (l__comes_again : K.lookup f__comes_again = some ⟨oc__comes_again, od__comes_again, .func (PySem.W.fnOf "_comes_again" "_comes_again" (defArgs s__comes_again) (defBody s__comes_again) (defScope s__comes_again) .none kV__comes_again dc__comes_again pm__comes_again an__comes_again cd__comes_again ct__comes_again), sl__comes_again⟩)
    (d__comes_again : PySem.W.codeIn K cd__comes_again "_comes_again" = true)
    (k__comes_again : PySem.W.keepIn K (.ref f__comes_again) = true)
    (a_parting_cell : PySem.W.nsIn K mainGlobals "parting_cell" = some (some (.ref f_parting_cell)))
    (l_parting_cell : K.lookup f_parting_cell = some ⟨oc_parting_cell, od_parting_cell, .func (PySem.W.fnOf "parting_cell" "parting_cell" (defArgs s_parting_cell) (defBody s_parting_cell) (defScope s_parting_cell) .none kV_parting_cell dc_parting_cell pm_parting_cell an_parting_cell cd_parting_cell ct_parting_cell), sl_parting_cell⟩)
    (d_parting_cell : PySem.W.codeIn K cd_parting_cell "parting_cell" = true)
    (k_parting_cell : PySem.W.keepIn K (.ref f_parting_cell) = true)
    (a_breaking_cell : PySem.W.nsIn K mainGlobals "breaking_cell" = some (some (.ref f_breaking_cell)))
    (l_breaking_cell : K.lookup f_breaking_cell = some ⟨oc_breaking_cell, od_breaking_cell, .func (PySem.W.fnOf "breaking_cell" "breaking_cell" (defArgs s_breaking_cell) (defBody s_breaking_cell) (defScope s_breaking_cell) .none kV_breaking_cell dc_breaking_cell pm_breaking_cell an_breaking_cell cd_breaking_cell ct_breaking_cell), sl_breaking_cell⟩)
    (d_breaking_cell : PySem.W.codeIn K cd_breaking_cell "breaking_cell" = true)
    (k_breaking_cell : PySem.W.keepIn K (.ref f_breaking_cell) = true)
    (a__column_length : PySem.W.nsIn K mainGlobals "_column_length" = some (some (.ref f__column_length)))
    (l__column_length : K.lookup f__column_length = some ⟨oc__column_length, od__column_length, .func (PySem.W.fnOf "_column_length" "_column_length" (defArgs s__column_length) (defBody s__column_length) (defScope s__column_length) .none kV__column_length dc__column_length pm__column_length an__column_length cd__column_length ct__column_length), sl__column_length⟩)
    (d__column_length : PySem.W.codeIn K cd__column_length "_column_length" = true)
    (k__column_length : PySem.W.keepIn K (.ref f__column_length) = true)
    (a__unlike_index : PySem.W.nsIn K mainGlobals "_unlike_index" = some (some (.ref f__unlike_index)))
    (l__unlike_index : K.lookup f__unlike_index = some ⟨oc__unlike_index, od__unlike_index, .func (PySem.W.fnOf "_unlike_index" "_unlike_index" (defArgs s__unlike_index) (defBody s__unlike_index) (defScope s__unlike_index) .none kV__unlike_index dc__unlike_index pm__unlike_index an__unlike_index cd__unlike_index ct__unlike_index), sl__unlike_index⟩)
    (d__unlike_index : PySem.W.codeIn K cd__unlike_index "_unlike_index" = true)
    (k__unlike_index : PySem.W.keepIn K (.ref f__unlike_index) = true)
    (a__law_opened : PySem.W.nsIn K mainGlobals "_law_opened" = some (some (.ref f__law_opened)))
    (l__law_opened : K.lookup f__law_opened = some ⟨oc__law_opened, od__law_opened, .func (PySem.W.fnOf "_law_opened" "_law_opened" (defArgs s__law_opened) (defBody s__law_opened) (defScope s__law_opened) .none kV__law_opened dc__law_opened pm__law_opened an__law_opened cd__law_opened ct__law_opened), sl__law_opened⟩)
    (d__law_opened : PySem.W.codeIn K cd__law_opened "_law_opened" = true)
    (k__law_opened : PySem.W.keepIn K (.ref f__law_opened) = true)
    (a__law_draw : PySem.W.nsIn K mainGlobals "_law_draw" = some (some (.ref f__law_draw)))
    (l__law_draw : K.lookup f__law_draw = some ⟨oc__law_draw, od__law_draw, .func (PySem.W.fnOf "_law_draw" "_law_draw" (defArgs s__law_draw) (defBody s__law_draw) (defScope s__law_draw) .none kV__law_draw dc__law_draw pm__law_draw an__law_draw cd__law_draw ct__law_draw), sl__law_draw⟩)
    (d__law_draw : PySem.W.codeIn K cd__law_draw "_law_draw" = true)
    (k__law_draw : PySem.W.keepIn K (.ref f__law_draw) = true)
    (a__law_pick : PySem.W.nsIn K mainGlobals "_law_pick" = some (some (.ref f__law_pick)))
    (l__law_pick : K.lookup f__law_pick = some ⟨oc__law_pick, od__law_pick, .func (PySem.W.fnOf "_law_pick" "_law_pick" (defArgs s__law_pick) (defBody s__law_pick) (defScope s__law_pick) .none kV__law_pick dc__law_pick pm__law_pick an__law_pick cd__law_pick ct__law_pick), sl__law_pick⟩)
    (d__law_pick : PySem.W.codeIn K cd__law_pick "_law_pick" = true)
    (k__law_pick : PySem.W.keepIn K (.ref f__law_pick) = true)
    (a__law_three : PySem.W.nsIn K mainGlobals "_law_three" = some (some (.ref f__law_three)))
    (l__law_three : K.lookup f__law_three = some ⟨oc__law_three, od__law_three, .func (PySem.W.fnOf "_law_three" "_law_three" (defArgs s__law_three) (defBody s__law_three) (defScope s__law_three) .none kV__law_three dc__law_three pm__law_three an__law_three cd__law_three ct__law_three), sl__law_three⟩)
    (d__law_three : PySem.W.codeIn K cd__law_three "_law_three" = true)
    (k__law_three : PySem.W.keepIn K (.ref f__law_three) = true)
    (a__law_place : PySem.W.nsIn K mainGlobals "_law_place" = some (some (.ref f__law_place)))
    (l__law_place : K.lookup f__law_place = some ⟨oc__law_place, od__law_place, .func (PySem.W.fnOf "_law_place" "_law_place" (defArgs s__law_place) (defBody s__law_place) (defScope s__law_place) .none kV__law_place dc__law_place pm__law_place an__law_place cd__law_place ct__law_place), sl__law_place⟩)
    (d__law_place : PySem.W.codeIn K cd__law_place "_law_place" = true)
    (k__law_place : PySem.W.keepIn K (.ref f__law_place) = true)
    (a__law_rows : PySem.W.nsIn K mainGlobals "_law_rows" = some (some (.ref f__law_rows)))
    (l__law_rows : K.lookup f__law_rows = some ⟨oc__law_rows, od__law_rows, .func (PySem.W.fnOf "_law_rows" "_law_rows" (defArgs s__law_rows) (defBody s__law_rows) (defScope s__law_rows) .none kV__law_rows dc__law_rows pm__law_rows an__law_rows cd__law_rows ct__law_rows), sl__law_rows⟩)
    (d__law_rows : PySem.W.codeIn K cd__law_rows "_law_rows" = true)
    (k__law_rows : PySem.W.keepIn K (.ref f__law_rows) = true)
    (a__law_colour : PySem.W.nsIn K mainGlobals "_law_colour" = some (some (.ref f__law_colour)))
    (l__law_colour : K.lookup f__law_colour = some ⟨oc__law_colour, od__law_colour, .func (PySem.W.fnOf "_law_colour" "_law_colour" (defArgs s__law_colour) (defBody s__law_colour) (defScope s__law_colour) .none kV__law_colour dc__law_colour pm__law_colour an__law_colour cd__law_colour ct__law_colour), sl__law_colour⟩)
    (d__law_colour : PySem.W.codeIn K cd__law_colour "_law_colour" = true)
    (k__law_colour : PySem.W.keepIn K (.ref f__law_colour) = true)
    (a__law_coarser : PySem.W.nsIn K mainGlobals "_law_coarser" = some (some (.ref f__law_coarser)))
    (l__law_coarser : K.lookup f__law_coarser = some ⟨oc__law_coarser, od__law_coarser, .func (PySem.W.fnOf "_law_coarser" "_law_coarser" (defArgs s__law_coarser) (defBody s__law_coarser) (defScope s__law_coarser) .none kV__law_coarser dc__law_coarser pm__law_coarser an__law_coarser cd__law_coarser ct__law_coarser), sl__law_coarser⟩)
    (d__law_coarser : PySem.W.codeIn K cd__law_coarser "_law_coarser" = true)
    (k__law_coarser : PySem.W.keepIn K (.ref f__law_coarser) = true)
    (a__law_parting : PySem.W.nsIn K mainGlobals "_law_parting" = some (some (.ref f__law_parting)))
    (l__law_parting : K.lookup f__law_parting = some ⟨oc__law_parting, od__law_parting, .func (PySem.W.fnOf "_law_parting" "_law_parting" (defArgs s__law_parting) (defBody s__law_parting) (defScope s__law_parting) .none kV__law_parting dc__law_parting pm__law_parting an__law_parting cd__law_parting ct__law_parting), sl__law_parting⟩)
    (d__law_parting : PySem.W.codeIn K cd__law_parting "_law_parting" = true)
    (k__law_parting : PySem.W.keepIn K (.ref f__law_parting) = true)
    (a__law_bent : PySem.W.nsIn K mainGlobals "_law_bent" = some (some (.ref f__law_bent)))
    (l__law_bent : K.lookup f__law_bent = some ⟨oc__law_bent, od__law_bent, .func (PySem.W.fnOf "_law_bent" "_law_bent" (defArgs s__law_bent) (defBody s__law_bent) (defScope s__law_bent) .none kV__law_bent dc__law_bent pm__law_bent an__law_bent cd__law_bent ct__law_bent), sl__law_bent⟩)
    (d__law_bent : PySem.W.codeIn K cd__law_bent "_law_bent" = true)
    (k__law_bent : PySem.W.keepIn K (.ref f__law_bent) = true)
    (a__law_refused : PySem.W.nsIn K mainGlobals "_law_refused" = some (some (.ref f__law_refused)))
    (l__law_refused : K.lookup f__law_refused = some ⟨oc__law_refused, od__law_refused, .func (PySem.W.fnOf "_law_refused" "_law_refused" (defArgs s__law_refused) (defBody s__law_refused) (defScope s__law_refused) .none kV__law_refused dc__law_refused pm__law_refused an__law_refused cd__law_refused ct__law_refused), sl__law_refused⟩)
    (d__law_refused : PySem.W.codeIn K cd__law_refused "_law_refused" = true)
    (k__law_refused : PySem.W.keepIn K (.ref f__law_refused) = true)
    (a__law_made : PySem.W.nsIn K mainGlobals "_law_made" = some (some (.ref f__law_made)))
    (l__law_made : K.lookup f__law_made = some ⟨oc__law_made, od__law_made, .func (PySem.W.fnOf "_law_made" "_law_made" (defArgs s__law_made) (defBody s__law_made) (defScope s__law_made) .none kV__law_made dc__law_made pm__law_made an__law_made cd__law_made ct__law_made), sl__law_made⟩)
    (d__law_made : PySem.W.codeIn K cd__law_made "_law_made" = true)
    (k__law_made : PySem.W.keepIn K (.ref f__law_made) = true)
    (a__law_window : PySem.W.nsIn K mainGlobals "_law_window" = some (some (.ref f__law_window)))
    (l__law_window : K.lookup f__law_window = some ⟨oc__law_window, od__law_window, .func (PySem.W.fnOf "_law_window" "_law_window" (defArgs s__law_window) (defBody s__law_window) (defScope s__law_window) .none kV__law_window dc__law_window pm__law_window an__law_window cd__law_window ct__law_window), sl__law_window⟩)
    (d__law_window : PySem.W.codeIn K cd__law_window "_law_window" = true)
    (k__law_window : PySem.W.keepIn K (.ref f__law_window) = true)
    (a__law_pair_right : PySem.W.nsIn K mainGlobals "_law_pair_right" = some (some (.ref f__law_pair_right)))
    (l__law_pair_right : K.lookup f__law_pair_right = some ⟨oc__law_pair_right, od__law_pair_right, .func (PySem.W.fnOf "_law_pair_right" "_law_pair_right" (defArgs s__law_pair_right) (defBody s__law_pair_right) (defScope s__law_pair_right) .none kV__law_pair_right dc__law_pair_right pm__law_pair_right an__law_pair_right cd__law_pair_right ct__law_pair_right), sl__law_pair_right⟩)
    (d__law_pair_right : PySem.W.codeIn K cd__law_pair_right "_law_pair_right" = true)
    (k__law_pair_right : PySem.W.keepIn K (.ref f__law_pair_right) = true)
    (a__law_breaking_right : PySem.W.nsIn K mainGlobals "_law_breaking_right" = some (some (.ref f__law_breaking_right)))
    (l__law_breaking_right : K.lookup f__law_breaking_right = some ⟨oc__law_breaking_right, od__law_breaking_right, .func (PySem.W.fnOf "_law_breaking_right" "_law_breaking_right" (defArgs s__law_breaking_right) (defBody s__law_breaking_right) (defScope s__law_breaking_right) .none kV__law_breaking_right dc__law_breaking_right pm__law_breaking_right an__law_breaking_right cd__law_breaking_right ct__law_breaking_right), sl__law_breaking_right⟩)
    (d__law_breaking_right : PySem.W.codeIn K cd__law_breaking_right "_law_breaking_right" = true)
    (k__law_breaking_right : PySem.W.keepIn K (.ref f__law_breaking_right) = true)
    (a_law : PySem.W.nsIn K mainGlobals "law" = some (some (.ref f_law)))
    (l_law : K.lookup f_law = some ⟨oc_law, od_law, .func (PySem.W.fnOf "law" "law" (defArgs s_law) (defBody s_law) (defScope s_law) .none kV_law dc_law pm_law an_law (.ref c_law) ct_law), sl_law⟩)
    (d_law : PySem.W.codeIn K (.ref c_law) "law" = true)
    (k_law : PySem.W.keepIn K (.ref f_law) = true)
    (t_law : PySem.W.tabIn K "law" = some (c_law, P_law))
    (xa_Lattice : PySem.W.nsIn K mainGlobals "Lattice" = some (some (.ref C_Lattice)))
    (pg_Lattice : PySem.W.plainGet K C_Lattice Str.empty = true)
    (hd_Lattice : PySem.W.hasDictIn K C_Lattice = true)
    (po_Lattice : PySem.W.plainOver K C_Lattice = true)
    (sa_Lattice : PySem.W.findIn K (.ref C_Lattice) "__setattr__" = some (some (.builtin "object.__setattr__")))
    (mm_Lattice : PySem.W.makesIn K C_Lattice = true)
    (kc_Lattice : PySem.W.keepIn K (.ref C_Lattice) = true)
    (ya_Lattice : PySem.W.findIn K (.ref C_Lattice) "__class__" = some (some (.builtin "object.__class__")))
    (ym_Lattice : PySem.W.mroIn K C_Lattice (.type "object") = some true)
    (na_Lattice_a : PySem.W.findIn K (.ref C_Lattice) "a" = some none)
    (na_Lattice_b : PySem.W.findIn K (.ref C_Lattice) "b" = some none)
    (na_Lattice_d : PySem.W.findIn K (.ref C_Lattice) "d" = some none)
    (xa_Carpet : PySem.W.nsIn K mainGlobals "Carpet" = some (some (.ref C_Carpet)))
    (pg_Carpet : PySem.W.plainGet K C_Carpet Str.empty = true)
    (hd_Carpet : PySem.W.hasDictIn K C_Carpet = true)
    (po_Carpet : PySem.W.plainOver K C_Carpet = true)
    (sa_Carpet : PySem.W.findIn K (.ref C_Carpet) "__setattr__" = some (some (.builtin "object.__setattr__")))
    (mm_Carpet : PySem.W.makesIn K C_Carpet = true)
    (kc_Carpet : PySem.W.keepIn K (.ref C_Carpet) = true)
    (ya_Carpet : PySem.W.findIn K (.ref C_Carpet) "__class__" = some (some (.builtin "object.__class__")))
    (ym_Carpet : PySem.W.mroIn K C_Carpet (.type "object") = some true)
    (na_Carpet_a : PySem.W.findIn K (.ref C_Carpet) "a" = some none)
    (na_Carpet_b : PySem.W.findIn K (.ref C_Carpet) "b" = some none)
    (na_Carpet_d : PySem.W.findIn K (.ref C_Carpet) "d" = some none)
    (na_Carpet_rows : PySem.W.findIn K (.ref C_Carpet) "rows" = some none)
    (na_Carpet__normal : PySem.W.findIn K (.ref C_Carpet) "_normal" = some none)
    (ma_Lattice___init__ : PySem.W.findIn K (.ref C_Lattice) "__init__" = some (some (.ref f_Lattice___init__)))
    (mi_Lattice___init__ : PySem.W.isFn K (.ref f_Lattice___init__) = true)
    (mk_Lattice___init__ : PySem.W.keepIn K (.ref f_Lattice___init__) = true)
    (l_Lattice___init__ : K.lookup f_Lattice___init__ = some ⟨oc_Lattice___init__, od_Lattice___init__, .func (PySem.W.fnOf "__init__" "Lattice.__init__" (defArgs s_Lattice___init__) (defBody s_Lattice___init__) (defScope s_Lattice___init__) .none kV_Lattice___init__ dc_Lattice___init__ pm_Lattice___init__ an_Lattice___init__ cd_Lattice___init__ ct_Lattice___init__), sl_Lattice___init__⟩)
    (d_Lattice___init__ : PySem.W.codeIn K cd_Lattice___init__ "Lattice.__init__" = true)
    (ma_Lattice___contains__ : PySem.W.findIn K (.ref C_Lattice) "__contains__" = some (some (.ref f_Lattice___contains__)))
    (mi_Lattice___contains__ : PySem.W.isFn K (.ref f_Lattice___contains__) = true)
    (mk_Lattice___contains__ : PySem.W.keepIn K (.ref f_Lattice___contains__) = true)
    (l_Lattice___contains__ : K.lookup f_Lattice___contains__ = some ⟨oc_Lattice___contains__, od_Lattice___contains__, .func (PySem.W.fnOf "__contains__" "Lattice.__contains__" (defArgs s_Lattice___contains__) (defBody s_Lattice___contains__) (defScope s_Lattice___contains__) .none kV_Lattice___contains__ dc_Lattice___contains__ pm_Lattice___contains__ an_Lattice___contains__ cd_Lattice___contains__ ct_Lattice___contains__), sl_Lattice___contains__⟩)
    (d_Lattice___contains__ : PySem.W.codeIn K cd_Lattice___contains__ "Lattice.__contains__" = true)
    (ma_Lattice_place : PySem.W.findIn K (.ref C_Lattice) "place" = some (some (.ref f_Lattice_place)))
    (mi_Lattice_place : PySem.W.isFn K (.ref f_Lattice_place) = true)
    (mk_Lattice_place : PySem.W.keepIn K (.ref f_Lattice_place) = true)
    (l_Lattice_place : K.lookup f_Lattice_place = some ⟨oc_Lattice_place, od_Lattice_place, .func (PySem.W.fnOf "place" "Lattice.place" (defArgs s_Lattice_place) (defBody s_Lattice_place) (defScope s_Lattice_place) .none kV_Lattice_place dc_Lattice_place pm_Lattice_place an_Lattice_place cd_Lattice_place ct_Lattice_place), sl_Lattice_place⟩)
    (d_Lattice_place : PySem.W.codeIn K cd_Lattice_place "Lattice.place" = true)
    (ma_Carpet___init__ : PySem.W.findIn K (.ref C_Carpet) "__init__" = some (some (.ref f_Carpet___init__)))
    (mi_Carpet___init__ : PySem.W.isFn K (.ref f_Carpet___init__) = true)
    (mk_Carpet___init__ : PySem.W.keepIn K (.ref f_Carpet___init__) = true)
    (l_Carpet___init__ : K.lookup f_Carpet___init__ = some ⟨oc_Carpet___init__, od_Carpet___init__, .func (PySem.W.fnOf "__init__" "Carpet.__init__" (defArgs s_Carpet___init__) (defBody s_Carpet___init__) (defScope s_Carpet___init__) .none kV_Carpet___init__ dc_Carpet___init__ pm_Carpet___init__ an_Carpet___init__ cd_Carpet___init__ ct_Carpet___init__), sl_Carpet___init__⟩)
    (d_Carpet___init__ : PySem.W.codeIn K cd_Carpet___init__ "Carpet.__init__" = true)
    (ma_Carpet___eq__ : PySem.W.findIn K (.ref C_Carpet) "__eq__" = some (some (.ref f_Carpet___eq__)))
    (mi_Carpet___eq__ : PySem.W.isFn K (.ref f_Carpet___eq__) = true)
    (mk_Carpet___eq__ : PySem.W.keepIn K (.ref f_Carpet___eq__) = true)
    (l_Carpet___eq__ : K.lookup f_Carpet___eq__ = some ⟨oc_Carpet___eq__, od_Carpet___eq__, .func (PySem.W.fnOf "__eq__" "Carpet.__eq__" (defArgs s_Carpet___eq__) (defBody s_Carpet___eq__) (defScope s_Carpet___eq__) .none kV_Carpet___eq__ dc_Carpet___eq__ pm_Carpet___eq__ an_Carpet___eq__ cd_Carpet___eq__ ct_Carpet___eq__), sl_Carpet___eq__⟩)
    (d_Carpet___eq__ : PySem.W.codeIn K cd_Carpet___eq__ "Carpet.__eq__" = true)
    (ma_Carpet_colour : PySem.W.findIn K (.ref C_Carpet) "colour" = some (some (.ref f_Carpet_colour)))
    (mi_Carpet_colour : PySem.W.isFn K (.ref f_Carpet_colour) = true)
    (mk_Carpet_colour : PySem.W.keepIn K (.ref f_Carpet_colour) = true)
    (l_Carpet_colour : K.lookup f_Carpet_colour = some ⟨oc_Carpet_colour, od_Carpet_colour, .func (PySem.W.fnOf "colour" "Carpet.colour" (defArgs s_Carpet_colour) (defBody s_Carpet_colour) (defScope s_Carpet_colour) .none kV_Carpet_colour dc_Carpet_colour pm_Carpet_colour an_Carpet_colour cd_Carpet_colour ct_Carpet_colour), sl_Carpet_colour⟩)
    (d_Carpet_colour : PySem.W.codeIn K cd_Carpet_colour "Carpet.colour" = true)
    (ma_Carpet_lattice : PySem.W.findIn K (.ref C_Carpet) "lattice" = some (some (.ref f_Carpet_lattice)))
    (mi_Carpet_lattice : PySem.W.isFn K (.ref f_Carpet_lattice) = true)
    (mk_Carpet_lattice : PySem.W.keepIn K (.ref f_Carpet_lattice) = true)
    (l_Carpet_lattice : K.lookup f_Carpet_lattice = some ⟨oc_Carpet_lattice, od_Carpet_lattice, .func (PySem.W.fnOf "lattice" "Carpet.lattice" (defArgs s_Carpet_lattice) (defBody s_Carpet_lattice) (defScope s_Carpet_lattice) .none kV_Carpet_lattice dc_Carpet_lattice pm_Carpet_lattice an_Carpet_lattice cd_Carpet_lattice ct_Carpet_lattice), sl_Carpet_lattice⟩)
    (d_Carpet_lattice : PySem.W.codeIn K cd_Carpet_lattice "Carpet.lattice" = true)
    (ma_Carpet_least : PySem.W.findIn K (.ref C_Carpet) "least" = some (some (.ref f_Carpet_least)))
    (mi_Carpet_least : PySem.W.isFn K (.ref f_Carpet_least) = true)
    (mk_Carpet_least : PySem.W.keepIn K (.ref f_Carpet_least) = true)
    (l_Carpet_least : K.lookup f_Carpet_least = some ⟨oc_Carpet_least, od_Carpet_least, .func (PySem.W.fnOf "least" "Carpet.least" (defArgs s_Carpet_least) (defBody s_Carpet_least) (defScope s_Carpet_least) .none kV_Carpet_least dc_Carpet_least pm_Carpet_least an_Carpet_least cd_Carpet_least ct_Carpet_least), sl_Carpet_least⟩)
    (d_Carpet_least : PySem.W.codeIn K cd_Carpet_least "Carpet.least" = true)
    (ma_Carpet_normal : PySem.W.findIn K (.ref C_Carpet) "normal" = some (some (.ref f_Carpet_normal)))
    (mi_Carpet_normal : PySem.W.isFn K (.ref f_Carpet_normal) = true)
    (mk_Carpet_normal : PySem.W.keepIn K (.ref f_Carpet_normal) = true)
    (l_Carpet_normal : K.lookup f_Carpet_normal = some ⟨oc_Carpet_normal, od_Carpet_normal, .func (PySem.W.fnOf "normal" "Carpet.normal" (defArgs s_Carpet_normal) (defBody s_Carpet_normal) (defScope s_Carpet_normal) .none kV_Carpet_normal dc_Carpet_normal pm_Carpet_normal an_Carpet_normal cd_Carpet_normal ct_Carpet_normal), sl_Carpet_normal⟩)
    (d_Carpet_normal : PySem.W.codeIn K cd_Carpet_normal "Carpet.normal" = true)
    (ma_Carpet_moved_by : PySem.W.findIn K (.ref C_Carpet) "moved_by" = some (some (.ref f_Carpet_moved_by)))
    (mi_Carpet_moved_by : PySem.W.isFn K (.ref f_Carpet_moved_by) = true)
    (mk_Carpet_moved_by : PySem.W.keepIn K (.ref f_Carpet_moved_by) = true)
    (l_Carpet_moved_by : K.lookup f_Carpet_moved_by = some ⟨oc_Carpet_moved_by, od_Carpet_moved_by, .func (PySem.W.fnOf "moved_by" "Carpet.moved_by" (defArgs s_Carpet_moved_by) (defBody s_Carpet_moved_by) (defScope s_Carpet_moved_by) .none kV_Carpet_moved_by dc_Carpet_moved_by pm_Carpet_moved_by an_Carpet_moved_by cd_Carpet_moved_by ct_Carpet_moved_by), sl_Carpet_moved_by⟩)
    (d_Carpet_moved_by : PySem.W.codeIn K cd_Carpet_moved_by "Carpet.moved_by" = true)
    (ma_Carpet_is_period : PySem.W.findIn K (.ref C_Carpet) "is_period" = some (some (.ref f_Carpet_is_period)))
    (mi_Carpet_is_period : PySem.W.isFn K (.ref f_Carpet_is_period) = true)
    (mk_Carpet_is_period : PySem.W.keepIn K (.ref f_Carpet_is_period) = true)
    (l_Carpet_is_period : K.lookup f_Carpet_is_period = some ⟨oc_Carpet_is_period, od_Carpet_is_period, .func (PySem.W.fnOf "is_period" "Carpet.is_period" (defArgs s_Carpet_is_period) (defBody s_Carpet_is_period) (defScope s_Carpet_is_period) .none kV_Carpet_is_period dc_Carpet_is_period pm_Carpet_is_period an_Carpet_is_period cd_Carpet_is_period ct_Carpet_is_period), sl_Carpet_is_period⟩)
    (d_Carpet_is_period : PySem.W.codeIn K cd_Carpet_is_period "Carpet.is_period" = true)
    (xa_BadNumber : PySem.W.nsIn K mainGlobals "BadNumber" = some (some (.ref C_BadNumber)))
    (xl_BadNumber : K.lookup C_BadNumber = some (excClassObj nm_BadNumber q_BadNumber C_BadNumber N_BadNumber bs_BadNumber bm_BadNumber true sn_BadNumber sub_BadNumber ab_BadNumber col_BadNumber dd_BadNumber m0_BadNumber m1_BadNumber m2_BadNumber m3_BadNumber m5_BadNumber "ValueError.__new__"))
    (xr_BadNumber : PySem.HandSPX.refsVE bm_BadNumber = true)
    (xs_BadNumber : PySem.W.findIn K (.ref C_BadNumber) "__setattr__" = some (some (.builtin "object.__setattr__")))
    (xe_BadNumber : PySem.W.subIn K (.ref C_BadNumber) (.type "BaseException") = some true)
    (xt_BadNumber : PySem.W.typeIn K (.ref C_BadNumber) = some (.type "type"))
    (xk_BadNumber : PySem.W.keepIn K (.ref C_BadNumber) = true)
    (xg_BadNumber : PySem.W.findIn K (.ref C_BadNumber) "__getattribute__" = some (some (.builtin "BaseException.__getattribute__")))
    (xG_BadNumber : PySem.W.findIn K (.ref C_BadNumber) "__getattr__" = some none)
    (xd_BadNumber : PySem.W.hasDictIn K C_BadNumber = true)
    (xn_BadNumber : PySem.W.findIn K (.ref C_BadNumber) "number" = some none)
    (xi_BadNumber : PySem.W.findIn K (.ref C_BadNumber) "__init__" = some (some (.ref fi_BadNumber)))
    (xf_BadNumber : PySem.W.typeIn K (.ref fi_BadNumber) = some (.type "function"))
    (xL_BadNumber : K.lookup fi_BadNumber = some ⟨ocx_BadNumber, odx_BadNumber, .func (PySem.W.fnOf "__init__" "BadNumber.__init__" (defArgs s_BadNumber___init__) (defBody s_BadNumber___init__) (defScope s_BadNumber___init__) .none kVx_BadNumber dcx_BadNumber pmx_BadNumber anx_BadNumber cdx_BadNumber ctx_BadNumber), slx_BadNumber⟩)
    (xc_BadNumber : PySem.W.codeIn K cdx_BadNumber "BadNumber.__init__" = true)
    (xK_BadNumber : PySem.W.keepIn K (.ref fi_BadNumber) = true)
    (yc_BadNumber : (PySem.W.clsIn K C_BadNumber).isSome = true)
    (ya_BadNumber : PySem.W.findIn K (.ref C_BadNumber) "__class__" = some (some (.builtin "object.__class__")))
    (ym_BadNumber : PySem.W.mroIn K C_BadNumber (.type "object") = some true)
    (xa_BadPart : PySem.W.nsIn K mainGlobals "BadPart" = some (some (.ref C_BadPart)))
    (xl_BadPart : K.lookup C_BadPart = some (excClassObj nm_BadPart q_BadPart C_BadPart N_BadPart bs_BadPart bm_BadPart true sn_BadPart sub_BadPart ab_BadPart col_BadPart dd_BadPart m0_BadPart m1_BadPart m2_BadPart m3_BadPart m5_BadPart "ValueError.__new__"))
    (xr_BadPart : PySem.HandSPX.refsVE bm_BadPart = true)
    (xs_BadPart : PySem.W.findIn K (.ref C_BadPart) "__setattr__" = some (some (.builtin "object.__setattr__")))
    (xe_BadPart : PySem.W.subIn K (.ref C_BadPart) (.type "BaseException") = some true)
    (xt_BadPart : PySem.W.typeIn K (.ref C_BadPart) = some (.type "type"))
    (xk_BadPart : PySem.W.keepIn K (.ref C_BadPart) = true)
    (xg_BadPart : PySem.W.findIn K (.ref C_BadPart) "__getattribute__" = some (some (.builtin "BaseException.__getattribute__")))
    (xG_BadPart : PySem.W.findIn K (.ref C_BadPart) "__getattr__" = some none)
    (xd_BadPart : PySem.W.hasDictIn K C_BadPart = true)
    (xn_BadPart : PySem.W.findIn K (.ref C_BadPart) "part" = some none)
    (xi_BadPart : PySem.W.findIn K (.ref C_BadPart) "__init__" = some (some (.ref fi_BadPart)))
    (xf_BadPart : PySem.W.typeIn K (.ref fi_BadPart) = some (.type "function"))
    (xL_BadPart : K.lookup fi_BadPart = some ⟨ocx_BadPart, odx_BadPart, .func (PySem.W.fnOf "__init__" "BadPart.__init__" (defArgs s_BadPart___init__) (defBody s_BadPart___init__) (defScope s_BadPart___init__) .none kVx_BadPart dcx_BadPart pmx_BadPart anx_BadPart cdx_BadPart ctx_BadPart), slx_BadPart⟩)
    (xc_BadPart : PySem.W.codeIn K cdx_BadPart "BadPart.__init__" = true)
    (xK_BadPart : PySem.W.keepIn K (.ref fi_BadPart) = true)
    (yc_BadPart : (PySem.W.clsIn K C_BadPart).isSome = true)
    (ya_BadPart : PySem.W.findIn K (.ref C_BadPart) "__class__" = some (some (.builtin "object.__class__")))
    (ym_BadPart : PySem.W.mroIn K C_BadPart (.type "object") = some true)
    (xa_BadIndex : PySem.W.nsIn K mainGlobals "BadIndex" = some (some (.ref C_BadIndex)))
    (xl_BadIndex : K.lookup C_BadIndex = some (excClassObj nm_BadIndex q_BadIndex C_BadIndex N_BadIndex bs_BadIndex bm_BadIndex true sn_BadIndex sub_BadIndex ab_BadIndex col_BadIndex dd_BadIndex m0_BadIndex m1_BadIndex m2_BadIndex m3_BadIndex m5_BadIndex "ValueError.__new__"))
    (xr_BadIndex : PySem.HandSPX.refsVE bm_BadIndex = true)
    (xs_BadIndex : PySem.W.findIn K (.ref C_BadIndex) "__setattr__" = some (some (.builtin "object.__setattr__")))
    (xe_BadIndex : PySem.W.subIn K (.ref C_BadIndex) (.type "BaseException") = some true)
    (xt_BadIndex : PySem.W.typeIn K (.ref C_BadIndex) = some (.type "type"))
    (xk_BadIndex : PySem.W.keepIn K (.ref C_BadIndex) = true)
    (xg_BadIndex : PySem.W.findIn K (.ref C_BadIndex) "__getattribute__" = some (some (.builtin "BaseException.__getattribute__")))
    (xG_BadIndex : PySem.W.findIn K (.ref C_BadIndex) "__getattr__" = some none)
    (xd_BadIndex : PySem.W.hasDictIn K C_BadIndex = true)
    (xn_BadIndex : PySem.W.findIn K (.ref C_BadIndex) "index" = some none)
    (xi_BadIndex : PySem.W.findIn K (.ref C_BadIndex) "__init__" = some (some (.ref fi_BadIndex)))
    (xf_BadIndex : PySem.W.typeIn K (.ref fi_BadIndex) = some (.type "function"))
    (xL_BadIndex : K.lookup fi_BadIndex = some ⟨ocx_BadIndex, odx_BadIndex, .func (PySem.W.fnOf "__init__" "BadIndex.__init__" (defArgs s_BadIndex___init__) (defBody s_BadIndex___init__) (defScope s_BadIndex___init__) .none kVx_BadIndex dcx_BadIndex pmx_BadIndex anx_BadIndex cdx_BadIndex ctx_BadIndex), slx_BadIndex⟩)
    (xc_BadIndex : PySem.W.codeIn K cdx_BadIndex "BadIndex.__init__" = true)
    (xK_BadIndex : PySem.W.keepIn K (.ref fi_BadIndex) = true)
    (yc_BadIndex : (PySem.W.clsIn K C_BadIndex).isSome = true)
    (ya_BadIndex : PySem.W.findIn K (.ref C_BadIndex) "__class__" = some (some (.builtin "object.__class__")))
    (ym_BadIndex : PySem.W.mroIn K C_BadIndex (.type "object") = some true)
    (xa_TooMany : PySem.W.nsIn K mainGlobals "TooMany" = some (some (.ref C_TooMany)))
    (xl_TooMany : K.lookup C_TooMany = some (excClassObj nm_TooMany q_TooMany C_TooMany N_TooMany bs_TooMany bm_TooMany true sn_TooMany sub_TooMany ab_TooMany col_TooMany dd_TooMany m0_TooMany m1_TooMany m2_TooMany m3_TooMany m5_TooMany "OverflowError.__new__"))
    (xr_TooMany : bm_TooMany = Iz.oeT)
    (xs_TooMany : PySem.W.findIn K (.ref C_TooMany) "__setattr__" = some (some (.builtin "object.__setattr__")))
    (xe_TooMany : PySem.W.subIn K (.ref C_TooMany) (.type "BaseException") = some true)
    (xt_TooMany : PySem.W.typeIn K (.ref C_TooMany) = some (.type "type"))
    (xk_TooMany : PySem.W.keepIn K (.ref C_TooMany) = true)
    (xg_TooMany : PySem.W.findIn K (.ref C_TooMany) "__getattribute__" = some (some (.builtin "BaseException.__getattribute__")))
    (xG_TooMany : PySem.W.findIn K (.ref C_TooMany) "__getattr__" = some none)
    (xd_TooMany : PySem.W.hasDictIn K C_TooMany = true)
    (xn_TooMany : PySem.W.findIn K (.ref C_TooMany) "limit" = some none)
    (xi_TooMany : PySem.W.findIn K (.ref C_TooMany) "__init__" = some (some (.ref fi_TooMany)))
    (xf_TooMany : PySem.W.typeIn K (.ref fi_TooMany) = some (.type "function"))
    (xL_TooMany : K.lookup fi_TooMany = some ⟨ocx_TooMany, odx_TooMany, .func (PySem.W.fnOf "__init__" "TooMany.__init__" (defArgs s_TooMany___init__) (defBody s_TooMany___init__) (defScope s_TooMany___init__) .none kVx_TooMany dcx_TooMany pmx_TooMany anx_TooMany cdx_TooMany ctx_TooMany), slx_TooMany⟩)
    (xc_TooMany : PySem.W.codeIn K cdx_TooMany "TooMany.__init__" = true)
    (xK_TooMany : PySem.W.keepIn K (.ref fi_TooMany) = true)
    (yc_TooMany : (PySem.W.clsIn K C_TooMany).isSome = true)
    (ya_TooMany : PySem.W.findIn K (.ref C_TooMany) "__class__" = some (some (.builtin "object.__class__")))
    (ym_TooMany : PySem.W.mroIn K C_TooMany (.type "object") = some true)
    (yn : PySem.W.specialIn K (.builtin "object.__class__") "__get__" = some (some (.builtin "getset_descriptor.__get__")))
    (yt : PySem.W.takesIn K (.builtin "object.__class__") = some true)
    (xa_NotSo : PySem.W.nsIn K mainGlobals "NotSo" = some (some (.ref C_NotSo)))
    (ePP : PySem.W.exmOne K (.ref C_BadPart) (.ref C_BadPart) = some true)
    (eNP : PySem.W.exmOne K (.ref C_BadNumber) (.ref C_BadPart) = some false)
    (eNN : PySem.W.exmOne K (.ref C_BadNumber) (.ref C_BadNumber) = some true)
    (eIP : PySem.W.exmOne K (.ref C_BadIndex) (.ref C_BadPart) = some false)
    (eIN : PySem.W.exmOne K (.ref C_BadIndex) (.ref C_BadNumber) = some false)
    (eII : PySem.W.exmOne K (.ref C_BadIndex) (.ref C_BadIndex) = some true)
    (eMP : PySem.W.exmOne K (.ref C_TooMany) (.ref C_BadPart) = some false)
    (eMN : PySem.W.exmOne K (.ref C_TooMany) (.ref C_BadNumber) = some false)
    (eMI : PySem.W.exmOne K (.ref C_TooMany) (.ref C_BadIndex) = some false)
    (eMS : PySem.W.exmOne K (.ref C_TooMany) (.ref C_NotSo) = some false)
    (eMM : PySem.W.exmOne K (.ref C_TooMany) (.ref C_TooMany) = some true)
    (kC_int : PySem.W.kitOne K (.type "int") (.ref C_Carpet) = some false)
    (kC_list : PySem.W.kitOne K (.type "list") (.ref C_Carpet) = some false)
    (kC_NoneType : PySem.W.kitOne K (.type "NoneType") (.ref C_Carpet) = some false)
    (kC_str : PySem.W.kitOne K (.type "str") (.ref C_Carpet) = some false)
    (kk_FIGURES : PySem.W.nsIn K mainGlobals "FIGURES" = some (some (.str (SX.S [48, 49, 50, 51, 52, 53, 54, 55, 56, 57]) tc_FIGURES)))
    (kk_MOST_PLACES : PySem.W.nsIn K mainGlobals "MOST_PLACES" = some (some (.int 144 tc_MOST_PLACES)))
    (z_isinstance : PySem.W.nsIn K mainGlobals "isinstance" = some none)
    (z_int : PySem.W.nsIn K mainGlobals "int" = some none)
    (z_bool : PySem.W.nsIn K mainGlobals "bool" = some none)
    (z_tuple : PySem.W.nsIn K mainGlobals "tuple" = some none)
    (z_len : PySem.W.nsIn K mainGlobals "len" = some none)
    (z_abs : PySem.W.nsIn K mainGlobals "abs" = some none)
    (z_list : PySem.W.nsIn K mainGlobals "list" = some none)
    (z_range : PySem.W.nsIn K mainGlobals "range" = some none)
    (z_repr : PySem.W.nsIn K mainGlobals "repr" = some none)
    (z_max : PySem.W.nsIn K mainGlobals "max" = some none)
    (z_min : PySem.W.nsIn K mainGlobals "min" = some none)
    (z_str : PySem.W.nsIn K mainGlobals "str" = some none)
    (z_all : PySem.W.nsIn K mainGlobals "all" = some none)
    (z_enumerate : PySem.W.nsIn K mainGlobals "enumerate" = some none) : Txt K mg :=
  { d_is_whole := ⟨_, _, PySem.W.mg_of X G a_is_whole, fun_mk (st := s_is_whole) l_is_whole d_is_whole k_is_whole⟩,
    d_is_from := ⟨_, _, PySem.W.mg_of X G a_is_from, fun_mk (st := s_is_from) l_is_from d_is_from k_is_from⟩,
    d_is_row := ⟨_, _, PySem.W.mg_of X G a_is_row, fun_mk (st := s_is_row) l_is_row d_is_row k_is_row⟩,
    d_is_pair := ⟨_, _, PySem.W.mg_of X G a_is_pair, fun_mk (st := s_is_pair) l_is_pair d_is_pair k_is_pair⟩,
    d_is_shift := ⟨_, _, PySem.W.mg_of X G a_is_shift, fun_mk (st := s_is_shift) l_is_shift d_is_shift k_is_shift⟩,
    d_require_whole := ⟨_, _, PySem.W.mg_of X G a_require_whole, fun_mk (st := s_require_whole) l_require_whole d_require_whole k_require_whole⟩,
    d_require_pair := ⟨_, _, PySem.W.mg_of X G a_require_pair, fun_mk (st := s_require_pair) l_require_pair d_require_pair k_require_pair⟩,
    d_greatest_divisor := ⟨_, _, PySem.W.mg_of X G a_greatest_divisor, fun_mk (st := s_greatest_divisor) l_greatest_divisor d_greatest_divisor k_greatest_divisor⟩,
    d_weighed_divisor := ⟨_, _, PySem.W.mg_of X G a_weighed_divisor, fun_mk (st := s_weighed_divisor) l_weighed_divisor d_weighed_divisor k_weighed_divisor⟩,
    d_require_lattice_numbers := ⟨_, _, PySem.W.mg_of X G a_require_lattice_numbers, fun_mk (st := s_require_lattice_numbers) l_require_lattice_numbers d_require_lattice_numbers k_require_lattice_numbers⟩,
    d_require_carpet := ⟨_, _, PySem.W.mg_of X G a_require_carpet, fun_mk (st := s_require_carpet) l_require_carpet d_require_carpet k_require_carpet⟩,
    d_row_text := ⟨_, _, PySem.W.mg_of X G a_row_text, fun_mk (st := s_row_text) l_row_text d_row_text k_row_text⟩,
    d__is_row_of_figures := ⟨_, _, PySem.W.mg_of X G a__is_row_of_figures, fun_mk (st := s__is_row_of_figures) l__is_row_of_figures d__is_row_of_figures k__is_row_of_figures⟩,
    d__turned_row := ⟨_, _, PySem.W.mg_of X G a__turned_row, fun_mk (st := s__turned_row) l__turned_row d__turned_row k__turned_row⟩,
    d__normal_form := ⟨_, _, PySem.W.mg_of X G a__normal_form, fun_mk (st := s__normal_form) l__normal_form d__normal_form k__normal_form⟩,
    d__least_width := ⟨_, _, PySem.W.mg_of X G a__least_width, fun_mk (st := s__least_width) l__least_width d__least_width k__least_width⟩,
    d__least_rise := ⟨_, _, PySem.W.mg_of X G a__least_rise, fun_mk (st := s__least_rise) l__least_rise d__least_rise k__least_rise⟩,
    d__comes_again := ⟨_, _, PySem.W.mg_of X G a__comes_again, fun_mk (st := s__comes_again) l__comes_again d__comes_again k__comes_again⟩,
    d_parting_cell := ⟨_, _, PySem.W.mg_of X G a_parting_cell, fun_mk (st := s_parting_cell) l_parting_cell d_parting_cell k_parting_cell⟩,
    d_breaking_cell := ⟨_, _, PySem.W.mg_of X G a_breaking_cell, fun_mk (st := s_breaking_cell) l_breaking_cell d_breaking_cell k_breaking_cell⟩,
    d__column_length := ⟨_, _, PySem.W.mg_of X G a__column_length, fun_mk (st := s__column_length) l__column_length d__column_length k__column_length⟩,
    d__unlike_index := ⟨_, _, PySem.W.mg_of X G a__unlike_index, fun_mk (st := s__unlike_index) l__unlike_index d__unlike_index k__unlike_index⟩,
    d__law_opened := ⟨_, _, PySem.W.mg_of X G a__law_opened, fun_mk (st := s__law_opened) l__law_opened d__law_opened k__law_opened⟩,
    d__law_draw := ⟨_, _, PySem.W.mg_of X G a__law_draw, fun_mk (st := s__law_draw) l__law_draw d__law_draw k__law_draw⟩,
    d__law_pick := ⟨_, _, PySem.W.mg_of X G a__law_pick, fun_mk (st := s__law_pick) l__law_pick d__law_pick k__law_pick⟩,
    d__law_three := ⟨_, _, PySem.W.mg_of X G a__law_three, fun_mk (st := s__law_three) l__law_three d__law_three k__law_three⟩,
    d__law_place := ⟨_, _, PySem.W.mg_of X G a__law_place, fun_mk (st := s__law_place) l__law_place d__law_place k__law_place⟩,
    d__law_rows := ⟨_, _, PySem.W.mg_of X G a__law_rows, fun_mk (st := s__law_rows) l__law_rows d__law_rows k__law_rows⟩,
    d__law_colour := ⟨_, _, PySem.W.mg_of X G a__law_colour, fun_mk (st := s__law_colour) l__law_colour d__law_colour k__law_colour⟩,
    d__law_coarser := ⟨_, _, PySem.W.mg_of X G a__law_coarser, fun_mk (st := s__law_coarser) l__law_coarser d__law_coarser k__law_coarser⟩,
    d__law_parting := ⟨_, _, PySem.W.mg_of X G a__law_parting, fun_mk (st := s__law_parting) l__law_parting d__law_parting k__law_parting⟩,
    d__law_bent := ⟨_, _, PySem.W.mg_of X G a__law_bent, fun_mk (st := s__law_bent) l__law_bent d__law_bent k__law_bent⟩,
    d__law_refused := ⟨_, _, PySem.W.mg_of X G a__law_refused, fun_mk (st := s__law_refused) l__law_refused d__law_refused k__law_refused⟩,
    d__law_made := ⟨_, _, PySem.W.mg_of X G a__law_made, fun_mk (st := s__law_made) l__law_made d__law_made k__law_made⟩,
    d__law_window := ⟨_, _, PySem.W.mg_of X G a__law_window, fun_mk (st := s__law_window) l__law_window d__law_window k__law_window⟩,
    d__law_pair_right := ⟨_, _, PySem.W.mg_of X G a__law_pair_right, fun_mk (st := s__law_pair_right) l__law_pair_right d__law_pair_right k__law_pair_right⟩,
    d__law_breaking_right := ⟨_, _, PySem.W.mg_of X G a__law_breaking_right, fun_mk (st := s__law_breaking_right) l__law_breaking_right d__law_breaking_right k__law_breaking_right⟩,
    lam_law := lamf_mk X G a_law l_law d_law k_law t_law,
    ci_Lattice := by rw [ga_of xa_Lattice]; exact ⟨⟨pg_Lattice, hd_Lattice, po_Lattice, sa_Lattice⟩, ya_Lattice, yn, yt, ym_Lattice⟩,
    c_Lattice := by rw [ga_of xa_Lattice]; exact ⟨pg_Lattice, hd_Lattice, po_Lattice, sa_Lattice⟩,
    g_Lattice := by rw [ga_of xa_Lattice]; exact PySem.W.mg_of X G xa_Lattice,
    na_Lattice_a := by rw [ga_of xa_Lattice]; exact na_Lattice_a,
    na_Lattice_b := by rw [ga_of xa_Lattice]; exact na_Lattice_b,
    na_Lattice_d := by rw [ga_of xa_Lattice]; exact na_Lattice_d,
    ci_Carpet := by rw [ga_of xa_Carpet]; exact ⟨⟨pg_Carpet, hd_Carpet, po_Carpet, sa_Carpet⟩, ya_Carpet, yn, yt, ym_Carpet⟩,
    c_Carpet := by rw [ga_of xa_Carpet]; exact ⟨pg_Carpet, hd_Carpet, po_Carpet, sa_Carpet⟩,
    g_Carpet := by rw [ga_of xa_Carpet]; exact PySem.W.mg_of X G xa_Carpet,
    na_Carpet_a := by rw [ga_of xa_Carpet]; exact na_Carpet_a,
    na_Carpet_b := by rw [ga_of xa_Carpet]; exact na_Carpet_b,
    na_Carpet_d := by rw [ga_of xa_Carpet]; exact na_Carpet_d,
    na_Carpet_rows := by rw [ga_of xa_Carpet]; exact na_Carpet_rows,
    na_Carpet__normal := by rw [ga_of xa_Carpet]; exact na_Carpet__normal,
    d_Lattice___init__ := by rw [ga_of xa_Lattice]; exact ⟨_, _, ⟨mm_Lattice, ma_Lattice___init__, mi_Lattice___init__, kc_Lattice⟩, ⟨⟨_, _, _, _, _, _, _, _, _, _, rfl, l_Lattice___init__, d_Lattice___init__, .inl ⟨rfl, rfl⟩, .inl rfl⟩, mk_Lattice___init__⟩⟩,
    d_Lattice___contains__ := by rw [ga_of xa_Lattice]; exact ⟨_, _, ⟨ma_Lattice___contains__, mi_Lattice___contains__, mk_Lattice___contains__⟩, ⟨⟨_, _, _, _, _, _, _, _, _, _, rfl, l_Lattice___contains__, d_Lattice___contains__, .inl ⟨rfl, rfl⟩, .inl rfl⟩, mk_Lattice___contains__⟩⟩,
    d_Lattice_place := by rw [ga_of xa_Lattice]; exact ⟨_, _, ⟨ma_Lattice_place, mi_Lattice_place, mk_Lattice_place⟩, ⟨⟨_, _, _, _, _, _, _, _, _, _, rfl, l_Lattice_place, d_Lattice_place, .inl ⟨rfl, rfl⟩, .inl rfl⟩, mk_Lattice_place⟩⟩,
    d_Carpet___init__ := by rw [ga_of xa_Carpet]; exact ⟨_, _, ⟨mm_Carpet, ma_Carpet___init__, mi_Carpet___init__, kc_Carpet⟩, ⟨⟨_, _, _, _, _, _, _, _, _, _, rfl, l_Carpet___init__, d_Carpet___init__, .inl ⟨rfl, rfl⟩, .inl rfl⟩, mk_Carpet___init__⟩⟩,
    d_Carpet___eq__ := by rw [ga_of xa_Carpet]; exact ⟨_, _, ⟨ma_Carpet___eq__, mi_Carpet___eq__, mk_Carpet___eq__⟩, ⟨⟨_, _, _, _, _, _, _, _, _, _, rfl, l_Carpet___eq__, d_Carpet___eq__, .inl ⟨rfl, rfl⟩, .inl rfl⟩, mk_Carpet___eq__⟩⟩,
    d_Carpet_colour := by rw [ga_of xa_Carpet]; exact ⟨_, _, ⟨ma_Carpet_colour, mi_Carpet_colour, mk_Carpet_colour⟩, ⟨⟨_, _, _, _, _, _, _, _, _, _, rfl, l_Carpet_colour, d_Carpet_colour, .inl ⟨rfl, rfl⟩, .inl rfl⟩, mk_Carpet_colour⟩⟩,
    d_Carpet_lattice := by rw [ga_of xa_Carpet]; exact ⟨_, _, ⟨ma_Carpet_lattice, mi_Carpet_lattice, mk_Carpet_lattice⟩, ⟨⟨_, _, _, _, _, _, _, _, _, _, rfl, l_Carpet_lattice, d_Carpet_lattice, .inl ⟨rfl, rfl⟩, .inl rfl⟩, mk_Carpet_lattice⟩⟩,
    d_Carpet_least := by rw [ga_of xa_Carpet]; exact ⟨_, _, ⟨ma_Carpet_least, mi_Carpet_least, mk_Carpet_least⟩, ⟨⟨_, _, _, _, _, _, _, _, _, _, rfl, l_Carpet_least, d_Carpet_least, .inl ⟨rfl, rfl⟩, .inl rfl⟩, mk_Carpet_least⟩⟩,
    d_Carpet_normal := by rw [ga_of xa_Carpet]; exact ⟨_, _, ⟨ma_Carpet_normal, mi_Carpet_normal, mk_Carpet_normal⟩, ⟨⟨_, _, _, _, _, _, _, _, _, _, rfl, l_Carpet_normal, d_Carpet_normal, .inl ⟨rfl, rfl⟩, .inl rfl⟩, mk_Carpet_normal⟩⟩,
    d_Carpet_moved_by := by rw [ga_of xa_Carpet]; exact ⟨_, _, ⟨ma_Carpet_moved_by, mi_Carpet_moved_by, mk_Carpet_moved_by⟩, ⟨⟨_, _, _, _, _, _, _, _, _, _, rfl, l_Carpet_moved_by, d_Carpet_moved_by, .inl ⟨rfl, rfl⟩, .inl rfl⟩, mk_Carpet_moved_by⟩⟩,
    d_Carpet_is_period := by rw [ga_of xa_Carpet]; exact ⟨_, _, ⟨ma_Carpet_is_period, mi_Carpet_is_period, mk_Carpet_is_period⟩, ⟨⟨_, _, _, _, _, _, _, _, _, _, rfl, l_Carpet_is_period, d_Carpet_is_period, .inl ⟨rfl, rfl⟩, .inl rfl⟩, mk_Carpet_is_period⟩⟩,
    x_BadNumber := ext_mk (st := s_BadNumber___init__) X G xa_BadNumber xl_BadNumber xr_BadNumber xs_BadNumber xe_BadNumber xt_BadNumber xk_BadNumber xg_BadNumber xG_BadNumber xd_BadNumber xn_BadNumber xi_BadNumber xf_BadNumber xL_BadNumber xc_BadNumber xK_BadNumber sc_BadNumber___init__ rfl (fun _ _ _ _ _ _ us hl => match us, hl with | [_, _], _ => rfl),
    x_BadPart := ext_mk (st := s_BadPart___init__) X G xa_BadPart xl_BadPart xr_BadPart xs_BadPart xe_BadPart xt_BadPart xk_BadPart xg_BadPart xG_BadPart xd_BadPart xn_BadPart xi_BadPart xf_BadPart xL_BadPart xc_BadPart xK_BadPart sc_BadPart___init__ rfl (fun _ _ _ _ _ _ us hl => match us, hl with | [_, _], _ => rfl),
    x_BadIndex := ext_mk (st := s_BadIndex___init__) X G xa_BadIndex xl_BadIndex xr_BadIndex xs_BadIndex xe_BadIndex xt_BadIndex xk_BadIndex xg_BadIndex xG_BadIndex xd_BadIndex xn_BadIndex xi_BadIndex xf_BadIndex xL_BadIndex xc_BadIndex xK_BadIndex sc_BadIndex___init__ rfl (fun _ _ _ _ _ _ us hl => match us, hl with | [_, _], _ => rfl),
    x_TooMany := exto_mk (st := s_TooMany___init__) X G xa_TooMany xl_TooMany xr_TooMany xs_TooMany xe_TooMany xt_TooMany xk_TooMany xg_TooMany xG_TooMany xd_TooMany xn_TooMany xi_TooMany xf_TooMany xL_TooMany xc_TooMany xK_TooMany sc_TooMany___init__ rfl (fun _ _ _ _ _ _ us hl => match us, hl with | [_, _], _ => rfl),
    kC_int := by rw [ga_of xa_Carpet]; exact kC_int,
    kC_list := by rw [ga_of xa_Carpet]; exact kC_list,
    kC_NoneType := by rw [ga_of xa_Carpet]; exact kC_NoneType,
    kC_str := by rw [ga_of xa_Carpet]; exact kC_str,
    gS := by rw [ga_of xa_NotSo]; exact PySem.W.mg_of X G xa_NotSo,
    mPP := by rw [ga_of xa_BadPart]; exact ePP,
    mNP := by rw [ga_of xa_BadNumber, ga_of xa_BadPart]; exact eNP,
    mNN := by rw [ga_of xa_BadNumber]; exact eNN,
    mIP := by rw [ga_of xa_BadIndex, ga_of xa_BadPart]; exact eIP,
    mIN := by rw [ga_of xa_BadIndex, ga_of xa_BadNumber]; exact eIN,
    mII := by rw [ga_of xa_BadIndex]; exact eII,
    mMP := by rw [ga_of xa_TooMany, ga_of xa_BadPart]; exact eMP,
    mMN := by rw [ga_of xa_TooMany, ga_of xa_BadNumber]; exact eMN,
    mMI := by rw [ga_of xa_TooMany, ga_of xa_BadIndex]; exact eMI,
    mMS := by rw [ga_of xa_TooMany, ga_of xa_NotSo]; exact eMS,
    mMM := by rw [ga_of xa_TooMany]; exact eMM,
    k_FIGURES := ⟨_, PySem.W.mg_of X G kk_FIGURES⟩,
    k_MOST_PLACES := ⟨_, PySem.W.mg_of X G kk_MOST_PLACES⟩,
    m_isinstance := PySem.W.mg_none_of X G z_isinstance,
    m_int := PySem.W.mg_none_of X G z_int,
    m_bool := PySem.W.mg_none_of X G z_bool,
    m_tuple := PySem.W.mg_none_of X G z_tuple,
    m_len := PySem.W.mg_none_of X G z_len,
    m_abs := PySem.W.mg_none_of X G z_abs,
    m_list := PySem.W.mg_none_of X G z_list,
    m_range := PySem.W.mg_none_of X G z_range,
    m_repr := PySem.W.mg_none_of X G z_repr,
    m_max := PySem.W.mg_none_of X G z_max,
    m_min := PySem.W.mg_none_of X G z_min,
    m_str := PySem.W.mg_none_of X G z_str,
    m_all := PySem.W.mg_none_of X G z_all,
    m_enumerate := PySem.W.mg_none_of X G z_enumerate }
open LamX
theorem law_at {l : PySem.W.OpenLaw} {h : Heap} {fa c P0 : Addr} (X : K.In h) (hmg : mg "law" = some (.ref fa)) (T : Txt K mg) (ht : PySem.W.tabIn K "law" = some (c, P0)) (hc : PySem.W.codeHdIn K c P0 = true) (hP : h.get? P0 = some (PySem.W.tabObj #[])) (hn : K.lookup P0 = none) :
    LawAtS l w K (L2.CX l.prog w) 14 63 "_law_script" mg fa h := by
  obtain ⟨f, oc, od, kV, doc, pm, an, ct, osl, g, kp, lk, hcd⟩ := T.lam_law.ex
  have e : f = fa := by
    have h1 : some (Value.ref f) = some (Value.ref fa) := g.symm.trans hmg
    injection h1 with h2
    injection h2
  subst e
  have e1 : cOf K "law" = c := by unfold cOf; rw [ht]; rfl
  have e2 : pOf K "law" = P0 := by unfold pOf; rw [ht]; rfl
  have one : ∀ {R : Addr × Addr → Prop}, R (c, P0) → ∀ p ∈ [(c, P0)], R p := fun r0 p hp => by rw [List.mem_singleton.mp hp]; exact r0
  refine ⟨PySem.W.fnOf "law" "law" (defArgs s_law) (defBody s_law) (defScope s_law) .none kV doc pm an (.ref (cOf K "law")) ct, [(c, P0)], spLaw K, one hP, one hn, one (PySem.W.codeHd_of_K X hc), fun s u => .of_eq rfl, ?_, ?_⟩
  · intro H a ns hl _ hT hS
    refine ⟨a, rfl, ns, hS, hl, ?_, fun _ => rfl⟩
    intro p hp
    rw [List.mem_singleton.mp hp, e2]
    exact TabS.nil (hT _ (List.mem_singleton.mpr rfl))
  · intro base kb nb hTB
    refine fn_of lk hcd sc_law (fun vs H Q E h => by obtain ⟨_, rfl, _⟩ := h; rfl) fun A outer s H vs Q E hr hsp => o_law T ?_ f A outer s H vs Q E hr hsp
    rw [e1, e2]; exact hTB _ (List.mem_singleton.mpr rfl)
end
end Iz
/-! k12_end -/
set_option Elab.async false
set_option linter.all false
open PySem PySem.W PyProof.Rows
set_option maxRecDepth 100000 in
set_option maxHeartbeats 0 in
theorem PySem.Challenge.cw_endlessplane_k12_whole_parting_and_break_holds : PySem.Challenge.rw_endlessplane_k12_whole_parting_and_break.Holds := by
  w_on; o_law; k_head; (case hw => w_witness2)
  k_fill
  refine LamX.walk_ofTs (l := PySem.Challenge.rw_endlessplane_k12_whole_parting_and_break) (n := 63) (k := 14) (x := "_law_script") (CX := fun w => L2.CX PySem.Challenge.rw_endlessplane_k12_whole_parting_and_break.prog w) rfl (by decide) rfl ⟨rfl, by decide, by decide⟩ (fun w h Y => PySem.W.km_in_of Y) ?F ?X
  case X =>
    intro w H s e s' hx
    obtain ⟨_, _, _, _, _, _, _, _, _, _, _, _, z⟩ := hx
    exact z.elim
  case F =>
    intro w mg fa h Y KX G hmg
    refine' Iz.law_at KX hmg (Iz.txt_mk KX G ?a_is_whole ?l_is_whole ?d_is_whole ?k_is_whole ?a_is_from ?l_is_from ?d_is_from ?k_is_from ?a_is_row ?l_is_row ?d_is_row ?k_is_row ?a_is_pair ?l_is_pair ?d_is_pair ?k_is_pair ?a_is_shift ?l_is_shift ?d_is_shift ?k_is_shift ?a_require_whole ?l_require_whole ?d_require_whole ?k_require_whole ?a_require_pair ?l_require_pair ?d_require_pair ?k_require_pair ?a_greatest_divisor ?l_greatest_divisor ?d_greatest_divisor ?k_greatest_divisor ?a_weighed_divisor ?l_weighed_divisor ?d_weighed_divisor ?k_weighed_divisor ?a_require_lattice_numbers ?l_require_lattice_numbers ?d_require_lattice_numbers ?k_require_lattice_numbers ?a_require_carpet ?l_require_carpet ?d_require_carpet ?k_require_carpet ?a_row_text ?l_row_text ?d_row_text ?k_row_text ?a__is_row_of_figures ?l__is_row_of_figures ?d__is_row_of_figures ?k__is_row_of_figures ?a__turned_row ?l__turned_row ?d__turned_row ?k__turned_row ?a__normal_form ?l__normal_form ?d__normal_form ?k__normal_form ?a__least_width ?l__least_width ?d__least_width ?k__least_width ?a__least_rise ?l__least_rise ?d__least_rise ?k__least_rise ?a__comes_again ?l__comes_again ?d__comes_again ?k__comes_again ?a_parting_cell ?l_parting_cell ?d_parting_cell ?k_parting_cell ?a_breaking_cell ?l_breaking_cell ?d_breaking_cell ?k_breaking_cell ?a__column_length ?l__column_length ?d__column_length ?k__column_length ?a__unlike_index ?l__unlike_index ?d__unlike_index ?k__unlike_index ?a__law_opened ?l__law_opened ?d__law_opened ?k__law_opened ?a__law_draw ?l__law_draw ?d__law_draw ?k__law_draw ?a__law_pick ?l__law_pick ?d__law_pick ?k__law_pick ?a__law_three ?l__law_three ?d__law_three ?k__law_three ?a__law_place ?l__law_place ?d__law_place ?k__law_place ?a__law_rows ?l__law_rows ?d__law_rows ?k__law_rows ?a__law_colour ?l__law_colour ?d__law_colour ?k__law_colour ?a__law_coarser ?l__law_coarser ?d__law_coarser ?k__law_coarser ?a__law_parting ?l__law_parting ?d__law_parting ?k__law_parting ?a__law_bent ?l__law_bent ?d__law_bent ?k__law_bent ?a__law_refused ?l__law_refused ?d__law_refused ?k__law_refused ?a__law_made ?l__law_made ?d__law_made ?k__law_made ?a__law_window ?l__law_window ?d__law_window ?k__law_window ?a__law_pair_right ?l__law_pair_right ?d__law_pair_right ?k__law_pair_right ?a__law_breaking_right ?l__law_breaking_right ?d__law_breaking_right ?k__law_breaking_right ?a_law ?l_law ?d_law ?k_law ?t_law ?xa_Lattice ?pg_Lattice ?hd_Lattice ?po_Lattice ?sa_Lattice ?mm_Lattice ?kc_Lattice ?ya_Lattice ?ym_Lattice ?na_Lattice_a ?na_Lattice_b ?na_Lattice_d ?xa_Carpet ?pg_Carpet ?hd_Carpet ?po_Carpet ?sa_Carpet ?mm_Carpet ?kc_Carpet ?ya_Carpet ?ym_Carpet ?na_Carpet_a ?na_Carpet_b ?na_Carpet_d ?na_Carpet_rows ?na_Carpet__normal ?ma_Lattice___init__ ?mi_Lattice___init__ ?mk_Lattice___init__ ?l_Lattice___init__ ?d_Lattice___init__ ?ma_Lattice___contains__ ?mi_Lattice___contains__ ?mk_Lattice___contains__ ?l_Lattice___contains__ ?d_Lattice___contains__ ?ma_Lattice_place ?mi_Lattice_place ?mk_Lattice_place ?l_Lattice_place ?d_Lattice_place ?ma_Carpet___init__ ?mi_Carpet___init__ ?mk_Carpet___init__ ?l_Carpet___init__ ?d_Carpet___init__ ?ma_Carpet___eq__ ?mi_Carpet___eq__ ?mk_Carpet___eq__ ?l_Carpet___eq__ ?d_Carpet___eq__ ?ma_Carpet_colour ?mi_Carpet_colour ?mk_Carpet_colour ?l_Carpet_colour ?d_Carpet_colour ?ma_Carpet_lattice ?mi_Carpet_lattice ?mk_Carpet_lattice ?l_Carpet_lattice ?d_Carpet_lattice ?ma_Carpet_least ?mi_Carpet_least ?mk_Carpet_least ?l_Carpet_least ?d_Carpet_least ?ma_Carpet_normal ?mi_Carpet_normal ?mk_Carpet_normal ?l_Carpet_normal ?d_Carpet_normal ?ma_Carpet_moved_by ?mi_Carpet_moved_by ?mk_Carpet_moved_by ?l_Carpet_moved_by ?d_Carpet_moved_by ?ma_Carpet_is_period ?mi_Carpet_is_period ?mk_Carpet_is_period ?l_Carpet_is_period ?d_Carpet_is_period ?xa_BadNumber ?xl_BadNumber ?xr_BadNumber ?xs_BadNumber ?xe_BadNumber ?xt_BadNumber ?xk_BadNumber ?xg_BadNumber ?xG_BadNumber ?xd_BadNumber ?xn_BadNumber ?xi_BadNumber ?xf_BadNumber ?xL_BadNumber ?xc_BadNumber ?xK_BadNumber ?yc_BadNumber ?ya_BadNumber ?ym_BadNumber ?xa_BadPart ?xl_BadPart ?xr_BadPart ?xs_BadPart ?xe_BadPart ?xt_BadPart ?xk_BadPart ?xg_BadPart ?xG_BadPart ?xd_BadPart ?xn_BadPart ?xi_BadPart ?xf_BadPart ?xL_BadPart ?xc_BadPart ?xK_BadPart ?yc_BadPart ?ya_BadPart ?ym_BadPart ?xa_BadIndex ?xl_BadIndex ?xr_BadIndex ?xs_BadIndex ?xe_BadIndex ?xt_BadIndex ?xk_BadIndex ?xg_BadIndex ?xG_BadIndex ?xd_BadIndex ?xn_BadIndex ?xi_BadIndex ?xf_BadIndex ?xL_BadIndex ?xc_BadIndex ?xK_BadIndex ?yc_BadIndex ?ya_BadIndex ?ym_BadIndex ?xa_TooMany ?xl_TooMany ?xr_TooMany ?xs_TooMany ?xe_TooMany ?xt_TooMany ?xk_TooMany ?xg_TooMany ?xG_TooMany ?xd_TooMany ?xn_TooMany ?xi_TooMany ?xf_TooMany ?xL_TooMany ?xc_TooMany ?xK_TooMany ?yc_TooMany ?ya_TooMany ?ym_TooMany ?yn ?yt ?xa_NotSo ?ePP ?eNP ?eNN ?eIP ?eIN ?eII ?eMP ?eMN ?eMI ?eMS ?eMM ?kC_int ?kC_list ?kC_NoneType ?kC_str ?kk_FIGURES ?kk_MOST_PLACES ?z_isinstance ?z_int ?z_bool ?z_tuple ?z_len ?z_abs ?z_list ?z_range ?z_repr ?z_max ?z_min ?z_str ?z_all ?z_enumerate) ?T1 ?T2 (PySem.W.km_tabs_of Y _ ?T3) ?T4
    (case a_is_whole => k_is)
    (case l_is_whole => k_is)
    (case d_is_whole => k_is)
    (case k_is_whole => k_is)
    (case a_is_from => k_is)
    (case l_is_from => k_is)
    (case d_is_from => k_is)
    (case k_is_from => k_is)
    (case a_is_row => k_is)
    (case l_is_row => k_is)
    (case d_is_row => k_is)
    (case k_is_row => k_is)
    (case a_is_pair => k_is)
    (case l_is_pair => k_is)
    (case d_is_pair => k_is)
    (case k_is_pair => k_is)
    (case a_is_shift => k_is)
    (case l_is_shift => k_is)
    (case d_is_shift => k_is)
    (case k_is_shift => k_is)
    (case a_require_whole => k_is)
    (case l_require_whole => k_is)
    (case d_require_whole => k_is)
    (case k_require_whole => k_is)
    (case a_require_pair => k_is)
    (case l_require_pair => k_is)
    (case d_require_pair => k_is)
    (case k_require_pair => k_is)
    (case a_greatest_divisor => k_is)
    (case l_greatest_divisor => k_is)
    (case d_greatest_divisor => k_is)
    (case k_greatest_divisor => k_is)
    (case a_weighed_divisor => k_is)
    (case l_weighed_divisor => k_is)
    (case d_weighed_divisor => k_is)
    (case k_weighed_divisor => k_is)
    (case a_require_lattice_numbers => k_is)
    (case l_require_lattice_numbers => k_is)
    (case d_require_lattice_numbers => k_is)
    (case k_require_lattice_numbers => k_is)
    (case a_require_carpet => k_is)
    (case l_require_carpet => k_is)
    (case d_require_carpet => k_is)
    (case k_require_carpet => k_is)
    (case a_row_text => k_is)
    (case l_row_text => k_is)
    (case d_row_text => k_is)
    (case k_row_text => k_is)
    (case a__is_row_of_figures => k_is)
    (case l__is_row_of_figures => k_is)
    (case d__is_row_of_figures => k_is)
    (case k__is_row_of_figures => k_is)
    (case a__turned_row => k_is)
    (case l__turned_row => k_is)
    (case d__turned_row => k_is)
    (case k__turned_row => k_is)
    (case a__normal_form => k_is)
    (case l__normal_form => k_is)
    (case d__normal_form => k_is)
    (case k__normal_form => k_is)
    (case a__least_width => k_is)
    (case l__least_width => k_is)
    (case d__least_width => k_is)
    (case k__least_width => k_is)
    (case a__least_rise => k_is)
    (case l__least_rise => k_is)
    (case d__least_rise => k_is)
    (case k__least_rise => k_is)
    (case a__comes_again => k_is)
    (case l__comes_again => k_is)
    (case d__comes_again => k_is)
    (case k__comes_again => k_is)
    (case a_parting_cell => k_is)
    (case l_parting_cell => k_is)
    (case d_parting_cell => k_is)
    (case k_parting_cell => k_is)
    (case a_breaking_cell => k_is)
    (case l_breaking_cell => k_is)
    (case d_breaking_cell => k_is)
    (case k_breaking_cell => k_is)
    (case a__column_length => k_is)
    (case l__column_length => k_is)
    (case d__column_length => k_is)
    (case k__column_length => k_is)
    (case a__unlike_index => k_is)
    (case l__unlike_index => k_is)
    (case d__unlike_index => k_is)
    (case k__unlike_index => k_is)
    (case a__law_opened => k_is)
    (case l__law_opened => k_is)
    (case d__law_opened => k_is)
    (case k__law_opened => k_is)
    (case a__law_draw => k_is)
    (case l__law_draw => k_is)
    (case d__law_draw => k_is)
    (case k__law_draw => k_is)
    (case a__law_pick => k_is)
    (case l__law_pick => k_is)
    (case d__law_pick => k_is)
    (case k__law_pick => k_is)
    (case a__law_three => k_is)
    (case l__law_three => k_is)
    (case d__law_three => k_is)
    (case k__law_three => k_is)
    (case a__law_place => k_is)
    (case l__law_place => k_is)
    (case d__law_place => k_is)
    (case k__law_place => k_is)
    (case a__law_rows => k_is)
    (case l__law_rows => k_is)
    (case d__law_rows => k_is)
    (case k__law_rows => k_is)
    (case a__law_colour => k_is)
    (case l__law_colour => k_is)
    (case d__law_colour => k_is)
    (case k__law_colour => k_is)
    (case a__law_coarser => k_is)
    (case l__law_coarser => k_is)
    (case d__law_coarser => k_is)
    (case k__law_coarser => k_is)
    (case a__law_parting => k_is)
    (case l__law_parting => k_is)
    (case d__law_parting => k_is)
    (case k__law_parting => k_is)
    (case a__law_bent => k_is)
    (case l__law_bent => k_is)
    (case d__law_bent => k_is)
    (case k__law_bent => k_is)
    (case a__law_refused => k_is)
    (case l__law_refused => k_is)
    (case d__law_refused => k_is)
    (case k__law_refused => k_is)
    (case a__law_made => k_is)
    (case l__law_made => k_is)
    (case d__law_made => k_is)
    (case k__law_made => k_is)
    (case a__law_window => k_is)
    (case l__law_window => k_is)
    (case d__law_window => k_is)
    (case k__law_window => k_is)
    (case a__law_pair_right => k_is)
    (case l__law_pair_right => k_is)
    (case d__law_pair_right => k_is)
    (case k__law_pair_right => k_is)
    (case a__law_breaking_right => k_is)
    (case l__law_breaking_right => k_is)
    (case d__law_breaking_right => k_is)
    (case k__law_breaking_right => k_is)
    (case a_law => k_is)
    (case l_law => k_is)
    (case d_law => k_is)
    (case k_law => k_is)
    (case t_law => first | rfl | (with_unfolding_all rfl) | kernel_rfl | decide | k_is)
    (case xa_Lattice => k_is)
    (case pg_Lattice => k_is)
    (case hd_Lattice => k_is)
    (case po_Lattice => k_is)
    (case sa_Lattice => k_is)
    (case mm_Lattice => k_is)
    (case kc_Lattice => k_is)
    (case ya_Lattice => k_is)
    (case ym_Lattice => k_is)
    (case na_Lattice_a => k_is)
    (case na_Lattice_b => k_is)
    (case na_Lattice_d => k_is)
    (case xa_Carpet => k_is)
    (case pg_Carpet => k_is)
    (case hd_Carpet => k_is)
    (case po_Carpet => k_is)
    (case sa_Carpet => k_is)
    (case mm_Carpet => k_is)
    (case kc_Carpet => k_is)
    (case ya_Carpet => k_is)
    (case ym_Carpet => k_is)
    (case na_Carpet_a => k_is)
    (case na_Carpet_b => k_is)
    (case na_Carpet_d => k_is)
    (case na_Carpet_rows => k_is)
    (case na_Carpet__normal => k_is)
    (case ma_Lattice___init__ => k_is)
    (case mi_Lattice___init__ => k_is)
    (case mk_Lattice___init__ => k_is)
    (case l_Lattice___init__ => k_is)
    (case d_Lattice___init__ => k_is)
    (case ma_Lattice___contains__ => k_is)
    (case mi_Lattice___contains__ => k_is)
    (case mk_Lattice___contains__ => k_is)
    (case l_Lattice___contains__ => k_is)
    (case d_Lattice___contains__ => k_is)
    (case ma_Lattice_place => k_is)
    (case mi_Lattice_place => k_is)
    (case mk_Lattice_place => k_is)
    (case l_Lattice_place => k_is)
    (case d_Lattice_place => k_is)
    (case ma_Carpet___init__ => k_is)
    (case mi_Carpet___init__ => k_is)
    (case mk_Carpet___init__ => k_is)
    (case l_Carpet___init__ => k_is)
    (case d_Carpet___init__ => k_is)
    (case ma_Carpet___eq__ => k_is)
    (case mi_Carpet___eq__ => k_is)
    (case mk_Carpet___eq__ => k_is)
    (case l_Carpet___eq__ => k_is)
    (case d_Carpet___eq__ => k_is)
    (case ma_Carpet_colour => k_is)
    (case mi_Carpet_colour => k_is)
    (case mk_Carpet_colour => k_is)
    (case l_Carpet_colour => k_is)
    (case d_Carpet_colour => k_is)
    (case ma_Carpet_lattice => k_is)
    (case mi_Carpet_lattice => k_is)
    (case mk_Carpet_lattice => k_is)
    (case l_Carpet_lattice => k_is)
    (case d_Carpet_lattice => k_is)
    (case ma_Carpet_least => k_is)
    (case mi_Carpet_least => k_is)
    (case mk_Carpet_least => k_is)
    (case l_Carpet_least => k_is)
    (case d_Carpet_least => k_is)
    (case ma_Carpet_normal => k_is)
    (case mi_Carpet_normal => k_is)
    (case mk_Carpet_normal => k_is)
    (case l_Carpet_normal => k_is)
    (case d_Carpet_normal => k_is)
    (case ma_Carpet_moved_by => k_is)
    (case mi_Carpet_moved_by => k_is)
    (case mk_Carpet_moved_by => k_is)
    (case l_Carpet_moved_by => k_is)
    (case d_Carpet_moved_by => k_is)
    (case ma_Carpet_is_period => k_is)
    (case mi_Carpet_is_period => k_is)
    (case mk_Carpet_is_period => k_is)
    (case l_Carpet_is_period => k_is)
    (case d_Carpet_is_period => k_is)
    (case xa_BadNumber => k_is)
    (case xl_BadNumber => k_is)
    (case xr_BadNumber => first | rfl | (with_unfolding_all rfl) | kernel_rfl | decide | k_is)
    (case xs_BadNumber => k_is)
    (case xe_BadNumber => k_is)
    (case xt_BadNumber => k_is)
    (case xk_BadNumber => k_is)
    (case xg_BadNumber => k_is)
    (case xG_BadNumber => k_is)
    (case xd_BadNumber => k_is)
    (case xn_BadNumber => k_is)
    (case xi_BadNumber => k_is)
    (case xf_BadNumber => k_is)
    (case xL_BadNumber => k_is)
    (case xc_BadNumber => k_is)
    (case xK_BadNumber => k_is)
    (case yc_BadNumber => first | rfl | (with_unfolding_all rfl) | kernel_rfl | decide | k_is)
    (case ya_BadNumber => k_is)
    (case ym_BadNumber => k_is)
    (case xa_BadPart => k_is)
    (case xl_BadPart => k_is)
    (case xr_BadPart => first | rfl | (with_unfolding_all rfl) | kernel_rfl | decide | k_is)
    (case xs_BadPart => k_is)
    (case xe_BadPart => k_is)
    (case xt_BadPart => k_is)
    (case xk_BadPart => k_is)
    (case xg_BadPart => k_is)
    (case xG_BadPart => k_is)
    (case xd_BadPart => k_is)
    (case xn_BadPart => k_is)
    (case xi_BadPart => k_is)
    (case xf_BadPart => k_is)
    (case xL_BadPart => k_is)
    (case xc_BadPart => k_is)
    (case xK_BadPart => k_is)
    (case yc_BadPart => first | rfl | (with_unfolding_all rfl) | kernel_rfl | decide | k_is)
    (case ya_BadPart => k_is)
    (case ym_BadPart => k_is)
    (case xa_BadIndex => k_is)
    (case xl_BadIndex => k_is)
    (case xr_BadIndex => first | rfl | (with_unfolding_all rfl) | kernel_rfl | decide | k_is)
    (case xs_BadIndex => k_is)
    (case xe_BadIndex => k_is)
    (case xt_BadIndex => k_is)
    (case xk_BadIndex => k_is)
    (case xg_BadIndex => k_is)
    (case xG_BadIndex => k_is)
    (case xd_BadIndex => k_is)
    (case xn_BadIndex => k_is)
    (case xi_BadIndex => k_is)
    (case xf_BadIndex => k_is)
    (case xL_BadIndex => k_is)
    (case xc_BadIndex => k_is)
    (case xK_BadIndex => k_is)
    (case yc_BadIndex => first | rfl | (with_unfolding_all rfl) | kernel_rfl | decide | k_is)
    (case ya_BadIndex => k_is)
    (case ym_BadIndex => k_is)
    (case xa_TooMany => k_is)
    (case xl_TooMany => k_is)
    (case xr_TooMany => first | rfl | (with_unfolding_all rfl) | kernel_rfl | decide | k_is)
    (case xs_TooMany => k_is)
    (case xe_TooMany => k_is)
    (case xt_TooMany => k_is)
    (case xk_TooMany => k_is)
    (case xg_TooMany => k_is)
    (case xG_TooMany => k_is)
    (case xd_TooMany => k_is)
    (case xn_TooMany => k_is)
    (case xi_TooMany => k_is)
    (case xf_TooMany => k_is)
    (case xL_TooMany => k_is)
    (case xc_TooMany => k_is)
    (case xK_TooMany => k_is)
    (case yc_TooMany => first | rfl | (with_unfolding_all rfl) | kernel_rfl | decide | k_is)
    (case ya_TooMany => k_is)
    (case ym_TooMany => k_is)
    (case yn => k_is)
    (case yt => k_is)
    (case xa_NotSo => k_is)
    (case ePP => first | rfl | (with_unfolding_all rfl) | kernel_rfl | decide | k_is)
    (case eNP => first | rfl | (with_unfolding_all rfl) | kernel_rfl | decide | k_is)
    (case eNN => first | rfl | (with_unfolding_all rfl) | kernel_rfl | decide | k_is)
    (case eIP => first | rfl | (with_unfolding_all rfl) | kernel_rfl | decide | k_is)
    (case eIN => first | rfl | (with_unfolding_all rfl) | kernel_rfl | decide | k_is)
    (case eII => first | rfl | (with_unfolding_all rfl) | kernel_rfl | decide | k_is)
    (case eMP => first | rfl | (with_unfolding_all rfl) | kernel_rfl | decide | k_is)
    (case eMN => first | rfl | (with_unfolding_all rfl) | kernel_rfl | decide | k_is)
    (case eMI => first | rfl | (with_unfolding_all rfl) | kernel_rfl | decide | k_is)
    (case eMS => first | rfl | (with_unfolding_all rfl) | kernel_rfl | decide | k_is)
    (case eMM => first | rfl | (with_unfolding_all rfl) | kernel_rfl | decide | k_is)
    (case kC_int => first | rfl | (with_unfolding_all rfl) | kernel_rfl | decide | k_is)
    (case kC_list => first | rfl | (with_unfolding_all rfl) | kernel_rfl | decide | k_is)
    (case kC_NoneType => first | rfl | (with_unfolding_all rfl) | kernel_rfl | decide | k_is)
    (case kC_str => first | rfl | (with_unfolding_all rfl) | kernel_rfl | decide | k_is)
    (case kk_FIGURES => k_is)
    (case kk_MOST_PLACES => k_is)
    (case z_isinstance => k_is)
    (case z_int => k_is)
    (case z_bool => k_is)
    (case z_tuple => k_is)
    (case z_len => k_is)
    (case z_abs => k_is)
    (case z_list => k_is)
    (case z_range => k_is)
    (case z_repr => k_is)
    (case z_max => k_is)
    (case z_min => k_is)
    (case z_str => k_is)
    (case z_all => k_is)
    (case z_enumerate => k_is)
    (case T1 => first | rfl | with_unfolding_all rfl); (case T2 => first | rfl | with_unfolding_all rfl); (case T3 => decide); (case T4 => first | k_is | rfl | with_unfolding_all rfl)
