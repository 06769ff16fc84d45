import PyProof.Rows.All
import Wide.All
import OpenK.AllK
import Wide.FinOn
import HandS.ForMost
import HandS.ForExc
import HandS.ExcInit
import HandS.ExcField
import HandS.ExcIs
import HandS.IsInst
import HandS.Lambda
import HandS.EndTab
import HandS.Wide
import HandS.Style
import HandS.RaiseMore
import HandS.Flow
import HandS.HeadHook1
import KE.KExcIs
import PyProof.CallFns
import HandS.Defaults
import PyProof.WalksMore
import PyProof.FactsAll.range
import HandS.TryMany
import HandS.NoneIn
import KE.KFmtOwn
import HandS.SortInts
import HandS.Walk
import PyProof.ReprHeadsTuple
import PyProof.ReprHeadsEmpty
import HandS.OwnEq
import KE.GoesEnum
import HandS.Zip
import HandS.TupAny
import HandS.CallSlots
import PySem.Challenge.RW_endlessplane_k04_whole_spreads_put_toget
/-! Bs -/
set_option Elab.async false
set_option linter.all false
set_option maxRecDepth 100000
set_option maxHeartbeats 4000000
namespace Iz
open PySem PySem.Spec PyProof.Rows L2
theorem cx_K {CX : CXT} {P : Program} {w : World} {K : PySem.W.Frag} {mg : Str → Option Value} {base : Heap} {N : List Str} {q : Str} {sc : Scope} {f : Addr} {cd : Value} {A : Around} {outer : List Env} {s : Shared} {H : Hp} {E : XK} : (cxOf CX P w K mg base N q sc f cd A outer s H E).K = K := rfl
/-! ### defs by name, calls -/
/-- the global x is a def that keeps sp -/
structure OkF (P : Program) (w : World) (K : PySem.W.Frag) (mg : Str → Option Value) (base : Heap) (CX : CXT) (k : Nat) (x : Str) (ps : List Str) (sp : Sp) : Prop where
  ex : ∃ (f : Addr) (fd : FuncData), mg x = some (.ref f) ∧ PySem.W.keepIn K (.ref f) = true ∧ Binds K fd ps [] ∧ FnOk P w K mg base CX k f fd ps sp
theorem OkF.imp {P : Program} {w : World} {K : PySem.W.Frag} {mg : Str → Option Value} {base : Heap} {CX : CXT} {k : Nat} {x : Str} {ps : List Str} {sp sp' : Sp} (F : OkF P w K mg base CX k x ps sp) (h : ∀ vs H Q E, sp' vs H Q E → sp vs H Q E) : OkF P w K mg base CX k x ps sp' :=
  let ⟨f, fd, g, kp, b, G⟩ := F.ex
  ⟨f, fd, g, kp, b, G.imp h⟩
/-- inside a def that may raise: what is raised goes on out -/
theorem passE {P : Program} {w : World} {K : PySem.W.Frag} {mg : Str → Option Value} {base : Heap} {N : List Str} {q : Str} {sc : Scope} {f : Addr} {cd : Value} {A : Around} {outer : List Env} {s : Shared} {H : Hp} {E : XK} :
    Passes (L2.CX P w) (cxOf (L2.CX P w) P w K mg base N q sc f cd A outer s H E) E := passes_call (W := fun cls d _ H => E cls d H) (takes_of rfl rfl rfl rfl) fun _ _ _ _ h => h
theorem takesE {P : Program} {w : World} {K : PySem.W.Frag} {mg : Str → Option Value} {base : Heap} {N : List Str} {q : Str} {sc : Scope} {f : Addr} {cd : Value} {A : Around} {outer : List Env} {s : Shared} {H : Hp} {E : XK} :
    Takes (cxOf (L2.CX P w) P w K mg base N q sc f cd A outer s H E) (fun cls d _ H => E cls d H) := takes_of rfl rfl rfl rfl
section
variable {X : Cx} {k : Nat} {x : Str} {ps : List Str} {sp : Sp} {E : XK} {e : Expr} {es : List Expr} {t : TA} {p pos : Pos}
/-- f(e, ..) -/
theorem pcl {CX : CXT} (O : OkF X.prog X.w X.K X.mg X.base CX k x ps sp) (hr : Room k X.A) (hx : Passes CX X E) (ha : PA X (e :: es) t) (hg : Gl X x := by rfl) (hdb : (x == ("__debug__" : Str)) = false := by decide)
    (he : starEach (e :: es) X.env = (false, eval e X.env) :: starEach es X.env := by rfl) (hpl : (backTo pos (starEach es X.env)).any (·.1) = false := by rfl) : PE X (.Call (.Name x p) (e :: es) [] pos) (tCall sp [] E t) := by
  obtain ⟨f, fd, g, kp, b, G⟩ := O.ex
  exact pe_call G hr hg g kp b .nil hx ha hdb he hpl
end
theorem op_fdivF {X : Cx} : OpR X (binaryOp .FloorDiv) (rI (fun _ j => j ≠ 0 ∧ j.natAbs.log2 < 9000) fun i j => .int (i.fdiv j)) := opI fun i j _ _ _ _ _ hc q => floordiv_int hc.1 q (.inl (PyProof.noPylong_of_log2 hc.2))
theorem log_lt {x : Int} {n m : Nat} (h : x.natAbs < 2 ^ n) (hm : n ≤ m) (h0 : 0 < m) : x.natAbs.log2 < m := PySem.Flt.log2_lt_of h0 (Nat.lt_of_lt_of_le h (Nat.pow_le_pow_right (by decide) hm))
/-! ### readings in a form that simp reads: an object is named by what stands at it -/
section
variable {X : Cx} {e a b : Expr} {es : List Expr} {t t' ta tb : TE}
theorem PE.imp (h : PE X e t) (k : ∀ σ H Q, t' σ H Q → t σ H Q) : PE X e t' := ⟨fun pins s σ H Q I q => h.run pins s σ H Q I (k σ H Q q)⟩
theorem PS.imp {st : Stmt} {t t' : TS} (h : PS X st t) (k : ∀ D σ H, t' D σ H → t D σ H) : PS X st t' := ⟨fun pins s σ H D I q => h.run pins s σ H D I (k D σ H q)⟩
theorem PG.imp {tg : Expr} {t t' : TG} (h : PG X tg t) (k : ∀ v σ H Q, t' v σ H Q → t v σ H Q) : PG X tg t' := ⟨fun pins s σ H v u Q I r q => h.run pins s σ H v u Q I r (k v σ H Q q)⟩
theorem CallR.imp {f : Value} {r r' : List V → Hp → VK → Prop} (h : CallR X f r) (k : ∀ xs H Q, r' xs H Q → r xs H Q) : CallR X f r' := fun pins s σ H xs us Q I rv q => h pins s σ H xs us Q I rv (k xs H Q q)
theorem Same.upd {H : Hp} {p : Addr} {o : HO} (h : H p = none) : Same H (L2.upd H p o) := fun b u e => by rw [upd_ne (ne_of_none e h)]; exact e
/-- a new object: from then on some heap that has it and all else -/
def News (H : Hp) (o : HO) (Q : V → Hp → Prop) : Prop := ∀ p H2, H p = none → Same H H2 → H2 p = some o → Q (.ref p) H2
theorem News.all {H : Hp} {o : HO} {Q : V → Hp → Prop} (n : News H o Q) : ∀ p, H p = none → Q (.ref p) (upd H p o) := fun p hp => n p _ hp (Same.upd hp) upd_same
def tTupN (t : TA) : TE := fun σ H Q => t σ H fun xs H1 => xs.length ≤ sizeLine ∧ News H1 (.tup xs) Q
def tLstN (t : TA) : TE := fun σ H Q => t σ H fun xs H1 => xs.length ≤ sizeLine ∧ News H1 (.lst xs) Q
/-- what a reading gives, weakened -/
def mcl {α : Type} (t : L2.St → Hp → (α → Hp → Prop) → Prop) : L2.St → Hp → (α → Hp → Prop) → Prop := fun σ H Q => ∃ Q0, t σ H Q0 ∧ ∀ v H1, Q0 v H1 → Q v H1
theorem PA.mcl {t : TA} (h : PA X es t) : PA X es (mcl t) := ⟨fun pos pins s σ H Q I ⟨Q0, q, k⟩ => thn (h.run pos pins s σ H Q0 I q) fun us s1 ⟨vs, H1, I1, r, q1⟩ => ⟨vs, H1, I1, r, k vs H1 q1⟩⟩
theorem PE.mcl {t : TE} (h : PE X e t) : PE X e (mcl t) := ⟨fun pins s σ H Q I ⟨Q0, q, k⟩ => thn (h.run pins s σ H Q0 I q) fun u s1 ⟨v, H1, I1, r, q1⟩ => ⟨v, H1, I1, r, k v H1 q1⟩⟩
theorem pe_tupN {t : TA} {x1 : Nat} {pos : Pos} (h : PA X es t) : PE X (.Tuple es x1 pos) (tTupN t) := PE.imp (pe_tup (PA.mcl h)) fun σ H Q q => ⟨_, q, fun vs H1 ⟨z, n⟩ => ⟨z, n.all⟩⟩
theorem pe_lstN {t : TA} {pos : Pos} (h : PA X es t) : PE X (.List es pos) (tLstN t) := PE.imp (pe_lst (PA.mcl h)) fun σ H Q q => ⟨_, q, fun vs H1 ⟨z, n⟩ => ⟨z, n.all⟩⟩
def rIxTN : R2 := fun x y H Q => ∃ p xs i v, x = .ref p ∧ y = .int i ∧ H p = some (.tup xs) ∧ atI xs i = some v ∧ Q v H
theorem ix_tupN : IxR X rIxTN := fun v0 sl pins s σ H x y v u Q I rx ry q hs => ix_tup v0 sl pins s σ H x y v u Q I rx ry (let ⟨p, xs, i, z, a, b, c, d, q⟩ := q; ⟨p, xs, i, z, a, b, SqT.of c, d, q⟩) hs
def rIxLN : R2 := fun x y H Q => ∃ p xs i v, x = .ref p ∧ y = .int i ∧ H p = some (.lst xs) ∧ atI xs i = some v ∧ Q v H
theorem ix_listN : IxR X rIxLN := fun v0 sl pins s σ H x y v u Q I rx ry q hs => ix_list v0 sl pins s σ H x y v u Q I rx ry (let ⟨p, xs, i, z, a, b, c, d, q⟩ := q; ⟨p, xs, i, z, a, b, SqL.of c, d, q⟩) hs
def gTupN (n : Nat) (t : TGs) : TG := fun v σ H Q => ∃ a xs, v = .ref a ∧ H a = some (.tup xs) ∧ xs.length = n ∧ t xs σ H Q
theorem pg_tupN {k : Nat} {pos : Pos} {t : TGs} {n : Nat} (hc : X.calm = true) (h : PGs X es t) (hn : (assignEach es X.env).length = n := by rfl) (hst : (assignEach es X.env).findIdx? (·.1) = none := by rfl) : PG X (.Tuple es k pos) (gTupN n t) :=
  PG.imp (pg_tup hc h hn hst) fun v σ H Q ⟨p, xs, a, c, d, q⟩ => ⟨p, xs, a, SqT.of c, d, q⟩
def rLenL : List V → Hp → VK → Prop := fun xs H Q => ∃ p ys, xs = [.ref p] ∧ H p = some (.lst ys) ∧ Q (.int ys.length) H
theorem call_lenL : CallR X (.builtin "len") rLenL := CallR.imp call_len_seq fun xs H Q ⟨p, ys, a, b, q⟩ => ⟨p, ys, a, .inl (SqL.of b), q⟩
def rLenT : List V → Hp → VK → Prop := fun xs H Q => ∃ p ys, xs = [.ref p] ∧ H p = some (.tup ys) ∧ Q (.int ys.length) H
theorem call_lenT : CallR X (.builtin "len") rLenT := CallR.imp call_len_seq fun xs H Q ⟨p, ys, a, b, q⟩ => ⟨p, ys, a, .inr (SqT.of b), q⟩
def rIntI : List V → Hp → VK → Prop := fun xs H Q => ∃ i, xs = [.int i] ∧ Q (.int i) H
theorem call_intI : CallR X (.type "int") rIntI := CallR.imp call_int1 fun xs H Q q => .inl q
def rIntB : List V → Hp → VK → Prop := fun xs H Q => ∃ k, xs = [.bl k] ∧ Q (.int (if k then 1 else 0)) H
theorem call_intB : CallR X (.type "int") rIntB := CallR.imp call_int1 fun xs H Q q => .inr q
def rAbs : List V → Hp → VK → Prop := fun xs H Q => ∃ i, xs = [.int i] ∧ Q (.int (i.natAbs : Int)) H
theorem call_absN : CallR X (.builtin "abs") rAbs := CallR.imp call_abs fun xs H Q ⟨i, a, q⟩ => ⟨i, a, by rw [show (if i < 0 then -i else i) = (i.natAbs : Int) by split <;> omega]; exact q⟩
def rListS (K : PySem.W.Frag) : List V → Hp → VK → Prop := fun xs H Q => ∃ p ys, xs = [.ref p] ∧ SqL K H p ys ∧ News H (.lst ys) Q
theorem call_listS : CallR X (.type "list") (rListS X.K) := CallR.imp call_list_of fun xs H Q ⟨p, ys, a, b, n⟩ => ⟨p, ys, a, .inl b, n.all⟩
/-- a truth: what the test says -/
theorem atI0 {α : Type} {a : α} {l : List α} : atI (a :: l) 0 = some a := by simp [atI, ixN]
theorem ixN_ok {n : Nat} {i : Int} (h : 0 ≤ i) (h2 : i < n) : ixN n i = some i.toNat := by simp [ixN, h, h2]
theorem atI_ok {α : Type} {l : List α} {i : Int} {v : α} (h : 0 ≤ i) (h2 : l[i.toNat]? = some v) : atI l i = some v := by
  have h3 := (List.getElem?_eq_some_iff.mp h2).1
  unfold atI
  rw [ixN_ok h (by omega)]
  exact h2
theorem atI1 {α : Type} {a b : α} {l : List α} : atI (a :: b :: l) 1 = some b := atI_ok (by decide) rfl
theorem atI2 {α : Type} {a b c : α} {l : List α} : atI (a :: b :: c :: l) 2 = some c := atI_ok (by decide) rfl
theorem atI3 {α : Type} {a b c d : α} {l : List α} : atI (a :: b :: c :: d :: l) 3 = some d := atI_ok (by decide) rfl
theorem ite_iff {c A B : Prop} [Decidable c] : (if c then A else B) ↔ ((c → A) ∧ (¬ c → B)) := by
  by_cases h : c <;> simp [h]
/-- a while's test may be asked for less -/
theorem mono_eq {r : R2} {i : Nat} {v : V} (hr : ∀ x y H Q Q', (∀ z H1, Q z H1 → Q' z H1) → r x y H Q → r x y H Q') : ∀ (σ : L2.St) (H : Hp) (Q Q' : Bool → Hp → Prop), (∀ b H1, Q b H1 → Q' b H1) → tTest (tOp r (tVar i) (tC v)) σ H Q → tTest (tOp r (tVar i) (tC v)) σ H Q' :=
  fun _ _ _ _ k ⟨x, h, q⟩ => ⟨x, h, hr _ _ _ _ _ (fun _ _ ⟨b, e, q⟩ => ⟨b, e, k _ _ q⟩) q⟩
theorem mono_ne {i : Nat} {v : V} : ∀ (σ : L2.St) (H : Hp) (Q Q' : Bool → Hp → Prop), (∀ b H1, Q b H1 → Q' b H1) → tTest (tOp rNe (tVar i) (tC v)) σ H Q → tTest (tOp rNe (tVar i) (tC v)) σ H Q' := mono_eq fun _ _ _ _ _ k ⟨a, q⟩ => ⟨a, k _ _ q⟩
end
/-- H2 is H with o at p -/
def Put (H H2 : Hp) (p : Addr) (o : HO) : Prop := H2 p = some o ∧ ∀ b, b ≠ p → H2 b = H b
def rSetLN : V → V → V → Hp → (Hp → Prop) → Prop := fun o i v H Q => ∃ p xs k j, o = .ref p ∧ i = .int k ∧ H p = some (.lst xs) ∧ ixN xs.length k = some j ∧ ∀ H2, Put H H2 p (.lst (xs.set j v)) → Q H2
theorem set_listN {X : Cx} : PSet X rSetLN := fun pins s σ H o i v ov iv u Q I ro ri rv ⟨p, xs, k, j, a, b, c, d, q⟩ => set_list pins s σ H o i v ov iv u Q I ro ri rv ⟨p, xs, k, j, a, b, c, d, q _ ⟨upd_same, fun _ h => upd_ne h⟩⟩
theorem PT.imp {X : Cx} {e : Expr} {t t' : TT} (h : PT X e t) (k : ∀ σ H Q, t' σ H Q → t σ H Q) : PT X e t' := ⟨fun pins s σ H Q I q => h.run pins s σ H Q I (k σ H Q q)⟩
/-- a list's truth -/
def tTruL (te : TE) : TT := fun σ H Q => te σ H fun x H1 => ∃ p xs, x = .ref p ∧ H1 p = some (.lst xs) ∧ Q (!xs.isEmpty) H1
theorem pt_truL {X : Cx} {e : Expr} {te : TE} (h : PE X e te) (hw : ∀ t : Sem Value, isTrue e X.env t = (t >>= fun v => standAt e.pos >>= fun _ => holding [v] (truthy v)) := by intro _; rfl) : PT X e (tTruL te) :=
  PT.imp (pt_truth (PE.mcl h) hw) fun σ H Q q => ⟨_, q, fun v H1 ⟨p, xs, a, b, q⟩ => ⟨_, by subst a; exact .inl ⟨xs, SqL.of b, rfl⟩, q⟩⟩
theorem ixN0 {n : Nat} : ixN (n + 1) 0 = some 0 := ixN_ok (by decide) (by omega)
theorem ixN1 {n : Nat} : ixN (n + 1 + 1) 1 = some 1 := ixN_ok (by decide) (by omega)
theorem scal_ii {i j : Int} : scal (.int i) (.int j) = true := rfl
theorem scal_in {i : Int} : scal (.int i) .non = true := rfl
theorem scal_ni {i : Int} : scal .non (.int i) = true := rfl
theorem scal_nn : scal .non .non = true := rfl
theorem scal_bb {i j : Bool} : scal (.bl i) (.bl j) = true := rfl
theorem scal_ss {i j : Str} : scal (.str i) (.str j) = true := rfl
theorem scal_sn {i : Str} : scal (.str i) .non = true := rfl
theorem scal_ns {i : Str} : scal .non (.str i) = true := rfl
theorem scal_bn {i : Bool} : scal (.bl i) .non = true := rfl
theorem scal_nb {i : Bool} : scal .non (.bl i) = true := rfl
/-- xs.append(e) -/
def tApp (to : TE) (ta : TA) : TE := fun σ H Q => to σ H fun x H1 => ∃ l, x = .ref l ∧ (∃ xs, H1 l = some (.lst xs)) ∧ ta σ H1 fun vs H2 => ∃ y xs, vs = [y] ∧ H2 l = some (.lst xs) ∧ xs.length < sizeLine ∧ ∀ H3, Put H2 H3 l (.lst (xs ++ [y])) → Q .non H3
theorem pe_appN {X : Cx} {o e : Expr} {to : TE} {ta : TA} {apos cpos : Pos} (ho : PE X o to) (ha : PA X [e] ta)
    (hbase : attributeBase o "append" X.env (eval o X.env) = eval o X.env := by rfl)
    (hfew : ((backTo cpos (starEach [e] X.env)).all (fun x => !x.1) && (backToKw cpos (keywordEach [] X.env)).all (fun x => x.1.isSome) && decide ([e].length + ([] : List Keyword).length + (if ([] : List Keyword).isEmpty then 0 else 1) < 30)) = true := by rfl)
    (hline : (apos.endLine == cpos.line) = true := by rfl) (hs : starEach [e] X.env = (false, eval e X.env) :: starEach [] X.env := by rfl) (hplain : (backTo cpos (starEach [] X.env)).any (·.1) = false := by rfl) :
    PE X (.Call (.Attribute o "append" apos) [e] [] cpos) (tApp to ta) :=
  PE.imp (pe_bm PySem.F.plainAttrs_list PySem.F.slot_list_append PySem.F.type_list_append mt_append (PE.mcl ho) (PA.mcl ha) hbase hfew hline hs hplain) fun σ H Q q =>
    ⟨_, q, fun x H1 ⟨l, hx, ⟨xs, hl⟩, q⟩ => by subst hx; exact ⟨.inl ⟨rfl, xs, SqL.of hl⟩, _, q, fun vs H2 ⟨y, xs, a, b, c, q⟩ => ⟨l, xs, y, rfl, a, b, c, q _ ⟨upd_same, fun _ h => upd_ne h⟩⟩⟩⟩
/-- a statement whose ways join behind it: M holds there -/
def tCut (t : TS) : TS := fun D σ H => ∃ M : L2.St → Hp → Prop, t { D with nx := M } σ H ∧ ∀ σ' H', M σ' H' → D.nx σ' H'
theorem ps_cut {X : Cx} {st : Stmt} {t : TS} (h : PS X st t) : PS X st (tCut t) := ⟨fun pins s σ H D I ⟨M, q, k⟩ => thn (h.run pins s σ H { D with nx := M } I q) fun f s1 r => by
  cases f with
  | next => obtain ⟨σ', H', J, m⟩ := r; exact ⟨σ', H', J, k σ' H' m⟩
  | brk => exact r
  | cont => exact r
  | ret u => exact r⟩
/-! ### loops -/
section
variable {g : TG} {tb : TS} {D : Ends} {σ : L2.St} {H : Hp} {ta : TA} {tl : TE}
theorem st_forR1 (j : Int) (hj : -(2 ^ 62) ≤ j ∧ j < 2 ^ 62) (ha : ∀ Q : List V → Hp → Prop, Q [.int j] H → ta σ H Q) (Pv : Nat → L2.St → Hp → Prop) (h0 : Pv 0 σ H)
    (hs : ∀ i σ H, i < j.toNat → Pv i σ H → g (.int i) σ H fun σ2 H2 => tb { D with nx := Pv (i + 1), ct := Pv (i + 1), bk := D.nx } σ2 H2) (hd : ∀ σ H, Pv j.toNat σ H → D.nx σ H) : tFor (iRng1 ta) g tb D σ H :=
  ha _ ⟨j, rfl, hj.1, hj.2, for_range Pv h0 (fun i σ H hi p => by rw [Int.zero_add]; exact hs i σ H hi p) hd⟩
theorem st_forR2 (lo j : Int) (hl : -(2 ^ 62) ≤ lo ∧ lo < 2 ^ 62) (hj : -(2 ^ 62) ≤ j ∧ j < 2 ^ 62) (ha : ∀ Q : List V → Hp → Prop, Q [.int lo, .int j] H → ta σ H Q) (Pv : Nat → L2.St → Hp → Prop) (h0 : Pv 0 σ H)
    (hs : ∀ i σ H, i < (j - lo).toNat → Pv i σ H → g (.int (lo + i)) σ H fun σ2 H2 => tb { D with nx := Pv (i + 1), ct := Pv (i + 1), bk := D.nx } σ2 H2) (hd : ∀ σ H, Pv (j - lo).toNat σ H → D.nx σ H) : tFor (iRng2 ta) g tb D σ H :=
  ha _ ⟨lo, j, rfl, ⟨hl.1, hl.2, hj.1, hj.2⟩, for_range Pv h0 hs hd⟩
end
/-! ### values of any kind -/
/-- a plain int -/
def isI : V → Bool
  | .int _ => true
  | _ => false
theorem isI_int {x : V} (h : isI x = true) : ∃ i, x = .int i := by cases x <;> simp_all [isI]
/-- is_whole tells rightly of x -/
def Wh (K : PySem.W.Frag) (H : Hp) (x : V) : Prop := ∃ t b1 b2, TyX K H x t ∧ PySem.W.kitOne K t (.type "int") = some b1 ∧ PySem.W.kitOne K t (.type "bool") = some b2 ∧ (b1 && !b2) = isI x
section
variable {K : PySem.W.Frag} {H : Hp}
theorem wh_int {i : Int} : Wh K H (.int i) := ⟨_, true, false, .base (.int i), kit_ty (by decide +kernel), kit_ty (by decide +kernel), rfl⟩
theorem wh_bl {b : Bool} : Wh K H (.bl b) := ⟨_, true, true, .base (.bl b), kit_ty (by decide +kernel), kit_ty (by decide +kernel), rfl⟩
theorem wh_non : Wh K H .non := ⟨_, false, false, .base .non, kit_ty (by decide +kernel), kit_ty (by decide +kernel), rfl⟩
theorem wh_str {x : Str} : Wh K H (.str x) := ⟨_, false, false, .base (.str x), kit_ty (by decide +kernel), kit_ty (by decide +kernel), rfl⟩
theorem wh_tup {p : Addr} {xs : List V} (h : H p = some (.tup xs)) : Wh K H (.ref p) := ⟨_, false, false, .base (.tup h), kit_ty (by decide +kernel), kit_ty (by decide +kernel), rfl⟩
theorem wh_lst {p : Addr} {xs : List V} (h : H p = some (.lst xs)) : Wh K H (.ref p) := ⟨_, false, false, .base (.lst h), kit_ty (by decide +kernel), kit_ty (by decide +kernel), rfl⟩
end
/-- isinstance with a built-in class, with an own one -/
def rIsTy (K : PySem.W.Frag) : List V → Hp → VK → Prop := fun xs H Q => ∃ x n t b, xs = [x, .ty n] ∧ TyX K H x t ∧ PySem.W.kitOne K t (.type n) = some b ∧ Q (.bl b) H
theorem call_isTy {X : Cx} : CallR X (.builtin "isinstance") (rIsTy X.K) := CallR.imp call_isi fun xs H Q ⟨x, n, t, b, a, ty, k, q⟩ => ⟨x, .ty n, t, .type n, b, a, .ty n, ty, k, q⟩
/-! ### own errors with one field -/
open He (ga)
def spXI (K : PySem.W.Frag) (fld : Str) : Sp := fun vs H Q _ => ∃ (a C : Addr) (v : V), vs = [.ref a, v] ∧ OexC K C ∧ PySem.W.findIn K (.ref C) fld = some none ∧ H a = some (exo a C none) ∧
  ∀ dx, H dx = none → dx ≠ a → Q .non (upd (upd H dx (exd dx [(fld, v)])) a (exo a C (some dx)))
section
variable {P : Program} {w : World} {K : PySem.W.Frag} {mg : Str → Option Value} {base : Heap}
theorem vis_of {N ps : List Str} {sc : Scope} (S : FnScope N ps sc) {x : Str} (h : x ∈ ps) : Vis sc x := (S.par x h).elim .inl fun e => .inr (.inl e)
theorem ok_xi {qual fld : Str} {st : Stmt} {f : Addr} {fd : FuncData} {p1 p2 p3 p4 : Pos} (F : Fun K "__init__" qual st f fd) (S : FnScope ["self", fld] ["self", fld] (defScope st))
    (hb : defBody st = [.Assign [.Attribute (.Name "self" p1) fld p2] (.Name fld p3) p4]) (h1 : (fld == ("__debug__" : Str)) = false) (h2 : (fld == ("__classdict__" : Str)) = false) : FnOk P w K mg base CX0 1 f fd ["self", fld] (spXI K fld) := by
  refine F.ok S (fun vs H Q E h => ?_) (fun cdv A outer s H vs Q E hr h => ?_)
  · obtain ⟨a, C, v, rfl, _⟩ := h; rfl
  · obtain ⟨a, C, v, rfl, T, hn, ha, k⟩ := h
    rw [hb]
    refine ⟨_, pss_one (ps_ost (pe_var (i := 0) rfl (vis_of S (by simp))) (pe_var (i := 1) rfl (vis_of S (by simp)) h1 h2)), ?_⟩
    exact ⟨v, rfl, .ref a, rfl, a, C, rfl, T, hn, .inl ⟨ha, k⟩⟩
/-- what the top has made of the class x, whose __init__ keeps its one argument in fld -/
structure ExT (K : PySem.W.Frag) (mg : Str → Option Value) (x fld : Str) : Prop where
  g : mg x = some (.ref (ga K x))
  ox : OexC K (ga K x)
  xf : XfC K (ga K x)
  no : PySem.W.findIn K (.ref (ga K x)) fld = some none
  ini : ∃ (qual : Str) (st : Stmt) (f : Addr) (fd : FuncData) (p1 p2 p3 p4 : Pos), PySem.W.findIn K (.ref (ga K x)) "__init__" = some (some (.ref f)) ∧ PySem.W.typeIn K (.ref f) = some (.type "function") ∧ Fun K "__init__" qual st f fd ∧ FnScope ["self", fld] ["self", fld] (defScope st) ∧
    defBody st = [.Assign [.Attribute (.Name "self" p1) fld p2] (.Name fld p3) p4] ∧ Binds K fd ["self", fld] []
/-- an error of the class x with fld = v is let out -/
def Rse (K : PySem.W.Frag) (E : XK) (H : Hp) (x fld : Str) (v : V) : Prop := ∀ d H', H d = none → Same H H' → H' d = some (.xd [(fld, v)]) → E (.ref (ga K x)) (some d) H'
theorem Rse.mono {K : PySem.W.Frag} {E : XK} {H H2 : Hp} {x f : Str} {v : V} (r : Rse K E H x f v) (s : Same H H2) : Rse K E H2 x f v := fun d H' hd s2 h => r d H' (s.free hd) (s.trans s2) h
def tRaiseX (K : PySem.W.Frag) (x fld : Str) (W : WX) (te : TE) : TS := fun _ σ H => te σ H fun v H1 => Rse K (fun cls d H' => W cls d σ H') H1 x fld v
theorem ps_raiseX {X : Cx} {x fld : Str} {W : WX} {e : Expr} {te : TE} {p pos pos2 : Pos} (T : ExT X.K X.mg x fld) (hr : Room 2 X.A) (tk : Takes X W) (he : PE X e te) (hc : X.calm = true := by rfl) (hg : Gl X x := by rfl) (hdb : (x == ("__debug__" : Str)) = false := by decide)
    (hd1 : (fld == ("__debug__" : Str)) = false := by decide) (hd2 : (fld == ("__classdict__" : Str)) = false := by decide)
    (hs : starEach [e] X.env = (false, eval e X.env) :: starEach [] X.env := by rfl) (hpl : (backTo pos (starEach [] X.env)).any (·.1) = false := by rfl) : PS X (.Raise (some (.Call (.Name x p) [e] [] pos)) none pos2) (tRaiseX X.K x fld W te) := by
  obtain ⟨qual, st, f, fd, p1, p2, p3, p4, hi, ht, F, S, hb, B⟩ := T.ini
  have G : FnOk X.prog X.w X.K X.mg X.base CX0 1 f fd ["self", fld] (spXI X.K fld) := ok_xi F S hb hd1 hd2
  refine PS.imp (ps_raise hc tk (pmk_oex (k := 1) T.ox hi ht G hr B .nil (pass0) hg T.g (pa_cons (PE.mcl he) pa_nil hs) hdb hs hpl)) fun D σ H q => ?_
  refine ⟨_, q, fun v H1 k => ?_⟩
  refine ⟨by show 1 ≤ 1000; decide, fun a ha => ⟨a, _, v, rfl, T.ox, T.no, upd_same, fun dx hdx hne => ⟨rfl, dx, _, upd_same, by rw [upd_ne hne, upd_same], ?_, ?_⟩⟩⟩
  · rw [upd_ne hne] at hdx; exact hdx
  · have hdn : H1 dx = none := by rw [upd_ne hne] at hdx; exact hdx
    refine k dx _ hdn (fun b u e => ?_) upd_same
    have h1 := ne_of_none e hdn
    have h2 := ne_of_none e ha
    rw [upd_ne h1, del_ne h2, upd_ne h2, upd_ne h1, upd_ne h2]
    exact e
end
end Iz
/-! Bx -/
set_option Elab.async false
set_option linter.all false
set_option maxRecDepth 100000
set_option maxHeartbeats 4000000
namespace Iz
open PySem PySem.Spec PyProof.Rows L2 LamX
open He (ga)
/-! ### repr of plain values -/
def ReprV : V → Str → Prop
  | .non, s => s = "None"
  | .bl b, s => s = if b = true then Str.ofString "True" else Str.ofString "False"
  | .int i, s => i.natAbs.log2 < 1920 ∧ s = Str.ofString (toString i)
  | .str x, s => (reprText x).length ≤ sizeLine ∧ s = reprText x
  | _, _ => False
def rRepr : List V → Hp → VK → Prop := fun xs H Q => ∃ x s, xs = [x] ∧ ReprV x s ∧ Q (.str s) H
theorem call_reprN {X : Cx} : CallR X (.builtin "repr") rRepr := by
  intro pins s σ H xs us Q I r h
  obtain ⟨x, z, rfl, hz, q⟩ := h
  cases r with
  | cons rx rr =>
    cases rr
    cases x with
    | non => cases rx; cases hz; exact PySem.P.repr_of_none ⟨.str _, H, I.tok _, ⟨_, rfl⟩, q⟩
    | bl b => cases rx; cases hz; exact PySem.P.repr_of_bool ⟨.str _, H, I.tok _, ⟨_, rfl⟩, q⟩
    | int i => obtain ⟨t, rfl⟩ := rx; obtain ⟨hb, rfl⟩ := hz; exact PySem.P.repr_of_int hb ⟨.str _, H, I.tok _, ⟨_, rfl⟩, q⟩
    | str y => obtain ⟨t, rfl⟩ := rx; obtain ⟨hb, rfl⟩ := hz; exact PySem.P.repr_of_str ⟨.str _, H, I.tok _, ⟨_, rfl⟩, q⟩ hb
    | byt b => cases hz
    | flt b => cases hz
    | ref a => cases hz
    | ty n => cases hz
/-! ### isinstance of a caught error -/
structure ExI (K : PySem.W.Frag) (D : Addr) : Prop where
  hc : (PySem.W.clsIn K D).isSome = true
  ha : PySem.W.findIn K (.ref D) "__class__" = some (some (.builtin "object.__class__"))
  hn : PySem.W.specialIn K (.builtin "object.__class__") "__get__" = some (some (.builtin "getset_descriptor.__get__"))
  ht : PySem.W.takesIn K (.builtin "object.__class__") = some true
  hm : PySem.W.mroIn K D (.type "object") = some true
def rIsX (K : PySem.W.Frag) (a : Addr) (cls : Value) (d : Option Addr) : List V → Hp → VK → Prop := fun xs H Q => ∃ (c D dd : Addr) (fs : List (Str × V)) (b : Bool), xs = [.ref a, .ref c] ∧ cls = .ref D ∧ d = some dd ∧ H dd = some (.xd fs) ∧ XfC K D ∧ ExI K D ∧ PySem.W.kitOne K (.ref D) (.ref c) = some b ∧ Q (.bl b) H
theorem call_isX {X : Cx} {a : Addr} {oe : Obj} {cls : Value} {d : Option Addr} {pn : List (Addr × Obj)} (hz : Zc cls d oe) (hf : ∃ vs, oe.data = .fields vs) : CallR (X.suite a ((a, oe) :: pn)) (.builtin "isinstance") (rIsX X.K a cls d) := by
  intro pins s σ H xs us Q I r h
  obtain ⟨c, D, dd, fs, b, rfl, rfl, rfl, hd, T, U, hk, q⟩ := h
  cases r with
  | cons rx rr =>
    cases rr with
    | cons ry rr =>
      cases rr; cases rx; cases ry
      have hget := (I.pin (a, oe) (List.mem_append.mpr (.inl List.mem_cons_self))).1
      obtain ⟨vs, hv⟩ := hf
      have hx : ObjOk X.prog X.w H s.heap dd (.xd fs) := I.hok dd _ hd
      obtain ⟨mA, hns, _⟩ := hx
      obtain ⟨od, ho, _⟩ := lookIn_ns hns
      have J : PySem.W.InstAt s.heap a oe D (some od) := ⟨hget, hz.1, by unfold PySem.W.notCls; rw [hv], by rw [hz.2]; exact ho⟩
      refine PySem.W.kia_one (PySem.W.kitx_exc U.hc T.ga T.gg T.exC U.ha U.hn U.ht U.hm) I.kIn J hk (fun z => nomatch z) fun tk => ?_
      exact ⟨.bl b, H, I.kept (t' := tk) fun _ _ z => z, rfl, q⟩
/-! ### a suite knows how many slots there are -/
def tLen (n : Nat) (t : TS) : TS := fun D σ H => σ.length = n → t D σ H
theorem pss_len {X : Cx} {st : List Stmt} {t : TS} {n : Nat} (h : PSs X st t) (hn : X.N.length = n) : PSs X st (tLen n t) := ⟨fun pins s σ H D I q => h.run pins s σ H D I (q (I.len.trans hn))⟩
/-! ### defs that make lambdas: their code object is named -/
def cOf (K : PySem.W.Frag) (x : Str) : Addr := ((PySem.W.tabIn K x).getD (0, 0)).1
def pOf (K : PySem.W.Frag) (x : Str) : Addr := ((PySem.W.tabIn K x).getD (0, 0)).2
structure LamF (K : PySem.W.Frag) (mg : Str → Option Value) (x : Str) (st : Stmt) : Prop where
  ex : ∃ (f : Addr) (oc : Value) (od : Option Addr) (kV doc pm : Value) (an : Option Addr) (ct : Value) (osl : Array (Option Value)), mg x = some (.ref f) ∧ PySem.W.keepIn K (.ref f) = true ∧
    K.lookup f = some ⟨oc, od, .func (PySem.W.fnOf x x (defArgs st) (defBody st) (defScope st) .none kV doc pm an (.ref (cOf K x)) ct), osl⟩ ∧ PySem.W.codeIn K (.ref (cOf K x)) x = true
/-- as Fun.okX, the code object known -/
theorem LamF.okF {P : Program} {w : World} {K : PySem.W.Frag} {mg : Str → Option Value} {base : Heap} {x : Str} {st : Stmt} {N ps : List Str} {k : Nat} {sp : Sp} (F : LamF K mg x st) (S : FnScope N ps (defScope st))
    (hbind : ∀ (kV doc pm : Value) (an : Option Addr) (cdv ct : Value) (us : List Value), us.length = ps.length → bindArgs (PySem.W.fnOf x x (defArgs st) (defBody st) (defScope st) .none kV doc pm an cdv ct) ⟨us, []⟩ = pure (ps.zip us))
    (len : ∀ vs H Q E, sp vs H Q E → vs.length = ps.length)
    (hbody : ∀ (f : Addr) (A : Around) (outer : List Env) (s : Shared) (H : Hp) (vs : List V) (Q : VK) (E : XK), Room k (A.deeper (envOfC x (defScope st) s.heap.objs.size f (.ref (cOf K x)))) → sp vs H Q E →
      ∃ t, PSs (cxOf (L2.CX P w) P w K mg base N x (defScope st) f (.ref (cOf K x)) A outer s H E) (defBody st) t ∧ t { nx := fun _ H' => Q .non H', rt := Q } (L2.start N vs) H) : OkF P w K mg base (L2.CX P w) (k + 1) x ps sp := by
  obtain ⟨f, oc, od, kV, doc, pm, an, ct, osl, g, kp, lk, hcd⟩ := F.ex
  exact ⟨f, _, g, kp, .all (hbind kV doc pm an _ ct), fn_of lk hcd S len fun A outer s H vs Q E hr hsp => hbody f A outer s H vs Q E hr hsp⟩
theorem passLam {X : Cx} {A : Around} {outer : List Env} {s : Shared} {H : Hp} {E : XK} {scope : Scope} {f c : Addr} : Passes (L2.CX X.prog X.w) (lamCx X A outer s H E scope f c) E :=
  passes_call (W := fun cls d _ H => E cls d H) (takes_of rfl rfl rfl rfl) fun _ _ _ _ h => h
/-- told(lambda: body), told a def of the text -/
theorem plam {X : Cx} {x a : Str} {st : Stmt} {N : List Str} {TT : (XK → Hp → VK → Prop) → Hp → VK → Prop} {c P : Addr} {qn : Str} {k : Nat} {params : Arguments} {body : Expr} {scope : Scope} {t : XK → TE} {p lpos pos : Pos}
    (F : ∃ (f : Addr) (fd : FuncData), X.mg x = some (.ref f) ∧ Fun X.K x x st f fd) (S : FnScope N [a] (defScope st))
    (hb : ∀ (kV doc pm : Value) (an : Option Addr) (cdv ct : Value) (us : List Value), us.length = [a].length → bindArgs (PySem.W.fnOf x x (defArgs st) (defBody st) (defScope st) .none kV doc pm an cdv ct) ⟨us, []⟩ = pure ([a].zip us))
    (hG : ∀ (g : Addr) (cdg : Value), GivesTo X N x (defScope st) g cdg (defBody st) a qn TT)
    (TB : TabB X.base X.mg c P) (hcode : X.env.code = .ref c) (hq : X.env.qual ++ "<lambda>" = qn) (hr : Room (k + 2) X.A) (L : lamSB X.env.scope scope = true)
    (hbody : ∀ (A : Around) (outer : List Env) (s : Shared) (H : Hp) (E : XK) (f c' : Addr), Room k (A.deeper (lamEnv X scope s.heap.objs.size f c')) → PE (lamCx X A outer s H E scope f c') body (t E))
    (hdef : defaultsOf params X.env = ([], []) := by rfl) (hg : Gl X x := by rfl) (hv : Vis (defScope st) a := by first | exact Or.inl rfl | exact Or.inr (Or.inl rfl)) (hNa : N[0]? = some a := by rfl)
    (hbind : ∀ (q : Str) (cl : List (Str × Addr)) (pm cv ctv : Value), bindArgs (PySem.W.kla_fn "<lambda>" q params body scope cl pm cv ctv) ⟨[], []⟩ = pure [] := by intros; rfl)
    (hdb : (x == ("__debug__" : Str)) = false := by decide) (hd : (a == ("__debug__" : Str)) = false := by decide) (hcd : (a == ("__classdict__" : Str)) = false := by decide) :
    PE X (.Call (.Name x p) [.Lambda params body scope lpos] [] pos) (tLam [(P, qn)] TT t) := by
  subst hq
  obtain ⟨g, fd, hm, F⟩ := F
  obtain ⟨oc, od, kV, doc, pm, an, cdv, ct, osl, rfl, lk, hcg⟩ := F.ex
  exact pe_lamcall hg hm F.kp lk hcg (.all (hb kV doc pm an cdv ct)) S hNa hv (hG g cdv) TB hcode (List.mem_singleton.mpr rfl) (fun q hq _ => by rw [List.mem_singleton.mp hq]) hr (lamS_by L) hdef hbind hbody hdb hd hcd
theorem extL {H H' : Hp} {p : Addr} {xs : List V} (e : ExtN H H') (h : H p = some (.lst xs)) : H' p = some (.lst xs) := e p _ h fun ps z => by cases z
theorem extT {H H' : Hp} {p : Addr} {xs : List V} (e : ExtN H H') (h : H p = some (.tup xs)) : H' p = some (.tup xs) := e p _ h fun ps z => by cases z
theorem extS {H H' : Hp} (e : Same H H') : ExtN H H' := fun b o h _ => e b o h
/-! ### comprehensions -/
theorem st_lcL {K : PySem.W.Frag} {tl : TE} {g : TG} {tt : TT} {te : TE} {vs : List Nat} {σ : L2.St} {H : Hp} {Q : VK} {a : Addr} {xs : List V} (ha : ∀ R : V → Hp → Prop, R (.ref a) H → tl σ H R) (hx : H a = some (.lst xs)) (Pv : Addr → Nat → Hp → Prop)
    (h0 : ∀ D H1, H D = none → Same H H1 → H1 D = some (.lst []) → Pv D 0 H1) (hl : ∀ D i H, Pv D i H → H a = some (.lst xs))
    (hs : ∀ D i x H, xs[i]? = some x → Pv D i H → g x (wipe σ vs) H fun σ2 H2 => wipe σ2 vs = wipe σ vs ∧ tt σ2 H2 fun b H3 => if b = true then te σ2 H3 fun y H4 => ∃ acc, H4 D = some (.lst acc) ∧ acc.length < sizeLine ∧ Pv D (i + 1) (upd H4 D (.lst (acc ++ [y]))) else Pv D (i + 1) H3)
    (hd : ∀ D H, Pv D xs.length H → Q (.ref D) H) : tLc (iList K tl) g tt te vs σ H Q :=
  ha _ ⟨a, rfl, ⟨xs, SqL.of hx⟩, fun D hD => lc_list (Pv D) (h0 D _ hD (Same.upd hD) upd_same) (fun i H _ p => SqL.of (hl D i H p)) (hs D) (hd D)⟩
/-- deep == of what is alike -/
theorem dataEq {d : PyData} (h : SeqAt.shaped d = true) : PyData.eqv d d = true := SeqAt.eqv_refl d (SeqAt.canLay_of_shaped h)
theorem lk0 {f : Str} {v : V} : List.lookup f [(f, v)] = some v := by simp [List.lookup]
theorem ne_same {K : PySem.W.Frag} {x y : V} {H : Hp} {d : PyData} {R : VK} (hx : Dp K H x d) (hy : Dp K H y d) (h : SeqAt.shaped d = true) (r : R (.bl false) H) : rNeD K x y H R := ⟨d, d, hx, hy, h, h, by rw [dataEq h]; exact r⟩
theorem eq_same {K : PySem.W.Frag} {x y : V} {H : Hp} {d : PyData} {R : VK} (hx : Dp K H x d) (hy : Dp K H y d) (h : SeqAt.shaped d = true) (r : R (.bl true) H) : rEqD K x y H R := ⟨d, d, hx, hy, h, h, by rw [dataEq h]; exact r⟩
theorem dp_ss {K : PySem.W.Frag} {H : Hp} {p : Addr} {x y : Str} (h : H p = some (.tup [.str x, .str y])) : Dp K H (.ref p) (.tuple [.str x, .str y]) := .tup (SqT.of h) (.cons (.str x) (.cons (.str y) .nil))
theorem sh_ss {x y : Str} (hx : PyData.strOk x = true) (hy : PyData.strOk y = true) : SeqAt.shaped (.tuple [.str x, .str y]) = true := by simp [SeqAt.shaped, PyData.canLay0, PyData.canLayAll0, PyData.depth, PyData.depthAll, hx, hy]
theorem dp_nil {K : PySem.W.Frag} {H : Hp} {p : Addr} (h : H p = some (.lst [])) : Dp K H (.ref p) (.list []) := .lst (SqL.of h) .nil
/-- the rules that name the written part, within a comprehension -/
theorem op_neDk {X : Cx} {K : PySem.W.Frag} (e : X.K = K) (hu : X.A.units + 64 < cLine) : OpR X (compareOp .NotEq) (rNeD K) := e ▸ op_neD hu
theorem op_eqDk {X : Cx} {K : PySem.W.Frag} (e : X.K = K) (hu : X.A.units + 64 < cLine) : OpR X (compareOp .Eq) (rEqD K) := e ▸ op_eqD hu
/-! ### what the top has made, from facts -/
theorem ga_of {K : PySem.W.Frag} {x : Str} {a : Addr} (h : PySem.W.nsIn K mainGlobals x = some (some (.ref a))) : ga K x = a := by unfold ga; rw [h]
theorem ext_mk {K : PySem.W.Frag} {mg : Str → Option Value} {h : Heap} (X : K.In h) (G : h.Ns mainGlobals mg) {x fld qual nm q : Str} {st : Stmt} {C f N : Addr} {bs bm sub : List Value} {sn : List Str} {ab : Bool} {col : Option Bool} {dd od an : Option Addr} {m0 m1 m2 m3 m5 : Option Value} {oc kV dc pm cd ct : Value} {sl : Array (Option Value)} {p1 p2 p3 p4 : Pos}
    (aC : PySem.W.nsIn K mainGlobals x = some (some (.ref C))) (xL : K.lookup C = some (excClassObj nm q C N bs bm true sn sub ab col dd m0 m1 m2 m3 m5 "ValueError.__new__")) (hbm : PySem.HandSPX.refsVE bm = true)
    (sa : PySem.W.findIn K (.ref C) "__setattr__" = some (some (.builtin "object.__setattr__"))) (exC : PySem.W.subIn K (.ref C) (.type "BaseException") = some true) (tyC : PySem.W.typeIn K (.ref C) = some (.type "type")) (kC : PySem.W.keepIn K (.ref C) = true)
    (gA : PySem.W.findIn K (.ref C) "__getattribute__" = some (some (.builtin "BaseException.__getattribute__"))) (gG : PySem.W.findIn K (.ref C) "__getattr__" = some none) (hd : PySem.W.hasDictIn K C = true) (no : PySem.W.findIn K (.ref C) fld = some none)
    (iC : PySem.W.findIn K (.ref C) "__init__" = some (some (.ref f))) (tI : PySem.W.typeIn K (.ref f) = some (.type "function"))
    (lI : K.lookup f = some ⟨oc, od, .func (PySem.W.fnOf "__init__" qual (defArgs st) (defBody st) (defScope st) .none kV dc pm an cd ct), sl⟩) (cI : PySem.W.codeIn K cd qual = true) (kI : PySem.W.keepIn K (.ref f) = true)
    (S : FnScope ["self", fld] ["self", fld] (defScope st)) (hb : defBody st = [.Assign [.Attribute (.Name "self" p1) fld p2] (.Name fld p3) p4])
    (hB : ∀ (kV doc pm : Value) (an : Option Addr) (cdv ct : Value) (us : List Value), us.length = (["self", fld] : List Str).length → bindArgs (PySem.W.fnOf "__init__" qual (defArgs st) (defBody st) (defScope st) .none kV doc pm an cdv ct) ⟨us, []⟩ = pure ((["self", fld] : List Str).zip us)) : ExT K mg x fld := by
  have e := ga_of aC
  refine ⟨?_, ?_, ?_, ?_, ?_⟩
  · rw [e]; exact PySem.W.mg_of X G aC
  · rw [e]; exact ⟨⟨_, _, _, _, _, _, _, _, _, _, _, _, _, _, _, xL, hbm⟩, sa, exC, tyC, kC⟩
  · rw [e]; exact ⟨gA, gG, exC, hd⟩
  · rw [e]; exact no
  · rw [e]; exact ⟨qual, st, f, _, p1, p2, p3, p4, iC, tI, fun_mk lI cI kI, S, hb, (fun_mk (st := st) lI cI kI).binds hB⟩
theorem exi_mk {K : PySem.W.Frag} {x : Str} {C : Addr} (aC : PySem.W.nsIn K mainGlobals x = some (some (.ref C))) (hc : (PySem.W.clsIn K C).isSome = true) (ha : PySem.W.findIn K (.ref C) "__class__" = some (some (.builtin "object.__class__")))
    (hn : PySem.W.specialIn K (.builtin "object.__class__") "__get__" = some (some (.builtin "getset_descriptor.__get__"))) (ht : PySem.W.takesIn K (.builtin "object.__class__") = some true) (hm : PySem.W.mroIn K C (.type "object") = some true) : ExI K (ga K x) := by
  rw [ga_of aC]; exact ⟨hc, ha, hn, ht, hm⟩
theorem lamf_mk {K : PySem.W.Frag} {mg : Str → Option Value} {h : Heap} (X : K.In h) (G : h.Ns mainGlobals mg) {x : Str} {st : Stmt} {f c P : Addr} {od an : Option Addr} {oc kV dc pm ct : Value} {sl : Array (Option Value)}
    (a : PySem.W.nsIn K mainGlobals x = some (some (.ref f))) (l : K.lookup f = some ⟨oc, od, .func (PySem.W.fnOf x x (defArgs st) (defBody st) (defScope st) .none kV dc pm an (.ref c) ct), sl⟩) (cI : PySem.W.codeIn K (.ref c) x = true) (kI : PySem.W.keepIn K (.ref f) = true)
    (t : PySem.W.tabIn K x = some (c, P)) : LamF K mg x st := by
  have e : cOf K x = c := by unfold cOf; rw [t]; rfl
  refine ⟨f, oc, od, kV, dc, pm, an, ct, sl, PySem.W.mg_of X G a, kI, ?_, ?_⟩
  · rw [e]; exact l
  · rw [e]; exact cI
end Iz
/-! Bc -/
set_option Elab.async false
set_option linter.all false
set_option maxRecDepth 100000
set_option maxHeartbeats 4000000
namespace Iz
open PySem PySem.Spec PyProof.Rows L2
open He (ga)
/-! ### own classes: their instances stand still -/
/-- how the parameters bind, the last ones by their defaults -/
def BindD (K : PySem.W.Frag) (fd : FuncData) (ps : List Str) (dvs : List V) : Prop := ∀ j, j ≤ dvs.length → ∃ ds, Vals (dvs.drop j) ds ∧ Binds K fd ps ds
theorem BindD.none {K : PySem.W.Frag} {fd : FuncData} {ps : List Str} (b : Binds K fd ps []) : BindD K fd ps [] := fun _ _ => ⟨[], by rw [List.drop_nil]; exact .nil, b⟩
/-- the method m of the class x keeps sp -/
structure OkM (P : Program) (w : World) (K : PySem.W.Frag) (mg : Str → Option Value) (base : Heap) (CX : CXT) (k : Nat) (x m : Str) (ps : List Str) (dvs : List V) (sp : Sp) : Prop where
  ex : ∃ (f : Addr) (fd : FuncData), Meth K (ga K x) m f ∧ BindD K fd ps dvs ∧ FnOk P w K mg base CX k f fd ps sp
/-- a call of the class x keeps sp -/
structure OkK (P : Program) (w : World) (K : PySem.W.Frag) (mg : Str → Option Value) (base : Heap) (CX : CXT) (k : Nat) (x : Str) (ps : List Str) (dvs : List V) (sp : Sp) : Prop where
  ex : ∃ (f : Addr) (fd : FuncData) (si : Sp), Mk K (ga K x) f ∧ mg x = some (.ref (ga K x)) ∧ BindD K fd ("self" :: ps) dvs ∧ FnOk P w K mg base CX k f fd ("self" :: ps) si ∧
    ∀ vs H Q E, sp vs H Q E → ∀ p dx, H p = none → H dx = none → dx ≠ p → si (.ref p :: vs) (upd (upd H dx (.own p)) p (.ins (ga K x) dx [])) (fun v H2 => v = .non ∧ Q (.ref p) H2) E
/-- a new instance -/
def NewsI (H : Hp) (C : Addr) (fs : List (Str × V)) (Q : V → Hp → Prop) : Prop := ∀ p dx H2, H p = none → Same H H2 → H2 p = some (.ins C dx fs) → Q (.ref p) H2
def tMt (C : Addr) (m : Str) (sp : Sp) (dv : List V) (E : XK) (ta : TE) (t : TA) : TE := fun σ H Q => ta σ H fun x H1 => ∃ a dx fs, x = .ref a ∧ H1 a = some (.ins C dx fs) ∧ fs.lookup m = none ∧ t σ H1 fun vs H2 => sp (x :: (vs ++ dv)) H2 Q E
section
variable {X : Cx} {CX : CXT} {k j : Nat} {x m f : Str} {ps : List Str} {dvs : List V} {sp : Sp} {E : XK} {o e : Expr} {es : List Expr} {ta : TE} {t : TA} {p pos apos : Pos}
theorem pmt {pl : Sem Bool} (O : OkM X.prog X.w X.K X.mg X.base CX k x m ps dvs sp) (C : Cls X.K (ga X.K x)) (he : PE X o ta) (hj : j ≤ dvs.length) (hr : Room k X.A) (hx : Passes CX X E) (ha : PA X (e :: es) t)
    (hst : starEach (e :: es) X.env = (false, eval e X.env) :: starEach es X.env := by rfl) (hpl : (backTo pos (starEach es X.env)).any (·.1) = false := by rfl)
    (ht : eval (.Call (.Attribute o m apos) (e :: es) [] pos) X.env = (do
      let ov ← eval o X.env; standAt apos.atName
      let (f, first) ← holding [ov] (getMethod ov m pl)
      callWith pos f first (backTo pos (starEach (e :: es) X.env)) (backToKw pos (keywordEach [] X.env))) := by rfl) :
    PE X (.Call (.Attribute o m apos) (e :: es) [] pos) (tMt (ga X.K x) m sp (dvs.drop j) E ta t) := by
  obtain ⟨f, fd, M, b, G⟩ := O.ex
  obtain ⟨ds, hv, hb⟩ := b j hj
  exact pe_meth he C M G hr hb hv hx ha hst hpl ht
theorem pmt0 {pl : Sem Bool} (O : OkM X.prog X.w X.K X.mg X.base CX k x m ps dvs sp) (C : Cls X.K (ga X.K x)) (he : PE X o ta) (hj : j ≤ dvs.length) (hr : Room k X.A) (hx : Passes CX X E)
    (ht : eval (.Call (.Attribute o m apos) [] [] pos) X.env = (do
      let ov ← eval o X.env; standAt apos.atName
      let (f, first) ← holding [ov] (getMethod ov m pl)
      callWith pos f first (backTo pos (starEach [] X.env)) (backToKw pos (keywordEach [] X.env))) := by rfl) :
    PE X (.Call (.Attribute o m apos) [] [] pos) (tMt (ga X.K x) m sp (dvs.drop j) E ta tNil) := by
  obtain ⟨f, fd, M, b, G⟩ := O.ex
  obtain ⟨ds, hv, hb⟩ := b j hj
  exact pe_meth0 he C M G hr hb hv hx ht
theorem pmk (O : OkK X.prog X.w X.K X.mg X.base CX k x ps dvs sp) (hj : j ≤ dvs.length) (hr : Room (k + 1) X.A) (hx : Passes CX X E) (ha : PA X (e :: es) t) (hg : Gl X x := by rfl) (hdb : (x == ("__debug__" : Str)) = false := by decide)
    (he : starEach (e :: es) X.env = (false, eval e X.env) :: starEach es X.env := by rfl) (hpl : (backTo pos (starEach es X.env)).any (·.1) = false := by rfl) : PE X (.Call (.Name x p) (e :: es) [] pos) (tCall sp (dvs.drop j) E t) := by
  obtain ⟨f, fd, si, M, g, b, G, q⟩ := O.ex
  obtain ⟨ds, hv, hb⟩ := b j hj
  exact PE.imp (pe_make M G hr hg g hb hv hx (PA.mcl ha) hdb he hpl) fun σ H Q h => ⟨_, h, fun vs H1 h1 p dx h2 h3 h4 => q _ H1 Q _ h1 p dx h2 h3 h4⟩
theorem pmk0 (O : OkK X.prog X.w X.K X.mg X.base CX k x ps dvs sp) (hj : j ≤ dvs.length) (hr : Room (k + 1) X.A) (hx : Passes CX X E) (hg : Gl X x := by rfl) (hdb : (x == ("__debug__" : Str)) = false := by decide) : PE X (.Call (.Name x p) [] [] pos) (tCall sp (dvs.drop j) E tNil) := by
  obtain ⟨f, fd, si, M, g, b, G, q⟩ := O.ex
  obtain ⟨ds, hv, hb⟩ := b j hj
  exact PE.imp (pe_make0 M G hr hg g hb hv hx hdb) fun σ H Q h => fun p dx h2 h3 h4 => q _ H Q _ h p dx h2 h3 h4
def tFldN (C : Addr) (ta : TE) (f : Str) : TE := fun σ H Q => ta σ H fun x H1 => ∃ a dx fs v, x = .ref a ∧ H1 a = some (.ins C dx fs) ∧ fs.lookup f = some v ∧ Q v H1
theorem pe_fldN {C : Addr} (c : Cls X.K C) (n : NoAttr X.K C f) (h : PE X o ta) (hb : attributeBase o f X.env (eval o X.env) = eval o X.env := by rfl) : PE X (.Attribute o f apos) (tFldN C ta f) :=
  PE.imp (pe_fld (PE.mcl h) hb) fun σ H Q q => ⟨_, q, fun x H1 ⟨a, dx, fs, v, e1, e2, e3, q⟩ => ⟨a, C, dx, fs, v, e1, e2, c, n, e3, q⟩⟩
end
theorem lk1 {f g : Str} {v w : V} (h : (f == g) = false) : List.lookup f [(g, w), (f, v)] = some v := by simp [List.lookup, h]
theorem lkn2 {f g h : Str} {v w : V} (h1 : (f == g) = false) (h2 : (f == h) = false) : List.lookup f [(g, v), (h, w)] = none := by simp [List.lookup, h1, h2]
theorem lkh {f : Str} {v : V} {l : List (Str × V)} : List.lookup f ((f, v) :: l) = some v := by simp [List.lookup]
/-- None or an int -/
def ov : Option Int → V
  | none => .non
  | some i => .int i
theorem wh_ov {K : PySem.W.Frag} {H : Hp} {o : Option Int} : Wh K H (ov o) := by cases o; exact wh_non; exact wh_int
theorem putF_nil {f : Str} {v : V} : putF f v [] = [(f, v)] := rfl
theorem putF_cons {f g : Str} {v w : V} {l : List (Str × V)} (h : g ≠ f) : putF f v ((g, w) :: l) = (g, w) :: putF f v l := by
  show (if g = f then _ else _) = _
  rw [if_neg h]
/-- self.f = e, the object's class known -/
def tSto (C : Addr) (f : Str) (ta tv : TE) : TS := fun D σ H => tv σ H fun y H1 => ta σ H1 fun x H2 => ∃ a dx fs, x = .ref a ∧ H2 a = some (.ins C dx fs) ∧ fs.length < 1000 ∧ ∀ H3, Put H2 H3 a (.ins C dx (putF f y fs)) → D.nx σ H3
theorem ps_fldN {X : Cx} {C : Addr} {f : Str} {o e : Expr} {ta tv : TE} {apos pos : Pos} (c : Cls X.K C) (n : NoAttr X.K C f) (ho : PE X o ta) (he : PE X e tv) (hs : swapsWith e (some (.Attribute o f apos)) pos.line X.env = pure false := by rfl) : PS X (.Assign [.Attribute o f apos] e pos) (tSto C f ta tv) :=
  PS.imp (ps_fld (PE.mcl ho) (PE.mcl he) hs) fun D σ H q => ⟨_, q, fun y H1 q1 => ⟨_, q1, fun x H2 ⟨a, dx, fs, e1, e2, e3, k⟩ => ⟨a, C, dx, fs, e1, e2, c, n, e3, k _ ⟨upd_same, fun _ h => upd_ne h⟩⟩⟩⟩
theorem tyX_mono {K : PySem.W.Frag} {H H' : Hp} {x : V} {t : Value} (h : TyX K H x t) (s : Same H H') : TyX K H' x t := by
  cases h with
  | base b =>
    cases b with
    | non => exact .base .non
    | bl b => exact .base (.bl b)
    | int i => exact .base (.int i)
    | str y => exact .base (.str y)
    | flt y => exact .base (.flt y)
    | lst e => exact .base (.lst (s _ _ e))
    | frz e => exact .base (.frz (s _ _ e))
    | tup e => exact .base (.tup (s _ _ e))
    | dK e => exact .base (.dK (s _ _ e))
    | dT e => exact .base (.dT (s _ _ e))
    | ins e a b c d f => exact .base (.ins (s _ _ e) a b c d f)
  | byt b => exact .byt b
  | set e => exact .set (s _ _ e)
  | kList e c => exact .kList e c
  | kTuple e c => exact .kTuple e c
  | kDict e c => exact .kDict e c
  | fTuple e => exact .fTuple (s _ _ e)
  | fDict e => exact .fDict (s _ _ e)
theorem wh_mono {K : PySem.W.Frag} {H H' : Hp} {x : V} (h : Wh K H x) (s : Same H H') : Wh K H' x := let ⟨t, b, c, ty, r⟩ := h; ⟨t, b, c, tyX_mono ty s, r⟩
theorem same_made {H H' : Hp} {p dx : Addr} {o o' : HO} (hp : H p = none) (hd : H dx = none) (h : ∀ b, b ≠ p → H' b = upd (upd H dx o) p o' b) : Same H H' := fun b u e => by
  rw [h b (ne_of_none e hp), upd_ne (ne_of_none e hp), upd_ne (ne_of_none e hd)]; exact e
/-- isinstance with an own class -/
def rIsOw (K : PySem.W.Frag) : List V → Hp → VK → Prop := fun xs H Q => ∃ x c, xs = [x, .ref c] ∧ ∃ t b, TyX K H x t ∧ PySem.W.kitOne K t (.ref c) = some b ∧ Q (.bl b) H
theorem call_isOw {X : Cx} : CallR X (.builtin "isinstance") (rIsOw X.K) := CallR.imp call_isi fun xs H Q ⟨x, c, a, t, b, ty, k, q⟩ => ⟨x, .ref c, t, .ref c, b, a, .own c, ty, k, q⟩
/-- what isinstance asks of an own class -/
structure ClsI (K : PySem.W.Frag) (C : Addr) : Prop where
  c : Cls K C
  ha : PySem.W.findIn K (.ref C) "__class__" = some (some (.builtin "object.__class__"))
  hn : PySem.W.specialIn K (.builtin "object.__class__") "__get__" = some (some (.builtin "getset_descriptor.__get__"))
  ht : PySem.W.takesIn K (.builtin "object.__class__") = some true
  hm : PySem.W.mroIn K C (.type "object") = some true
theorem ClsI.ty {K : PySem.W.Frag} {C : Addr} {H : Hp} {a dx : Addr} {fs : List (Str × V)} (T : ClsI K C) (h : H a = some (.ins C dx fs)) : TyX K H (.ref a) (.ref C) := .base (.ins h T.c T.ha T.hn T.ht T.hm)
theorem kit_self {K : PySem.W.Frag} {t : Value} (h : (t == t) = true := by simp) : PySem.W.kitOne K t t = some true := by unfold PySem.W.kitOne; rw [if_pos h]
end Iz
/-! RlA -/
set_option Elab.async false
set_option linter.all false
set_option maxRecDepth 100000
set_option maxHeartbeats 4000000
namespace Iz
open PySem PySem.Spec PyProof.Rows L2
/-! ### ranges with great ends: another iterator goes through them -/
theorem slotL_next : Slot "longrange_iterator" "__next__" "longrange_iterator.__next__" :=
  .of (owner := "longrange_iterator") (n := "__next__") (by rw [typeLookup_type, builtinLookup_eq_fast]; kernel_rfl) (by decide +kernel) (by decide +kernel) (by decide +kernel)
    (by first | exact .inl (by decide +kernel) | exact .inr (by decide +kernel)) (by rw [isSubtype_type]; kernel_rfl)
theorem ownerL : Manifest.owners.lookup (String.ofList ['r', 'o', 't', 'a', 'r', 'e', 't', 'i', '_', 'e', 'g', 'n', 'a', 'r', 'g', 'n', 'o', 'l'].reverse) = some Manifest.sig_longrange_iterator := by kernel_rfl
theorem entryL_next : entryFor table "longrange_iterator.__next__" = some Builtin.«longrange_iterator.__next__» := entryFor_of_tree (by kernel_rfl)
theorem argsL_next (a : Value) : argsOk "longrange_iterator.__next__" ⟨[a], []⟩ := by
  unfold argsOk; rw [signature?_of (id := "longrange_iterator.__next__") (n := ['_', '_', 't', 'x', 'e', 'n', '_', '_']) (o := ['r', 'o', 't', 'a', 'r', 'e', 't', 'i', '_', 'e', 'g', 'n', 'a', 'r', 'g', 'n', 'o', 'l']) (by kernel_rfl) ownerL]; kernel_rfl
abbrev IsLR (h : Heap) (it : Addr) (x left step : Int) : Prop := h.get? it = some { cls := .type "longrange_iterator", dict := none, data := .fields #[rawInt x, rawInt left, rawInt step], slots := #[] }
theorem slotL_iter : Slot "longrange_iterator" "__iter__" "longrange_iterator.__iter__" :=
  .of (owner := "longrange_iterator") (n := "__iter__") (by rw [typeLookup_type, builtinLookup_eq_fast]; kernel_rfl) (by decide +kernel) (by decide +kernel) (by decide +kernel)
    (by first | exact .inl (by decide +kernel) | exact .inr (by decide +kernel)) (by rw [isSubtype_type]; kernel_rfl)
theorem argsL_iter (a : Value) : argsOk "longrange_iterator.__iter__" ⟨[a], []⟩ := by
  unfold argsOk; rw [signature?_of (id := "longrange_iterator.__iter__") (n := ['_', '_', 'r', 'e', 't', 'i', '_', '_']) (o := ['r', 'o', 't', 'a', 'r', 'e', 't', 'i', '_', 'e', 'g', 'n', 'a', 'r', 'g', 'n', 'o', 'l']) (by kernel_rfl) ownerL]; kernel_rfl
theorem entryL_iter : entryFor table "longrange_iterator.__iter__" = some Builtin.«dict_keyiterator.__iter__» :=
  entryFor_alias (id' := "dict_keyiterator.__iter__") (by kernel_rfl) (by first | rfl | decide +kernel | (unfold String.splitOn; simp +decide [String.splitOnAux])) (by decide +kernel) (by kernel_rfl)
end Iz
/-! Rl -/
set_option Elab.async false
set_option linter.all false
set_option maxRecDepth 100000
set_option maxHeartbeats 4000000
namespace Iz
open PySem PySem.Spec PyProof.Rows L2
theorem meetsL_next (it : Addr) (x left step : Int) (hc0 : ¬left ≤ 0) :
    Meets (Builtin.«longrange_iterator.__next__» ⟨[.ref it], []⟩) (fun _ R s => s.heap.get? it = some { cls := .type "longrange_iterator", dict := none, data := .fields #[rawInt x, rawInt left, rawInt step], slots := #[] } ∧ R (.ok (.ret (Value.int x s.toks))) { s with heap := (s.heap.update it (Obj.mapFields fun x_1 => x_1.setIfInBounds 0 (rawInt (x + step)))).update it (Obj.mapFields fun x => x.setIfInBounds 1 (rawInt (left - 1))), toks := s.toks + 1 }) :=
  .of_wp fun prog w A R s h => by obtain ⟨hp, g, d, tk, os⟩ := s; obtain ⟨hl, h⟩ := h; unfold Builtin.«longrange_iterator.__next__» Builtin.Iterators_pickling.intField; wp_walk; exact ⟨_, rfl, h⟩
section
variable {prog : Program} {w : World} {A : Around} {E : Value → Shared → Prop} {s : Shared}
theorem nextL_item {it : Addr} {x left step : Int} {Q : Option Value → Shared → Prop} (hit : IsLR s.heap it x left step) (hleft : 0 < left)
    (hQ : ∀ h', IsLR h' it (x + step) (left - 1) step → Heap.SameBut it s.heap h' → Q (some (.int x s.toks)) { s with heap := h', toks := s.toks + 1 }) :
    wpAny (model prog w) A (pyNext (.ref it)) Q E s := by
  have hT : s.TypeIs (.ref it) "longrange_iterator" := ⟨_, hit, rfl⟩
  unfold pyNext
  refine wpAny_bind (wpAny_attempt (wpAny_callSpecial?_slot (name := Str.ofString "__next__") hT slotL_next
    (call_meets slotL_next hT entryL_next (argsL_next _) (meetsL_next it x left step (by omega)) ⟨hit, ?_⟩)))
  exact wpAny_pure (hQ _ (Heap.get?_update_self _ (Heap.get?_update_self _ hit rfl) rfl) ((Heap.SameBut.update ..).trans (Heap.SameBut.update ..)))
theorem intF {id : String} {a : Addr} {o : Obj} {vs : Array Value} {i : Nat} {x : Int} {Q : Int → Shared → Prop} (ho : s.heap.get? a = some o) (hd : o.data = .fields vs) (hi : vs[i]? = some (rawInt x)) (h : Q x s) :
    wpAny (model prog w) A (Builtin.Iterators_pickling.intField id (.ref a) i) Q E s := by
  unfold Builtin.Iterators_pickling.intField
  exact wpAny_bind (wpAny_field ho hd hi (wpAny_pure h))
theorem nextL_end {it : Addr} {x left step : Int} {Q : Option Value → Shared → Prop} (hh : A.handled = none) (hit : IsLR s.heap it x left step) (hleft : left ≤ 0)
    (hQ : ∀ h', Heap.ExtBut it s.heap h' → Q none { s with heap := h' }) : wpAny (model prog w) A (pyNext (.ref it)) Q E s := by
  have hT : s.TypeIs (.ref it) "longrange_iterator" := ⟨_, hit, rfl⟩
  unfold pyNext
  refine wpAny_bind (wpAny_attempt (wpAny_callSpecial?_slot (name := Str.ofString "__next__") hT slotL_next
    (wpAny_call_entry slotL_next hT entryL_next ?_ (argsL_next _))))
  unfold Builtin.«longrange_iterator.__next__»
  refine wpAny_bind (wpAny_of_eq (a := #[some (Value.ref it)]) (by first | rfl | kernel_rfl) ?_)
  refine wpAny_bind (intF hit rfl (x := x) rfl ?_)
  refine wpAny_bind (intF hit rfl (x := left) rfl ?_)
  refine wpAny_bind (intF hit rfl (x := step) rfl ?_)
  simp only [if_pos hleft]
  refine wpAny_bind (wpAny_rule ?_)
  simp only [newExc, newTuple]
  refine wpAny_bind ?_
  refine wpAny_bind (wpAny_newObj_type ?_ (by size_fits))
  refine wpAny_bind (m := firstArgMember _ _) (wpAny_of_eq (a := Value.none) (by first | rfl | (simp only [firstArgMember]; rfl)) ?_)
  refine wpAny_newObj_type ?_ (by size_fits)
  simp only [raiseNew]
  refine wpAny_bind (wpAny_bind (wpAny_handled ?_))
  first | rw [show A.in1.handled = none from hh] | rw [hh]
  refine wpAny_throw ?_
  refine wpAny_bind (wpAny_isInstance (T := "StopIteration") (b := true) ⟨_, Heap.get?_push_size _ rfl, rfl⟩ isSubtype_stop ?_)
  exact wpAny_pure (hQ _ (((Heap.ExtBut.refl it s.heap).push _).push _))
theorem iterL_self {it : Addr} {x left step : Int} {Q : Value → Shared → Prop} (hit : IsLR s.heap it x left step) (h : Q (.ref it) s) : wpAny (model prog w) A (pyIter (.ref it)) Q E s := by
  have hT : s.TypeIs (.ref it) "longrange_iterator" := ⟨_, hit, rfl⟩
  refine wpAny_pyIter_slot hT slotL_iter (wpAny_call_entry slotL_iter hT entryL_iter ?_ (argsL_iter _))
  show wpAny _ _ (ret (.ref it)) _ _ s
  exact wpAny_pure ⟨_, rfl, "longrange_iterator", _, hT, slotL_next.lookup, h⟩
theorem iterL_range {r : Addr} {a b c : Int} {t u v : Tok} {Q : Value → Shared → Prop} (hr : IsRange s.heap r a b c t u v) (hsmall : ¬ Builtin.Range.small a b c = true)
    (hQ : Q (.ref s.heap.objs.size) { s with heap := s.heap.push { cls := .type "longrange_iterator", data := .fields #[rawInt a, rawInt (Builtin.Range.rangeSize a b c), rawInt c] } }) :
    wpAny (model prog w) A (pyIter (.ref r)) Q E s := by
  have hT : s.TypeIs (.ref r) "range" := ⟨_, hr, rfl⟩
  refine wpAny_pyIter_slot hT F.slot_range_iter (call_meets F.slot_range_iter hT F.entry_range_iter (F.args_range_iter_1 _)
    (AutoRange.range___iter___range_0 r a b c t u v (by have e := Bool.eq_false_iff.mpr hsmall; unfold Builtin.Range.small at e; rw [e]; rfl)) ⟨hr, ?_⟩)
  unfold Builtin.Range.small at hsmall
  rw [if_neg hsmall]
  exact ⟨"longrange_iterator", _, ⟨_, Heap.get?_push_size _ rfl, rfl⟩, slotL_next.lookup, hQ⟩
end
theorem turnL {P : Program} {w : World} {K : PySem.W.Frag} {tg : Expr} (it : Addr) (lo : Int) (n : Nat) : Turn P w K tg (Itr lo n) [it] it (fun i h => IsLR h it (lo + (i : Nat)) ((n : Int) - (i : Nat)) 1) where
  mem := by simp
  obj := fun i h st b hb => by
    have e : b = it := by simpa using hb
    subst e
    exact ⟨_, st, fun v z => by
      have z' : Data.fields _ = Data.cell v := z
      cases z'⟩
  keep := fun i h h' st k => k it (by simp) _ st
  item := by
    intro X hP hw hK hc i pins s σ H E I hf st hg
    subst hP hw hK
    obtain ⟨f0, f1, f2, f3, f4, f5⟩ := hf it (by simp)
    have hg' : i < n := hg
    refine nextL_item st (by omega) fun h' st' sb => ?_
    have I1 : Inv X pins σ H { s with heap := h', toks := s.toks + 1 } := I.turned (fun b o hb e => (sb.2 b hb).trans e) f0 f1 f3 f4 f5
    have e1 : lo + ((i + 1 : Nat) : Int) = lo + (i : Int) + 1 := by omega
    have e2 : (n : Int) - ((i + 1 : Nat) : Int) = (n : Int) - (i : Int) - 1 := by omega
    refine ⟨_, rfl, go_of (s := { s with heap := h', toks := s.toks + 1 }) (n := "longrange_iterator") st' rfl rfl (by decide) ⟨.int (lo + i), H, I1, ⟨_, rfl⟩, ⟨rfl, rfl⟩, ?_, fun b hb => (hf b hb).1⟩⟩
    show IsLR h' it (lo + ((i + 1 : Nat) : Int)) ((n : Int) - ((i + 1 : Nat) : Int)) 1
    rw [e1, e2]; exact st'
  done := by
    intro X hP hw hK hc i pins s σ H E I hf st hg
    subst hP hw hK
    obtain ⟨f0, f1, f2, f3, f4, f5⟩ := hf it (by simp)
    exact nextL_end (I.ok.hd hc) st (by have : n ≤ i := hg; omega) fun h' eb => ⟨rfl, I.turned (t' := s.toks) (fun b o hb e => eb b o hb e) f0 f1 f3 f4 f5⟩
  self := fun _ _ _ _ _ st h => iterL_self st h
section
variable {X : Cx} {tg : Expr}
theorem range_itL {pins : List (Addr × Obj)} {σ : L2.St} {H : Hp} {s : Shared} {R : It → Hp → Prop} {E : Value → Shared → Prop} {lo hi : Int} {t u v : Tok} {tk : Nat} (I : Inv X pins σ H s)
    (q : R (Itr lo (hi - lo).toNat) H) : wpAny (model X.prog X.w) X.A (pyIter (.ref s.heap.objs.size)) (PIE X pins σ tg R) E { s with heap := s.heap.push { cls := .type "range", data := .fields #[.int lo t, .int hi u, .int 1 v] }, toks := tk } := by
  have I1 : Inv X pins σ H { s with heap := s.heap.push { cls := .type "range", data := .fields #[.int lo t, .int hi u, .int 1 v] }, toks := tk } := I.kept fun b o e => Heap.get?_push_of_some _ e
  have e2 : (((hi - lo).toNat : Nat) : Int) - ((0 : Nat) : Int) = Builtin.Range.rangeSize lo hi 1 := by rw [rangeSize_one]; split <;> omega
  by_cases hs : Builtin.Range.small lo hi 1 = true
  · refine wpAny_pyIter_range (IsRange.new ..) hs ?_
    refine ⟨(s.heap.push { cls := .type "range", data := .fields #[.int lo t, .int hi u, .int 1 v] }).objs.size, [(s.heap.push { cls := .type "range", data := .fields #[.int lo t, .int hi u, .int 1 v] }).objs.size], _, _, H, rfl,
      I1.kept (t' := tk) fun b o e => Heap.get?_push_of_some _ e, turn_range _ lo (hi - lo).toNat, ?_, fun b hb => ?_, q⟩
    · have e1 : lo + ((0 : Nat) : Int) * 1 = lo := by simp
      show IsRangeIter _ _ (lo + ((0 : Nat) : Int) * 1) ((((hi - lo).toNat : Nat) : Int) - ((0 : Nat) : Int)) 1
      rw [e1, e2]
      exact Heap.get?_push_size _ rfl
    · have e : b = (s.heap.push { cls := .type "range", data := .fields #[.int lo t, .int hi u, .int 1 v] }).objs.size := by simpa using hb
      subst e
      exact I1.fpOk (Nat.le_refl _) (I1.hok.fresh (Nat.le_refl _))
  · refine iterL_range (IsRange.new ..) hs ?_
    refine ⟨(s.heap.push { cls := .type "range", data := .fields #[.int lo t, .int hi u, .int 1 v] }).objs.size, [(s.heap.push { cls := .type "range", data := .fields #[.int lo t, .int hi u, .int 1 v] }).objs.size], _, _, H, rfl,
      I1.kept (t' := tk) fun b o e => Heap.get?_push_of_some _ e, turnL _ lo (hi - lo).toNat, ?_, fun b hb => ?_, q⟩
    · have e1 : lo + ((0 : Nat) : Int) = lo := by simp
      show IsLR _ _ (lo + ((0 : Nat) : Int)) ((((hi - lo).toNat : Nat) : Int) - ((0 : Nat) : Int)) 1
      rw [e1, e2]
      exact Heap.get?_push_size _ rfl
    · have e : b = (s.heap.push { cls := .type "range", data := .fields #[.int lo t, .int hi u, .int 1 v] }).objs.size := by simpa using hb
      subst e
      exact I1.fpOk (Nat.le_refl _) (I1.hok.fresh (Nat.le_refl _))
/-- range(lo, hi), of any size -/
def iRngL (ta : TA) : TI := fun σ H R => ta σ H fun vs H1 => ∃ i j : Int, vs = [.int i, .int j] ∧ R (Itr i (j - i).toNat) H1
theorem pi_rangeL {a b : Expr} {ta : TA} {p pos : Pos} (hg : Gl X "range") (hm : X.mg "range" = none) (ha : PA X [a, b] ta) (hs : starEach [a, b] X.env = [(false, eval a X.env), (false, eval b X.env)] := by rfl) (hs2 : starEach [b] X.env = [(false, eval b X.env)] := by rfl) :
    PI X tg (.Call (.Name "range" p) [a, b] [] pos) (iRngL ta) := by
  refine ⟨fun pins s σ H R I h => ?_⟩
  refine Call_ (ld_blt I hg hm boot_range (PyProof.Rows.callWith_type1 (thn (ha.run pos pins s σ H _ I h) fun us s1 ⟨vs, H1, I1, r1, q1⟩ => ?_) (by rw [hs, hs2]) (by rw [hs2]; rfl)))
  obtain ⟨i, j, e, q⟩ := q1
  subst e
  cases r1 with
  | cons r rr =>
    cases rr with
    | cons r' rr =>
      cases rr
      obtain ⟨t, rfl⟩ := r
      obtain ⟨t', rfl⟩ := r'
      exact call_range_2 (range_itL I1 q)
end
end Iz
/-! Ls -/
set_option Elab.async false
set_option linter.all false
set_option maxRecDepth 100000
set_option maxHeartbeats 4000000
namespace Iz
open PySem PySem.Spec PyProof.Rows L2
/-! ### loops over lists, tuples and ranges, comprehensions of what is told by functions -/
section
variable {K : PySem.W.Frag} {g : TG} {tb : TS} {D : Ends} {σ : L2.St} {H : Hp} {ta : TA} {tl : TE} {tt : TT} {te : TE} {vs : List Nat} {Q : VK}
theorem st_forRL (lo j : Int) (ha : ∀ R : List V → Hp → Prop, R [.int lo, .int j] H → ta σ H R) (Pv : Nat → L2.St → Hp → Prop) (h0 : Pv 0 σ H)
    (hs : ∀ i σ H, i < (j - lo).toNat → Pv i σ H → g (.int (lo + i)) σ H fun σ2 H2 => tb { D with nx := Pv (i + 1), ct := Pv (i + 1), bk := D.nx } σ2 H2) (hd : ∀ σ H, Pv (j - lo).toNat σ H → D.nx σ H) : tFor (iRngL ta) g tb D σ H :=
  ha _ ⟨lo, j, rfl, for_range Pv h0 hs hd⟩
theorem st_forL {a : Addr} {xs : List V} (ha : ∀ R : V → Hp → Prop, R (.ref a) H → tl σ H R) (hx : H a = some (.lst xs)) (Pv : Nat → L2.St → Hp → Prop) (h0 : Pv 0 σ H) (hl : ∀ i σ H, Pv i σ H → H a = some (.lst xs))
    (hs : ∀ i x σ H, xs[i]? = some x → Pv i σ H → g x σ H fun σ2 H2 => tb { D with nx := Pv (i + 1), ct := Pv (i + 1), bk := D.nx } σ2 H2) (hd : ∀ σ H, Pv xs.length σ H → D.nx σ H) : tFor (iList K tl) g tb D σ H :=
  ha _ ⟨a, rfl, ⟨xs, SqL.of hx⟩, for_list Pv h0 (fun i σ H _ p => SqL.of (hl i σ H p)) hs hd⟩
theorem st_forT {a : Addr} {xs : List V} (ha : ∀ R : V → Hp → Prop, R (.ref a) H → tl σ H R) (hx : H a = some (.tup xs)) (Pv : Nat → L2.St → Hp → Prop) (h0 : Pv 0 σ H) (hl : ∀ i σ H, Pv i σ H → H a = some (.tup xs))
    (hs : ∀ i x σ H, xs[i]? = some x → Pv i σ H → g x σ H fun σ2 H2 => tb { D with nx := Pv (i + 1), ct := Pv (i + 1), bk := D.nx } σ2 H2) (hd : ∀ σ H, Pv xs.length σ H → D.nx σ H) : tFor (iTup K tl) g tb D σ H :=
  ha _ ⟨a, rfl, ⟨xs, SqT.of hx⟩, for_tup Pv h0 (fun i σ H _ p => SqT.of (hl i σ H p)) hs hd⟩
/-- lo, .., j - 1 -/
def intsB (lo j : Int) : List Int := (List.range (j - lo).toNat).map fun (k : Nat) => lo + (k : Int)
theorem mem_intsB {lo j i : Int} : i ∈ intsB lo j ↔ lo ≤ i ∧ i < j := by
  simp only [intsB, List.mem_map, List.mem_range]
  constructor
  · rintro ⟨k, hk, rfl⟩; omega
  · rintro ⟨h1, h2⟩; exact ⟨(i - lo).toNat, by omega, by omega⟩
theorem take_filter_succ {α : Type} {xs : List α} {i : Nat} {x : α} (h : xs[i]? = some x) (p : α → Bool) : (xs.take (i + 1)).filter p = (xs.take i).filter p ++ (if p x = true then [x] else []) := by
  rw [List.take_succ, h, List.filter_append]
  congr 1
  by_cases e : p x = true <;> simp [e]
/-- [f(x) for x in xs if p(x)] -/
theorem st_lcLF {a : Addr} {xs : List V} (ha : ∀ R : V → Hp → Prop, R (.ref a) H → tl σ H R) (hx : H a = some (.lst xs)) (hz : xs.length ≤ sizeLine) (p : V → Bool) (f : V → V)
    (hs : ∀ x H' (A : Hp → Prop) (B : VK), x ∈ xs → Same H H' → (p x = false → ∀ H3, Same H' H3 → A H3) → (p x = true → ∀ H4, Same H' H4 → B (f x) H4) →
      g x (wipe σ vs) H' fun σ2 H2 => wipe σ2 vs = wipe σ vs ∧ tt σ2 H2 fun b H3 => if b = true then te σ2 H3 B else A H3)
    (hd : ∀ D H', H D = none → Same H H' → H' D = some (.lst ((xs.filter p).map f)) → Q (.ref D) H') : tLc (iList K tl) g tt te vs σ H Q := by
  refine ha _ ⟨a, rfl, ⟨xs, SqL.of hx⟩, fun D hD => lc_list (fun i H' => Same H H' ∧ H' D = some (.lst (((xs.take i).filter p).map f))) ⟨Same.upd hD, upd_same⟩ (fun i H' _ q => SqL.of (q.1 _ _ hx)) (fun i x H' hi q => ?_) (fun H' q => hd D H' hD q.1 (by rw [q.2, List.take_length]))⟩
  refine hs x H' _ _ (List.mem_of_getElem? hi) q.1 (fun e H3 s3 => ⟨q.1.trans s3, ?_⟩) (fun e H4 s4 => ⟨_, s4 _ _ q.2, ?_, ?_, ?_⟩)
  · rw [s3 _ _ q.2, take_filter_succ hi, e]; simp
  · have hi' := (List.getElem?_eq_some_iff.mp hi).1
    have h1 : ((xs.take i).filter p).length ≤ (xs.take i).length := List.length_filter_le _ _
    have h2 : (xs.take i).length ≤ i := by rw [List.length_take]; exact Nat.min_le_left _ _
    rw [List.length_map]; omega
  · exact fun b u e2 => by
      have hb : b ≠ D := ne_of_none e2 hD
      rw [upd_ne hb]; exact s4 _ _ (q.1 _ _ e2)
  · rw [upd_same, take_filter_succ hi, e]; simp
/-- [f(x) for x in range(lo, j) if p(x)] -/
theorem st_lcRF (lo j : Int) (ha : ∀ R : List V → Hp → Prop, R [.int lo, .int j] H → ta σ H R) (hz : (j - lo).toNat ≤ sizeLine) (p : Int → Bool) (f : Int → V)
    (hs : ∀ x H' (A : Hp → Prop) (B : VK), lo ≤ x → x < j → Same H H' → (p x = false → ∀ H3, Same H' H3 → A H3) → (p x = true → ∀ H4, Same H' H4 → B (f x) H4) →
      g (.int x) (wipe σ vs) H' fun σ2 H2 => wipe σ2 vs = wipe σ vs ∧ tt σ2 H2 fun b H3 => if b = true then te σ2 H3 B else A H3)
    (hd : ∀ D H', H D = none → Same H H' → H' D = some (.lst (((intsB lo j).filter p).map f)) → Q (.ref D) H') : tLc (iRngL ta) g tt te vs σ H Q := by
  refine ha _ ⟨lo, j, rfl, fun D hD => lc_range (fun i H' => Same H H' ∧ H' D = some (.lst ((((intsB lo j).take i).filter p).map f))) ⟨Same.upd hD, upd_same⟩ (fun i H' hi q => ?_) (fun H' q => hd D H' hD q.1 (by rw [q.2, show (j - lo).toNat = (intsB lo j).length by simp [intsB], List.take_length]))⟩
  have hi' : (intsB lo j)[i]? = some (lo + (i : Int)) := by simp [intsB, hi]
  refine hs (lo + i) H' _ _ (by omega) (by omega) q.1 (fun e H3 s3 => ⟨q.1.trans s3, ?_⟩) (fun e H4 s4 => ⟨_, s4 _ _ q.2, ?_, ?_, ?_⟩)
  · rw [s3 _ _ q.2, take_filter_succ hi', e]; simp
  · have h1 : (((intsB lo j).take i).filter p).length ≤ ((intsB lo j).take i).length := List.length_filter_le _ _
    have h2 : ((intsB lo j).take i).length ≤ i := by rw [List.length_take]; exact Nat.min_le_left _ _
    rw [List.length_map]; omega
  · exact fun b u e2 => by
      have hb : b ≠ D := ne_of_none e2 hD
      rw [upd_ne hb]; exact s4 _ _ (q.1 _ _ e2)
  · rw [upd_same, take_filter_succ hi', e]; simp
end
end Iz
namespace Iz
open PySem PySem.Spec PyProof.Rows L2
/-! ### slices, + of lists, deep ==, in the form that simp reads -/
section
variable {X : Cx} {e : Expr} {te : TE}
def tRevLN (te : TE) : TE := fun σ H Q => te σ H fun x H1 => ∃ a xs, x = .ref a ∧ H1 a = some (.lst xs) ∧ News H1 (.lst xs.reverse) Q
theorem pe_revLN {k : Nat} {p1 p2 p3 pos : Pos} (he : PE X e te) : PE X (.Subscript e (.Slice none none (some (.UnaryOp .USub (.Constant (.int 1) k p1) p2)) p3) pos) (tRevLN te) :=
  PE.imp (pe_revL (PE.mcl he)) fun σ H Q q => ⟨_, q, fun v H1 ⟨a, xs, e1, e2, n⟩ => ⟨a, xs, e1, SqL.of e2, n.all⟩⟩
def rCatN : R2 := fun x y H Q => ∃ l b xs zs, x = .ref l ∧ y = .ref b ∧ H l = some (.lst xs) ∧ H b = some (.lst zs) ∧ xs.length + zs.length ≤ sizeLine ∧ News H (.lst (xs ++ zs)) Q
theorem op_catN : OpR X (binaryOp .Add) rCatN := fun pins s σ H x y v u Q I rx ry ⟨l, b, xs, zs, e1, e2, e3, e4, e5, n⟩ => op_cat pins s σ H x y v u Q I rx ry ⟨l, b, xs, zs, e1, e2, e3, e4, e5, n.all⟩
end
/-- x in xs, x not in xs: flat things -/
def rInTN (neg : Bool) : R2 := fun x y H Q => ∃ p xs, y = .ref p ∧ H p = some (.tup xs) ∧ flatV x = true ∧ xs.all flatV = true ∧ Q (.bl (if neg then !inV x xs else inV x xs)) H
def rInLN (neg : Bool) : R2 := fun x y H Q => ∃ p xs, y = .ref p ∧ H p = some (.lst xs) ∧ flatV x = true ∧ xs.all flatV = true ∧ Q (.bl (if neg then !inV x xs else inV x xs)) H
theorem op_inTN {X : Cx} : OpR X (compareOp .In) (rInTN false) := fun pins s σ H x y v u Q I rx ry ⟨p, xs, e1, e2, e3, e4, q⟩ => op_in_seq pins s σ H x y v u Q I rx ry ⟨p, xs, e1, .inr (SqT.of e2), e3, e4, q⟩
theorem op_notInTN {X : Cx} : OpR X (compareOp .NotIn) (rInTN true) := fun pins s σ H x y v u Q I rx ry ⟨p, xs, e1, e2, e3, e4, q⟩ => op_notIn_seq pins s σ H x y v u Q I rx ry ⟨p, xs, e1, .inr (SqT.of e2), e3, e4, q⟩
theorem op_inLN {X : Cx} : OpR X (compareOp .In) (rInLN false) := fun pins s σ H x y v u Q I rx ry ⟨p, xs, e1, e2, e3, e4, q⟩ => op_in_seq pins s σ H x y v u Q I rx ry ⟨p, xs, e1, .inl (SqL.of e2), e3, e4, q⟩
theorem op_notInLN {X : Cx} : OpR X (compareOp .NotIn) (rInLN true) := fun pins s σ H x y v u Q I rx ry ⟨p, xs, e1, e2, e3, e4, q⟩ => op_notIn_seq pins s σ H x y v u Q I rx ry ⟨p, xs, e1, .inl (SqL.of e2), e3, e4, q⟩
def ShN (n : Nat) (d : PyData) : Prop := d.canLay0 = true ∧ d.depth ≤ n
theorem ShN.up {n m : Nat} {d : PyData} (h : ShN n d) (k : n ≤ m) : ShN m d := ⟨h.1, Nat.le_trans h.2 k⟩
theorem ShN.non {n : Nat} : ShN n .none := ⟨by simp [PyData.canLay0], by simp [PyData.depth]⟩
theorem ShN.int {n : Nat} {i : Int} : ShN n (.int i) := ⟨by simp [PyData.canLay0], by simp [PyData.depth]⟩
theorem ShN.bool {n : Nat} {b : Bool} : ShN n (.bool b) := ⟨by simp [PyData.canLay0], by simp [PyData.depth]⟩
theorem shAll {n : Nat} {ds : List PyData} (h : ∀ d ∈ ds, ShN n d) : PyData.canLayAll0 ds = true ∧ PyData.depthAll ds ≤ n := by
  induction ds with
  | nil => exact ⟨by simp [PyData.canLayAll0], by simp [PyData.depthAll]⟩
  | cons d ds ih =>
    have h1 := h d (by simp)
    have h2 := ih fun x hx => h x (by simp [hx])
    exact ⟨by simp [PyData.canLayAll0, h1.1, h2.1], by simp only [PyData.depthAll]; exact Nat.max_le.mpr ⟨h1.2, h2.2⟩⟩
theorem ShN.list {n : Nat} {ds : List PyData} (h : ∀ d ∈ ds, ShN n d) : ShN (n + 1) (.list ds) := ⟨by simp only [PyData.canLay0]; exact (shAll h).1, by simp only [PyData.depth]; have := (shAll h).2; omega⟩
theorem ShN.tuple {n : Nat} {ds : List PyData} (h : ∀ d ∈ ds, ShN n d) : ShN (n + 1) (.tuple ds) := ⟨by simp only [PyData.canLay0]; exact (shAll h).1, by simp only [PyData.depth]; have := (shAll h).2; omega⟩
theorem ShN.ok {n : Nat} {d : PyData} (h : ShN n d) (k : n ≤ 64 := by decide) : SeqAt.shaped d = true := by
  unfold SeqAt.shaped
  rw [h.1]; simpa using Nat.le_trans h.2 k
/-- None or an int, as data -/
def dO : Option Int → PyData
  | none => .none
  | some i => .int i
theorem dp_ov {K : PySem.W.Frag} {H : Hp} {o : Option Int} : Dp K H (ov o) (dO o) := by cases o; exact .non; exact .int _
theorem sh_dO {n : Nat} {o : Option Int} : ShN n (dO o) := by cases o; exact .non; exact .int
/-- a list of pairs -/
inductive PAll (H : Hp) : List V → List (Option Int × Option Int) → Prop
  | nil : PAll H [] []
  | cons {a : Addr} {xs : List V} {q : Option Int × Option Int} {ps : List (Option Int × Option Int)} : H a = some (.tup [ov q.1, ov q.2]) → PAll H xs ps → PAll H (.ref a :: xs) (q :: ps)
def PairsAt (H : Hp) (a : Addr) (ps : List (Option Int × Option Int)) : Prop := ∃ xs, H a = some (.lst xs) ∧ PAll H xs ps
theorem PAll.length {H : Hp} {xs : List V} {ps : List (Option Int × Option Int)} (h : PAll H xs ps) : xs.length = ps.length := by induction h <;> simp_all
theorem PAll.mono {H H' : Hp} {xs : List V} {ps : List (Option Int × Option Int)} (h : PAll H xs ps) (s : Same H H') : PAll H' xs ps := by
  induction h with
  | nil => exact .nil
  | cons e _ ih => exact .cons (s _ _ e) ih
theorem PAll.monoT {H H' : Hp} {xs : List V} {ps : List (Option Int × Option Int)} (h : PAll H xs ps) (s : ∀ b us, H b = some (.tup us) → H' b = some (.tup us)) : PAll H' xs ps := by
  induction h with
  | nil => exact .nil
  | cons e _ ih => exact .cons (s _ _ e) ih
theorem PAll.snoc {H : Hp} {a : Addr} {q : Option Int × Option Int} {xs : List V} {ps : List (Option Int × Option Int)} (h : PAll H xs ps) (e : H a = some (.tup [ov q.1, ov q.2])) : PAll H (xs ++ [.ref a]) (ps ++ [q]) := by
  induction h with
  | nil => exact .cons e .nil
  | cons e2 _ ih => exact .cons e2 ih
theorem PAll.rev {H : Hp} {xs : List V} {ps : List (Option Int × Option Int)} (h : PAll H xs ps) : PAll H xs.reverse ps.reverse := by
  induction h with
  | nil => exact .nil
  | cons e _ ih => rw [List.reverse_cons, List.reverse_cons]; exact ih.snoc e
theorem PAll.get {H : Hp} {xs : List V} {ps : List (Option Int × Option Int)} (h : PAll H xs ps) {i : Nat} {x : V} (e : xs[i]? = some x) : ∃ a q, x = .ref a ∧ ps[i]? = some q ∧ H a = some (.tup [ov q.1, ov q.2]) := by
  induction h generalizing i with
  | nil => simp at e
  | cons e2 _ ih =>
    cases i with
    | zero => simp at e; subst e; exact ⟨_, _, rfl, rfl, e2⟩
    | succ i => exact ih (by simpa using e)
theorem PairsAt.mono {H H' : Hp} {a : Addr} {ps : List (Option Int × Option Int)} (h : PairsAt H a ps) (s : Same H H') : PairsAt H' a ps := let ⟨xs, e, p⟩ := h; ⟨xs, s _ _ e, p.mono s⟩
theorem drop_of {α : Type} {l : List α} {i : Nat} {x : α} (h : l[i]? = some x) : l.drop i = x :: l.drop (i + 1) := by
  have := (List.getElem?_eq_some_iff.mp h)
  obtain ⟨h1, h2⟩ := this
  rw [← h2]; exact List.drop_eq_getElem_cons h1
def dP (q : Option Int × Option Int) : PyData := .tuple [dO q.1, dO q.2]
theorem PAll.dp {K : PySem.W.Frag} {H : Hp} {xs : List V} {ps : List (Option Int × Option Int)} (h : PAll H xs ps) : DpAll K H xs (ps.map dP) := by
  induction h with
  | nil => exact .nil
  | cons e _ ih => exact .cons (.tup (SqT.of e) (.cons dp_ov (.cons dp_ov .nil))) ih
theorem sh_dP {q : Option Int × Option Int} : ShN 1 (dP q) := ShN.tuple fun d h => by
  simp only [List.mem_cons, List.not_mem_nil, or_false] at h
  rcases h with rfl | rfl <;> exact sh_dO
theorem PairsAt.dp {K : PySem.W.Frag} {H : Hp} {a : Addr} {ps : List (Option Int × Option Int)} (h : PairsAt H a ps) : Dp K H (.ref a) (.list (ps.map dP)) := let ⟨_, e, p⟩ := h; .lst (SqL.of e) p.dp
theorem sh_dPs {ps : List (Option Int × Option Int)} : ShN 2 (.list (ps.map dP)) := ShN.list fun d h => by
  obtain ⟨q, _, rfl⟩ := List.mem_map.mp h; exact sh_dP
/-- xs == [] -/
theorem eq_nil {K : PySem.W.Frag} {H : Hp} {a b : Addr} {ps : List (Option Int × Option Int)} {R : VK} (h : PairsAt H a ps) (h2 : H b = some (.lst [])) (r : R (.bl ps.isEmpty) H) : rEqD K (.ref a) (.ref b) H R :=
  ⟨_, _, h.dp, dp_nil h2, sh_dPs.ok, (ShN.list (n := 0) fun _ h => by simp at h).ok, by cases ps <;> simp_all [PyData.eqv, PyData.eqvAll]⟩
end Iz
namespace Iz
open PySem PySem.Spec PyProof.Rows L2
open He (ga)
/-! ### within a lambda: the rules that name the written part -/
section
variable {X : Cx} {CX : CXT} {k j : Nat} {x m f : Str} {ps : List Str} {dvs : List V} {sp : Sp} {E : XK} {o e : Expr} {es : List Expr} {ta : TE} {t : TA} {p pos apos : Pos} {K : PySem.W.Frag}
theorem pmtK {pl : Sem Bool} (hK : X.K = K) (O : OkM X.prog X.w X.K X.mg X.base CX k x m ps dvs sp) (C : Cls X.K (ga X.K x)) (he : PE X o ta) (hj : j ≤ dvs.length) (hr : Room k X.A) (hx : Passes CX X E) (ha : PA X (e :: es) t)
    (hst : starEach (e :: es) X.env = (false, eval e X.env) :: starEach es X.env := by rfl) (hpl : (backTo pos (starEach es X.env)).any (·.1) = false := by rfl)
    (ht : eval (.Call (.Attribute o m apos) (e :: es) [] pos) X.env = (do
      let ov ← eval o X.env; standAt apos.atName
      let (f, first) ← holding [ov] (getMethod ov m pl)
      callWith pos f first (backTo pos (starEach (e :: es) X.env)) (backToKw pos (keywordEach [] X.env))) := by rfl) :
    PE X (.Call (.Attribute o m apos) (e :: es) [] pos) (tMt (ga K x) m sp (dvs.drop j) E ta t) := by subst hK; exact pmt O C he hj hr hx ha hst hpl ht
theorem pmt0K {pl : Sem Bool} (hK : X.K = K) (O : OkM X.prog X.w X.K X.mg X.base CX k x m ps dvs sp) (C : Cls X.K (ga X.K x)) (he : PE X o ta) (hj : j ≤ dvs.length) (hr : Room k X.A) (hx : Passes CX X E)
    (ht : eval (.Call (.Attribute o m apos) [] [] pos) X.env = (do
      let ov ← eval o X.env; standAt apos.atName
      let (f, first) ← holding [ov] (getMethod ov m pl)
      callWith pos f first (backTo pos (starEach [] X.env)) (backToKw pos (keywordEach [] X.env))) := by rfl) :
    PE X (.Call (.Attribute o m apos) [] [] pos) (tMt (ga K x) m sp (dvs.drop j) E ta tNil) := by subst hK; exact pmt0 O C he hj hr hx ht
theorem pe_fldNK {C : Addr} (hK : X.K = K) (c : Cls K C) (n : NoAttr K C f) (h : PE X o ta) (hb : attributeBase o f X.env (eval o X.env) = eval o X.env := by rfl) : PE X (.Attribute o f apos) (tFldN C ta f) := by subst hK; exact pe_fldN c n h hb
end
end Iz
/-! Ow -/
set_option Elab.async false
set_option linter.all false
set_option maxRecDepth 100000
set_option maxHeartbeats 4000000
namespace Iz
open PySem PySem.Spec PyProof.Rows L2
open He (ga)
/-! ### operators by a class's own methods -/
section
variable {X : Cx} {pins : List (Addr × Obj)} {σ : L2.St} {H : Hp} {s : Shared}
/-- the type of a value is seen -/
theorem looksTy {x : V} {u t : Value} (I : Inv X pins σ H s) (rx : RelV x u) (ty : TyX X.K H x t) : PySem.W.Looks (model X.prog X.w) s.heap (typeOf u) t := by
  have R : ∀ {a : Addr} {o : Obj}, s.heap.get? a = some o → o.cls = t → PySem.W.Looks (model X.prog X.w) s.heap (typeOf (.ref a)) t := fun ho hc A Q E s2 k q => wpAny_typeOf_ref (k _ _ ho) (by rw [hc]; exact q)
  cases ty with
  | base b =>
    cases b with
    | non => cases (show u = Value.none from rx); exact .of_pure rfl
    | bl y => cases (show u = Value.bool y from rx); exact .of_pure rfl
    | int i => obtain ⟨t, q⟩ := (show ∃ t, u = Value.int i t from rx); cases q; exact .of_pure rfl
    | str y => obtain ⟨t, q⟩ := (show ∃ t, u = Value.str y t from rx); cases q; exact .of_pure rfl
    | flt y => obtain ⟨t, q⟩ := (show ∃ t, u = Value.float y t from rx); cases q; exact .of_pure rfl
    | @lst a xs ea =>
      cases rx
      obtain ⟨_, _, n, _, h1⟩ := (show ObjOk X.prog X.w H s.heap a (.lst xs) from I.hok a _ ea)
      exact R h1 rfl
    | @frz a ob xs ea =>
      cases rx
      obtain ⟨_, _, _, n, _, h1⟩ := (show ObjOk X.prog X.w H s.heap a (.frz ob (.lst xs)) from I.hok a _ ea)
      exact R h1 rfl
    | @tup a xs ea =>
      cases rx
      obtain ⟨_, _, _, o, h1, h2, _⟩ := (show ObjOk X.prog X.w H s.heap a (.tup xs) from I.hok a _ ea)
      exact R h1 h2
    | @dK a kvs ea =>
      cases rx
      obtain ⟨_, _, vs, _, o, es, ep, h1, h2, _⟩ := (show ObjOk X.prog X.w H s.heap a (.dK kvs) from I.hok a _ ea)
      exact R h1 h2.1
    | @dT a kvs ea =>
      cases rx
      obtain ⟨_, _, xs, _, o, es, ep, h1, h2, _⟩ := (show ObjOk X.prog X.w H s.heap a (.dT kvs) from I.hok a _ ea)
      exact R h1 h2.1
    | @ins a C dx fs ea cl ha hn htk hm =>
      cases rx
      obtain ⟨mA, O, _⟩ := ins_get I.hok ea
      obtain ⟨od, J, _⟩ := O.look
      exact J.type
  | byt y => obtain ⟨t, q⟩ := (show ∃ t, u = Value.bytes y t from rx); cases q; exact .of_pure rfl
  | @set a S n ea =>
    cases rx
    obtain ⟨o, _, _, _, e, ex, _⟩ := I.hok a _ ea
    exact R e ex.1
  | @kList a o e c => cases rx; exact R (I.kIn a o e) c
  | @kTuple a o e c => cases rx; exact R (I.kIn a o e) c
  | @kDict a o e c => cases rx; exact R (I.kIn a o e) c
  | @fTuple a ob xs ea =>
    cases rx
    obtain ⟨_, _, _, _, o, h1, h2, _⟩ := (show ObjOk X.prog X.w H s.heap a (.frz ob (.tup xs)) from I.hok a _ ea)
    exact R h1 h2
  | @fDict a ob kvs ea =>
    cases rx
    obtain ⟨_, _, _, vs, _, o, es, ep, h1, h2, _⟩ := (show ObjOk X.prog X.w H s.heap a (.frz ob (.dK kvs)) from I.hok a _ ea)
    exact R h1 h2.1
end
section
variable {X : Cx} {CX : CXT} {k : Nat} {x m : Str} {ps : List Str} {sp : Sp} {E : XK}
/-- a method called by its address, within an operator -/
theorem own_call {f a : Addr} {fd : FuncData} {y : V} {u : Value} {pins : List (Addr × Obj)} {σ : L2.St} {H : Hp} {s : Shared} {Q : VK} {R : Value → Shared → Prop} (I : Inv X pins σ H s) (F : FnOk X.prog X.w X.K X.mg X.base CX k f fd ps sp) (hb : Binds X.K fd ps []) (hr : Room k X.A) (hx : Passes CX X E)
    (ry : RelV y u) (hsp : sp [.ref a, y] H Q E) (hR : ∀ v w H' s', Inv X pins σ H' s' → RelV v w → Q v H' → R w s') : wpAny (model X.prog X.w) X.A (call (.ref f) [.ref a, u]) R X.xe s := by
  have hl := F.len _ _ _ _ hsp
  have bd := hb s [.ref a, u] I.kIn (by simpa using hl)
  refine wpAny_call (codeAny_mono (F.run X.A X.stack s H ⟨[.ref a, u], []⟩ [.ref a, u] [.ref a, y] _ E hr I.env0 (by simpa using bd) (.cons rfl (.cons ry .nil)) hsp) fun r s' z => ?_)
  cases r with
  | error e => exact hx _ _ _ _ _ _ I z
  | ok fl =>
    cases fl with
    | ret w => obtain ⟨v, H', I', rv, q⟩ := I.after z; exact hR v w H' s' I' rv q
    | next => exact False.elim z
    | brk => exact False.elim z
    | cont => exact False.elim z
/-- x op y, where x's class has the method: it hands back a truth -/
def rOwn (K : PySem.W.Frag) (C : Addr) (sp : Sp) (E : XK) : R2 := fun x y H Q => ∃ a dx fs, x = .ref a ∧ H a = some (.ins C dx fs) ∧ (∃ t, TyX K H y t ∧ PySem.W.notFirst K C t = true) ∧ sp [.ref a, y] H (fun v H' => ∃ b, v = .bl b ∧ Q (.bl b) H') E
theorem op_own {op : CmpOp} (hop : ∀ a b, compareOp op a b = richCompare op a b) (O : OkM X.prog X.w X.K X.mg X.base CX k x m ps [] sp) (hm : (cmpInfo op).2.1 = m) (hr : Room k X.A) (hx : Passes CX X E) : OpR X (compareOp op) (rOwn X.K (ga X.K x) sp E) := by
  intro pins s σ H v0 y v u Q I rx ry h
  obtain ⟨a, dx, fs, rfl, ha, ⟨t, ty, nf⟩, hsp⟩ := h
  cases rx
  obtain ⟨f, fd, M, b, F⟩ := O.ex
  obtain ⟨ds, hd, hb⟩ := b 0 (Nat.le_refl _)
  cases hd
  obtain ⟨mA, O', _⟩ := ins_get I.hok ha
  obtain ⟨od, J, _⟩ := O'.look
  obtain ⟨mm, hF⟩ := I.fr
  subst hm
  rw [hop]
  refine PySem.W.cmp_K hr.units0 hF I.ok.mod.kin J (looksTy I ry ty) nf M.at_ M.fn (own_call I F hb hr hx ry hsp fun v w H' s' I' rv q => ?_)
  obtain ⟨b, rfl, q⟩ := q
  cases rv
  exact ⟨.bl b, H', I', rfl, q⟩
/-- x in y, where y's class has __contains__ -/
def rOwnIn (C : Addr) (neg : Bool) (sp : Sp) (E : XK) : R2 := fun x y H Q => ∃ a dx fs, y = .ref a ∧ H a = some (.ins C dx fs) ∧ sp [.ref a, x] H (fun v H' => ∃ b, v = .bl b ∧ Q (.bl (if neg then !b else b)) H') E
theorem op_ownIn (O : OkM X.prog X.w X.K X.mg X.base CX k x "__contains__" ps [] sp) (hr : Room k X.A) (hx : Passes CX X E) : OpR X (compareOp .In) (rOwnIn (ga X.K x) false sp E) := by
  intro pins s σ H v0 y v u Q I rx ry h
  obtain ⟨a, dx, fs, rfl, ha, hsp⟩ := h
  cases ry
  obtain ⟨f, fd, M, b, F⟩ := O.ex
  obtain ⟨ds, hd, hb⟩ := b 0 (Nat.le_refl _)
  cases hd
  obtain ⟨mA, O', _⟩ := ins_get I.hok ha
  obtain ⟨od, J, _⟩ := O'.look
  obtain ⟨mm, hF⟩ := I.fr
  refine PySem.W.in_K hF I.ok.mod.kin J M.at_ M.fn (own_call I F hb hr hx rx hsp fun v w H' s' I' rv q => ?_)
  obtain ⟨b, rfl, q⟩ := q
  cases rv
  exact wpAny_truthy_bool ⟨.bl b, H', I', rfl, q⟩
theorem op_ownNotIn (O : OkM X.prog X.w X.K X.mg X.base CX k x "__contains__" ps [] sp) (hr : Room k X.A) (hx : Passes CX X E) : OpR X (compareOp .NotIn) (rOwnIn (ga X.K x) true sp E) := by
  intro pins s σ H v0 y v u Q I rx ry h
  obtain ⟨a, dx, fs, rfl, ha, hsp⟩ := h
  cases ry
  obtain ⟨f, fd, M, b, F⟩ := O.ex
  obtain ⟨ds, hd, hb⟩ := b 0 (Nat.le_refl _)
  cases hd
  obtain ⟨mA, O', _⟩ := ins_get I.hok ha
  obtain ⟨od, J, _⟩ := O'.look
  obtain ⟨mm, hF⟩ := I.fr
  refine PySem.W.notIn_K hF I.ok.mod.kin J M.at_ M.fn (own_call I F hb hr hx rx hsp fun v w H' s' I' rv q => ?_)
  obtain ⟨b, rfl, q⟩ := q
  cases rv
  exact wpAny_truthy_bool ⟨.bl (!b), H', I', rfl, q⟩
end
end Iz
/-! Tn -/
set_option Elab.async false
set_option linter.all false
set_option maxRecDepth 100000
set_option maxHeartbeats 4000000
namespace Iz
open PySem PySem.Spec PyProof.Rows L2
/-! ### try: .. with several clauses «except x as n», one of which catches -/
abbrev Clause := Value × Nat × (Addr → Value → Option Addr → TS)
def unset (D : Ends) (i : Nat) : Ends := { nx := fun σ H => D.nx (σ.set i none) H, rt := D.rt, bk := fun σ H => D.bk (σ.set i none) H, ct := fun σ H => D.ct (σ.set i none) H }
/-- the first clause that catches; one of them does -/
def wNamed (K : PySem.W.Frag) (D : Ends) : List Clause → WX
  | [] => fun _ _ _ _ => False
  | q :: r => fun cls d σ H => ∃ b, PySem.W.exmOne K cls q.1 = some b ∧ (b = true → ∀ a, H a = none → q.2.2 a cls d (unset D q.2.1) (σ.set q.2.1 (some (.ref a))) H) ∧ (b = false → wNamed K D r cls d σ H)
structure ClauseOk (X : Cx) (x n : Str) (q : Clause) (st : Stmt) (ss : List Stmt) : Prop where
  at_ : X.N[q.2.1]? = some n
  loc : X.env.kindOf n = some .local
  cls : Names X x q.1
  run : ∀ a oe cls d pn, Zc cls d oe → (∃ vs, oe.data = .fields vs) → PSs (X.suite a ((a, oe) :: pn)) (st :: ss) (q.2.2 a cls d)
inductive Clauses (X : Cx) : List ExceptHandler → List Clause → Prop
  | nil : Clauses X [] []
  | cons {x n : Str} {q : Clause} {st : Stmt} {ss : List Stmt} {p p' : Pos} {hds : List ExceptHandler} {l : List Clause} : ClauseOk X x n q st ss → Clauses X hds l → Clauses X (.ExceptHandler (some (.Name x p)) (some n) (st :: ss) p' :: hds) (q :: l)
section
variable {X : Cx} {body : List Stmt} {h₀ : ExceptHandler} {hds : List ExceptHandler} {l : List Clause} {pos : Pos} {tb : WX → TS}
theorem ps_try_named (hN : X.N.Nodup)
    (hb : ∀ W pn xe, Takes (X.tr pn xe) W → PassesOwn (model X.prog X.w) X.A X.env xe → PSs (X.tr pn xe) body (tb W)) (hh : Clauses X (h₀ :: hds) l) (hs : X.stack = X.env :: X.outer := by rfl) (hf : X.env.frame = some X.env.locals := by rfl) :
    PS X (.Try body (h₀ :: hds) [] [] pos) (fun D σ H => tb (wNamed X.K D l) D σ H) := by
  constructor
  intro pins s σ H D I h
  have ok := I.ok
  have fr1 : X.A.frames = some (X.env :: X.outer) := hs ▸ ok.frames
  let catcher : Value → Shared → Prop := fun e z1 => wpAny (model X.prog X.w) X.A (noteFrame e X.env) (fun _ z2 => wpAny (model X.prog X.w) X.A (setFlight e none) (fun _ z3 => wpAny (model X.prog X.w) X.A (handleBy e X.env (h₀ :: hds)) (SP X pins D) X.xe z3) X.xe z2) X.xe z1
  have tk : Takes (X.tr (X.pn ++ pins) catcher) (wNamed X.K D l) := by
    intro u z xx
    obtain ⟨a, B, sI, pins', σ1, H1, cls, d, rfl, J0, nb, up, sky, na, os, ag, wish⟩ := xx
    have J : Inv X pins σ1 H1 sI := J0.ofTry ok
    refine Sky.land Zc.steady fr1 hf (show Sky B (X.env :: X.outer) a (Zc cls d) X.env.locals z.heap from hs ▸ sky) fun g fl upg => ?_
    have J1 : Inv X pins σ1 H1 { z with heap := g } := J.landed nb fl.1 (up.trans upg) os ag
    obtain ⟨o1, vs1, at1, z1, dt1⟩ := fl.there
    have out : a ∉ frs (X.env :: X.outer) := fun hm => by
      obtain ⟨_, o', at', no⟩ := fl.2.2.1.mem hm
      rw [at1] at at'
      cases at'
      exact no _ dt1
    have neL : a ≠ X.env.locals := fun e => out (by rw [e]; exact List.mem_filterMap.mpr ⟨X.env, List.mem_cons_self, hf⟩)
    have neF : a ∉ X.fs := fun hm => by
      obtain ⟨e, he, q⟩ := List.mem_filterMap.mp hm
      exact out (List.mem_filterMap.mpr ⟨e, .tail _ he, q⟩)
    have S1 := J1.suite at1 dt1 na neL neF
    have all : ∀ {hs' : List ExceptHandler} {l' : List Clause}, Clauses X hs' l' → wNamed X.K D l' cls d σ1 H1 → wpAny (model X.prog X.w) X.A (handleBy (.ref a) X.env hs') (SP X pins D) X.xe { z with heap := g } := by
      intro hs' l' hc
      induction hc with
      | nil => exact fun w => w.elim
      | @cons x n q st ss p p' hds l C r ih =>
        rintro ⟨b, hb1, yes, no⟩
        obtain ⟨c, i, ts⟩ := q
        refine wpAny_handleBy_cons (codeAny_handlers_test ?_) (by intro q; cases q)
        have LM := PySem.W.exm_one (M := model X.prog X.w) J1.kIn (fun A Q E z' k q => wpAny_typeOf_ref (k _ _ at1) (by rw [z1.1]; exact q)) hb1
        have seen : ∀ {Q E : Value → Shared → Prop}, Q c { z with heap := g } → wpAny (model X.prog X.w) (X.A.mark (some (.ref a))) (eval (.Name x p) X.env) Q E { z with heap := g } := fun {Q E} q => by
          obtain ⟨hg, hdb, own | ⟨n0, bv, nn⟩⟩ := C.cls
          · exact ld_glob (X := X.suite a ((a, o1) :: (X.pn ++ pins))) S1 hg own q hdb
          · exact ld_blt (X := X.suite a ((a, o1) :: (X.pn ++ pins))) S1 hg n0 bv q nn hdb
        refine seen (LM.here ?_)
        cases b with
        | false => exact ih (no rfl)
        | true =>
          refine codeAny_handlers_suite_as (HandSPX.lands_againZ fl fun g2 fl2 up2 => ?_)
          have J2 : Inv X pins σ1 H1 { z with heap := g2 } := J.landed nb fl2.1 ((up.trans upg).trans up2) os ag
          obtain ⟨o2, vs2, at2, z2, dt2⟩ := fl2.there
          refine store_ok (X := X.suite a ((a, o2) :: (X.pn ++ pins))) (v := .ref a) (J2.suite at2 dt2 na neL neF) hN C.at_ (.inl C.loc) rfl (fun s5 S5 => ?_) (.inr C.loc)
          have bye : ∀ {σ6 : L2.St} {H6 : Hp} {s6 : Shared} {Q : Shared → Prop}, Inv (X.suite a ((a, o2) :: (X.pn ++ pins))) [] σ6 H6 s6 → (∀ s7, Inv X pins (σ6.set i none) H6 s7 → Q s7) →
              wpAny (model X.prog X.w) X.A (do bindName X.env n .none; unbindBehindTheSuite X.env n p') (fun _ s7 => Q s7) X.xe s6 := fun S6 hq => gone_ok (S6.unsuite ok) hN C.at_ C.loc hq
          refine wpAny_mono ((C.run a o2 cls d (X.pn ++ pins) z2 ⟨_, dt2⟩).run [] s5 _ H1 _ S5 (yes rfl a na)) (fun f s6 done => ?_) fun _ _ z => z.elim
          cases f with
          | ret u => obtain ⟨v, σ6, H6, S6, rv, q⟩ := done; exact bye S6 fun s7 J7 => ⟨v, _, _, J7, rv, q⟩
          | next => obtain ⟨σ6, H6, S6, q⟩ := done; exact bye S6 fun s7 J7 => ⟨_, _, J7, q⟩
          | brk => obtain ⟨σ6, H6, S6, q⟩ := done; exact bye S6 fun s7 J7 => ⟨_, _, J7, q⟩
          | cont => obtain ⟨σ6, H6, S6, q⟩ := done; exact bye S6 fun s7 J7 => ⟨_, _, J7, q⟩
    exact all hh wish
  refine wpAny_Try_except (wpAny_mono ((hb _ (X.pn ++ pins) catcher tk PassesOwn.looking).run [] s σ H D (I.toTry _) h) (fun f s1 done => ?_) fun e s1 he => he)
  cases f with
  | ret u => obtain ⟨v, σ1, H1, J, r, q⟩ := done; exact ⟨v, σ1, H1, J.ofTry ok, r, q⟩
  | next => obtain ⟨σ1, H1, J, q⟩ := done; exact wpAny_execs_nil ⟨σ1, H1, J.ofTry ok, q⟩
  | brk => obtain ⟨σ1, H1, J, q⟩ := done; exact ⟨σ1, H1, J.ofTry ok, q⟩
  | cont => obtain ⟨σ1, H1, J, q⟩ := done; exact ⟨σ1, H1, J.ofTry ok, q⟩
end
end Iz
/-! Nx -/
set_option Elab.async false
set_option linter.all false
set_option maxRecDepth 100000
set_option maxHeartbeats 4000000
namespace Iz
open PySem PySem.Spec PyProof.Rows L2
open He (ga)
/-! ### slices, max, min, unpacking, in the form that simp reads -/
def rSlLN (K : PySem.W.Frag) : V → Option Int → Option Int → Hp → VK → Prop := fun x lo hi H Q => ∃ a xs, x = .ref a ∧ SqL K H a xs ∧ News H (.lst (cutV xs lo hi)) Q
theorem sl_listN {X : Cx} : SlR X (rSlLN X.K) := fun pins s σ H x v vl vu lo hi sl Q I rx hs pl pu ⟨a, xs, e, h, n⟩ => sl_list pins s σ H x v vl vu lo hi sl Q I rx hs pl pu ⟨a, xs, e, h, n.all⟩
def rMax2 : List V → Hp → VK → Prop := fun xs H Q => ∃ i j, xs = [.int i, .int j] ∧ Q (.int (max i j)) H
theorem call_max2N {X : Cx} (hc : X.calm = true) : CallR X (.builtin "max") rMax2 := CallR.imp (call_max2 hc) fun xs H Q ⟨i, j, a, q⟩ => ⟨i, j, a, by rw [show (if j > i then j else i) = max i j by rw [Int.max_def]; split <;> split <;> omega]; exact q⟩
def rMin2 : List V → Hp → VK → Prop := fun xs H Q => ∃ i j, xs = [.int i, .int j] ∧ Q (.int (min i j)) H
theorem call_min2N {X : Cx} (hc : X.calm = true) : CallR X (.builtin "min") rMin2 := CallR.imp (call_min2 hc) fun xs H Q ⟨i, j, a, q⟩ => ⟨i, j, a, by rw [show (if j < i then j else i) = min i j by rw [Int.min_def]; split <;> split <;> omega]; exact q⟩
def gUnlN (n : Nat) (t : TGs) : TG := fun v σ H Q => ∃ a xs, v = .ref a ∧ H a = some (.lst xs) ∧ xs.length = n ∧ t xs σ H Q
theorem pg_unlN {X : Cx} {es : List Expr} {k : Nat} {pos : Pos} {t : TGs} {n : Nat} (hc : X.calm = true) (h : PGs X es t) (hn : (assignEach es X.env).length = n := by rfl) (hst : (assignEach es X.env).findIdx? (·.1) = none := by rfl) : PG X (.Tuple es k pos) (gUnlN n t) :=
  PG.imp (pg_unl hc h hn hst) fun v σ H Q ⟨p, xs, a, c, d, q⟩ => ⟨p, xs, a, SqL.of c, d, q⟩
/-! ### for x in what an expression gives -/
theorem for_inT {K : PySem.W.Frag} {tl : TE} {g : TG} {tb : TS} {D : Ends} {σ : L2.St} {H : Hp} (h : tl σ H fun x H1 => tFor (iTup K fun _ H R => R x H) g tb D σ H1) : tFor (iTup K tl) g tb D σ H := h
theorem for_inL {K : PySem.W.Frag} {tl : TE} {g : TG} {tb : TS} {D : Ends} {σ : L2.St} {H : Hp} (h : tl σ H fun x H1 => tFor (iList K fun _ H R => R x H) g tb D σ H1) : tFor (iList K tl) g tb D σ H := h
/-! ### two clauses in one comprehension, both over ranges from 0 -/
theorem st_lc2R {ta ta1 : TA} {g g1 : TG} {te : TE} {vs vs1 : List Nat} {σ : L2.St} {H : Hp} {Q : VK} (n : Int) (hn : -(2 ^ 62) ≤ n ∧ n < 2 ^ 62) (ha : ∀ R : List V → Hp → Prop, R [.int n] H → ta σ H R)
    (Pv : Addr → Nat → Hp → Prop) (Pw : Addr → Nat → Nat → Hp → Prop) (h0 : ∀ D H1, H D = none → Same H H1 → H1 D = some (.lst []) → Pv D 0 H1)
    (hs : ∀ D i H, i < n.toNat → Pv D i H → g (.int i) (wipe σ vs) H fun σ2 H2 => wipe σ2 vs = wipe σ vs ∧ ∃ m : Int, (-(2 ^ 62) ≤ m ∧ m < 2 ^ 62) ∧ (∀ R : List V → Hp → Prop, R [.int m] H2 → ta1 σ2 H2 R) ∧ Pw D i 0 H2 ∧ (∀ H, Pw D i m.toNat H → Pv D (i + 1) H) ∧
      ∀ j H, j < m.toNat → Pw D i j H → g1 (.int j) (wipe σ2 vs1) H fun σ3 H5 => wipe σ3 vs1 = wipe σ2 vs1 ∧ te σ3 H5 fun y H7 => ∃ acc, H7 D = some (.lst acc) ∧ acc.length < sizeLine ∧ Pw D i (j + 1) (upd H7 D (.lst (acc ++ [y]))))
    (hg : ∀ v σ H (Q Q' : L2.St → Hp → Prop), (∀ σ H, Q σ H → Q' σ H) → g v σ H Q → g v σ H Q') (hg1 : ∀ v σ H (Q Q' : L2.St → Hp → Prop), (∀ σ H, Q σ H → Q' σ H) → g1 v σ H Q → g1 v σ H Q')
    (hd : ∀ D H, Pv D n.toNat H → Q (.ref D) H) : tLc2 (iRng1 ta) g tYes (iRng1 ta1) g1 tYes te vs vs1 σ H Q := by
  refine ha _ ⟨n, rfl, hn.1, hn.2, fun D hD => ?_⟩
  refine ⟨fun i m H => m = n.toNat - i ∧ i ≤ n.toNat ∧ Pv D i H, ⟨_, rfl, Nat.zero_le _, h0 D _ hD (Same.upd hD) upd_same⟩, ?_⟩
  rintro i m H1 ⟨rfl, hi, p⟩
  by_cases hlt : i < n.toNat
  · refine .inr ⟨hlt, Pv D (i + 1), fun H' p' => ⟨n.toNat - (i + 1), by omega, rfl, hlt, p'⟩, ?_⟩
    rintro x _ ⟨rfl, rfl⟩
    rw [Int.zero_add]
    refine hg _ _ _ _ _ (fun σ2 H2 q => ?_) (hs D i _ hlt p)
    obtain ⟨e, m, hm, hr, w0, wd, ws⟩ := q
    refine ⟨e, ?_⟩
    simp only [tYes, if_true]
    refine hr _ ⟨m, rfl, hm.1, hm.2, ?_⟩
    refine ⟨fun j k H => k = m.toNat - j ∧ j ≤ m.toNat ∧ Pw D i j H, ⟨_, rfl, Nat.zero_le _, w0⟩, ?_⟩
    rintro j k H3 ⟨rfl, hj, pw⟩
    by_cases hjt : j < m.toNat
    · refine .inr ⟨hjt, Pw D i (j + 1), fun H' p' => ⟨m.toNat - (j + 1), by omega, rfl, hjt, p'⟩, ?_⟩
      rintro x _ ⟨rfl, rfl⟩
      rw [Int.zero_add]
      refine hg1 _ _ _ _ _ (fun σ3 H5 q => ⟨q.1, ?_⟩) (ws j _ hjt pw)
      exact q.2
    · have ej : j = m.toNat := by omega
      subst ej
      exact .inl ⟨Nat.le_refl _, wd _ pw⟩
  · have ei : i = n.toNat := by omega
    subst ei
    exact .inl ⟨Nat.le_refl _, hd D _ p⟩
theorem gName_mono {i : Nat} : ∀ v σ H (Q Q' : L2.St → Hp → Prop), (∀ σ H, Q σ H → Q' σ H) → gName i v σ H Q → gName i v σ H Q' := fun _ _ _ _ _ k q => k _ _ q
/-! ### == and != of what is read as data -/
section
variable {K : PySem.W.Frag} {H : Hp} {R : VK}
/-- a pair of ints, at a -/
abbrev P2 (H : Hp) (a : Addr) (x y : Int) : Prop := H a = some (.tup [.int x, .int y])
theorem P2.dp {a : Addr} {x y : Int} (h : P2 H a x y) : Dp K H (.ref a) (.tuple [.int x, .int y]) := .tup (SqT.of h) (.cons (.int x) (.cons (.int y) .nil))
theorem sh_P2 {n : Nat} {x y : Int} : ShN (n + 1) (.tuple [.int x, .int y]) := (ShN.tuple (n := 0) fun d h => by
  simp only [List.mem_cons, List.not_mem_nil, or_false] at h
  rcases h with rfl | rfl <;> exact .int).up (by omega)
theorem eqv_P2 {x y u v : Int} : PyData.eqv (.tuple [.int x, .int y]) (.tuple [.int u, .int v]) = decide (x = u ∧ y = v) := by
  simp [PyData.eqv, PyData.eqvAll]
  by_cases h1 : x = u <;> by_cases h2 : y = v <;> simp [h1, h2]
theorem eq_P2 {a b : Addr} {x y u v : Int} (ha : P2 H a x y) (hb : P2 H b u v) (r : R (.bl (decide (x = u ∧ y = v))) H) : rEqD K (.ref a) (.ref b) H R := ⟨_, _, ha.dp, hb.dp, (sh_P2 (n := 0)).ok, (sh_P2 (n := 0)).ok, by rw [eqv_P2]; exact r⟩
theorem ne_P2 {a b : Addr} {x y u v : Int} (ha : P2 H a x y) (hb : P2 H b u v) (r : R (.bl (!decide (x = u ∧ y = v))) H) : rNeD K (.ref a) (.ref b) H R := ⟨_, _, ha.dp, hb.dp, (sh_P2 (n := 0)).ok, (sh_P2 (n := 0)).ok, by rw [eqv_P2]; exact r⟩
/-- a list of ints, at a -/
theorem dp_ints {a : Addr} {ns : List Int} (h : H a = some (.lst (ns.map V.int))) : Dp K H (.ref a) (.list (ns.map PyData.int)) := by
  refine .lst (SqL.of h) ?_
  clear h
  induction ns with
  | nil => exact .nil
  | cons z zs ih => exact .cons (.int z) ih
theorem sh_ints {n : Nat} {ns : List Int} : ShN (n + 1) (.list (ns.map PyData.int)) := (ShN.list (n := 0) fun d hd => by
  obtain ⟨z, hz, rfl⟩ := List.mem_map.mp hd; exact .int).up (by omega)
theorem eqv_ints {ns ms : List Int} : PyData.eqv (.list (ns.map PyData.int)) (.list (ms.map PyData.int)) = decide (ns = ms) := by
  simp only [PyData.eqv]
  induction ns generalizing ms with
  | nil => cases ms <;> simp [PyData.eqvAll]
  | cons n ns ih => cases ms with
    | nil => simp [PyData.eqvAll]
    | cons m ms =>
      simp only [List.map_cons, PyData.eqvAll, ih, PyData.eqv]
      by_cases h1 : n = m <;> by_cases h2 : ns = ms <;> simp [h1, h2]
theorem eq_ints {a b : Addr} {ns ms : List Int} (ha : H a = some (.lst (ns.map V.int))) (hb : H b = some (.lst (ms.map V.int))) (r : R (.bl (decide (ns = ms))) H) : rEqD K (.ref a) (.ref b) H R := ⟨_, _, dp_ints ha, dp_ints hb, (sh_ints (n := 0)).ok, (sh_ints (n := 0)).ok, by rw [eqv_ints]; exact r⟩
theorem ne_ints {a b : Addr} {ns ms : List Int} (ha : H a = some (.lst (ns.map V.int))) (hb : H b = some (.lst (ms.map V.int))) (r : R (.bl (!decide (ns = ms))) H) : rNeD K (.ref a) (.ref b) H R := ⟨_, _, dp_ints ha, dp_ints hb, (sh_ints (n := 0)).ok, (sh_ints (n := 0)).ok, by rw [eqv_ints]; exact r⟩
/-- a list of two texts, at a -/
theorem dp_l2 {a : Addr} {x y : Str} (h : H a = some (.lst [.str x, .str y])) : Dp K H (.ref a) (.list [.str x, .str y]) := .lst (SqL.of h) (.cons (.str x) (.cons (.str y) .nil))
theorem sh_l2 {n : Nat} {x y : Str} (hx : PyData.strOk x = true) (hy : PyData.strOk y = true) : ShN (n + 1) (.list [.str x, .str y]) := (ShN.list (n := 0) fun d h => by
  simp only [List.mem_cons, List.not_mem_nil, or_false] at h
  have st : ∀ {z : Str}, PyData.strOk z = true → ShN 0 (.str z) := fun h => ⟨by simp [PyData.canLay0, h], by simp [PyData.depth]⟩
  rcases h with rfl | rfl
  · exact st hx
  · exact st hy).up (by omega)
theorem ne_sameN {x y : V} {d : PyData} {n : Nat} (hx : Dp K H x d) (hy : Dp K H y d) (h : ShN n d) (r : R (.bl false) H) (k : n ≤ 64 := by decide) : rNeD K x y H R := ne_same hx hy (h.ok k) r
theorem eq_sameN {x y : V} {d : PyData} {n : Nat} (hx : Dp K H x d) (hy : Dp K H y d) (h : ShN n d) (r : R (.bl true) H) (k : n ≤ 64 := by decide) : rEqD K x y H R := eq_same hx hy (h.ok k) r
end
/-! ### a value that may be a pair of ints -/
/-- the pair that stands there -/
def pairL : List V → Option (Int × Int)
  | [.int x, .int y] => some (x, y)
  | _ => none
def pairV (H : Hp) : V → Option (Int × Int)
  | .ref p => match H p with
    | some (.tup xs) => pairL xs
    | _ => none
  | _ => none
theorem pairL_some {xs : List V} {q : Int × Int} (h : pairL xs = some q) : xs = [.int q.1, .int q.2] := by
  unfold pairL at h
  split at h
  · cases h; rfl
  · cases h
theorem pairL_none {xs : List V} (h : ¬ (xs.length : Int) = 2) : pairL xs = none := by
  unfold pairL
  split
  · simp at h
  · rfl
theorem pairV_of {H : Hp} {p : Addr} {x y : Int} (h : P2 H p x y) : pairV H (.ref p) = some (x, y) := by simp only [pairV, h, pairL]
theorem pairV_some {H : Hp} {v : V} {q : Int × Int} (h : pairV H v = some q) : ∃ p, v = .ref p ∧ P2 H p q.1 q.2 := by
  unfold pairV at h
  split at h
  · rename_i p
    split at h
    · rename_i xs e; exact ⟨p, rfl, by rw [P2, e, pairL_some h]⟩
    · cases h
  · cases h
/-- what is asked of a value that is_pair looks at -/
inductive PairK (K : PySem.W.Frag) (H : Hp) : V → Prop
  | non : PairK K H .non
  | bl (b : Bool) : PairK K H (.bl b)
  | int (i : Int) : PairK K H (.int i)
  | str (s : Str) : PairK K H (.str s)
  | lst {p : Addr} {xs : List V} : H p = some (.lst xs) → PairK K H (.ref p)
  | tup {p : Addr} {xs : List V} : H p = some (.tup xs) → (∀ z ∈ xs, Wh K H z) → PairK K H (.ref p)
  | ins {p C dx : Addr} {fs : List (Str × V)} : H p = some (.ins C dx fs) → ClsI K C → PySem.W.kitOne K (.ref C) (.type "tuple") = some false → PairK K H (.ref p)
theorem PairK.ty {K : PySem.W.Frag} {H : Hp} {v : V} (h : PairK K H v) : (∃ p xs, v = .ref p ∧ H p = some (.tup xs) ∧ ∀ z ∈ xs, Wh K H z) ∨ ∃ t, TyX K H v t ∧ PySem.W.kitOne K t (.type "tuple") = some false ∧ pairV H v = none := by
  cases h with
  | non => exact .inr ⟨_, .base .non, kit_ty (by decide +kernel), rfl⟩
  | bl b => exact .inr ⟨_, .base (.bl b), kit_ty (by decide +kernel), rfl⟩
  | int i => exact .inr ⟨_, .base (.int i), kit_ty (by decide +kernel), rfl⟩
  | str s => exact .inr ⟨_, .base (.str s), kit_ty (by decide +kernel), rfl⟩
  | lst h => exact .inr ⟨_, .base (.lst h), kit_ty (by decide +kernel), by simp only [pairV, h]⟩
  | tup h w => exact .inl ⟨_, _, rfl, h, w⟩
  | ins h T k => exact .inr ⟨_, T.ty h, k, by simp only [pairV, h]⟩
theorem P2.k {K : PySem.W.Frag} {H : Hp} {p : Addr} {x y : Int} (h : P2 H p x y) : PairK K H (.ref p) := .tup h fun z hz => by
  simp only [List.mem_cons, List.not_mem_nil, or_false] at hz
  rcases hz with rfl | rfl <;> exact wh_int
theorem PairK.mono {K : PySem.W.Frag} {H H' : Hp} {v : V} (h : PairK K H v) (s : Same H H') : PairK K H' v := by
  cases h with
  | non => exact .non
  | bl b => exact .bl b
  | int i => exact .int i
  | str s => exact .str s
  | lst h => exact .lst (s _ _ h)
  | tup h w => exact .tup (s _ _ h) fun z hz => wh_mono (w z hz) s
  | ins h T k => exact .ins (s _ _ h) T k
theorem pairV_mono {H H' : Hp} {p : Addr} {o : HO} (h : H p = some o) (s : Same H H') : pairV H' (.ref p) = pairV H (.ref p) := by simp only [pairV, h, s _ _ h]
theorem PairK.same {K : PySem.W.Frag} {H H' : Hp} {v : V} (h : PairK K H v) (s : Same H H') : pairV H' v = pairV H v := by
  cases h with
  | non => rfl
  | bl b => rfl
  | int i => rfl
  | str s => rfl
  | lst h => exact pairV_mono h s
  | tup h w => exact pairV_mono h s
  | ins h T k => exact pairV_mono h s
/-! ### a list of pairs grows -/
theorem PairsAt.push {H : Hp} {D t : Addr} {ps : List (Option Int × Option Int)} {q : Option Int × Option Int} (h : PairsAt H D ps) (e : H t = some (.tup [ov q.1, ov q.2])) (hl : ps.length < 100000) :
    ∃ acc, H D = some (.lst acc) ∧ acc.length < sizeLine ∧ PairsAt (L2.upd H D (.lst (acc ++ [.ref t]))) D (ps ++ [q]) := by
  obtain ⟨xs, hD, hp⟩ := h
  refine ⟨xs, hD, by rw [hp.length, sizeLine_eq]; omega, _, upd_same, PAll.snoc (hp.monoT fun b us hb => ?_) ?_⟩
  · rw [upd_ne (ne_of hb hD (by intro z; cases z))]; exact hb
  · rw [upd_ne (ne_of e hD (by intro z; cases z))]; exact e
/-! ### the operators of own classes, asked -/
theorem own_in {C a dx : Addr} {fs : List (Str × V)} {sp : Sp} {E : XK} {x : V} {H : Hp} {Q : VK} {neg : Bool} (h : H a = some (.ins C dx fs)) (q : sp [.ref a, x] H (fun v H' => ∃ b, v = .bl b ∧ Q (.bl (if neg = true then !b else b)) H') E) : rOwnIn C neg sp E x (.ref a) H Q := ⟨a, dx, fs, rfl, h, q⟩
theorem own_op {K : PySem.W.Frag} {C a dx : Addr} {fs : List (Str × V)} {sp : Sp} {E : XK} {y : V} {H : Hp} {Q : VK} (h : H a = some (.ins C dx fs)) {t : Value} (ty : TyX K H y t) (n : PySem.W.notFirst K C t = true) (q : sp [.ref a, y] H (fun v H' => ∃ b, v = .bl b ∧ Q (.bl b) H') E) : rOwn K C sp E (.ref a) y H Q := ⟨a, dx, fs, rfl, h, ⟨t, ty, n⟩, q⟩
theorem notFirst_self {K : PySem.W.Frag} {C : Addr} : PySem.W.notFirst K C (.ref C) = true := by simp [PySem.W.notFirst]
/-! ### a comprehension over a range from 0 -/
theorem st_lcR1 {ta : TA} {g : TG} {tt : TT} {te : TE} {vs : List Nat} {σ : L2.St} {H : Hp} {Q : VK} (n : Int) (hn : -(2 ^ 62) ≤ n ∧ n < 2 ^ 62) (ha : ∀ R : List V → Hp → Prop, R [.int n] H → ta σ H R)
    (Pv : Addr → Nat → Hp → Prop) (h0 : ∀ D H1, H D = none → Same H H1 → H1 D = some (.lst []) → Pv D 0 H1)
    (hs : ∀ D i H, i < n.toNat → Pv D i H → g (.int i) (wipe σ vs) H fun σ2 H2 => wipe σ2 vs = wipe σ vs ∧ tt σ2 H2 fun b H3 => if b = true then te σ2 H3 fun y H4 => ∃ acc, H4 D = some (.lst acc) ∧ acc.length < sizeLine ∧ Pv D (i + 1) (upd H4 D (.lst (acc ++ [y]))) else Pv D (i + 1) H3)
    (hd : ∀ D H, Pv D n.toNat H → Q (.ref D) H) : tLc (iRng1 ta) g tt te vs σ H Q :=
  ha _ ⟨n, rfl, hn.1, hn.2, fun D hD => lc_range (Pv D) (h0 D _ hD (Same.upd hD) upd_same) (fun i H hi p => by rw [Int.zero_add]; exact hs D i H hi p) (hd D)⟩
theorem PAll.app {H : Hp} {xs ys : List V} {ps qs : List (Option Int × Option Int)} (h : PAll H xs ps) (k : PAll H ys qs) : PAll H (xs ++ ys) (ps ++ qs) := by
  induction h with
  | nil => exact k
  | cons e _ ih => exact .cons e ih
/-! ### kept where tables of code may grow -/
section
open LamX
theorem tyX_ext {K : PySem.W.Frag} {H H' : Hp} {x : V} {t : Value} (h : TyX K H x t) (s : ExtN H H') : TyX K H' x t := by
  cases h with
  | base b =>
    cases b with
    | non => exact .base .non
    | bl b => exact .base (.bl b)
    | int i => exact .base (.int i)
    | str y => exact .base (.str y)
    | flt y => exact .base (.flt y)
    | lst e => exact .base (.lst (s _ _ e fun _ z => by cases z))
    | frz e => exact .base (.frz (s _ _ e fun _ z => by cases z))
    | tup e => exact .base (.tup (s _ _ e fun _ z => by cases z))
    | dK e => exact .base (.dK (s _ _ e fun _ z => by cases z))
    | dT e => exact .base (.dT (s _ _ e fun _ z => by cases z))
    | ins e a b c d f => exact .base (.ins (s _ _ e fun _ z => by cases z) a b c d f)
  | byt b => exact .byt b
  | set e => exact .set (s _ _ e fun _ z => by cases z)
  | kList e c => exact .kList e c
  | kTuple e c => exact .kTuple e c
  | kDict e c => exact .kDict e c
  | fTuple e => exact .fTuple (s _ _ e fun _ z => by cases z)
  | fDict e => exact .fDict (s _ _ e fun _ z => by cases z)
theorem wh_ext {K : PySem.W.Frag} {H H' : Hp} {x : V} (h : Wh K H x) (s : ExtN H H') : Wh K H' x := let ⟨t, b, c, ty, r⟩ := h; ⟨t, b, c, tyX_ext ty s, r⟩
theorem PairK.ext {K : PySem.W.Frag} {H H' : Hp} {v : V} (h : PairK K H v) (s : ExtN H H') : PairK K H' v := by
  cases h with
  | non => exact .non
  | bl b => exact .bl b
  | int i => exact .int i
  | str s => exact .str s
  | lst h => exact .lst (s _ _ h fun _ z => by cases z)
  | tup h w => exact .tup (s _ _ h fun _ z => by cases z) fun z hz => wh_ext (w z hz) s
  | ins h T k => exact .ins (s _ _ h fun _ z => by cases z) T k
theorem PairK.sameX {K : PySem.W.Frag} {H H' : Hp} {v : V} (h : PairK K H v) (s : ExtN H H') : pairV H' v = pairV H v := by
  cases h with
  | non => rfl
  | bl b => rfl
  | int i => rfl
  | str s => rfl
  | lst h => simp only [pairV, h, s _ _ h fun _ z => by cases z]
  | tup h w => simp only [pairV, h, s _ _ h fun _ z => by cases z]
  | ins h T k => simp only [pairV, h, s _ _ h fun _ z => by cases z]
theorem extI {H H' : Hp} {p C dx : Addr} {fs : List (Str × V)} (e : ExtN H H') (h : H p = some (.ins C dx fs)) : H' p = some (.ins C dx fs) := e p _ h fun ps z => by cases z
/-- a list that grows by an item: the tables stay -/
theorem Tabs.put {T : List (Addr × Str)} {H H' : Hp} {L : Addr} {xs ys : List V} (hT : Tabs T H) (hL : H L = some (.lst xs)) (p : Put H H' L (.lst ys)) : Tabs T H' := by
  have key : ∀ b o, H b = some o → (∀ xs, o ≠ .lst xs) → H' b = some o := fun b o h hn => by
    rw [p.2 b (fun z => by subst z; rw [hL] at h; exact hn _ (Option.some.inj h).symm)]; exact h
  intro x hx
  obtain ⟨ps, h1, h2, h3⟩ := hT x hx
  refine ⟨ps, key _ _ h1 (fun xs z => by cases z), h2, fun pos cv hcv => ?_⟩
  obtain ⟨c0, e1, e2⟩ := h3 pos cv hcv
  exact ⟨c0, e1, key _ _ e2 (fun xs z => by unfold CodeO at z; cases z)⟩
theorem Put.other {H H' : Hp} {L b : Addr} {o u : HO} (p : Put H H' L o) (h : H b = some u) (n : b ≠ L) : H' b = some u := by rw [p.2 b n]; exact h
end
/-! ### texts as data -/
theorem ShN.str {n : Nat} {z : Str} (h : PyData.strOk z = true) : ShN n (.str z) := ⟨by simp [PyData.canLay0, h], by simp [PyData.depth]⟩
theorem dp_strs {K : PySem.W.Frag} {H : Hp} {p : Addr} {zs : List Str} (h : H p = some (.lst (zs.map V.str))) : Dp K H (.ref p) (.list (zs.map PyData.str)) := by
  refine .lst (SqL.of h) ?_
  clear h
  induction zs with
  | nil => exact .nil
  | cons z zs ih => exact .cons (.str z) ih
theorem sh_strs {n : Nat} {zs : List Str} (h : ∀ z ∈ zs, PyData.strOk z = true) : ShN (n + 1) (.list (zs.map PyData.str)) := (ShN.list (n := 0) fun d hd => by
  obtain ⟨z, hz, rfl⟩ := List.mem_map.mp hd; exact ShN.str (h z hz)).up (by omega)
theorem sh_ll {n : Nat} {x y u v : Str} (hx : PyData.strOk x = true) (hy : PyData.strOk y = true) (hu : PyData.strOk u = true) (hv : PyData.strOk v = true) : ShN (n + 2) (.list [.list [.str x, .str y], .list [.str u, .str v]]) := (ShN.list (n := 1) fun d h => by
  simp only [List.mem_cons, List.not_mem_nil, or_false] at h
  rcases h with rfl | rfl
  · exact sh_l2 (n := 0) hx hy
  · exact sh_l2 (n := 0) hu hv).up (by omega)
/-! ### the script -/
def rLenS (K : PySem.W.Frag) : List V → Hp → VK → Prop := fun xs H Q => ∃ p ys, xs = [.ref p] ∧ SqL K H p ys ∧ Q (.int ys.length) H
theorem call_lenS {X : Cx} : CallR X (.builtin "len") (rLenS X.K) := CallR.imp call_len_seq fun xs H Q ⟨p, ys, a, b, q⟩ => ⟨p, ys, a, .inl b, q⟩
theorem sqL_ext {K : PySem.W.Frag} {H H' : Hp} {a : Addr} {xs : List V} (h : SqL K H a xs) (e : LamX.ExtN H H') : SqL K H' a xs :=
  h.elim (fun h => .inl (h.elim (fun h => .inl (e _ _ h fun _ z => by cases z)) fun ⟨o, h⟩ => .inr ⟨o, e _ _ h fun _ z => by cases z⟩)) fun h => .inr h
section
open LamX
/-- as plam, with the tables of several defs -/
theorem plamT {X : Cx} {TS : List (Addr × Str)} {x a : Str} {st : Stmt} {N : List Str} {TT : (XK → Hp → VK → Prop) → Hp → VK → Prop} {c P : Addr} {qn : Str} {k : Nat} {params : Arguments} {body : Expr} {scope : Scope} {t : XK → TE} {p lpos pos : Pos}
    (F : ∃ (f : Addr) (fd : FuncData), X.mg x = some (.ref f) ∧ Fun X.K x x st f fd) (S : FnScope N [a] (defScope st))
    (hb : ∀ (kV doc pm : Value) (an : Option Addr) (cdv ct : Value) (us : List Value), us.length = [a].length → bindArgs (PySem.W.fnOf x x (defArgs st) (defBody st) (defScope st) .none kV doc pm an cdv ct) ⟨us, []⟩ = pure ([a].zip us))
    (hG : ∀ (g : Addr) (cdg : Value), GivesTo X N x (defScope st) g cdg (defBody st) a qn TT)
    (hm : (P, qn) ∈ TS) (hu : ∀ q ∈ TS, q.1 = P → q.2 = qn) (TB : TabB X.base X.mg c P) (hcode : X.env.code = .ref c) (hq : X.env.qual ++ "<lambda>" = qn) (hr : Room (k + 2) X.A) (L : lamSB X.env.scope scope = true)
    (hbody : ∀ (A : Around) (outer : List Env) (s : Shared) (H : Hp) (E : XK) (f c' : Addr), Room k (A.deeper (lamEnv X scope s.heap.objs.size f c')) → PE (lamCx X A outer s H E scope f c') body (t E))
    (hdef : defaultsOf params X.env = ([], []) := by rfl) (hg : Gl X x := by rfl) (hv : Vis (defScope st) a := by first | exact Or.inl rfl | exact Or.inr (Or.inl rfl)) (hNa : N[0]? = some a := by rfl)
    (hbind : ∀ (q : Str) (cl : List (Str × Addr)) (pm cv ctv : Value), bindArgs (PySem.W.kla_fn "<lambda>" q params body scope cl pm cv ctv) ⟨[], []⟩ = pure [] := by intros; rfl)
    (hdb : (x == ("__debug__" : Str)) = false := by decide) (hd : (a == ("__debug__" : Str)) = false := by decide) (hcd : (a == ("__classdict__" : Str)) = false := by decide) :
    PE X (.Call (.Name x p) [.Lambda params body scope lpos] [] pos) (tLam TS TT t) := by
  subst hq
  obtain ⟨g, fd, hmg, F⟩ := F
  obtain ⟨oc, od, kV, doc, pm, an, cdv, ct, osl, rfl, lk, hcg⟩ := F.ex
  exact pe_lamcall hg hmg F.kp lk hcg (.all (hb kV doc pm an cdv ct)) S hNa hv (hG g cdv) TB hcode hm hu hr (lamS_by L) hdef hbind hbody hdb hd hcd
end
end Iz
/-! One -/
set_option Elab.async false
set_option linter.all false
set_option maxRecDepth 100000
set_option maxHeartbeats 4000000
namespace Iz
open PySem PySem.Spec PyProof.Rows L2
open He (ga)
/-! ### x != y of a class that has __eq__ alone: object's own __ne__ turns it round -/
section
variable {prog : Program} {w : World} {A : Around} {E : Value → Shared → Prop} {s : Shared} {K : PySem.W.Frag} {x C L f : Addr} {h₀ : Heap} {m : Str → Option Value} {ox : Obj} {od : Option Obj} {b tb : Value}
theorem ne_bind (self : Value) : bindSpecial (.builtin "object.__ne__") self = pure (.builtin "object.__ne__", [self]) := PySem.F.cmp_object.ne.bind self
theorem ne_obj {Q : Value → Shared → Prop} (hu : A.in1.units < cLine) (X : K.In s.heap) (I : PySem.W.InstAt s.heap x ox C od) (hm : PySem.W.mroIn K C (.type "object") = some true) (he : PySem.W.findIn K (.ref C) "__eq__" = some (some (.ref f))) (hf : PySem.W.isFn K (.ref f) = true)
    (h : wpAny (model prog w) A.in1 (call (.ref f) [.ref x, b]) (fun v s' => ∃ r, v = .bool r ∧ Q (.bool (!r)) s') E s) : wpAny (model prog w) A (call (.builtin "object.__ne__") [.ref x, b]) Q E s := by
  refine wpAny_call (codeAny_call_builtin PySem.F.cmp_object.ne.plain PySem.F.cmpEntry_ne (PySem.W.check_slot (i := "object.__ne__") (owner := "object") (n := "__ne__") PySem.F.cmpKind_ne PySem.F.cmpSplit_ne (I.type.andThen (PySem.W.looks_mroIn X hm)) (PySem.F.cmpArgs_ne _ _) ?_))
  unfold Builtin.«object.__ne__»
  refine wpAny_bind (m := slotArgs "__ne__" 1 _) (wpAny_pure ?_)
  dsimp only
  refine wpAny_bind (m := cRoomFor _ _) (wpAny_cRoomFor hu ?_)
  refine wpAny_bind (m := callSpecialIfBound? (.ref x) (Str.ofString "__eq__") _) (PySem.W.ifBound_K X I he hf (wpAny_mono h (fun v s' z => ?_) fun _ _ y => y))
  obtain ⟨r, rfl, q⟩ := z
  dsimp only
  exact wpAny_bind (m := truthy (.bool r)) (wpAny_truthy_bool (wpAny_pure q))
theorem ne_rich {Q : Value → Shared → Prop} (hu : A.in1.units < cLine) (hu0 : A.units < cLine) (F : Fr h₀ L s.heap m) (X₀ : K.In h₀) (I : PySem.W.InstAt s.heap x ox C od) (hb : PySem.W.Looks (model prog w) s.heap (typeOf b) tb) (hn : PySem.W.notFirst K C tb = true) (hm : PySem.W.mroIn K C (.type "object") = some true)
    (hs : PySem.W.findIn K (.ref C) "__ne__" = some (some (.builtin "object.__ne__"))) (he : PySem.W.findIn K (.ref C) "__eq__" = some (some (.ref f))) (hf : PySem.W.isFn K (.ref f) = true)
    (h : wpAny (model prog w) A.in1 (call (.ref f) [.ref x, b]) (fun v s' => ∃ r, v = .bool r ∧ Q (.bool (!r)) s') E s) : wpAny (model prog w) A (richCompare .NotEq (.ref x) b) Q E s := by
  have X := X₀.keeps F.keep
  have asked : wpAny (model prog w) A (tryCompare (.ref x) (cmpInfo .NotEq).2.1 b) (fun r s' => ∃ v, r = some v ∧ Q v s') E s := by
    unfold tryCompare
    refine wpAny_bind (m := callSpecialIfBound? _ _ _) ?_
    simp only [callSpecialIfBound?, bindSpecialIfBound?]
    refine wpAny_holding (wpAny_bind (wpAny_bind (wpAny_bind (I.type.here ((PySem.W.looks_findIn X hs).here ?_)))))
    have fin : wpAny (model prog w) A (call (.builtin "object.__ne__") ([.ref x] ++ [b]) >>= fun v => pure (some v)) (fun r s' => wpAny (model prog w) A (match r with | some .notImplemented | none => pure none | some v => pure (some v)) (fun r s' => ∃ v, r = some v ∧ Q v s') E s') E s :=
      wpAny_bind (ne_obj hu X I hm he hf (wpAny_mono h (fun v s' z => by
        obtain ⟨r, rfl, q⟩ := z
        exact ⟨r, rfl, wpAny_pure (wpAny_pure ⟨_, rfl, q⟩)⟩) fun _ _ y => y))
    refine wpAny_bind (wpAny_askSetting (wpAny_ite ?_))
    split
    · exact wpAny_bind ((PySem.W.Looks.of_pure (ne_bind _)).here (wpAny_pure fin))
    · exact wpAny_tryCatch (wpAny_bind ((PySem.W.Looks.of_pure (ne_bind _)).here (wpAny_pure fin)))
  unfold richCompare
  simp only [oneThing_ref]
  refine wpAny_holding (wpAny_bind (wpAny_cRoomFor hu0 ?_))
  refine wpAny_bind (I.type.here (wpAny_bind (hb.here ?_)))
  split
  · rename_i q
    have e : PySem.W.subIn K tb (.ref C) = some false := by
      rcases Bool.or_eq_true_iff.mp hn with e | e
      · rw [beq_iff_eq.mp e] at q; simp at q
      · exact beq_iff_eq.mp e
    refine wpAny_bind ((PySem.W.looks_subIn X e).here ?_)
    simp only [Bool.false_eq_true, if_false]
    refine wpAny_bind (wpAny_mono asked (fun r s' z => ?_) fun _ _ y => y)
    obtain ⟨v, rfl, q⟩ := z
    exact wpAny_pure q
  · refine wpAny_bind (wpAny_pure ?_)
    simp only [Bool.false_eq_true, if_false]
    refine wpAny_bind (wpAny_mono asked (fun r s' z => ?_) fun _ _ y => y)
    obtain ⟨v, rfl, q⟩ := z
    exact wpAny_pure q
end
section
variable {X : Cx} {CX : CXT} {k : Nat} {x : Str} {ps : List Str} {sp : Sp} {E : XK}
theorem own_callA {A : Around} {f a : Addr} {fd : FuncData} {y : V} {u : Value} {pins : List (Addr × Obj)} {σ : L2.St} {H : Hp} {s : Shared} {Q : VK} {R : Value → Shared → Prop} (I : Inv X pins σ H s) (F : FnOk X.prog X.w X.K X.mg X.base CX k f fd ps sp) (hb : Binds X.K fd ps []) (hr : Room k A) (hA : A.frames = X.A.frames) (hx : Passes CX X E)
    (ry : RelV y u) (hsp : sp [.ref a, y] H Q E) (hR : ∀ v w H' s', Inv X pins σ H' s' → RelV v w → Q v H' → R w s') : wpAny (model X.prog X.w) A (call (.ref f) [.ref a, u]) R X.xe s := by
  have hl := F.len _ _ _ _ hsp
  have bd := hb s [.ref a, u] I.kIn (by simpa using hl)
  have e := I.env0
  have e0 : Env0 X.prog X.w X.K X.mg X.base A X.stack s H := ⟨hA ▸ e.frames, e.mod, e.bs, e.bsz, e.funs, e.frf, e.hok, e.bare⟩
  refine wpAny_call (codeAny_mono (F.run A X.stack s H ⟨[.ref a, u], []⟩ [.ref a, u] [.ref a, y] _ E hr e0 (by simpa using bd) (.cons rfl (.cons ry .nil)) hsp) fun r s' z => ?_)
  cases r with
  | error e => exact hx _ _ _ _ _ _ I z
  | ok fl =>
    cases fl with
    | ret w => obtain ⟨v, H', I', rv, q⟩ := I.after z; exact hR v w H' s' I' rv q
    | next => exact False.elim z
    | brk => exact False.elim z
    | cont => exact False.elim z
def rOwnNe (K : PySem.W.Frag) (C : Addr) (sp : Sp) (E : XK) : R2 := fun x y H Q => ∃ a dx fs, x = .ref a ∧ H a = some (.ins C dx fs) ∧ (∃ t, TyX K H y t ∧ PySem.W.notFirst K C t = true) ∧ sp [.ref a, y] H (fun v H' => ∃ b, v = .bl b ∧ Q (.bl (!b)) H') E
theorem op_ownNe (O : OkM X.prog X.w X.K X.mg X.base CX k x "__eq__" ps [] sp) (hm : PySem.W.mroIn X.K (ga X.K x) (.type "object") = some true) (hs : PySem.W.findIn X.K (.ref (ga X.K x)) "__ne__" = some (some (.builtin "object.__ne__"))) (hr : Room (k + 1) X.A) (hx : Passes CX X E) : OpR X (compareOp .NotEq) (rOwnNe X.K (ga X.K x) sp E) := by
  intro pins s σ H v0 y v u Q I rx ry h
  obtain ⟨a, dx, fs, rfl, ha, ⟨t, ty, nf⟩, hsp⟩ := h
  cases rx
  obtain ⟨f, fd, M, b, F⟩ := O.ex
  obtain ⟨ds, hd, hb⟩ := b 0 (Nat.le_refl _)
  cases hd
  obtain ⟨mA, O', _⟩ := ins_get I.hok ha
  obtain ⟨od, J, _⟩ := O'.look
  obtain ⟨mm, hF⟩ := I.fr
  refine ne_rich hr.in1.units0 hr.units0 hF I.ok.mod.kin J (looksTy I ry ty) nf hm hs M.at_ M.fn (own_callA I F hb hr.in1 rfl hx ry hsp fun v w H' s' I' rv q => ?_)
  obtain ⟨b, rfl, q⟩ := q
  cases rv
  exact ⟨b, rfl, .bl (!b), H', I', rfl, q⟩
theorem own_ne {K : PySem.W.Frag} {C a dx : Addr} {fs : List (Str × V)} {y : V} {H : Hp} {Q : VK} (h : H a = some (.ins C dx fs)) {t : Value} (ty : TyX K H y t) (n : PySem.W.notFirst K C t = true) (q : sp [.ref a, y] H (fun v H' => ∃ b, v = .bl b ∧ Q (.bl (!b)) H') E) : rOwnNe K C sp E (.ref a) y H Q := ⟨a, dx, fs, rfl, h, ⟨t, ty, n⟩, q⟩
end
/-! ### two truths in a list -/
theorem dp_bb {K : PySem.W.Frag} {H : Hp} {a : Addr} {x y : Bool} (h : H a = some (.lst [.bl x, .bl y])) : Dp K H (.ref a) (.list [.bool x, .bool y]) := .lst (SqL.of h) (.cons (.bl x) (.cons (.bl y) .nil))
theorem sh_bb {n : Nat} {x y : Bool} : ShN (n + 1) (.list [.bool x, .bool y]) := (ShN.list (n := 0) fun d h => by
  simp only [List.mem_cons, List.not_mem_nil, or_false] at h
  rcases h with rfl | rfl <;> exact .bool).up (by omega)
theorem eqv_bb {x y : Bool} : PyData.eqv (.list [.bool x, .bool y]) (.list [.bool true, .bool true]) = (x && y) := by
  cases x <;> cases y <;> simp [PyData.eqv, PyData.eqvAll]
/-! ### a list repeated -/
def rRepN : R2 := fun x y H Q => ∃ l k xs, x = .ref l ∧ y = .int k ∧ H l = some (.lst xs) ∧ -(2 ^ 63) ≤ k ∧ k < 2 ^ 63 ∧ xs.length * k.toNat ≤ sizeLine ∧ News H (.lst (List.replicate k.toNat xs).flatten) Q
theorem op_repN {X : Cx} : OpR X (binaryOp .Mult) rRepN := fun pins s σ H x y v u Q I rx ry ⟨l, k, xs, e1, e2, e3, e4, e5, e6, n⟩ => op_rep pins s σ H x y v u Q I rx ry ⟨l, k, xs, e1, e2, e3, e4, e5, e6, n.all⟩
end Iz
/-! Dn -/
set_option Elab.async false
set_option linter.all false
set_option maxRecDepth 100000
set_option maxHeartbeats 4000000
namespace Iz
open PySem PySem.Spec PyProof.Rows L2
/-! ### dicts whose keys are None or ints -/
def kN : Option Int → V
  | none => .non
  | some i => .int i
theorem kN_ov {o : Option Int} : kN o = ov o := by cases o <;> rfl
def kk (o : Option Int) : Option Key := o.map Sum.inl
theorem kk_inj {a b : Option Int} (h : kk a = kk b) : a = b := by cases a <;> cases b <;> simp_all [kk]
theorem kN_is {P : Program} {w : World} {k : Option Int} {u : Value} (r : RelV (ov k) u) : (noneKind P w).is (kk k) u = true := by
  cases k with
  | none => obtain rfl : u = Value.none := r; rfl
  | some i => exact kV_is (P := P) (w := w) (k := .inl i) r
theorem relV_keyN {k : Option Int} {u : Value} (h : nkIs (kk k) u = true) : RelV (ov k) u := by
  cases k with
  | none => exact nk_none h
  | some i => exact relV_key (k := .inl i) h
/-- the pairs as the library's -/
def kvK (kvs : List (Option Int × V)) : List (Option Key × V) := kvs.map fun p => (kk p.1, p.2)
theorem valV_kvK (kvs : List (Option Int × V)) (k : Option Int) : valV (kvK kvs) (kk k) = valV kvs k := by
  induction kvs with
  | nil => rfl
  | cons p r ih =>
    by_cases e : p.1 = k
    · rw [show kvK (p :: r) = (kk p.1, p.2) :: kvK r from rfl, valV_pos (p := (kk p.1, p.2)) (by rw [e]), valV_pos e]
    · rw [show kvK (p :: r) = (kk p.1, p.2) :: kvK r from rfl, valV_neg (p := (kk p.1, p.2)) (fun z => e (kk_inj z)), valV_neg e, ih]
theorem any_kvK (kvs : List (Option Int × V)) (k : Option Int) : ((kvK kvs).any fun kv => decide (kv.1 = kk k)) = kvs.any fun kv => decide (kv.1 = k) := by
  rw [valV_any, valV_any, valV_kvK]
theorem putK_kvK (kvs : List (Option Int × V)) (k : Option Int) (v : V) : putK (kvK kvs) (kk k) v = kvK (putK kvs k v) := by
  unfold putK
  rw [any_kvK]
  split
  · simp only [kvK, List.map_map]
    refine List.map_congr_left fun p _ => ?_
    by_cases e : p.1 = k
    · simp [e]
    · have : ¬ kk p.1 = kk k := fun z => e (kk_inj z)
      simp [e, this]
  · simp [kvK]
/-- the dict at a, its count of changes ep -/
def DN (P : Program) (w : World) (a : Addr) (kvs : List (Option Int × V)) (ep : Nat) : HO := .ext fun h => kvs.length ≤ sizeLine ∧ (a == sysModules) = false ∧ ∃ vs, KV (kvK kvs) vs ∧ h.DictAt (noneKind P w) a vs ep
section
variable {X : Cx} {pins : List (Addr × Obj)} {σ : L2.St} {H : Hp} {s : Shared}
theorem dn_new {P : Program} {w : World} {H : Hp} {h : Heap} {a : Addr} {kvs : List (Option Int × V)} {ep : Nat} {vs : List (Option Key × Value)} (z : kvs.length ≤ sizeLine) (hd : (a == sysModules) = false) (rel : KV (kvK kvs) vs) (dd : h.DictAt (noneKind P w) a vs ep) : ObjOk P w H h a (DN P w a kvs ep) := by
  have ⟨o, es, ho, _⟩ := dd
  refine ⟨⟨z, hd, vs, rel, dd⟩, ⟨o, ho⟩, fun h1 h2 p k => ?_⟩
  obtain ⟨z, hd, vs, rel, o, es, ho, r⟩ := p
  exact ⟨z, hd, vs, rel, o, es, k o ho, r⟩
theorem dn_get {a : Addr} {kvs : List (Option Int × V)} {ep : Nat} (I : Inv X pins σ H s) (ha : H a = some (DN X.prog X.w a kvs ep)) : kvs.length ≤ sizeLine ∧ (a == sysModules) = false ∧ ∃ vs, KV (kvK kvs) vs ∧ s.heap.DictAt (noneKind X.prog X.w) a vs ep := (I.hok a _ ha).1
/-- {} -/
def tDNew (P : Program) (w : World) : TE := fun _ H Q => ∀ p H', H p = none → Same H H' → H' p = some (DN P w p [] 0) → Q (.ref p) H'
theorem pe_dnN {pos : Pos} : PE X (.Dict [] [] pos) (tDNew X.prog X.w) := ⟨fun pins s σ H Q I h =>
  wpAny_Dict_empty ⟨.ref s.heap.objs.size, _, I.laid (a := s.heap.objs.size) (o := DN X.prog X.w s.heap.objs.size [] 0) (t' := s.toks) (fun _ _ q => Heap.get?_push_of_some _ q) (Nat.le_refl _)
    (dn_new (Nat.zero_le _) (beq_eq_false_iff_ne.mpr (Ne.symm (Nat.ne_of_lt I.big))) .nil ⟨_, #[], Heap.get?_push_size _ rfl, ⟨rfl, rfl, rfl⟩, rfl, fun _ he => by simp at he, Pairs.nil, List.nodup_nil⟩), rfl,
    h _ _ (I.hok.fresh (Nat.le_refl _)) (Same.upd (I.hok.fresh (Nat.le_refl _))) upd_same⟩⟩
/-- k in d -/
def rInDN (P : Program) (w : World) : R2 := fun x y H Q => ∃ k a kvs ep, x = ov k ∧ y = .ref a ∧ H a = some (DN P w a kvs ep) ∧ Q (.bl (valV kvs k).isSome) H
theorem op_inDN : OpR X (compareOp .In) (rInDN X.prog X.w) := by
  intro pins s σ H x y v u Q I rx ry h
  obtain ⟨k, a, kvs, ep, rfl, rfl, ha, q⟩ := h
  cases ry
  obtain ⟨z, hd, vs, rel, dd⟩ := dn_get I ha
  refine wpAny_in_of (kN_is rx) hd dd.dictOf.mapOf ?_
  rw [← (rel.val (kk k)).isSome_eq, valV_kvK]
  exact ⟨.bl _, H, I.tok _, rfl, q⟩
/-- d[k] -/
def rIxDN (P : Program) (w : World) : R2 := fun x y H Q => ∃ k a kvs ep v, x = .ref a ∧ y = ov k ∧ H a = some (DN P w a kvs ep) ∧ valV kvs k = some v ∧ Q v H
theorem ix_DN : IxR X (rIxDN X.prog X.w) := by
  intro value slice pins s σ H x y v u Q I rx ry h hs
  obtain ⟨k, a, kvs, ep, z0, rfl, rfl, ha, hv, q⟩ := h
  cases rx
  obtain ⟨z, hd, vs, rel, dd⟩ := dn_get I ha
  obtain ⟨w', hw, rw'⟩ := RelO.some_of (v := z0) (o := valueAt vs (kk k)) (by rw [← hv, ← valV_kvK]; exact rel.val (kk k))
  exact tail_any dd.dictOf.typeIs slot_dict_getitem.lookup (wpAny_getItem_of (kN_is ry) dd.dictOf.mapOf hw ⟨z0, H, I.tok _, rw', q⟩) hs
/-- d[k] = v -/
def rSetDN (P : Program) (w : World) : TSet := fun o i v H Q => ∃ a k kvs ep, o = .ref a ∧ i = ov k ∧ H a = some (DN P w a kvs ep) ∧ kvs.length < sizeLine ∧ ∀ ep' H', Put H H' a (DN P w a (putK kvs k v) ep') → Q H'
theorem set_DN : PSet X (rSetDN X.prog X.w) := by
  intro pins s σ H o i v ov' iv u Q I ro ri rv h
  obtain ⟨a, k, kvs, ep, rfl, rfl, ha, hl, q⟩ := h
  cases ro
  obtain ⟨z, hd, vs, rel, dd⟩ := dn_get I ha
  have hz : vs.length ≤ sizeLine := by rw [← rel.length]; simpa [kvK] using z
  have hl2 : (putK kvs k v).length ≤ sizeLine := by have := length_putK kvs k v; omega
  refine wpAny_setItem_pairs (hsz := hz) (kN_is ri) dd.dictOf fun h' dd' hs => ?_
  obtain ⟨ep', dd2⟩ := dd'.dictAt
  have he : ∃ q, h'.get? a = some q := let ⟨q, _, _, hq, _⟩ := dd'; ⟨q, hq⟩
  refine ⟨upd H a (DN X.prog X.w a (putK kvs k v) ep'), d_write I (by rw [ha]; exact True.intro) hs he (dn_new hl2 hd (vs := stored vs (kk k) u) (by rw [← putK_kvK]; exact rel.put (kk k) rv) dd2), q ep' _ ⟨upd_same, fun b hb => upd_ne hb⟩⟩
end
/-! ### for k in d, in a comprehension -/
def ItN (P : Program) (w : World) (d : Addr) (kvs : List (Option Int × V)) (ep : Nat) : It :=
  ⟨fun i H => H d = some (DN P w d kvs ep) ∧ i < kvs.length, fun i H x H' => H' = H ∧ ∃ k v, kvs[i]? = some (k, v) ∧ x = ov k, fun i H => H d = some (DN P w d kvs ep) ∧ kvs.length ≤ i⟩
theorem turn_DN {P : Program} {w : World} {K : PySem.W.Frag} {tg : Expr} {d : Addr} {ep : Nat} {kvs : List (Option Int × V)} (it : Addr) : Turn P w K tg (ItN P w d kvs ep) [it] it (fun i h => h.IsKeyIter it d i kvs.length ep) where
  mem := by simp
  obj := fun i h st b hb => by
    have e : b = it := by simpa using hb
    subst e
    obtain ⟨oi, e, c, dd⟩ := st
    exact ⟨oi, e, fun v z => by rw [dd] at z; cases z⟩
  keep := fun i h h' st k => st.at fun oi e => k it (by simp) oi e
  item := by
    intro X hP hw hK hc i pins s σ H E I hf st hg
    subst hP hw hK
    obtain ⟨hd, hi⟩ := hg
    obtain ⟨f0, f1, f2, f3, f4, f5⟩ := hf it (by simp)
    obtain ⟨z, hs, vs, kv, hm⟩ := dn_get I hd
    obtain ⟨⟨k, v⟩, hkv⟩ : ∃ p, kvs[i]? = some p := ⟨kvs[i], List.getElem?_eq_getElem hi⟩
    have hkv2 : (kvK kvs)[i]? = some (kk k, v) := by simp [kvK, hkv]
    obtain ⟨u, hu, ru⟩ := kv_get kv hkv2
    have hl : kvs.length = vs.length := by rw [← kv.length]; simp [kvK]
    rw [hl] at st
    refine wpAny_pyNext_dict_item st hm hu fun key h' hkey st' sb => ?_
    have I1 : Inv X pins σ H { s with heap := h' } := I.turned (t' := s.toks) (fun b ob hb e => (sb.2 b hb).trans e) f0 f1 f3 f4 f5
    obtain ⟨oi, e, c, dd⟩ := id st'
    refine ⟨key, rfl, go_of (s := { s with heap := h' }) e c dd (by decide) ⟨ov k, H, I1, relV_keyN (show nkIs (kk k) key = true from hkey), ⟨rfl, k, v, hkv, rfl⟩, ?_, fun b hb => (hf b hb).1⟩⟩
    show h'.IsKeyIter it d (i + 1) kvs.length _
    rw [hl]
    exact st'
  done := by
    intro X hP hw hK hc i pins s σ H E I hf st hg
    subst hP hw hK
    obtain ⟨hd, hi⟩ := hg
    obtain ⟨f0, f1, f2, f3, f4, f5⟩ := hf it (by simp)
    obtain ⟨z, hs, vs, kv, hm⟩ := dn_get I hd
    have hl : kvs.length = vs.length := by rw [← kv.length]; simp [kvK]
    obtain ⟨o, es, ho, hx, hdt, hk, hp, hn⟩ := hm
    have hsz : es.size = kvs.length := by have := hp.length; rw [Array.length_toList] at this; omega
    exact next_key_end (I.ok.hd hc) st ho hdt hsz hi fun h' eb => ⟨rfl, I.turned (t' := s.toks) (fun b ob hb e => eb b ob hb e) f0 f1 f3 f4 f5⟩
  self := fun A i s Q E st h => wpAny_pyIter_keyiter st h
def iDN (P : Program) (w : World) (td : TE) : TI := fun σ H R => td σ H fun x H1 => ∃ d kvs ep, x = .ref d ∧ H1 d = some (DN P w d kvs ep) ∧ R (ItN P w d kvs ep) H1
theorem pi_DN {X : Cx} {tg e : Expr} {td : TE} (he : PE X e td) : PI X tg e (iDN X.prog X.w td) := by
  refine ⟨fun pins s σ H R I h => ?_⟩
  refine thn (he.run pins s σ H _ I h) fun u s1 ⟨x, H1, I1, rx, d, kvs, ep, ex, hd, q⟩ => ?_
  subst ex
  obtain rfl : u = Value.ref d := rx
  obtain ⟨z, hs, vs, kv, hm⟩ := dn_get I1 hd
  have hl : kvs.length = vs.length := by rw [← kv.length]; simp [kvK]
  obtain ⟨o, es, ho, hx, hdt, hk, hp, hn⟩ := hm
  have hsz : es.size = kvs.length := by have := hp.length; rw [Array.length_toList] at this; omega
  refine iter_keys hs ho hx hdt (pi_one (tk := s1.toks) I1 _ (turn_DN (ep := ep) _) ⟨_, Heap.get?_push_size _ rfl, rfl, ?_⟩ q)
  rw [hsz] <;> rfl
theorem walk_DN {P : Program} {w : World} {d : Addr} {ep : Nat} {kvs : List (Option Int × V)} : Walk (ItN P w d kvs ep) kvs.length (fun H => H d = some (DN P w d kvs ep)) (fun i H x H' => H' = H ∧ ∃ k v, kvs[i]? = some (k, v) ∧ x = ov k) :=
  ⟨fun _ _ hi q => ⟨q, hi⟩, fun _ q => ⟨q, Nat.le_refl _⟩, fun _ _ _ _ _ _ y => y⟩
/-- [f(k) for k in d if p(k)] -/
theorem st_lcDN {P : Program} {w : World} {g : TG} {tl : TE} {tt : TT} {te : TE} {vs : List Nat} {σ : L2.St} {H : Hp} {Q : VK} {a : Addr} {kvs : List (Option Int × V)} {ep : Nat} (ha : ∀ R : V → Hp → Prop, R (.ref a) H → tl σ H R) (hx : H a = some (DN P w a kvs ep)) (hz : kvs.length ≤ sizeLine) (p : Option Int → Bool) (f : Option Int → V)
    (hs : ∀ x H' (A : Hp → Prop) (B : VK), x ∈ kvs.map (·.1) → Same H H' → (p x = false → ∀ H3, Same H' H3 → A H3) → (p x = true → ∀ H4, Same H' H4 → B (f x) H4) →
      g (ov x) (wipe σ vs) H' fun σ2 H2 => wipe σ2 vs = wipe σ vs ∧ tt σ2 H2 fun b H3 => if b = true then te σ2 H3 B else A H3)
    (hd : ∀ D H', H D = none → Same H H' → H' D = some (.lst (((kvs.map (·.1)).filter p).map f)) → Q (.ref D) H') : tLc (iDN P w tl) g tt te vs σ H Q := by
  refine ha _ ⟨a, kvs, ep, rfl, hx, fun D hD => lc_it walk_DN (fun i H' => Same H H' ∧ H' D = some (.lst ((((kvs.map (·.1)).take i).filter p).map f))) ⟨Same.upd hD, upd_same⟩ (fun i H' _ q => q.1 _ _ hx) (fun i x H' H'' hi q y => ?_) (fun H' q => hd D H' hD q.1 (by rw [q.2, show kvs.length = (kvs.map (·.1)).length by simp, List.take_length]))⟩
  obtain ⟨rfl, k, v, hk, rfl⟩ := y
  have hi2 : (kvs.map (·.1))[i]? = some k := by simp [hk]
  refine hs k H'' _ _ (List.mem_of_getElem? hi2) q.1 (fun e H3 s3 => ⟨q.1.trans s3, ?_⟩) (fun e H4 s4 => ⟨_, s4 _ _ q.2, ?_, ?_, ?_⟩)
  · rw [s3 _ _ q.2, take_filter_succ hi2, e]; simp
  · have h1 : (((kvs.map (·.1)).take i).filter p).length ≤ ((kvs.map (·.1)).take i).length := List.length_filter_le _ _
    have h2 : ((kvs.map (·.1)).take i).length ≤ i := by rw [List.length_take]; exact Nat.min_le_left _ _
    rw [List.length_map]; omega
  · exact fun b u e2 => by
      have hb : b ≠ D := ne_of_none e2 hD
      rw [upd_ne hb]; exact s4 _ _ (q.1 _ _ e2)
  · rw [upd_same, take_filter_succ hi2, e]; simp
end Iz
/-! Tr -/
set_option Elab.async false
set_option linter.all false
set_option maxRecDepth 100000
set_option maxHeartbeats 4000000
namespace Iz
open PySem PySem.Spec PyProof.Rows L2
/-! ### told rows: the mathematics -/
abbrev PP := Option Int × Option Int
def inB (lo hi : Option Int) (i : Int) : Bool := (match lo with | none => true | some l => decide (l ≤ i)) && (match hi with | none => true | some h => decide (i < h))
def has (ps : List PP) (i : Int) : Bool := ps.any fun q => inB q.1 q.2 i
theorem has_iff {ps : List PP} {i : Int} : has ps i = true ↔ ∃ q ∈ ps, inB q.1 q.2 i = true := by simp only [has, List.any_eq_true]
theorem has_nil {i : Int} : has [] i = false := rfl
theorem has_app {ps qs : List PP} {i : Int} : has (ps ++ qs) i = (has ps i || has qs i) := by simp [has]
theorem has_one {q : PP} {i : Int} : has [q] i = inB q.1 q.2 i := by simp [has]
theorem has_take {ps : List PP} {i : Nat} {q : PP} (h : ps[i]? = some q) {j : Int} : has (ps.take (i + 1)) j = (has (ps.take i) j || inB q.1 q.2 j) := by rw [List.take_succ, h, has_app]; simp [has_one]
def okB : PP → Prop
  | (some a, some b) => a < b
  | _ => True
def ghigh : Option Int → Option Int → Option Int
  | none, _ => none
  | _, none => none
  | some a, some b => some (if a > b then a else b)
theorem in_ghigh {l h h' : Option Int} {i : Int} : inB l (ghigh h h') i = (inB l h i || inB l h' i) := by
  cases h with
  | none => cases l <;> cases h' <;> simp [inB, ghigh] <;> (intros; assumption)
  | some a => cases h' with
    | none => cases l <;> simp [inB, ghigh] <;> (intros; assumption)
    | some b =>
      have : decide (i < if a > b then a else b) = (decide (i < a) || decide (i < b)) := by
        by_cases h1 : i < a <;> by_cases h2 : i < b <;> simp [h1, h2] <;> split <;> omega
      cases l <;> simp only [inB, ghigh, this, Bool.true_and, Bool.and_or_distrib_left]
theorem okB_ghigh {l h h' : Option Int} (k : okB (l, h)) : okB (l, ghigh h h') := by
  cases l <;> cases h <;> cases h' <;> simp_all [okB, ghigh]
  split <;> omega
def keyO (ts : List PP) (k : Option Int) : Option (Option Int) := (ts.find? fun p => decide (p.1 = k)).map (·.2)
def putO (ts : List PP) (k v : Option Int) : List PP := if (ts.any fun p => decide (p.1 = k)) = true then ts.map (fun p => if p.1 = k then (p.1, v) else p) else ts ++ [(k, v)]
def toV (ts : List PP) : List (Option Int × V) := ts.map fun p => (p.1, ov p.2)
theorem valV_toV (ts : List PP) (k : Option Int) : valV (toV ts) k = (keyO ts k).map ov := by
  induction ts with
  | nil => rfl
  | cons p r ih =>
    by_cases e : p.1 = k
    · rw [show toV (p :: r) = (p.1, ov p.2) :: toV r from rfl, valV_pos (p := (p.1, ov p.2)) e]; simp [keyO, e]
    · rw [show toV (p :: r) = (p.1, ov p.2) :: toV r from rfl, valV_neg (p := (p.1, ov p.2)) e, ih]; simp [keyO, e]
theorem any_toV (ts : List PP) (k : Option Int) : ((toV ts).any fun kv => decide (kv.1 = k)) = ts.any fun p => decide (p.1 = k) := by simp [toV, List.any_map, Function.comp_def]
theorem putK_toV (ts : List PP) (k v : Option Int) : putK (toV ts) k (ov v) = toV (putO ts k v) := by
  unfold putK putO
  rw [any_toV]
  split
  · simp only [toV, List.map_map]
    refine List.map_congr_left fun p _ => ?_
    by_cases e : p.1 = k <;> simp [e]
  · simp [toV]
abbrev NdK (ts : List PP) : Prop := (ts.map (·.1)).Nodup
theorem keyO_mem {ts : List PP} {k h : Option Int} (e : keyO ts k = some h) : (k, h) ∈ ts := by
  unfold keyO at e
  obtain ⟨p, hp, rfl⟩ := Option.map_eq_some_iff.mp e
  have h1 := List.mem_of_find?_eq_some hp
  have h2 := List.find?_some hp
  simp only [decide_eq_true_eq] at h2
  subst h2
  exact h1
theorem mem_keyO {ts : List PP} (n : NdK ts) {q : PP} (h : q ∈ ts) : keyO ts q.1 = some q.2 := by
  induction ts with
  | nil => simp at h
  | cons p r ih =>
    simp only [NdK, List.map_cons, List.nodup_cons] at n
    rcases List.mem_cons.mp h with rfl | h
    · simp [keyO]
    · have ne : ¬ p.1 = q.1 := fun z => n.1 (by rw [z]; exact List.mem_map.mpr ⟨q, h, rfl⟩)
      have := ih n.2 h
      simp only [keyO, List.find?_cons, decide_eq_false ne] at this ⊢
      exact this
theorem any_keyO {ts : List PP} {k : Option Int} : (ts.any fun p => decide (p.1 = k)) = (keyO ts k).isSome := by
  unfold keyO
  rw [Option.isSome_map]
  induction ts with
  | nil => rfl
  | cons p r ih => by_cases e : p.1 = k <;> simp [e, ih]
theorem has_putO_some {ts : List PP} (n : NdK ts) {k h h' : Option Int} (e : keyO ts k = some h) {i : Int} : has (putO ts k (ghigh h h')) i = (has ts i || inB k h' i) := by
  rw [Bool.eq_iff_iff, Bool.or_eq_true, has_iff, has_iff]
  unfold putO
  rw [if_pos (by rw [any_keyO, e]; rfl)]
  constructor
  · rintro ⟨q, hq, hi⟩
    obtain ⟨p, hp, rfl⟩ := List.mem_map.mp hq
    by_cases c : p.1 = k
    · have e2 := mem_keyO n hp
      rw [c, e] at e2
      rw [if_pos c] at hi
      simp only [in_ghigh, Bool.or_eq_true] at hi
      rcases hi with hi | hi
      · exact .inl ⟨p, hp, by rw [← Option.some.inj e2]; exact hi⟩
      · exact .inr (by rw [← c]; exact hi)
    · rw [if_neg c] at hi; exact .inl ⟨p, hp, hi⟩
  · rintro (⟨p, hp, hi⟩ | hi)
    · refine ⟨_, List.mem_map.mpr ⟨p, hp, rfl⟩, ?_⟩
      by_cases c : p.1 = k
      · have e2 := mem_keyO n hp
        rw [c, e] at e2
        rw [if_pos c]
        simp only [in_ghigh, Option.some.inj e2, hi, Bool.true_or]
      · rw [if_neg c]; exact hi
    · refine ⟨_, List.mem_map.mpr ⟨(k, h), keyO_mem e, rfl⟩, ?_⟩
      rw [if_pos rfl]
      simp only [in_ghigh, hi, Bool.or_true]
theorem has_putO_none {ts : List PP} {k h' : Option Int} (e : keyO ts k = none) {i : Int} : has (putO ts k h') i = (has ts i || inB k h' i) := by
  unfold putO
  rw [if_neg (by rw [any_keyO, e]; decide), has_app, has_one]
theorem putO_nd {ts : List PP} (n : NdK ts) {k v : Option Int} : NdK (putO ts k v) := by
  unfold putO
  split
  · have : (ts.map fun p => if p.1 = k then (p.1, v) else p).map (·.1) = ts.map (·.1) := by
      rw [List.map_map]
      refine List.map_congr_left fun p _ => ?_
      by_cases e : p.1 = k <;> simp [e]
    unfold NdK; rw [this]; exact n
  · rename_i h
    rw [List.any_eq_true] at h
    simp only [NdK, List.map_append, List.map_cons, List.map_nil]
    refine List.nodup_append.mpr ⟨n, by simp, fun a ha b hb => ?_⟩
    simp only [List.mem_singleton] at hb
    subst hb
    rintro rfl
    obtain ⟨p, hp, rfl⟩ := List.mem_map.mp ha
    exact h ⟨p, hp, by simp⟩
theorem putO_ok {ts : List PP} (o : ∀ q ∈ ts, okB q) {k v : Option Int} (hk : okB (k, v)) : ∀ q ∈ putO ts k v, okB q := by
  unfold putO
  split
  · intro q hq
    obtain ⟨p, hp, rfl⟩ := List.mem_map.mp hq
    by_cases e : p.1 = k
    · rw [if_pos e, e]; exact hk
    · rw [if_neg e]; exact o p hp
  · intro q hq
    rcases List.mem_append.mp hq with h | h
    · exact o q h
    · rw [List.mem_singleton.mp h]; exact hk
theorem putO_len {ts : List PP} {k v : Option Int} : (putO ts k v).length ≤ ts.length + 1 := by unfold putO; split <;> simp
/-- none is least -/
def ltL : Option Int → Option Int → Prop
  | none, some _ => True
  | some a, some b => a < b
  | _, none => False
def leL : Option Int → Option Int → Prop
  | none, _ => True
  | some a, some b => a ≤ b
  | some _, none => False
abbrev Asc (qs : List PP) : Prop := qs.Pairwise fun p q => ltL p.1 q.1
def lowsO (ts : List PP) : List Int := ts.filterMap (·.1)
def valO (ts : List PP) (k : Option Int) : Option Int := (keyO ts k).getD none
def ascO (ts : List PP) (ys : List Int) : List PP := (if (keyO ts none).isSome = true then [(none, valO ts none)] else []) ++ ys.map fun l => (some l, valO ts (some l))
theorem mem_lowsO {ts : List PP} {l : Int} : l ∈ lowsO ts ↔ ∃ h, (some l, h) ∈ ts := by
  simp only [lowsO, List.mem_filterMap]
  constructor
  · rintro ⟨p, hp, e⟩; exact ⟨p.2, by rw [← e]; exact hp⟩
  · rintro ⟨h, hp⟩; exact ⟨_, hp, rfl⟩
theorem mem_ascO {ts : List PP} (n : NdK ts) {ys : List Int} (hy : ys.Perm (lowsO ts)) {q : PP} : q ∈ ascO ts ys ↔ q ∈ ts := by
  have val : ∀ {k h}, (k, h) ∈ ts → valO ts k = h := fun {k h} m => by unfold valO; rw [mem_keyO n m]; rfl
  simp only [ascO, List.mem_append, List.mem_map, hy.mem_iff, mem_lowsO]
  obtain ⟨k, h⟩ := q
  constructor
  · rintro (c | ⟨l, ⟨h2, m⟩, e⟩)
    · split at c
      · rename_i hs
        obtain ⟨h2, e2⟩ := Option.isSome_iff_exists.mp hs
        have m := keyO_mem e2
        rw [val m, List.mem_singleton] at c
        rw [c]; exact m
      · simp at c
    · rw [val m] at e; rw [← e]; exact m
  · intro m
    cases k with
    | none => exact .inl (by rw [if_pos (by rw [mem_keyO n m]; rfl), val m]; simp)
    | some l => exact .inr ⟨l, ⟨h, m⟩, by rw [val m]⟩
theorem has_ascO {ts : List PP} (n : NdK ts) {ys : List Int} (hy : ys.Perm (lowsO ts)) {i : Int} : has (ascO ts ys) i = has ts i := by
  rw [Bool.eq_iff_iff, has_iff, has_iff]
  simp only [mem_ascO n hy]
theorem lowsO_nd {ts : List PP} (n : NdK ts) : (lowsO ts).Nodup := by
  have : lowsO ts = (ts.map (·.1)).filterMap id := by simp [lowsO, List.filterMap_map, Function.comp_def]
  rw [this]
  refine List.Pairwise.filterMap id (R := (· ≠ ·)) (S := (· ≠ ·)) (fun a b h c hc d hd e => h ?_) n
  simp only [id] at hc hd
  rw [hc, hd, e]
theorem ascO_asc {ts : List PP} (n : NdK ts) {ys : List Int} (hy : ys.Perm (lowsO ts)) (hs : ys.Pairwise (· ≤ ·)) : Asc (ascO ts ys) := by
  have nd : ys.Nodup := hy.nodup_iff.mpr (lowsO_nd n)
  have lt : ys.Pairwise (· < ·) := (hs.and nd).imp fun h => by have h1 := h.1; have h2 := h.2; omega
  refine List.pairwise_append.mpr ⟨by split <;> simp, List.pairwise_map.mpr (lt.imp fun h => h), fun p hp q hq => ?_⟩
  split at hp
  · rw [List.mem_singleton.mp hp]
    obtain ⟨l, _, rfl⟩ := List.mem_map.mp hq
    trivial
  · simp at hp
theorem lows_map (ts : List PP) : (((toV ts).map (·.1)).filter Option.isSome).map (fun o => V.int (o.getD 0)) = (lowsO ts).map V.int := by
  induction ts with
  | nil => rfl
  | cons p r ih =>
    have e : toV (p :: r) = (p.1, ov p.2) :: toV r := rfl
    rw [e]
    obtain ⟨l, h⟩ := p
    cases l with
    | none => simpa [lowsO, List.filter_cons] using ih
    | some a => simpa [lowsO, List.filter_cons] using ih
theorem ascO_len {ts : List PP} {ys : List Int} (hy : ys.Perm (lowsO ts)) : (ascO ts ys).length ≤ ts.length := by
  have key : (lowsO ts).length + (if (ts.any fun p => decide (p.1 = none)) = true then 1 else 0) ≤ ts.length := by
    clear hy
    induction ts with
    | nil => simp [lowsO]
    | cons p r ih =>
      obtain ⟨l, h⟩ := p
      have e : lowsO ((l, h) :: r) = (match l with | none => lowsO r | some a => a :: lowsO r) := by cases l <;> rfl
      rw [e]
      cases l with
      | none => simp only [List.any_cons, decide_true, Bool.true_or, if_true, List.length_cons]; split at ih <;> omega
      | some a => simp only [List.any_cons, List.length_cons, show decide (some a = (none : Option Int)) = false from rfl, Bool.false_or]; split at ih <;> rename_i c <;> simp only [c, if_true, if_false, Bool.false_eq_true] <;> omega
  rw [any_keyO] at key
  unfold ascO
  rw [List.length_append, List.length_map, hy.length_eq]
  split at key <;> rename_i c <;> simp only [c, if_true, if_false, Bool.false_eq_true, List.length_cons, List.length_nil] <;> omega
/-! the row -/
def gapP (p q : PP) : Prop := ∃ h l, p.2 = some h ∧ q.1 = some l ∧ h < l
structure Norm (rs : List PP) : Prop where
  ok : ∀ p ∈ rs, okB p
  gap : rs.Pairwise gapP
theorem Norm.nil : Norm [] := ⟨by simp, .nil⟩
theorem Norm.app {rs : List PP} (N : Norm rs) {q : PP} (hq : okB q) (hl : ∀ p, rs.getLast? = some p → gapP p q) : Norm (rs ++ [q]) := by
  refine ⟨fun p hp => (List.mem_append.mp hp).elim (N.ok p) fun h => by rw [List.mem_singleton.mp h]; exact hq, List.pairwise_append.mpr ⟨N.gap, by simp, fun p hp x hx => ?_⟩⟩
  rw [List.mem_singleton.mp hx]
  clear hx x
  rcases List.eq_nil_or_concat rs with rfl | ⟨r0, z, rfl⟩
  · simp at hp
  · have hz := hl z (by simp)
    rw [List.concat_eq_append] at hp N
    rcases List.mem_append.mp hp with h | h
    · have g := (List.pairwise_append.mp N.gap).2.2 p h z (by simp)
      have okz := N.ok z (by simp)
      obtain ⟨h1, l1, e1, e2, lt1⟩ := g
      obtain ⟨h2, l2, e3, e4, lt2⟩ := hz
      obtain ⟨zl, zh⟩ := z
      simp only at e2 e3
      subst e2 e3
      have okz : l1 < h2 := okz
      exact ⟨h1, l2, e1, e4, by omega⟩
    · rw [List.mem_singleton.mp h]; exact hz
theorem Norm.merge {r0 : List PP} {b e h : Option Int} (N : Norm (r0 ++ [(b, e)])) : Norm (r0 ++ [(b, ghigh e h)]) := by
  obtain ⟨g1, _, g3⟩ := List.pairwise_append.mp N.gap
  refine ⟨fun p hp => ?_, List.pairwise_append.mpr ⟨g1, by simp, fun p hp x hx => ?_⟩⟩
  · rcases List.mem_append.mp hp with h | h
    · exact N.ok p (List.mem_append.mpr (.inl h))
    · rw [List.mem_singleton.mp h]; exact okB_ghigh (N.ok (b, e) (by simp))
  · rw [List.mem_singleton.mp hx]
    exact g3 p hp (b, e) (by simp)
theorem has_merge {r0 : List PP} {b e l h : Option Int} {i : Int} (hb : leL b l) (hl : e = none ∨ ∃ x y, l = some x ∧ e = some y ∧ x ≤ y) : has (r0 ++ [(b, ghigh e h)]) i = (has (r0 ++ [(b, e)]) i || inB l h i) := by
  simp only [has_app, has_one, in_ghigh, Bool.or_assoc]
  congr 1
  rcases hl with rfl | ⟨x, y, rfl, rfl, hxy⟩
  · cases b with
    | none => simp [inB]
    | some b0 => cases l with
      | none => exact hb.elim
      | some l0 =>
        have hb : b0 ≤ l0 := hb
        cases h with
        | none => by_cases c : b0 ≤ i <;> by_cases c2 : l0 ≤ i <;> simp [inB, c, c2]; omega
        | some h0 => by_cases c : b0 ≤ i <;> by_cases c2 : l0 ≤ i <;> by_cases c3 : i < h0 <;> simp [inB, c, c2, c3]; omega
  · cases b with
    | none =>
      cases h with
      | none => by_cases c : i < y <;> by_cases c2 : x ≤ i <;> simp [inB, c, c2]; omega
      | some h0 => by_cases c : i < y <;> by_cases c2 : x ≤ i <;> by_cases c3 : i < h0 <;> simp [inB, c, c2, c3]; omega
    | some b0 =>
      have hb : b0 ≤ x := hb
      cases h with
      | none => by_cases c0 : b0 ≤ i <;> by_cases c : i < y <;> by_cases c2 : x ≤ i <;> simp [inB, c, c2, c0] <;> omega
      | some h0 => by_cases c0 : b0 ≤ i <;> by_cases c : i < y <;> by_cases c2 : x ≤ i <;> by_cases c3 : i < h0 <;> simp [inB, c, c2, c3, c0] <;> omega
end Iz
/-! Sp -/
set_option Elab.async false
set_option linter.all false
set_option maxRecDepth 100000
set_option maxHeartbeats 4000000
namespace Iz
open PySem PySem.Spec PyProof.Rows L2
/-! ### xs.pop(), tuple(xs), enumerate, isinstance of several classes -/
def tPop (to : TE) : TE := fun σ H Q => to σ H fun x H1 => ∃ l xs y, x = .ref l ∧ H1 l = some (.lst (xs ++ [y])) ∧ ∀ H3, Put H1 H3 l (.lst xs) → Q y H3
theorem pe_popN {X : Cx} {o : Expr} {to : TE} {apos cpos : Pos} (ho : PE X o to)
    (hbase : attributeBase o "pop" X.env (eval o X.env) = eval o X.env := by rfl) (hline : (apos.endLine == cpos.line) = true := by rfl) : PE X (.Call (.Attribute o "pop" apos) [] [] cpos) (tPop to) :=
  PE.imp (pe_bm0 PySem.F.plainAttrs_list PySem.F.slot_list_pop PySem.F.type_list_pop mt_pop (PE.mcl ho) hbase hline) fun σ H Q q =>
    ⟨_, q, fun x H1 ⟨l, xs, y, hx, hl, q⟩ => by subst hx; exact ⟨.inl ⟨rfl, _, SqL.of hl⟩, l, _, y, rfl, rfl, hl, by simp, q _ ⟨by rw [upd_same, List.dropLast_concat], fun _ h => upd_ne h⟩⟩⟩
def rTupN : List V → Hp → VK → Prop := fun xs H Q => ∃ p ys, xs = [.ref p] ∧ H p = some (.lst ys) ∧ News H (.tup ys) Q
theorem call_tupN {X : Cx} : CallR X (.type "tuple") rTupN := fun pins s σ H xs us Q I r ⟨p, ys, e, hp, n⟩ => call_tuple_of pins s σ H xs us Q I r ⟨p, ys, e, .inl ⟨SqL.of hp, n.all⟩⟩
theorem st_forE {K : PySem.W.Frag} {g : TG} {tb : TS} {D : Ends} {σ : L2.St} {H : Hp} {ta : TA} {a : Addr} {xs : List V} (ha : ∀ R : List V → Hp → Prop, R [.ref a] H → ta σ H R) (hx : H a = some (.lst xs)) (Pv : Nat → L2.St → Hp → Prop) (h0 : Pv 0 σ H) (hl : ∀ i σ H, Pv i σ H → H a = some (.lst xs))
    (hs : ∀ i x T σ H H', xs[i]? = some x → Pv i σ H → Same H H' → H' T = some (.tup [.int (i : Nat), x]) → g (.ref T) σ H' fun σ2 H2 => tb { D with nx := Pv (i + 1), ct := Pv (i + 1), bk := D.nx } σ2 H2) (hd : ∀ σ H, Pv xs.length σ H → D.nx σ H) : tFor (iEnum K ta) g tb D σ H :=
  ha _ ⟨a, xs, rfl, SqL.of hx, for_it walk_enum Pv h0 (fun i σ H _ p => SqL.of (hl i σ H p)) (fun i v σ H H' hi p y => by
    obtain ⟨T, x, z, rfl, hT, rfl, e1, e2⟩ := y
    cases e1
    exact hs i z T σ H _ e2 p (Same.upd hT) upd_same) hd⟩
/-- a comprehension over the pairs of a list -/
theorem ix_DNk {X : Cx} {P : Program} {w : World} (e : X.prog = P) (e2 : X.w = w) : IxR X (rIxDN P w) := e ▸ e2 ▸ ix_DN
theorem op_inDNk {X : Cx} {P : Program} {w : World} (e : X.prog = P) (e2 : X.w = w) : OpR X (compareOp .In) (rInDN P w) := e ▸ e2 ▸ op_inDN
theorem set_DNk {X : Cx} {P : Program} {w : World} (e : X.prog = P) (e2 : X.w = w) : PSet X (rSetDN P w) := e ▸ e2 ▸ set_DN
theorem pi_DNk {X : Cx} {P : Program} {w : World} (e : X.prog = P) (e2 : X.w = w) {tg x : Expr} {td : TE} (he : PE X x td) : PI X tg x (iDN P w td) := by subst e e2; exact pi_DN he
theorem pe_dnNk {X : Cx} {P : Program} {w : World} (e : X.prog = P) (e2 : X.w = w) {pos : Pos} : PE X (.Dict [] [] pos) (tDNew P w) := by subst e e2; exact pe_dnN
/-! ### what may raise, asked where it does not -/
def calmS (sp : Sp) : Sp := fun vs H Q _ => sp vs H Q (fun _ _ _ => False)
section
variable {P : Program} {w : World} {K : PySem.W.Frag} {mg : Str → Option Value} {base : Heap} {k : Nat} {x m : Str} {ps : List Str} {dvs : List V} {sp : Sp}
theorem fn_calm {f : Addr} {fd : FuncData} (F : FnOk P w K mg base (L2.CX P w) k f fd ps sp) : FnOk P w K mg base CX0 k f fd ps (calmS sp) :=
  ⟨fun vs H Q E q => F.len vs H Q _ q, fun A outer s H args us vs Q E hr he hb hv hs => codeAny_mono (F.run A outer s H args us vs Q _ hr he hb hv hs) fun r s' q => by
    cases r with
    | error e => obtain ⟨_, _, _, _, _, _, _, _, _, _, _, _, z⟩ := q; exact z.elim
    | ok fl => cases fl <;> exact q⟩
theorem OkF.calm (F : OkF P w K mg base (L2.CX P w) k x ps sp) : OkF P w K mg base CX0 k x ps (calmS sp) :=
  let ⟨f, fd, g, kp, b, G⟩ := F.ex
  ⟨f, fd, g, kp, b, fn_calm G⟩
theorem OkM.calm (F : OkM P w K mg base (L2.CX P w) k x m ps dvs sp) : OkM P w K mg base CX0 k x m ps dvs (calmS sp) :=
  let ⟨f, fd, M, b, G⟩ := F.ex
  ⟨f, fd, M, b, fn_calm G⟩
theorem OkK.calm (F : OkK P w K mg base (L2.CX P w) k x ps dvs sp) : OkK P w K mg base CX0 k x ps dvs (calmS sp) :=
  let ⟨f, fd, si, M, g, b, G, q⟩ := F.ex
  ⟨f, fd, calmS si, M, g, b, fn_calm G, fun vs H Q E h p dx h1 h2 h3 => q vs H Q _ h p dx h1 h2 h3⟩
end
theorem BindD.cut {K : PySem.W.Frag} {fd : FuncData} {ps : List Str} {d : V} (b : BindD K fd ps [d]) : BindD K fd ps [] := fun j hj => by
  obtain ⟨ds, h1, h2⟩ := b 1 (Nat.le_refl _)
  exact ⟨ds, by rw [List.drop_nil]; exact h1, h2⟩
theorem lc_inT {K : PySem.W.Frag} {tl : TE} {g : TG} {tt : TT} {te : TE} {vs : List Nat} {σ : L2.St} {H : Hp} {Q : VK} (h : tl σ H fun x H1 => tLc (iTup K fun _ H R => R x H) g tt te vs σ H1 Q) : tLc (iTup K tl) g tt te vs σ H Q := h
theorem lc_inL {K : PySem.W.Frag} {tl : TE} {g : TG} {tt : TT} {te : TE} {vs : List Nat} {σ : L2.St} {H : Hp} {Q : VK} (h : tl σ H fun x H1 => tLc (iList K fun _ H R => R x H) g tt te vs σ H1 Q) : tLc (iList K tl) g tt te vs σ H Q := h
/-- ints picked out of the items of a tuple -/
theorem st_lcO {K : PySem.W.Frag} {tl : TE} {g : TG} {tt : TT} {te : TE} {vs : List Nat} {σ : L2.St} {H : Hp} {Q : VK} {a : Addr} {xs : List V} {os : List (Option Int)} (ha : ∀ R : V → Hp → Prop, R (.ref a) H → tl σ H R) (hx : H a = some (.tup xs)) (hl : xs.length = os.length) (hz : os.length ≤ 1000)
    (hs : ∀ (i : Nat) (x : V) (o : Option Int) (H' : Hp) (A : Hp → Prop) (B : VK), xs[i]? = some x → os[i]? = some o → Same H H' → (o = none → A H') → (∀ z, o = some z → B (.int z) H') →
      g x (wipe σ vs) H' fun σ2 H2 => wipe σ2 vs = wipe σ vs ∧ tt σ2 H2 fun b H3 => if b = true then te σ2 H3 B else A H3)
    (hd : ∀ D H', H D = none → Same H H' → H' D = some (.lst ((os.filterMap id).map V.int)) → Q (.ref D) H') : tLc (iTup K tl) g tt te vs σ H Q := by
  refine ha _ ⟨a, rfl, ⟨xs, SqT.of hx⟩, fun D hD => lc_tup (fun i H' => Same H H' ∧ H' D = some (.lst (((os.take i).filterMap id).map V.int))) ⟨Same.upd hD, upd_same⟩ (fun i H' _ q => SqT.of (q.1 _ _ hx)) (fun i x H' hi q => ?_) (fun H' q => hd D H' hD q.1 (by rw [q.2, hl, List.take_length]))⟩
  have hi2 := (List.getElem?_eq_some_iff.mp hi).1
  obtain ⟨o, ho⟩ : ∃ o, os[i]? = some o := ⟨os[i]'(by omega), List.getElem?_eq_getElem (by omega)⟩
  refine hs i x o H' _ _ hi ho q.1 (fun e => ⟨q.1, ?_⟩) (fun z e => ⟨_, q.2, ?_, ?_, ?_⟩)
  · rw [q.2, List.take_succ, ho, e]; simp
  · have h1 : ((os.take i).filterMap id).length ≤ (os.take i).length := List.length_filterMap_le _ _
    have h2 : (os.take i).length ≤ i := by rw [List.length_take]; exact Nat.min_le_left _ _
    rw [List.length_map, sizeLine_eq]; omega
  · exact fun b u e2 => by rw [upd_ne (ne_of_none e2 hD)]; exact q.1 _ _ e2
  · rw [upd_same, List.take_succ, ho, e]; simp
/-- [f(n) for n in ns], each as it is -/
theorem st_lcCp {K : PySem.W.Frag} {tl : TE} {g : TG} {tt : TT} {te : TE} {vs : List Nat} {σ : L2.St} {H : Hp} {Q : VK} {a : Addr} {ns : List Int} (ha : ∀ R : V → Hp → Prop, R (.ref a) H → tl σ H R) (hx : H a = some (.lst (ns.map V.int))) (hz : ns.length ≤ 1000)
    (hs : ∀ (n : Int) (H' : Hp) (A : Hp → Prop) (B : VK), B (.int n) H' → g (.int n) (wipe σ vs) H' fun σ2 H2 => wipe σ2 vs = wipe σ vs ∧ tt σ2 H2 fun b H3 => if b = true then te σ2 H3 B else A H3)
    (hd : ∀ D H', H D = none → Same H H' → H' D = some (.lst (ns.map V.int)) → Q (.ref D) H') : tLc (iList K tl) g tt te vs σ H Q := by
  refine st_lcLF ha hx (by rw [List.length_map, sizeLine_eq]; omega) (fun _ => true) (fun v => v) (fun x H' A B hx s hA hB => ?_) (fun D H' nD s h' => hd D H' nD s (by rw [h']; simp))
  obtain ⟨n, _, rfl⟩ := List.mem_map.mp hx
  exact hs n H' A B (hB rfl H' (fun _ _ h => h))
theorem none_of {H H' : Hp} {r : Addr} (s : Same H H') (n : H' r = none) : H r = none := by
  cases e : H r with
  | none => rfl
  | some o => rw [s _ _ e] at n; cases n
theorem PAll.last {H : Hp} {z0 : List V} {y : V} {rs : List PP} (h : PAll H (z0 ++ [y]) rs) : ∃ t r0 p, y = .ref t ∧ rs = r0 ++ [p] ∧ PAll H z0 r0 ∧ H t = some (.tup [ov p.1, ov p.2]) := by
  induction z0 generalizing rs with
  | nil => cases h with | cons e t => cases t; exact ⟨_, [], _, rfl, rfl, .nil, e⟩
  | cons z z0 ih => cases h with | cons e t => obtain ⟨t', r0, p, e1, e2, e3, e4⟩ := ih t; subst e2; exact ⟨t', _ :: r0, p, e1, rfl, .cons e e3, e4⟩
theorem ixN_end {n : Nat} (h : 0 < n) : ixN n (-1) = some (n - 1) := by
  unfold ixN
  rw [if_neg (by decide), if_pos (by omega)]
  congr 1; omega
theorem atI_end {α : Type} {xs : List α} {x : α} : atI (xs ++ [x]) (-1) = some x := by
  unfold atI
  rw [ixN_end (by simp)]
  simp
theorem drop_at {α : Type} {xs : List α} {i : Nat} {x : α} (h : xs[i]? = some x) : xs.drop i = x :: xs.drop (i + 1) := by
  obtain ⟨h1, rfl⟩ := List.getElem?_eq_some_iff.mp h
  exact List.drop_eq_getElem_cons h1
theorem ltL.le {a b : Option Int} (h : ltL a b) : leL a b := by cases a <;> cases b <;> simp_all [ltL, leL]; omega
theorem scalO {a b : Option Int} : scal (ov a) (ov b) = true := by cases a <;> cases b <;> rfl
theorem ov_inj {a b : Option Int} (h : ov a = ov b) : a = b := by cases a <;> cases b <;> simp_all [ov]
theorem kitAny_ll {K : PySem.W.Frag} : PySem.W.kitAny K (.type "list") [.type "list", .type "tuple"] = some true := kitAny_cons (b := true) (kit_ty (by decide +kernel)) (fun h => by cases h) (fun _ => rfl)
theorem kitAny_tl {K : PySem.W.Frag} : PySem.W.kitAny K (.type "tuple") [.type "list", .type "tuple"] = some true := kitAny_cons (b := false) (kit_ty (by decide +kernel)) (fun _ => kitAny_cons (b := true) (kit_ty (by decide +kernel)) (fun h => by cases h) (fun _ => rfl)) (fun h => by cases h)
end Iz
/-! Rp -/
set_option Elab.async false
set_option linter.all false
set_option maxRecDepth 100000
set_option maxHeartbeats 4000000
namespace Iz
open PySem PySem.Spec PyProof.Rows L2
/-! ### repr of a tuple of ints and of an empty list, where it is not known what else is being told -/
theorem codeAny_guards {M : Model} {A : Around} {c : Code} {R : Result → Shared → Prop} {s : Shared} (h : ∀ g, codeAny M { A with guards := some g } c R s) : codeAny M A c R s :=
  fun Γ p hc hB => h (guardsOf Γ.below) Γ p hc ⟨hB.1, hB.2.1, hB.2.2.1, fun g hg => by cases hg; rfl, hB.2.2.2.2⟩
/-- the text of a tuple, if it isn't being told just now -/
def tupZ (g : List Code) (a : Addr) (ts : List Str) : Str := if (g.any fun c => tupGuardF (.ref a) (c, default)) = true then "(...)" else tupleText ts
section
variable {prog : Program} {w : World} {A : Around} {E : Value → Shared → Prop} {s : Shared} {a : Addr} {o : Obj} {items : Array Value} {n : Nat} {ts : List Str} {g : List Code}
theorem own_tupZ {Q : Fin → Shared → Prop} {c : Code} (hg : A.guards = some g)
    (ha : s.heap.get? a = some o) (hd : o.data = .seq items n) (hT : ReprAll prog w items.toList ts)
    (h : ∀ u tk, Q (.done (.ret (.str (tupZ g a ts) u))) { s with toks := tk }) (hsz : (tupleText ts).length ≤ sizeLine) :
    wpOwn (model prog w) A c (Builtin.tupleReprAt 0 ⟨[.ref a], []⟩) Q E s := by
  rw [tuple_repr_tree, tupleReprUnderWay_eq]
  refine wpOwn_bind (wpOwn_stackTailAny hg (tupGuardF_off _) (tupGuardF_pos _) ?_)
  unfold tupZ at h
  cases e : g.any fun c => tupGuardF (.ref a) (c, default) with
  | true =>
    rw [e] at h
    refine wpOwn_of_wpAny ?_
    simp only [if_true]
    refine wpAny_bind (wpAny_rule ?_)
    exact wpAny_bind (wpAny_mkStr (wpAny_pure (h _ _)) (by decide))
  | false =>
    rw [e] at h
    exact wpOwn_of_wpAny (wpAny_tupleReprRest ha hd hT h (by omega))
theorem call_tupZ {Q : Value → Shared → Prop} (hTy : s.TypeIs (.ref a) "tuple") (hg : A.guards = some g)
    (ha : s.heap.get? a = some o) (hd : o.data = .seq items n) (hT : ReprAll prog w items.toList ts)
    (hQ : ∀ u tk, Q (.str (tupZ g a ts) u) { s with toks := tk }) (hsz : (tupleText ts).length ≤ sizeLine) :
    wpAny (model prog w) A (call (.builtin "tuple.__repr__") [.ref a]) Q E s :=
  wpAny_call (codeAny_call_builtin_own (Code.quiet_builtin _ (by decide +kernel)) F.entry_tuple_repr (F.slot_tuple_repr.check _ _ _ _ _ _ _ _ hTy (F.args_tuple_repr_1 _) (own_tupZ hg ha hd hT hQ hsz)))
theorem repr_tupZ {Q : Value → Shared → Prop} (hu : A.units + 1 < cLine) (hTy : s.TypeIs (.ref a) "tuple") (hg : A.guards = some g)
    (ha : s.heap.get? a = some o) (hd : o.data = .seq items n) (hT : ReprAll prog w items.toList ts)
    (hQ : ∀ u tk, Q (.str (tupZ g a ts) u) { s with toks := tk }) (hsz : (tupleText ts).length ≤ sizeLine) :
    wpAny (model prog w) A (call (.builtin "repr") [.ref a]) Q E s := by
  refine Calls.call_function_entry F.kind_repr F.plain_repr F.entry_repr (F.args_repr1 _) ?_
  unfold Builtin.«repr»
  refine wpAny_bind (m := oneArg "repr" _) (wpAny_pure ?_)
  refine wpAny_bind (wpAny_cRoomFor (by exact hu) ?_)
  refine wpAny_bind (wpAny_specialOf (name := Str.ofString "__repr__") hTy F.slot_tuple_repr.lookup ?_)
  refine wpAny_bind (m := callSpecialIfBound? (.ref a) (Str.ofString "__repr__")) (wpAny_callSpecialIfBound?_slotG (name := Str.ofString "__repr__") hTy F.slot_tuple_repr (call_tupZ hTy (by exact hg) ha hd hT (fun u tk => ?_) hsz))
  refine wpAny_bind (wpAny_isInstance (T := "str") (b := true) rfl isSubtype_str_str ?_)
  exact wpAny_pure ⟨_, rfl, hQ u tk⟩
theorem repr_nil {Q : Value → Shared → Prop} (hu : A.units + 1 < cLine) (hTy : s.TypeIs (.ref a) "list")
    (ha : s.heap.get? a = some o) (hd : o.data = .seq #[] n) (hQ : ∀ u tk, Q (.str "[]" u) { s with toks := tk }) :
    wpAny (model prog w) A (call (.builtin "repr") [.ref a]) Q E s := by
  refine Calls.call_function_entry F.kind_repr F.plain_repr F.entry_repr (F.args_repr1 _) ?_
  unfold Builtin.«repr»
  refine wpAny_bind (m := oneArg "repr" _) (wpAny_pure ?_)
  refine wpAny_bind (wpAny_cRoomFor (by exact hu) ?_)
  refine wpAny_bind (wpAny_specialOf (name := Str.ofString "__repr__") hTy F.slot_list_repr.lookup ?_)
  refine wpAny_bind (m := callSpecialIfBound? (.ref a) (Str.ofString "__repr__")) (wpAny_callSpecialIfBound?_slot (name := Str.ofString "__repr__") hTy F.slot_list_repr (call_list_repr_empty hTy ha hd ?_))
  refine wpAny_bind (wpAny_isInstance (T := "str") (b := true) rfl isSubtype_str_str ?_)
  exact wpAny_pure ⟨_, rfl, hQ _ _⟩
end
/-- repr(x): x plain, or a tuple of one int, or an empty list -/
def ReprG (K : PySem.W.Frag) (g : List Code) (H : Hp) (v : V) (z : Str) : Prop := ReprV v z ∨ (∃ a i, v = .ref a ∧ H a = some (.tup [.int i]) ∧ i.natAbs.log2 < 1920 ∧ (tupleText [Str.ofString (toString i)]).length ≤ sizeLine ∧ z = tupZ g a [Str.ofString (toString i)]) ∨ ∃ a, v = .ref a ∧ H a = some (.lst []) ∧ z = "[]"
theorem ReprG.mono {K : PySem.W.Frag} {g : List Code} {H H' : Hp} {v : V} {z : Str} (h : ReprG K g H v z) (s : Same H H') : ReprG K g H' v z := by
  rcases h with h | ⟨a, i, e1, e2, e3⟩ | ⟨a, e1, e2, e3⟩
  · exact .inl h
  · exact .inr (.inl ⟨a, i, e1, s _ _ e2, e3⟩)
  · exact .inr (.inr ⟨a, e1, s _ _ e2, e3⟩)
def rReprG (K : PySem.W.Frag) (g : List Code) : List V → Hp → VK → Prop := fun xs H Q => ∃ x s, xs = [x] ∧ ReprG K g H x s ∧ Q (.str s) H
theorem call_reprG {X : Cx} {g : List Code} {K : PySem.W.Frag} (eK : X.K = K) (hu : X.A.units + 1 < cLine) (hg : X.A.guards = some g) : CallR X (.builtin "repr") (rReprG K g) := by
  intro pins s σ H xs us Q I r h
  obtain ⟨x, z, rfl, hz, q⟩ := h
  rcases hz with hz | ⟨a, i, rfl, ha, hi, hl, rfl⟩ | ⟨a, rfl, ha, rfl⟩
  · exact call_reprN pins s σ H [x] us Q I r ⟨x, z, rfl, hz, q⟩
  · cases r with
    | cons rx rr =>
      cases rr
      cases rx
      obtain ⟨its, rv, pl, hz⟩ := I.tuple (SqT.of (K := X.K) ha)
      obtain ⟨o, ho, hc, n, hd⟩ := pl
      cases rv with
      | cons r1 r2 =>
        cases r2
        obtain ⟨t, rfl⟩ := r1
        refine repr_tupZ hu ⟨o, ho, hc⟩ hg ho hd (.cons (ReprIs.int t hi) .nil) (fun u tk => ?_) hl
        exact ⟨.str _, H, I.kept (t' := tk) fun _ _ z => z, ⟨_, rfl⟩, q⟩
  · cases r with
    | cons rx rr =>
      cases rr
      cases rx
      obtain ⟨its, rv, pl, hz⟩ := I.list (SqL.of (K := X.K) ha)
      obtain ⟨o, n, ho, hc, hdd, hd⟩ := pl
      cases rv
      refine repr_nil hu ⟨o, ho, hc⟩ ho (by simpa using hd) (fun u tk => ?_)
      exact ⟨.str _, H, I.kept (t' := tk) fun _ _ z => z, ⟨_, rfl⟩, q⟩
theorem tyX_at {K : PySem.W.Frag} {H H' : Hp} {x : V} {t : Value} (h : TyX K H x t) (s : ∀ b o, x = .ref b → H b = some o → H' b = some o) : TyX K H' x t := by
  cases h with
  | base b =>
    cases b with
    | non => exact .base .non
    | bl b => exact .base (.bl b)
    | int i => exact .base (.int i)
    | str y => exact .base (.str y)
    | flt y => exact .base (.flt y)
    | lst e => exact .base (.lst (s _ _ rfl e))
    | frz e => exact .base (.frz (s _ _ rfl e))
    | tup e => exact .base (.tup (s _ _ rfl e))
    | dK e => exact .base (.dK (s _ _ rfl e))
    | dT e => exact .base (.dT (s _ _ rfl e))
    | ins e a b c d f => exact .base (.ins (s _ _ rfl e) a b c d f)
  | byt b => exact .byt b
  | set e => exact .set (s _ _ rfl e)
  | kList e c => exact .kList e c
  | kTuple e c => exact .kTuple e c
  | kDict e c => exact .kDict e c
  | fTuple e => exact .fTuple (s _ _ rfl e)
  | fDict e => exact .fDict (s _ _ rfl e)
theorem wh_at {K : PySem.W.Frag} {H H' : Hp} {x : V} (h : Wh K H x) (s : ∀ b o, x = .ref b → H b = some o → H' b = some o) : Wh K H' x := let ⟨t, b, c, ty, r⟩ := h; ⟨t, b, c, tyX_at ty s, r⟩
/-- a pair of ends, or None -/
def PV (H : Hp) (v : V) : Option PP → Prop
  | none => v = .non
  | some (x, y) => ∃ a, v = .ref a ∧ H a = some (.tup [ov x, ov y])
def dPO : Option PP → PyData
  | none => .none
  | some (x, y) => .tuple [dO x, dO y]
theorem PV.mono {H H' : Hp} {v : V} {o : Option PP} (h : PV H v o) (s : Same H H') : PV H' v o := by
  cases o with
  | none => exact h
  | some p => obtain ⟨a, e, q⟩ := h; exact ⟨a, e, s _ _ q⟩
theorem PV.dp {K : PySem.W.Frag} {H : Hp} {v : V} {o : Option PP} (h : PV H v o) : Dp K H v (dPO o) := by
  cases o with
  | none => cases h; exact .non
  | some p => obtain ⟨a, rfl, q⟩ := h; exact .tup (SqT.of q) (.cons dp_ov (.cons dp_ov .nil))
theorem sh_dPO {n : Nat} {o : Option PP} : ShN (n + 1) (dPO o) := by
  cases o with
  | none => exact .non
  | some p => exact (ShN.tuple (n := 0) fun d hd => by
      simp only [List.mem_cons, List.not_mem_nil, or_false] at hd
      rcases hd with rfl | rfl <;> exact sh_dO).up (by omega)
theorem eqv_dO {a b : Option Int} : PyData.eqv (dO a) (dO b) = decide (a = b) := by
  cases a <;> cases b <;> simp [dO, PyData.eqv]
  rename_i x y
  by_cases h : x = y <;> simp [h]
theorem eqv_dPO {a b : Option PP} : PyData.eqv (dPO a) (dPO b) = decide (a = b) := by
  cases a with
  | none => cases b <;> simp [dPO, PyData.eqv]
  | some p => cases b with
    | none => simp [dPO, PyData.eqv]
    | some q =>
      obtain ⟨x, y⟩ := p
      obtain ⟨u, v⟩ := q
      simp only [dPO, PyData.eqv, PyData.eqvAll, eqv_dO, Bool.and_true]
      by_cases h1 : x = u <;> by_cases h2 : y = v <;> simp [h1, h2]
theorem eqP {K : PySem.W.Frag} {H : Hp} {R : VK} {v v' : V} {o o' : Option PP} (h : PV H v o) (h' : PV H v' o') (r : R (.bl (decide (o = o'))) H) : rEqD K v v' H R := ⟨_, _, h.dp, h'.dp, (sh_dPO (n := 0)).ok, (sh_dPO (n := 0)).ok, by rw [eqv_dPO]; exact r⟩
theorem neP {K : PySem.W.Frag} {H : Hp} {R : VK} {v v' : V} {o o' : Option PP} (h : PV H v o) (h' : PV H v' o') (r : R (.bl (!decide (o = o'))) H) : rNeD K v v' H R := ⟨_, _, h.dp, h'.dp, (sh_dPO (n := 0)).ok, (sh_dPO (n := 0)).ok, by rw [eqv_dPO]; exact r⟩
/-- as LamF.okF; the body knows which calls that tell are under way -/
theorem LamF.okFg {P : Program} {w : World} {K : PySem.W.Frag} {mg : Str → Option Value} {base : Heap} {x : Str} {st : Stmt} {N ps : List Str} {k : Nat} {sp : Sp} (F : LamF K mg x st) (S : FnScope N ps (defScope st))
    (hbind : ∀ (kV doc pm : Value) (an : Option Addr) (cdv ct : Value) (us : List Value), us.length = ps.length → bindArgs (PySem.W.fnOf x x (defArgs st) (defBody st) (defScope st) .none kV doc pm an cdv ct) ⟨us, []⟩ = pure (ps.zip us))
    (len : ∀ vs H Q E, sp vs H Q E → vs.length = ps.length)
    (hbody : ∀ (f : Addr) (A : Around) (outer : List Env) (s : Shared) (H : Hp) (vs : List V) (Q : VK) (E : XK) (g : List Code), A.guards = some g → Room k (A.deeper (envOfC x (defScope st) s.heap.objs.size f (.ref (cOf K x)))) → sp vs H Q E →
      ∃ t, PSs (cxOf (L2.CX P w) P w K mg base N x (defScope st) f (.ref (cOf K x)) A outer s H E) (defBody st) t ∧ t { nx := fun _ H' => Q .non H', rt := Q } (L2.start N vs) H) : OkF P w K mg base (L2.CX P w) (k + 1) x ps sp := by
  obtain ⟨f, oc, od, kV, doc, pm, an, ct, osl, g, kp, lk, hcd⟩ := F.ex
  refine ⟨f, _, g, kp,   .all (hbind kV doc pm an (.ref (cOf K x)) ct), len, fun A outer s H args us vs Q E hr e0 hb r hsp => codeAny_guards fun g => ?_⟩
  refine LamX.run_ofS (N := N) (vs := vs) lk hcd S (A := { A with guards := some g }) ⟨hr.hd, hr.dp, hr.un⟩ ⟨e0.frames, e0.mod, e0.bs, e0.bsz, e0.funs, e0.frf, e0.hok, e0.bare⟩ hb r (len _ _ _ _ hsp) fun hr2 => ?_
  exact hbody f { A with guards := some g } outer s H vs Q E g rfl hr2 hsp
end Iz
/-! La -/
set_option Elab.async false
set_option linter.all false
set_option maxRecDepth 100000
set_option maxHeartbeats 4000000
namespace LamX
open PySem PySem.Spec PyProof.Rows L2
/-! ### a lambda of one parameter, handed to a def that calls it -/
/-- one parameter, no other name of its own: captured ones and globals -/
structure LamP (sc scope : Scope) (p : Str) : Prop where
  kind : scope.kind = .function
  co : scope.isCoroutine = false
  gen : scope.isGenerator = false
  par : scope.names.lookup p = some .local
  own : ∀ y ∈ scope.names, (y.2 = .local → y.1 = p) ∧ y.2 ≠ .cell
  free : ∀ y ∈ scope.names, y.2 = .free → sc.names.lookup y.1 = some .cell ∨ sc.names.lookup y.1 = some .free
def lamPB (sc scope : Scope) (p : Str) : Bool :=
  decide (scope.kind = .function) && !scope.isCoroutine && !scope.isGenerator && decide (scope.names.lookup p = some .local) && scope.names.all fun y => (!decide (y.2 = .local) || decide (y.1 = p)) && !decide (y.2 = .cell) && (!decide (y.2 = .free) || decide (sc.names.lookup y.1 = some .cell) || decide (sc.names.lookup y.1 = some .free))
theorem lamP_by {sc scope : Scope} {p : Str} (h : lamPB sc scope p = true) : LamP sc scope p := by
  unfold lamPB at h
  simp only [Bool.and_eq_true, Bool.or_eq_true, Bool.not_eq_true', decide_eq_true_eq, decide_eq_false_iff_not, List.all_eq_true] at h
  obtain ⟨⟨⟨⟨h1, h2⟩, h3⟩, h5⟩, h4⟩ := h
  refine ⟨h1, h2, h3, h5, fun y hy => ⟨fun e => ?_, (h4 y hy).1.2⟩, fun y hy e => ?_⟩
  · rcases (h4 y hy).1.1 with z | z
    · exact absurd e z
    · exact z
  · rcases (h4 y hy).2 with (z | z) | z
    · exact absurd e z
    · exact .inl z
    · exact .inr z
theorem LamP.has {X : Cx} {scope : Scope} {p : Str} (L : LamP X.env.scope scope p) (ok : X.Ok) : ∀ y ∈ scope.names, y.2 = .free → ∃ c, X.env.cells.lookup y.1 = some c := fun y hy e => by
  rcases L.free y hy e with k | k
  · exact ok.has _ (.inl k)
  · exact ok.has _ (.inr k)
/-- the context of the lambda's body: the maker's slots, behind them the parameter's -/
def lamCxP (X : Cx) (A : Around) (outer : List Env) (s : Shared) (H : Hp) (E : XK) (scope : Scope) (f c' : Addr) (p : Str) : Cx where
  prog := X.prog
  w := X.w
  K := X.K
  mg := X.mg
  base := X.base
  A := A.deeper (lamEnv X scope s.heap.objs.size f c')
  N := X.N ++ [p]
  s_0 := s
  H_0 := H
  env := lamEnv X scope s.heap.objs.size f c'
  outer := outer
  stack := lamEnv X scope s.heap.objs.size f c' :: outer
  ex := []
  fn := fun _ => false
  calm := true
  pn := []
  xe := fun e s' => wpAny (model X.prog X.w) (A.deeper (lamEnv X scope s.heap.objs.size f c')) (leaving (lamEnv X scope s.heap.objs.size f c') e) (fun _ s'' => L2.CX X.prog X.w outer H s E e s'') (fun e' s'' => L2.CX X.prog X.w outer H s E e' s'') s'
section
variable {X : Cx} {pins : List (Addr × Obj)} {σ : L2.St} {H HZ : Hp} {s s1 : Shared}
theorem lam_startP {A : Around} {outer : List Env} {E : XK} {scope : Scope} {f c' : Addr} {h₁ : Heap} {tk : Nat} {p : Str} {u : Value} {v : V} (I : Inv X pins σ H s) (L : LamP X.env.scope scope p) (hp : p ∉ X.N) (e0 : Env0 X.prog X.w X.K X.mg X.base A outer s1 HZ) (hd : A.handled = none)
    (un : Un (frs X.stack) [] H HZ s.heap s1.heap) (hns : h₁.Ns s1.heap.objs.size fun y => ([(p, u)] : List (Str × Value)).reverse.lookup y) (rv : RelV v u) (kp : ∀ b o, s1.heap.get? b = some o → h₁.get? b = some o) :
    Inv (lamCxP X A outer s1 HZ E scope f c' p) [] (σ ++ [some v]) HZ { s1 with heap := h₁, toks := tk } := by
  have hfree := L.has I.ok
  have cm : ∀ {y c}, (cloFrom X.env.cells scope.names []).lookup y = some c → X.env.cells.lookup y = some c := fun {y c} e => by
    rcases cloFrom_mem (PySem.mem_of_lookup e) with hm | ⟨h1, h2⟩
    · cases hm
    · obtain ⟨c1, hc⟩ := hfree _ h1 rfl
      have hc : X.env.cells.lookup y = some c1 := hc
      have e2 : c = c1 := by
        rw [h2, hc] <;> rfl
      rw [e2]
      exact hc
  have look : ∀ {y}, scope.names.lookup y = some .free → ∃ c, (cloFrom X.env.cells scope.names []).lookup y = some c := fun {y} hl => by
    have hy : (y, NameKind.free) ∈ scope.names := PySem.mem_of_lookup hl
    exact mem_lookup (cloFrom_has (cells := X.env.cells) (acc := []) hy)
  have cellK : ∀ {c : Addr} {v : Option Value}, H c = none → s.heap.IsCell c v → h₁.IsCell c v := fun {c v} n ⟨o, ho, hd⟩ => by
    obtain ⟨sl, q⟩ := un.any ho n (by simp)
    exact ⟨_, kp _ _ q, hd⟩
  have noA : ∀ b : Addr, b ∉ (lamCxP X A outer s1 HZ E scope f c' p).ex := fun b z => absurd (show b ∈ ([] : List Addr) from z) (by simp)
  refine ⟨⟨e0.mod, L.kind, rfl, rfl, Nat.le_refl _, fun y z c e1 e2 => I.ok.inj y z c (cm e1) (cm e2), fun y hy => ?_, fun y c z _ => ?_, fun _ => hd, Around.frames_deeper e0.frames, .inr ⟨rfl, rfl⟩, fun b z => absurd z (noA b), e0.bs, e0.bsz, fun b _ _ => noA b,
      fun b z => absurd z (noA b), e0.funs, e0.frf⟩,
    rfl, e0.bare, Un.kept kp, ⟨_, hns, fun i y v' e1 e2 e3 => ?_⟩, fun y c e => ?_, e0.hok.fresh (Nat.le_refl _), fun y c e => ?_, fun q hq => absurd (show q ∈ ([] : List (Addr × Obj)) ++ [] from hq) (by simp), e0.hok.kept kp, ?_⟩
  · have hy : scope.names.lookup y = some .cell ∨ scope.names.lookup y = some .free := hy
    rcases hy with hy | hy
    · exact absurd rfl (L.own _ (PySem.mem_of_lookup hy)).2
    · exact look hy
  · have z : false = true := z
    cases z
  · have e3 : Vis scope y := e3
    have e1 : (X.N ++ [p])[i]? = some y := e1
    have hl := I.len
    by_cases hi : i < X.N.length
    · rw [List.getElem?_append_left hi] at e1
      rw [List.getElem?_append_left (by omega)] at e2
      rcases e3 with k | k | k
      · have := (L.own _ (PySem.mem_of_lookup k)).1 rfl
        exact absurd (List.mem_of_getElem? e1) (by rw [show y = p from this]; exact hp)
      · exact absurd rfl (L.own _ (PySem.mem_of_lookup k)).2
      · obtain ⟨m, hn, hl⟩ := I.loc
        have hvis : Vis X.env.scope y := (L.free _ (PySem.mem_of_lookup k) rfl).elim (fun k => .inr (.inl k)) (fun k => .inr (.inr k))
        obtain ⟨w', r, q⟩ := hl i y v' e1 e2 hvis
        obtain ⟨c2, h2⟩ := look k
        refine ⟨w', r, .inr ⟨.inr k, c2, h2, ?_⟩⟩
        have c1 := cm h2
        rcases q with ⟨k', _⟩ | ⟨_, c3, e', z⟩
        · have k' : X.env.scope.names.lookup y = some .local := k'
          rcases L.free _ (PySem.mem_of_lookup k) rfl with k2 | k2 <;> rw [show X.env.scope.names.lookup y = _ from k2] at k' <;> cases k'
        · rw [c1] at e'
          cases e'
          exact cellK (I.freeC y _ c1) z
    · rw [List.getElem?_append_right (by omega)] at e1 e2
      have h0 : i - X.N.length = 0 := by
        have := (List.getElem?_eq_some_iff.mp e1).1
        simp at this
        omega
      rw [h0] at e1
      rw [show i - σ.length = 0 by omega] at e2
      simp at e1 e2
      subst e1 e2
      exact ⟨u, rv, .inl ⟨L.par, by simp⟩⟩
  · obtain ⟨w', z⟩ := I.cell y c (cm e)
    exact ⟨w', cellK (I.freeC y c (cm e)) z⟩
  · obtain ⟨v, o, ho, hd⟩ := I.cell y c (cm e)
    exact un.free c o ho (I.freeC y c (cm e)) (by simp)
  · show (σ ++ [some v]).length = (X.N ++ [p]).length
    rw [List.length_append, List.length_append, I.len]
    rfl
/-- a(e), in the def that got the lambda -/
theorem pe_actP {CXg : CXT} {Eg : XK} {Ng : List Str} {qg : Str} {sg : Scope} {g f c' : Addr} {cdg pm ctv : Value} {params : Arguments} {body : Expr} {scope : Scope} {k i : Nat} {a p : Str} {tb : TE} {p1 p2 : Pos} {e : Expr} {ta : TA}
    (I : Inv X pins σ H s) (L : LamP X.env.scope scope p) (hp : p ∉ X.N) (hf : s.heap.get? f = some (PySem.W.kla_obj "<lambda>" (X.env.qual ++ "<lambda>") params body scope (cloFrom X.env.cells scope.names []) pm c' ctv)) (hfn : H f = none) (hfr : f ∉ frs X.stack)
    (hbind : ∀ u : Value, bindArgs (PySem.W.kla_fn "<lambda>" (X.env.qual ++ "<lambda>") params body scope (cloFrom X.env.cells scope.names []) pm (.ref c') ctv) ⟨[u], []⟩ = pure [(p, u)])
    (hr : Room (k + 1) (X.A.deeper (envOfC qg sg s.heap.objs.size g cdg)))
    (hbody : ∀ (A : Around) (outer : List Env) (s : Shared) (H : Hp), Room k (A.deeper (lamEnv X scope s.heap.objs.size f c')) → PE (lamCxP X A outer s H (fun _ _ _ => False) scope f c' p) body tb)
    (hN : Ng[i]? = some a) (hv : Vis sg a) (hd : (a == ("__debug__" : Str)) = false) (hcd : (a == ("__classdict__" : Str)) = false)
    (ha : PA (cxOf CXg X.prog X.w X.K X.mg X.base Ng qg sg g cdg X.A X.stack s H Eg).nox [e] ta)
    (he : starEach [e] (envOfC qg sg s.heap.objs.size g cdg) = (false, eval e (envOfC qg sg s.heap.objs.size g cdg)) :: starEach [] (envOfC qg sg s.heap.objs.size g cdg)) :
    PE (cxOf CXg X.prog X.w X.K X.mg X.base Ng qg sg g cdg X.A X.stack s H Eg).nox (.Call (.Name a p1) [e] [] p2)
      (fun σZ HZ Q => σZ[i]? = some (some (.ref f)) ∧ ta σZ HZ fun vs H1 => ∃ v, vs = [v] ∧ H1 c' = some (CodeO c' (X.env.qual ++ "<lambda>")) ∧ tb (σ ++ [some v]) H1 Q) := by
  refine ⟨fun pinsZ sZ σZ HZ Q IZ h => ?_⟩
  obtain ⟨hs, ht⟩ := h
  refine wpAny_Call_Name_kw (thn ((pe_var (X := (cxOf CXg X.prog X.w X.K X.mg X.base Ng qg sg g cdg X.A X.stack s H Eg).nox) (pos := p1) (i := i) hN hv hd hcd).run pinsZ sZ σZ HZ (fun v H1 => v = .ref f ∧ H1 = HZ) IZ ⟨.ref f, hs, rfl, rfl⟩) fun u s1 ⟨v, H1, I1, r1, q1⟩ => ?_)
  obtain ⟨ev, eH⟩ := q1
  subst ev
  rw [eH] at I1
  obtain rfl : u = Value.ref f := r1
  have of1 : s1.heap.get? f = some (PySem.W.kla_obj "<lambda>" (X.env.qual ++ "<lambda>") params body scope (cloFrom X.env.cells scope.names []) pm c' ctv) := I1.base.keep f _ hf hfn hfr (fun z => nomatch (show f ∈ ([] : List Addr) from z))
  refine PySem.W.callWith_F (first := []) ⟨_, _, _, _, of1⟩ (thn (ha.run p2 pinsZ s1 σZ HZ _ I1 ht) fun us s2 ⟨vs, H2, I2, r2, v, ev, hc, ht2⟩ => ?_) he rfl
  subst ev
  have of2 : s2.heap.get? f = some (PySem.W.kla_obj "<lambda>" (X.env.qual ++ "<lambda>") params body scope (cloFrom X.env.cells scope.names []) pm c' ctv) := I2.base.keep f _ hf hfn hfr (fun z => nomatch (show f ∈ ([] : List Addr) from z))
  refine ⟨⟨_, _, _, _, of2⟩, ?_⟩
  obtain ⟨u, rfl, rv⟩ := vals1 r2
  show wpAny _ _ (call (.ref f) [u]) _ _ _
  have un : Un (frs X.stack) [] H H2 s.heap s2.heap := I2.base
  obtain ⟨⟨oc, vs, t, hoc, hdc, hvc⟩, _, _⟩ := I2.hok c' _ hc
  have rc : codeAny (model X.prog X.w) (X.A.deeper (envOfC qg sg s.heap.objs.size g cdg)) (.call (.ref f) ⟨[u], []⟩) (CR (L2.CX X.prog X.w) (envOfC qg sg s.heap.objs.size g cdg :: X.stack) X.prog X.w H2 s2 Q (fun _ _ _ => False)) s2 := by
    refine PySem.W.kla_callFunE hr.depth of2 rfl L.co L.gen rfl ⟨c', oc, vs, t, rfl, hoc, hdc, hvc⟩ ?_
    rw [hbind]
    refine wpAny_pure (wpAny_newFunctionEnv (fun y hy => (L.own y hy).2) (fun y hy => by rw [List.mem_singleton.mp hy]; exact L.par) (fun h₁ hns hsb => ⟨I2.nolimit.fresh _ hsb, ?_⟩) L.kind)
    show codeAny _ _ (.expr body (lamEnv X scope s2.heap.objs.size f c')) _ _
    have kp : ∀ b o, s2.heap.get? b = some o → h₁.get? b = some o := fun b o e => hsb.extBut b o (Nat.ne_of_lt (Heap.lt_size e)) (Heap.get?_push_of_some _ e)
    have J : Inv (lamCxP X (X.A.deeper (envOfC qg sg s.heap.objs.size g cdg)) (envOfC qg sg s.heap.objs.size g cdg :: X.stack) s2 H2 (fun _ _ _ => False) scope f c' p) [] (σ ++ [some v]) H2 { s2 with heap := h₁, toks := s2.toks + ([(p, u)] : List (Str × Value)).length } :=
      lam_startP I L hp I2.env0 hr.hd un hns rv kp
    refine PySem.W.kla_codeExpr (wpAny_mono ((hbody _ _ s2 H2 (hr.deeper _)).run [] _ _ H2 Q J ht2) (fun v s' hq => ?_) fun e s' hq => hq)
    obtain ⟨w', H', J', rv, q⟩ := hq
    exact ⟨w', H', J'.os, J'.bare, J'.base, J'.hok, rv, q⟩
  refine wpAny_call (codeAny_mono rc fun r s' hq => ?_)
  cases r with
  | error e => obtain ⟨_, _, _, _, _, _, _, _, _, _, _, _, z⟩ := hq; exact z.elim
  | ok fl =>
    cases fl with
    | ret u => exact I2.after hq
    | next => exact False.elim hq
    | brk => exact False.elim hq
    | cont => exact False.elim hq
end
/-- the def that calls what it got at its i-th place (of three): TT: what it makes of the lambda's reading -/
def GivesP (X : Cx) (Ng : List Str) (x : Str) (sg : Scope) (g : Addr) (cdg : Value) (bg : List Stmt) (a : Str) (q : Str) (TT : (V → Hp → VK → Prop) → V → V → Hp → VK → Prop) : Prop :=
  ∀ (f c' : Addr) (s : Shared) (H : Hp) (v1 v3 : V) (Q : VK) (tl : V → Hp → VK → Prop),
    (∀ (e : Expr) (ta : TA) (p1 p2 : Pos), PA (cxOf C8.CX0 X.prog X.w X.K X.mg X.base Ng x sg g cdg X.A X.stack s H C8.E0).nox [e] ta →
      starEach [e] (envOfC x sg s.heap.objs.size g cdg) = (false, eval e (envOfC x sg s.heap.objs.size g cdg)) :: starEach [] (envOfC x sg s.heap.objs.size g cdg) →
      PE (cxOf C8.CX0 X.prog X.w X.K X.mg X.base Ng x sg g cdg X.A X.stack s H C8.E0).nox (.Call (.Name a p1) [e] [] p2) (fun σZ HZ Q => σZ[1]? = some (some (.ref f)) ∧ ta σZ HZ fun vs H1 => ∃ v, vs = [v] ∧ H1 c' = some (CodeO c' q) ∧ tl v H1 Q)) →
    H c' = some (CodeO c' q) → Room 8 (X.A.deeper (envOfC x sg s.heap.objs.size g cdg)) → TT tl v1 v3 H Q →
    ∃ t, PSs (cxOf C8.CX0 X.prog X.w X.K X.mg X.base Ng x sg g cdg X.A X.stack s H C8.E0).nox bg t ∧ t { nx := fun _ H' => Q .non H', rt := Q } (L2.start Ng [v1, .ref f, v3]) H
def tLam3 (T : List (Addr × Str)) (q : Str) (TT : (V → Hp → VK → Prop) → V → V → Hp → VK → Prop) (t1 t3 t : TE) : TE := fun σ H Q => t1 σ H fun v1 H1 => Tabs T H1 ∧ ∀ H2 c', ExtN H1 H2 → Tabs T H2 → H2 c' = some (CodeO c' q) →
  t3 σ H2 fun v3 H3 => H3 c' = some (CodeO c' q) ∧ TT (fun v H' Q' => t (σ ++ [some v]) H' Q') v1 v3 H3 Q
section
variable {X : Cx}
/-- x(e1, lambda p: body, e3) -/
theorem pe_lamcall3 {T : List (Addr × Str)} {TT : (V → Hp → VK → Prop) → V → V → Hp → VK → Prop} {x a p0 : Str} {g c P : Addr} {pg : Arguments} {bg : List Stmt} {sg : Scope} {dV kV doc pm cdv ct oc : Value} {an od : Option Addr} {osl : Array (Option Value)} {Ng ps : List Str}
    {params : Arguments} {body e1 e3 : Expr} {scope : Scope} {t1 t3 t : TE} {p lpos pos : Pos} (hg : Gl X x) (hm : X.mg x = some (.ref g)) (hk : PySem.W.keepIn X.K (.ref g) = true)
    (lk : X.K.lookup g = some ⟨oc, od, .func (PySem.W.fnOf x x pg bg sg dV kV doc pm an cdv ct), osl⟩) (hcg : PySem.W.codeIn X.K cdv x = true) (hb : L2.Binds X.K (PySem.W.fnOf x x pg bg sg dV kV doc pm an cdv ct) ps []) (Sg : FnScope Ng ps sg) (hps : ps.length = 3) (hNg : Ng[1]? = some a) (hva : Vis sg a)
    (hG : GivesP X Ng x sg g cdv bg a (X.env.qual ++ "<lambda>") TT)
    (TB : TabB X.base X.mg c P) (hcode : X.env.code = .ref c) (hmT : (P, X.env.qual ++ "<lambda>") ∈ T) (hu : ∀ p ∈ T, p.1 = P → p.2 = X.env.qual ++ "<lambda>") (hr : Room 9 X.A) (L : LamP X.env.scope scope p0) (hp0 : p0 ∉ X.N) (hdef : defaultsOf params X.env = ([], []))
    (hbind : ∀ (q : Str) (cl : List (Str × Addr)) (pm cv ctv u : Value), bindArgs (PySem.W.kla_fn "<lambda>" q params body scope cl pm cv ctv) ⟨[u], []⟩ = pure [(p0, u)])
    (h1 : PE X e1 t1) (h3 : PE X e3 t3)
    (hbody : ∀ (A : Around) (outer : List Env) (s : Shared) (H : Hp) (f c' : Addr), Room 7 (A.deeper (lamEnv X scope s.heap.objs.size f c')) → PE (lamCxP X A outer s H (fun _ _ _ => False) scope f c' p0) body t)
    (he1 : starEach [e1, .Lambda params body scope lpos, e3] X.env = (false, eval e1 X.env) :: starEach [.Lambda params body scope lpos, e3] X.env := by rfl) (he2 : starEach [.Lambda params body scope lpos, e3] X.env = (false, eval (.Lambda params body scope lpos) X.env) :: starEach [e3] X.env := by rfl)
    (he3 : starEach [e3] X.env = (false, eval e3 X.env) :: starEach [] X.env := by rfl) (hpl : (backTo pos (starEach [.Lambda params body scope lpos, e3] X.env)).any (·.1) = false := by rfl)
    (hdb : (x == ("__debug__" : Str)) = false := by decide) (hd : (a == ("__debug__" : Str)) = false := by decide) (hcd : (a == ("__classdict__" : Str)) = false := by decide) :
    PE X (.Call (.Name x p) [e1, .Lambda params body scope lpos, e3] [] pos) (tLam3 T (X.env.qual ++ "<lambda>") TT t1 t3 t) := by
  refine ⟨fun pins s σ H Q I h => ?_⟩
  refine wpAny_Call_Name_kw (ld_glob I hg hm ?_ hdb)
  refine PySem.W.callWith_K (h₀ := X.base) I.ok.mod.kin hk ?_ he1 hpl
  rw [he1]
  show wpAny _ _ (spliced ((false, eval e1 X.env) :: backTo pos (starEach [.Lambda params body scope lpos, e3] X.env))) _ _ s
  rw [he2]
  show wpAny _ _ (spliced ((false, eval e1 X.env) :: (false, eval (.Lambda params body scope lpos) X.env) :: backTo pos (starEach [e3] X.env))) _ _ s
  rw [he3]
  show wpAny _ _ (spliced ((false, eval e1 X.env) :: (false, eval (.Lambda params body scope lpos) X.env) :: (false, eval e3 X.env) :: backTo pos (starEach [] X.env))) _ _ s
  refine Calls.spliced_cons (thn (h1.run pins s σ H _ I h) fun u1 s1 ⟨v1, H1, I1, r1, hT, h⟩ => ?_)
  refine Calls.spliced_cons (lam_make2 I1 TB hcode hmT hu hT hdef (L.has I1.ok) fun f c' pm' ctv H2 s2 I2 eN T2 hf hfn hfr hco => ?_)
  have nl : f ≠ X.env.locals := by
    rintro rfl
    obtain ⟨m, hn, _⟩ := I2.loc
    obtain ⟨o, es, ep, ho, hc, hd, _⟩ := hn
    rw [hf] at ho
    cases ho
    cases hc
  have nfs : f ∉ X.fs := by
    rcases I2.ok.stk with e | ⟨e, _⟩
    · rw [e] at hfr; exact hfr
    · rw [e] at hfr; exact fun z => hfr (List.mem_filterMap.mpr (let ⟨e, he, q⟩ := List.mem_filterMap.mp z; ⟨e, .tail _ he, q⟩))
  generalize ho : PySem.W.kla_obj "<lambda>" (X.env.qual ++ "<lambda>") params body scope (cloFrom X.env.cells scope.names []) pm' c' ctv = ob at hf
  have nd : ∀ v, ob.data ≠ .cell v := fun v z => by rw [← ho] at z; cases z
  have pin2 : ∀ q ∈ X.pn ++ (f, ob) :: pins, s2.heap.get? q.1 = some q.2 ∧ H2 q.1 = none ∧ q.1 ≠ X.env.locals ∧ q.1 ∉ X.fs ∧ ∀ v, q.2.data ≠ .cell v := fun q hq => by
    rcases List.mem_append.mp hq with h | h
    · exact I2.pin q (List.mem_append.mpr (.inl h))
    · rcases List.mem_cons.mp h with rfl | h
      · exact ⟨hf, hfn, nl, nfs, nd⟩
      · exact I2.pin q (List.mem_append.mpr (.inr h))
  have I2p : Inv X ((f, ob) :: pins) σ H2 s2 := { I2 with pin := pin2 }
  refine Calls.spliced_cons (thn (h3.run ((f, ob) :: pins) s2 σ H2 _ I2p (h H2 c' eN T2 hco)) fun u3 s3 ⟨v3, H3, I3p, r3, hco3, h⟩ => ?_)
  have pin3 : ∀ q ∈ X.pn ++ pins, s3.heap.get? q.1 = some q.2 ∧ H3 q.1 = none ∧ q.1 ≠ X.env.locals ∧ q.1 ∉ X.fs ∧ ∀ v, q.2.data ≠ .cell v := fun q hq => by
    rcases List.mem_append.mp hq with h | h
    · exact I3p.pin q (List.mem_append.mpr (.inl h))
    · exact I3p.pin q (List.mem_append.mpr (.inr (.tail _ h)))
  have I3 : Inv X pins σ H3 s3 := { I3p with pin := pin3 }
  obtain ⟨hf3, hfn3, _⟩ := I3p.pin (f, ob) (List.mem_append.mpr (.inr (.head _)))
  subst ho
  refine Calls.spliced_nil ⟨I3.kIn, ?_⟩
  have rc : codeAny (model X.prog X.w) X.A (.call (.ref g) ⟨[u1, .ref f, u3], []⟩) (CR C8.CX0 X.stack X.prog X.w H3 s3 Q C8.E0) s3 := by
    refine run_ofS (N := Ng) (ps := ps) (us := [u1, .ref f, u3]) (vs := [v1, .ref f, v3]) lk hcg Sg hr I3.env0 (hb s3 [u1, .ref f, u3] I3.kIn (by simp [hps])) (.cons r1 (.cons rfl (.cons r3 .nil))) (by simp [hps]) fun hr' => ?_
    obtain ⟨t', ht', hq'⟩ := hG f c' s3 H3 v1 v3 Q (fun v H' Q' => t (σ ++ [some v]) H' Q') (fun e ta p1 p2 ha he => pe_actP I3 L hp0 hf3 hfn3 hfr (fun u => hbind _ _ _ _ _ u) hr' (fun A outer s H hr2 => hbody A outer s H f c' hr2) hNg hva hd hcd ha he) hco3 hr' h
    exact ⟨t', ht'.nox, hq'⟩
  refine wpAny_call (codeAny_mono rc fun r s4 hq => ?_)
  cases r with
  | error e => exact (show False from hq).elim
  | ok fl =>
    cases fl with
    | ret u => exact I3.after hq
    | next => exact False.elim hq
    | brk => exact False.elim hq
    | cont => exact False.elim hq
end
end LamX
namespace Iz
open PySem PySem.Spec PyProof.Rows L2 LamX
/-- told(e1, lambda p: body, e3), told a def of the text -/
theorem plam3 {X : Cx} {TS : List (Addr × Str)} {x a p0 : Str} {st : Stmt} {N ps : List Str} {TT : (V → Hp → VK → Prop) → V → V → Hp → VK → Prop} {c P : Addr} {qn : Str} {params : Arguments} {body e1 e3 : Expr} {scope : Scope} {t1 t3 t : TE} {p lpos pos : Pos}
    (F : ∃ (f : Addr) (fd : FuncData), X.mg x = some (.ref f) ∧ Fun X.K x x st f fd) (S : FnScope N ps (defScope st))
    (hb : ∀ (kV doc pm : Value) (an : Option Addr) (cdv ct : Value) (us : List Value), us.length = ps.length → bindArgs (PySem.W.fnOf x x (defArgs st) (defBody st) (defScope st) .none kV doc pm an cdv ct) ⟨us, []⟩ = pure (ps.zip us))
    (hG : ∀ (g : Addr) (cdg : Value), GivesP X N x (defScope st) g cdg (defBody st) a qn TT)
    (hm : (P, qn) ∈ TS) (hu : ∀ q ∈ TS, q.1 = P → q.2 = qn) (TB : TabB X.base X.mg c P) (hcode : X.env.code = .ref c) (hq : X.env.qual ++ "<lambda>" = qn) (hr : Room 9 X.A) (L : lamPB X.env.scope scope p0 = true) (hp0 : p0 ∉ X.N)
    (h1 : PE X e1 t1) (h3 : PE X e3 t3)
    (hbody : ∀ (A : Around) (outer : List Env) (s : Shared) (H : Hp) (f c' : Addr), Room 7 (A.deeper (lamEnv X scope s.heap.objs.size f c')) → PE (lamCxP X A outer s H (fun _ _ _ => False) scope f c' p0) body t)
    (hps : ps.length = 3 := by rfl) (hdef : defaultsOf params X.env = ([], []) := by rfl) (hg : Gl X x := by rfl) (hv : Vis (defScope st) a := by first | exact Or.inl rfl | exact Or.inr (Or.inl rfl)) (hNa : N[1]? = some a := by rfl)
    (hbind : ∀ (q : Str) (cl : List (Str × Addr)) (pm cv ctv u : Value), bindArgs (PySem.W.kla_fn "<lambda>" q params body scope cl pm cv ctv) ⟨[u], []⟩ = pure [(p0, u)] := by intros; rfl)
    (he1 : starEach [e1, .Lambda params body scope lpos, e3] X.env = (false, eval e1 X.env) :: starEach [.Lambda params body scope lpos, e3] X.env := by rfl) (he2 : starEach [.Lambda params body scope lpos, e3] X.env = (false, eval (.Lambda params body scope lpos) X.env) :: starEach [e3] X.env := by rfl)
    (he3 : starEach [e3] X.env = (false, eval e3 X.env) :: starEach [] X.env := by rfl) (hpl : (backTo pos (starEach [.Lambda params body scope lpos, e3] X.env)).any (·.1) = false := by rfl)
    (hdb : (x == ("__debug__" : Str)) = false := by decide) (hd : (a == ("__debug__" : Str)) = false := by decide) (hcd : (a == ("__classdict__" : Str)) = false := by decide) :
    PE X (.Call (.Name x p) [e1, .Lambda params body scope lpos, e3] [] pos) (tLam3 TS qn TT t1 t3 t) := by
  subst hq
  obtain ⟨g, fd, hmg, F⟩ := F
  obtain ⟨oc, od, kV, doc, pm, an, cdv, ct, osl, rfl, lk, hcg⟩ := F.ex
  exact pe_lamcall3 hg hmg F.kp lk hcg (.all (hb kV doc pm an cdv ct)) S hps hNa hv (hG g cdv) TB hcode hm hu hr (lamP_by L) hp0 hdef hbind h1 h3 hbody he1 he2 he3 hpl hdb hd hcd
def rSlTN : V → Option Int → Option Int → Hp → VK → Prop := fun x lo hi H Q => ∃ a xs, x = .ref a ∧ H a = some (.tup xs) ∧ ¬ (HT.sIx xs.length 0 lo = 0 ∧ HT.sIx xs.length xs.length hi = xs.length) ∧ News H (.tup (cutV xs lo hi)) Q
theorem sl_tupN {X : Cx} : SlR X rSlTN := fun pins s σ H x v vl vu lo hi sl Q I rx hs pl pu ⟨a, xs, e, h, w, n⟩ => sl_tup pins s σ H x v vl vu lo hi sl Q I rx hs pl pu ⟨a, xs, e, SqT.of h, w, n.all⟩
def rCatTN : R2 := fun x y H Q => ∃ a b xs ys, x = .ref a ∧ y = .ref b ∧ H a = some (.tup xs) ∧ H b = some (.tup ys) ∧ xs ≠ [] ∧ ys ≠ [] ∧ xs.length + ys.length ≤ sizeLine ∧ News H (.tup (xs ++ ys)) Q
theorem op_catTN {X : Cx} : OpR X (binaryOp .Add) rCatTN := fun pins s σ H x y v u Q I rx ry ⟨a, b, xs, ys, e1, e2, ha, hb, hx, hy, hz, n⟩ => op_catT pins s σ H x y v u Q I rx ry ⟨a, b, xs, ys, e1, e2, SqT.of ha, SqT.of hb, hx, hz, fun e => absurd e hy, fun _ => n.all⟩
theorem st_lcT {K : PySem.W.Frag} {tl : TE} {g : TG} {tt : TT} {te : TE} {vs : List Nat} {σ : L2.St} {H : Hp} {Q : VK} {a : Addr} {xs : List V} (ha : ∀ R : V → Hp → Prop, R (.ref a) H → tl σ H R) (hx : H a = some (.tup xs)) (Pv : Addr → Nat → Hp → Prop)
    (h0 : ∀ D H1, H D = none → Same H H1 → H1 D = some (.lst []) → Pv D 0 H1) (hl : ∀ D i H, Pv D i H → H a = some (.tup xs))
    (hs : ∀ D i x H, xs[i]? = some x → Pv D i H → g x (wipe σ vs) H fun σ2 H2 => wipe σ2 vs = wipe σ vs ∧ tt σ2 H2 fun b H3 => if b = true then te σ2 H3 fun y H4 => ∃ acc, H4 D = some (.lst acc) ∧ acc.length < sizeLine ∧ Pv D (i + 1) (upd H4 D (.lst (acc ++ [y]))) else Pv D (i + 1) H3)
    (hd : ∀ D H, Pv D xs.length H → Q (.ref D) H) : tLc (iTup K tl) g tt te vs σ H Q :=
  ha _ ⟨a, rfl, ⟨xs, SqT.of hx⟩, fun D hD => lc_tup (Pv D) (h0 D _ hD (Same.upd hD) upd_same) (fun i H _ p => SqT.of (hl D i H p)) (hs D) (hd D)⟩
theorem passLamP {X : Cx} {A : Around} {outer : List Env} {s : Shared} {H : Hp} {scope : Scope} {f c : Addr} {p : Str} : Passes CX0 (lamCxP X A outer s H (fun _ _ _ => False) scope f c p) E0 := pass0
end Iz
/-! Te -/
set_option Elab.async false
set_option linter.all false
set_option maxRecDepth 100000
set_option maxHeartbeats 4000000
namespace Iz
open PySem PySem.Spec PyProof.Rows L2 LamX
open He (ga)
/-! ### tuples whose items have an own ==, alike or not -/
theorem tuple_eqB {prog : Program} {w : World} {A : Around} {R : Result → Shared → Prop} (l b : Addr) (items items2 : Array Value) (n n2 : Nat) (dd dd2 : Option Addr) (sl sl2 : Array (Option Value)) (I : Nat → Shared → Prop)
    (turn : ∀ (i : Nat) (h1 : i < items.size) (h2 : i < items2.size) (s : Shared), I i s → wpAny (model prog w) A.in1 (eqBool items[i] items2[i]) (fun r s' => (r = true ∧ I (i + 1) s') ∨ (r = false ∧ R (.ok (.ret (.bool false))) s')) (fun e s' => R (.error e) s') s)
    (fin : ∀ s, I (min items.size items2.size) s → R (.ok (.ret (.bool (items.size == items2.size)))) s) {s : Shared}
    (hl1 : s.heap.get? l = some { cls := .type "tuple", dict := dd, data := .seq items n, slots := sl }) (hb1 : s.heap.get? b = some { cls := .type "tuple", dict := dd2, data := .seq items2 n2, slots := sl2 }) (h : I 0 s) :
    wpAny (model prog w) A.in1 (Builtin.«tuple.__eq__» ⟨[.ref l, .ref b], []⟩) (GQ.FinOf prog w A R) (fun e s' => R (.error e) s') s := by
  have f2 := AutoSeq1.sub_tuple_tuple
  have hZ : (items.toList.zip items2.toList).length = min items.size items2.size := by simp
  cases s with
  | mk hp g d tk os =>
  refine wpAny_bind ?_
  refine wpAny_of_eq (show slotArgs "__eq__" 1 ⟨[.ref l, .ref b], []⟩ = pure (.ref l, [.ref b]) from rfl) ?_
  refine wpAny_bind ?_
  change wpAny _ _ (_ >>= _) _ _ _
  refine wpAny_bind ?_
  change wpAny _ _ (_ >>= _) _ _ _
  refine wpAny_bind ?_
  refine wpAny_loadPart' hb1 ?_
  refine wpAny_pure ?_
  refine wpAny_of_eq f2 ?_
  refine wpAny_ite_false (by rfl) ?_
  refine wpAny_bind ?_
  change wpAny _ _ (_ >>= _) _ _ _
  refine wpAny_bind ?_
  change wpAny _ _ (_ >>= _) _ _ _
  refine wpAny_bind ?_
  refine wpAny_load' hl1 ?_
  refine wpAny_pure (wpAny_pure ?_)
  refine wpAny_bind ?_
  change wpAny _ _ (_ >>= _) _ _ _
  refine wpAny_bind ?_
  change wpAny _ _ (_ >>= _) _ _ _
  refine wpAny_bind ?_
  refine wpAny_load' hb1 ?_
  refine wpAny_pure (wpAny_pure ?_)
  refine wpAny_bind ?_
  clear hl1 hb1
  refine wpAny_forIn_list _ (fun rest b s' => b.1 = none ∧ ∃ i, rest = (items.toList.zip items2.toList).drop i ∧ i ≤ min items.size items2.size ∧ I i s') _ ?_ ?_ _ _ ⟨rfl, 0, rfl, Nat.zero_le _, h⟩
  · rintro ⟨x, y⟩ rest ⟨b1, b2⟩ s ⟨rfl, i, e, hi, hI⟩
    have hlt : i < (items.toList.zip items2.toList).length := by
      by_cases c : i < (items.toList.zip items2.toList).length
      · exact c
      · rw [List.drop_of_length_le (by omega)] at e; cases e
    rw [List.drop_eq_getElem_cons hlt] at e
    injection e with e1 e2
    rw [List.getElem_zip] at e1
    injection e1 with ex ey
    have hm : i < items.size ∧ i < items2.size := by rw [hZ] at hlt; omega
    have t := turn i hm.1 hm.2 s hI
    have gx : x = items[i] := by rw [ex]; simp
    have gy : y = items2[i] := by rw [ey]; simp
    rw [← gx, ← gy] at t
    change wpAny _ _ (_ >>= _) _ _ _
    refine wpAny_bind (wpAny_mono t (fun r s' q => ?_) fun _ _ z => z)
    rcases q with ⟨rfl, q⟩ | ⟨rfl, q⟩
    · change wpAny _ _ (if (!true) = true then _ else _) _ _ _
      refine wpAny_ite_false (by rfl) (wpAny_pure ?_)
      exact ⟨rfl, i + 1, e2, by omega, q⟩
    · change wpAny _ _ (if (!false) = true then _ else _) _ _ _
      refine wpAny_ite_true (by rfl) ?_
      change wpAny _ _ (_ >>= _) _ _ _
      refine wpAny_bind (wpAny_pure (wpAny_pure (wpAny_pure ?_)))
      exact q
  · rintro ⟨b1, b2⟩ s ⟨rfl, i, e, hi, hI⟩
    have : i = min items.size items2.size := by
      have := congrArg List.length e
      rw [List.length_drop, hZ] at this
      simp at this
      omega
    subst this
    exact wpAny_pure (fin s hI)
theorem rc_tupB {prog : Program} {w : World} {A : Around} {E : Value → Shared → Prop} {s : Shared} {l b : Addr} {items items2 : Array Value} {Q : Value → Shared → Prop} (hu : A.units < cLine) (I : Nat → Shared → Prop) (hl : s.heap.IsTuple l items) (hb : s.heap.IsTuple b items2)
    (turn : ∀ (i : Nat) (h1 : i < items.size) (h2 : i < items2.size) (s : Shared), I i s → wpAny (model prog w) A.in1 (eqBool items[i] items2[i]) (fun r s' => (r = true ∧ I (i + 1) s') ∨ (r = false ∧ Q (.bool false) s')) E s)
    (fin : ∀ s, I (min items.size items2.size) s → Q (.bool (items.size == items2.size)) s) (h : I 0 s) : wpAny (model prog w) A (richCompare .Eq (.ref l) (.ref b)) Q E s := by
  obtain ⟨⟨cls, dd, data, sl⟩, ho, hc, n, hd⟩ := hl
  obtain ⟨⟨cls2, dd2, data2, sl2⟩, ho2, hc2, n2, hd2⟩ := hb
  dsimp only at hc hd hc2 hd2
  subst hc hd hc2 hd2
  refine wpAny_richCompare_same_room ⟨_, ho, rfl⟩ ⟨_, ho2, rfl⟩ F.slot_tuple_eq (GQ.call_here F.slot_tuple_eq ⟨_, ho, rfl⟩ F.entry_tuple_eq (F.args_tuple_eq_2 _ _) (tuple_eqB (R := wants (fun v s' => v ≠ Value.notImplemented ∧ Q v s') E) l b items items2 n n2 dd dd2 sl sl2 I (fun i h1 h2 s' q => wpAny_mono (turn i h1 h2 s' q) (fun r s2 z => ?_) fun _ _ z => z) (fun s' q => show Value.bool _ ≠ Value.notImplemented ∧ Q _ s' from ⟨(by intro x; cases x), fin s' q⟩) ho ho2 h)) hu
  rcases z with z | ⟨z1, z2⟩
  · exact .inl z
  · exact .inr ⟨z1, show Value.bool _ ≠ Value.notImplemented ∧ Q _ s2 from ⟨(by intro x; cases x), z2⟩⟩
/-- how two rows of things compare, thing by thing -/
def allEq (r : V → V → Bool) (xs ys : List V) : Bool := ((xs.zip ys).all fun p => r p.1 p.2) && (xs.length == ys.length)
def rEqTo (K : PySem.W.Frag) (C : Addr) (sp : Sp) (E : XK) : R2 := fun x y H Q => ∃ a b xs ys, x = .ref a ∧ y = .ref b ∧ H a = some (.tup xs) ∧ H b = some (.tup ys) ∧ ∃ r : V → V → Bool,
  (∀ u ∈ xs, ∀ v ∈ ys, (u = v → r u v = true) ∧ (∃ p q, u = .ref p ∧ v = .ref q) ∧ rOwn K C sp E u v H fun w H' => w = .bl (r u v) ∧ H' = H) ∧ Q (.bl (allEq r xs ys)) H
section
variable {X : Cx} {CX : CXT} {k : Nat} {x : Str} {ps : List Str} {sp : Sp} {E : XK}
theorem op_eqTo (O : OkM X.prog X.w X.K X.mg X.base CX k x "__eq__" ps [] sp) (hr : Room (k + 1) X.A) (hx : Passes CX X E) : OpR X (compareOp .Eq) (rEqTo X.K (ga X.K x) sp E) := by
  intro pins s σ H v0 y v u Q I rx ry h
  obtain ⟨a, b, xs, ys, rfl, rfl, ha, hb, r, hp, q⟩ := h
  cases rx
  cases ry
  obtain ⟨its, r1, e1, z1⟩ := I.tuple (SqT.of ha)
  obtain ⟨its2, r2, e2, z2⟩ := I.tuple (SqT.of hb)
  obtain ⟨f, fd, M, b0, F⟩ := O.ex
  obtain ⟨ds, hd, hbi⟩ := b0 0 (Nat.le_refl _)
  cases hd
  show wpAny _ _ (richCompare .Eq (.ref a) (.ref b)) _ _ _
  refine rc_tupB hr.units0 (fun i s' => Inv X pins σ H s' ∧ (((xs.zip ys).take i).all fun p => r p.1 p.2) = true) e1 e2 ?_ ?_ ⟨I, rfl⟩
  · rintro i h1 h2 s' ⟨I', hall⟩
    have k1 : i < xs.length := by have := r1.length; simp at h1; omega
    have k2 : i < ys.length := by have := r2.length; simp at h2; omega
    obtain ⟨u, hu, ru⟩ := r1.get (List.getElem?_eq_getElem k1)
    obtain ⟨v, hv, rv⟩ := r2.get (List.getElem?_eq_getElem k2)
    have g1 : its.toArray[i] = u := by simp only [List.getElem_toArray]; exact (List.getElem?_eq_some_iff.mp hu).2
    have g2 : its2.toArray[i] = v := by simp only [List.getElem_toArray]; exact (List.getElem?_eq_some_iff.mp hv).2
    rw [g1, g2]
    obtain ⟨hs, ⟨p, q', ep, eq'⟩, ho⟩ := hp xs[i] (List.getElem_mem k1) ys[i] (List.getElem_mem k2)
    have et : ((xs.zip ys).take (i + 1)).all (fun p => r p.1 p.2) = (((xs.zip ys).take i).all (fun p => r p.1 p.2) && r xs[i] ys[i]) := by
      rw [List.take_succ, List.getElem?_eq_getElem (by simp; omega), List.all_append, List.getElem_zip]
      simp
    have nay : ∀ s2, Inv X pins σ H s2 → r xs[i] ys[i] = false → EP X pins σ Q (Value.bool false) s2 := fun s2 I2 e => by
      have : allEq r xs ys = false := by
        unfold allEq
        rw [Bool.and_eq_false_iff]
        left
        rw [List.all_eq_false]
        exact ⟨(xs[i], ys[i]), List.mem_iff_getElem.mpr ⟨i, by simp; omega, by simp⟩, by simp [e]⟩
      rw [this] at q
      exact ⟨.bl false, H, I2, rfl, q⟩
    rw [et, hall, Bool.true_and]
    rw [ep] at ru ho hs nay
    rw [eq'] at rv ho hs nay
    rw [ep, eq']
    cases ru
    cases rv
    by_cases c : p = q'
    · subst c
      exact SeqAt.EqAt.same (.ref p) X.prog X.w X.xe _ (.inl ⟨rfl, I', hs rfl⟩)
    · refine GQ.eqBool_refG c ?_
      obtain ⟨a', dx, fs, ea, ha', ⟨t, ty, nf⟩, hsp⟩ := ho
      cases ea
      obtain ⟨mA, O', _⟩ := ins_get I'.hok ha'
      obtain ⟨od, J, _⟩ := O'.look
      obtain ⟨mm, hF⟩ := I'.fr
      refine PySem.W.cmp_K hr.in1.units0 hF I'.ok.mod.kin J (looksTy I' (show RelV (.ref q') (.ref q') from rfl) ty) nf M.at_ M.fn (own_callA I' F hbi hr.in1 rfl hx (show RelV (.ref q') (.ref q') from rfl) hsp fun v w H' s2 I2 rv q2 => ?_)
      obtain ⟨b2, rfl, hw, rfl⟩ := q2
      cases rv
      cases hw
      cases e : r (.ref p) (.ref q') with
      | true => exact ⟨true, rfl, .inl ⟨rfl, I2, rfl⟩⟩
      | false => exact ⟨false, rfl, .inr ⟨rfl, nay _ I2 e⟩⟩
  · rintro s' ⟨I', hall⟩
    have e : allEq r xs ys = (its.toArray.size == its2.toArray.size) := by
      unfold allEq
      have h1 := r1.length
      have h2 := r2.length
      rw [List.take_of_length_le (by simp; omega)] at hall
      rw [hall, Bool.true_and]
      simp only [List.size_toArray]
      rw [show xs.length = its.length by omega, show ys.length = its2.length by omega]
    rw [e] at q
    exact ⟨.bl _, H, I', rfl, q⟩
end
end Iz
/-! En -/
set_option Elab.async false
set_option linter.all false
set_option maxRecDepth 100000
set_option maxHeartbeats 4000000
namespace Iz
open PySem PySem.Spec PyProof.Rows L2 LamX
open He (ga)
/-! ### enumerate over a tuple -/
theorem meets_enumT (v : Value) (o : Obj) (HP : Heap → Prop) (B : Begins v o HP) : Meets (Builtin.«enumerate.__new__» ⟨[.type "enumerate", v], []⟩) fun _ R s => HP s.heap ∧
    R (.ok (.ret (.ref (s.heap.push o).objs.size))) { heap := (s.heap.push o).push { cls := .type "enumerate", data := .fields #[.none, .bool false, .ref s.heap.objs.size, rawInt 0, .none, .none] }, gens := s.gens, drawn := s.drawn, toks := s.toks, os := s.os } := by
  refine Meets.of_wp fun prog w A R s h => ?_
  obtain ⟨hl, h⟩ := h
  have hsub := sub_enumerate
  cases s with
  | mk hp g d tk os =>
  refine wpAny_bind ?_
  refine wpAny_bind ?_
  refine wpAny_pure ?_
  refine wpAny_ite_false (by rfl) ?_
  refine wpAny_bind (wpAny_of_eq hsub ?_)
  refine wpAny_ite_false (by rfl) ?_
  refine wpAny_pure ?_
  refine wpAny_ite_true (by rfl) ?_
  refine wpAny_bind ?_
  refine wpAny_bind (wpAny_stack_any fun st => ?_)
  refine wpAny_pure ?_
  have key : ∀ short : Bool, wpAny (model prog w) A.in1 (do
      let it ← pyIter v
      let r ← Builtin.SmallTypes.newRecord (Value.type "enumerate") (Builtin.SmallTypes.ownedTupleFields ++ [it, rawInt 0, Value.none, Value.none])
      PySem.ret r) (fun fin s' => ∃ v, fin = Fin.done (Flow.ret v) ∧ R (Except.ok (Flow.ret v)) s') (fun e s' => R (Except.error e) s') { heap := hp, gens := g, drawn := d, toks := tk, os := os } := fun _ => by
    refine wpAny_bind (B.iter _ _ _ _ _ _ hl ?_)
    refine wpAny_bind ?_
    refine wpAny_bind (wpAny_alloc ?_)
    exact wpAny_pure (wpAny_pure ⟨_, rfl, h⟩)
  split
  · rename_i c _ _ _ _ _
    cases c == Value.type "enumerate" with
    | false =>
      refine wpAny_ite_false (by rfl) ?_
      refine wpAny_bind ?_
      refine wpAny_of_eq (a := (v, none)) rfl ?_
      exact key false
    | true =>
      refine wpAny_ite_true (by rfl) ?_
      refine wpAny_bind ?_
      refine wpAny_of_eq (a := (v, none)) rfl ?_
      exact key true
  · refine wpAny_ite_false (by rfl) ?_
    refine wpAny_bind ?_
    refine wpAny_of_eq (a := (v, none)) rfl ?_
    exact key false
theorem call_enumT {prog : Program} {w : World} {A : Around} {E : Value → Shared → Prop} {s : Shared} {v : Value} {o : Obj} {HP : Heap → Prop} {Q : Value → Shared → Prop} (B : Begins v o HP) (hl : HP s.heap)
    (h : ∀ h' : Heap, IsEnum h' (s.heap.objs.size + 1) s.heap.objs.size 0 .none → h'.get? s.heap.objs.size = some o → h'.objs.size = s.heap.objs.size + 2 → (∀ b o, s.heap.get? b = some o → h'.get? b = some o) → Q (.ref (s.heap.objs.size + 1)) { heap := h', gens := s.gens, drawn := s.drawn, toks := s.toks, os := s.os }) :
    wpAny (model prog w) A (call (.type "enumerate") [v]) Q E s := by
  have hz := Heap.size_push s.heap o
  have he := Heap.get?_push_size (s.heap.push o) (o := { cls := .type "enumerate", data := .fields #[.none, .bool false, .ref s.heap.objs.size, rawInt 0, .none, .none] }) rfl
  rw [hz] at he
  refine callType_new F.called_enumerate (by decide) (F.typeCall_enumerate_1 v) (F.newCall_enumerate_1 v) (fun obj => F.args_object_init_2 obj v) F.entry_enumerate_new (meets_enumT v o HP B) ⟨hl, ?_⟩
  rw [hz]
  refine ⟨⟨_, he, rfl⟩, h _ he (Heap.get?_push_of_some _ (Heap.get?_push_size s.heap B.free)) ?_ fun b o x => Heap.get?_push_of_some _ (Heap.get?_push_of_some _ x)⟩
  rw [Heap.size_push, hz]
theorem inv_turned {X : Cx} {pins : List (Addr × Obj)} {σ : L2.St} {H : Hp} {s : Shared} {h' : Heap} {t' : Nat} {ch : List Addr} (I : Inv X pins σ H s) (k : ∀ b o, b ∉ ch → s.heap.get? b = some o → h'.get? b = some o) (hf : ∀ b ∈ ch, FpOk X pins H b) :
    Inv X pins σ H { heap := h', gens := s.gens, drawn := s.drawn, toks := t', os := s.os } := by
  have nit : ∀ b u, H b = some u → b ∉ ch := fun b u e z => by rw [(hf b z).1] at e; cases e
  refine Inv.step (ch := ch) I (fun b hb => ?_) (fun b o _ _ hc e _ => k b o hc e) (fun b o _ _ hc e _ => ⟨o.slots, k b o hc e⟩) (fun _ _ _ _ n => n) (fun b o hc e => ⟨o, k b o hc e⟩) (fun _ _ e => e) (fun _ _ _ e => e) (fun b ps e => ⟨#[], by rw [e]; simp⟩) (fun m hm => ?_)
    (fun b u e => ObjOk.stay (I.hok b u e) (fun c v hc q => k c v (hc.elim (fun z => by rw [z]; exact nit b u e) fun z => nit c (.own b) z) q) (fun x q => q) fun x _ q => q) I.bare
  · obtain ⟨f1, f2, f3, f4, f5, f6⟩ := hf b hb
    exact ⟨f4, f2, f5, f6⟩
  · obtain ⟨o, es, ep, ho, r⟩ := hm
    exact ⟨o, es, ep, k _ o (fun z => (hf _ z).2.1 rfl) ho, r⟩
/-- what enumerate hands out of a tuple: served is its end -/
def Iet (K : PySem.W.Frag) (a : Addr) : It := { go := fun _ _ => False, yld := fun _ _ _ _ => False, stop := fun i H => ∃ xs, SqT K H a xs ∧ xs.length = i }
theorem turn_enumT {P : Program} {w : World} {K : PySem.W.Frag} {elts : List Expr} {kk : Nat} {tpos : Pos} (a e it : Addr) :
    Turn P w K (.Tuple elts kk tpos) (Iet K a) [e, it] e fun i h => (∃ old, IsEnum h e it (i : Int) old) ∧ h.IsTupleIter it a i ∧ e ≠ it := by
  refine ⟨.head _, ?_, ?_, ?_, ?_, ?_⟩
  · rintro i h ⟨⟨old, he⟩, ⟨o, ho, hc, hd⟩, ne⟩ b hb
    simp only [List.mem_cons, List.not_mem_nil, or_false] at hb
    rcases hb with rfl | rfl
    · exact ⟨_, he, fun v z => by cases z⟩
    · exact ⟨_, ho, fun v z => by rw [hd] at z; cases z⟩
  · rintro i h h' ⟨⟨old, he⟩, ⟨o, ho, hc, hd⟩, ne⟩ k
    exact ⟨⟨old, k e (.head _) _ he⟩, ⟨o, k it (.tail _ (.head _)) _ ho, hc, hd⟩, ne⟩
  · intro X _ _ _ _ i pins s σ H E I hf tn g
    exact g.elim
  · rintro X rfl rfl rfl hc i pins s σ H E I hf ⟨⟨old, he⟩, hit, ne⟩ ⟨xs, hq, hl⟩
    obtain ⟨its, rv, htup, z⟩ := I.tuple hq
    have hn : its.toArray.size = i := by rw [List.size_toArray, ← hl]; exact rv.length.symm
    have htup2 := htup
    obtain ⟨o, ho, hcl, n, hd⟩ := htup
    have ea : e ≠ a := fun z => by subst z; rw [he] at ho; cases ho; simp at hcl
    have ia : it ≠ a := fun z => by subst z; obtain ⟨o2, ho2, hc2, _⟩ := hit; rw [ho] at ho2; cases ho2; rw [hcl] at hc2; simp at hc2
    have hnd : X.A.in1.handled = none := I.ok.hd hc
    refine (Goes.enumFrom (x1 := kk) (pos := tpos) (elts := elts) 0 (Draws.tuple (prog := X.prog) (w := X.w) hnd it a ia.symm its.toArray) e ne (by simp [ne, ea]) (by simp)).stops s (fun s1 => Inv X pins σ H s1) E ?_ (fun h' tk k _ => inv_turned I k hf)
    rw [hn]
    exact ⟨⟨old, by rw [Int.zero_add]; exact he⟩, hit, htup2⟩
  · rintro A i s Q E ⟨⟨old, he⟩, _, _⟩ q
    exact wpAny_pyIter_enum he q
def iEnumT (K : PySem.W.Frag) (ta : TA) : TI := fun σ H R => ta σ H fun vs H1 => ∃ a xs, vs = [.ref a] ∧ SqT K H1 a xs ∧ R (Iet K a) H1
theorem pi_enumT {X : Cx} {e : Expr} {ta : TA} {p pos tpos : Pos} {elts : List Expr} {kk : Nat} (hg : Gl X "enumerate") (hm : X.mg "enumerate" = none) (ha : PA X [e] ta) (hs : starEach [e] X.env = [(false, eval e X.env)] := by rfl) :
    PI X (.Tuple elts kk tpos) (.Call (.Name "enumerate" p) [e] [] pos) (iEnumT X.K ta) := by
  refine ⟨fun pins s σ H R I h => ?_⟩
  refine PyProof.Rows.Call_ (L2.ld_blt I hg hm PyProof.Rows.boot_enumerate (PyProof.Rows.callWith_type1 (thn (ha.run pos pins s σ H _ I h) fun us s1 ⟨vs, H1, I1, r1, q1⟩ => ?_) hs rfl) (by decide) (by decide)) rfl
  obtain ⟨a, xs, rfl, hq, q⟩ := q1
  obtain ⟨u, rfl, rv⟩ := vals1 r1
  cases rv
  obtain ⟨its, rv, htup, z⟩ := I1.tuple hq
  refine call_enumT (begins_tuple a its.toArray) htup fun h' he hit hsz hk => ?_
  have I2 := Inv.kept (t' := s1.toks) I1 hk
  refine wpAny_pyIter_enum he ?_
  refine ⟨s1.heap.objs.size + 1, [s1.heap.objs.size + 1, s1.heap.objs.size], _, Iet X.K a, H1, rfl, I2, turn_enumT a (s1.heap.objs.size + 1) s1.heap.objs.size, ⟨⟨_, he⟩, ⟨_, hit, rfl, rfl⟩, Nat.succ_ne_self _⟩, fun b hb => ?_, q⟩
  have hle : s1.heap.objs.size ≤ b := by
    simp only [List.mem_cons, List.not_mem_nil, or_false] at hb
    rcases hb with rfl | rfl
    · exact Nat.le_succ _
    · exact Nat.le_refl _
  exact I1.fpOk hle (I1.hok.fresh hle)
/-- the empty tuple that stands for an argument that is not given -/
def EmpT (K : PySem.W.Frag) (t : Addr) : Prop := ∃ o n, K.lookup t = some o ∧ o.cls = .type "tuple" ∧ o.data = .seq #[] n
theorem EmpT.sq {K : PySem.W.Frag} {t : Addr} {H : Hp} (h : EmpT K t) : SqT K H t [] := let ⟨o, n, h1, h2, h3⟩ := h; .inr ⟨o, #[], n, h1, h2, h3, Nat.zero_le _, .nil⟩
theorem SqT.same {K : PySem.W.Frag} {t : Addr} {H H' : Hp} {xs : List V} (h : SqT K H t xs) (s : Same H H') : SqT K H' t xs := by
  rcases h with (h | ⟨o, h⟩) | h
  · exact .inl (.inl (s _ _ h))
  · exact .inl (.inr ⟨o, s _ _ h⟩)
  · exact .inr h
/-- a list, or an empty tuple -/
def LT (K : PySem.W.Frag) (H : Hp) (a : Addr) (xs : List V) : Prop := H a = some (.lst xs) ∨ (xs = [] ∧ SqT K H a [])
theorem LT.same {K : PySem.W.Frag} {a : Addr} {H H' : Hp} {xs : List V} (h : LT K H a xs) (s : Same H H') : LT K H' a xs := h.elim (fun h => .inl (s _ _ h)) fun h => .inr ⟨h.1, SqT.same h.2 s⟩
theorem LT.lst {K : PySem.W.Frag} {a : Addr} {H : Hp} {xs : List V} (h : LT K H a xs) (n : xs ≠ []) : H a = some (.lst xs) := h.elim id fun h => absurd h.1 n
theorem LT.ty {K : PySem.W.Frag} {a : Addr} {H : Hp} {xs : List V} (h : LT K H a xs) : ∃ t, TyX K H (.ref a) t ∧ PySem.W.kitAny K t [.type "list", .type "tuple"] = some true := by
  rcases h with h | ⟨_, (h | ⟨o, h⟩) | ⟨o, its, n, h1, h2, _⟩⟩
  · exact ⟨_, .base (.lst h), kitAny_ll⟩
  · exact ⟨_, .base (.tup h), kitAny_tl⟩
  · exact ⟨_, .fTuple h, kitAny_tl⟩
  · exact ⟨_, .kTuple h1 h2, kitAny_tl⟩
/-- either walk -/
theorem pi_or {X : Cx} {tg it : Expr} {w1 w2 : TI} (h1 : PI X tg it w1) (h2 : PI X tg it w2) : PI X tg it fun σ H R => w1 σ H R ∨ w2 σ H R :=
  ⟨fun pins s σ H R I h => h.elim (h1.run pins s σ H R I) (h2.run pins s σ H R I)⟩
theorem st_forLT {K : PySem.W.Frag} {g : TG} {tb : TS} {D : Ends} {σ : L2.St} {H : Hp} {tl : TE} {a : Addr} {xs : List V} (ha : ∀ R : V → Hp → Prop, R (.ref a) H → tl σ H R) (hx : LT K H a xs) (Pv : Nat → L2.St → Hp → Prop) (h0 : Pv 0 σ H) (hl : xs ≠ [] → ∀ i σ H', Pv i σ H' → H' a = some (.lst xs))
    (hs : ∀ i x σ H, xs[i]? = some x → Pv i σ H → g x σ H fun σ2 H2 => tb { nx := Pv (i + 1), rt := D.rt, bk := D.nx, ct := Pv (i + 1) } σ2 H2) (hd : ∀ σ H, Pv xs.length σ H → D.nx σ H) : tFor (fun σ H R => iList K tl σ H R ∨ iTup K tl σ H R) g tb D σ H := by
  rcases hx with hx | ⟨rfl, hx⟩
  · by_cases n : xs = []
    · subst n
      exact .inl (st_forL ha hx (fun i σ' H' => i = 0 ∧ σ' = σ ∧ H' = H) ⟨rfl, rfl, rfl⟩ (fun i σ' H' ⟨_, _, e⟩ => by rw [e]; exact hx) (fun i x σ' H' h => by simp at h) (fun σ' H' ⟨_, e1, e2⟩ => by subst e1 e2; exact hd _ _ h0))
    · exact .inl (st_forL ha hx Pv h0 (hl n) hs hd)
  · exact .inr (ha _ ⟨a, rfl, ⟨_, hx⟩, for_tup (xs := []) (fun i σ' H' => i = 0 ∧ σ' = σ ∧ H' = H) ⟨rfl, rfl, rfl⟩ (fun i σ' H' _ ⟨_, _, e⟩ => e ▸ hx) (fun i x σ' H' h => by simp at h) (fun σ' H' ⟨_, e1, e2⟩ => by subst e1 e2; exact hd _ _ h0)⟩)
theorem st_forET {K : PySem.W.Frag} {g : TG} {tb : TS} {D : Ends} {σ : L2.St} {H : Hp} {ta : TA} {a : Addr} {xs : List V} (ha : ∀ R : List V → Hp → Prop, R [.ref a] H → ta σ H R) (hx : LT K H a xs) (Pv : Nat → L2.St → Hp → Prop) (h0 : Pv 0 σ H) (hl : xs ≠ [] → ∀ i σ H', Pv i σ H' → H' a = some (.lst xs))
    (hs : ∀ i x T σ H H', xs[i]? = some x → Pv i σ H → Same H H' → H' T = some (.tup [.int (i : Nat), x]) → g (.ref T) σ H' fun σ2 H2 => tb { D with nx := Pv (i + 1), ct := Pv (i + 1), bk := D.nx } σ2 H2) (hd : ∀ σ H, Pv xs.length σ H → D.nx σ H) : tFor (fun σ H R => iEnum K ta σ H R ∨ iEnumT K ta σ H R) g tb D σ H := by
  rcases hx with hx | ⟨rfl, hx⟩
  · by_cases n : xs = []
    · subst n
      exact .inl (st_forE ha hx (fun i σ' H' => i = 0 ∧ σ' = σ ∧ H' = H) ⟨rfl, rfl, rfl⟩ (fun i σ' H' ⟨_, _, e⟩ => by rw [e]; exact hx) (fun i x T σ' H1 H2 h => by simp at h) (fun σ' H' ⟨_, e1, e2⟩ => by subst e1 e2; exact hd _ _ h0))
    · exact .inl (st_forE ha hx Pv h0 (hl n) hs hd)
  · exact .inr (ha _ ⟨a, [], rfl, hx, fun i _ σ' H' => i = 0 ∧ σ' = σ ∧ H' = H, ⟨0, rfl, rfl, rfl⟩, fun i m σ' H' ⟨e, e1, e2⟩ => by subst e e1 e2; exact .inl ⟨⟨[], hx, rfl⟩, hd _ _ h0⟩⟩)
def rListT : List V → Hp → VK → Prop := fun xs H Q => ∃ p ys, xs = [.ref p] ∧ H p = some (.tup ys) ∧ News H (.lst ys) Q
theorem call_listT {X : Cx} : CallR X (.type "list") rListT := CallR.imp call_list_of fun xs H Q ⟨p, ys, a, b, n⟩ => ⟨p, ys, a, .inr (SqT.of b), n.all⟩
theorem atI_lastG {xs : List V} {x : V} (h : xs[xs.length - 1]? = some x) : atI xs (-1) = some x := by
  have h0 : 0 < xs.length := by have := (List.getElem?_eq_some_iff.mp h).1; omega
  unfold atI ixN
  rw [if_neg (by decide), if_pos (by omega), show ((-1 : Int) + xs.length).toNat = xs.length - 1 by omega]
  simpa using h
theorem pe_never {X : Cx} {e : Expr} : PE X e (fun _ _ _ => False) := ⟨fun _ _ _ _ _ _ h => h.elim⟩
/-- {} -/
def tDictE : TE := fun _ H Q => News H (.dK []) Q
theorem pe_dictN {X : Cx} {pos : Pos} : PE X (.Dict [] [] pos) tDictE := PE.imp pe_dnewK fun σ H Q n p hp => n p _ hp (Same.upd hp) upd_same
theorem kitAny_no {K : PySem.W.Frag} {n : String} (h1 : PySem.W.kitOne K (.type n) (.type "list") = some false) (h2 : PySem.W.kitOne K (.type n) (.type "tuple") = some false) : PySem.W.kitAny K (.type n) [.type "list", .type "tuple"] = some false :=
  kitAny_cons (b := false) h1 (fun _ => kitAny_cons (b := false) h2 (fun _ => rfl) (fun h => by cases h)) (fun h => by cases h)
/-- a raising call within a try -/
theorem passTr {X : Cx} {W : WX} {E : XK} (tk : Takes X W) (hE : ∀ cls d σ' H', E cls d H' → W cls d σ' H') : Passes (L2.CX X.prog X.w) X E := by
  intro pins σ H s e s' I h
  exact (passAt tk σ) pins H s e s' I (by
    obtain ⟨a, B, H', cls, d, h1, h2, h3, h4, h5, h6, h7, h8⟩ := h
    exact ⟨a, B, H', cls, d, h1, h2, h3, h4, h5, h6, h7, hE _ _ _ _ h8⟩)
end Iz
/-! Ob -/
set_option Elab.async false
set_option linter.all false
set_option maxRecDepth 100000
set_option maxHeartbeats 4000000
namespace Iz
open PySem PySem.Spec PyProof.Rows L2 LamX
open He (ga)
/-! ### own classes' + - | & between two of one class -/
theorem back_of {v : V} {w : Value} {s : Shared} {R : Value → Shared → Prop} (rv : RelV v w) (q : R w s) : PySem.W.CmpBack R w s := by
  unfold PySem.W.CmpBack
  split
  · cases v <;> first
      | (exfalso; exact nomatch rv)
      | (exfalso; obtain ⟨_, z⟩ := rv; cases z)
      | (exfalso; cases rv)
  · exact q
def rOwnB (C : Addr) (sp : Sp) (E : XK) : R2 := fun x y H Q => ∃ a b dx fs dy gs, x = .ref a ∧ y = .ref b ∧ H a = some (.ins C dx fs) ∧ H b = some (.ins C dy gs) ∧ sp [.ref a, .ref b] H Q E
theorem op_ownB {X : Cx} {CX : CXT} {k : Nat} {x m : Str} {ps : List Str} {sp : Sp} {E : XK} {op : Operator} (O : OkM X.prog X.w X.K X.mg X.base CX k x m ps [] sp) (hm : PySem.dunder op.info.2 = m) (sf : PySem.W.selfFirst X.K (ga X.K x) = true) (hr : Room k X.A) (hx : Passes CX X E) : OpR X (binaryOp op) (rOwnB (ga X.K x) sp E) := by
  intro pins s σ H v0 y v u Q I rx ry h
  obtain ⟨a, b, dx, fs, dy, gs, rfl, rfl, ha, hb, hsp⟩ := h
  cases rx
  obtain ⟨f, fd, M, bd, F⟩ := O.ex
  obtain ⟨ds, hd, hbi⟩ := bd 0 (Nat.le_refl _)
  cases hd
  obtain ⟨mA, O', _⟩ := ins_get I.hok ha
  obtain ⟨od, J, _⟩ := O'.look
  obtain ⟨mB, OB, _⟩ := ins_get I.hok hb
  obtain ⟨odB, JB, _⟩ := OB.look
  obtain ⟨mm, hF⟩ := I.fr
  subst hm
  cases ry
  exact PySem.W.binop_K hF I.ok.mod.kin J JB.type sf M.at_ M.fn (own_call I F hbi hr hx (show RelV (.ref b) (.ref b) from rfl) hsp fun v w H' s' I' rv q => back_of rv ⟨v, H', I', rv, q⟩)
/-! ### tuples cut, put together -/
def rSlG (K : PySem.W.Frag) : V → Option Int → Option Int → Hp → VK → Prop := fun x lo hi H Q => ∃ a xs ys, x = .ref a ∧ SqT K H a xs ∧ cutV xs lo hi = ys ∧ (HT.sIx xs.length 0 lo = 0 ∧ HT.sIx xs.length xs.length hi = xs.length → xs = ys) ∧ ∀ p H', Same H H' → SqT K H' p ys → Q (.ref p) H'
theorem sl_tupG {X : Cx} : SlR X (rSlG X.K) := fun pins s σ H x v vl vu lo hi sl Q I rx hs pl pu ⟨a, xs, ys, e, h, ec, ew, k⟩ => sl_tupA pins s σ H x v vl vu lo hi sl Q I rx hs pl pu
  ⟨a, xs, e, h, fun w => k a H (fun _ _ h => h) (ew w ▸ h), fun _ p hp => k p _ (Same.upd hp) (SqT.of (by rw [upd_same, ec]))⟩
def rCatG (K : PySem.W.Frag) : R2 := fun x y H Q => ∃ a b xs ys, x = .ref a ∧ y = .ref b ∧ SqT K H a xs ∧ SqT K H b ys ∧ xs.length + ys.length ≤ sizeLine ∧ ∀ p H', Same H H' → SqT K H' p (xs ++ ys) → Q (.ref p) H'
theorem op_catG {X : Cx} : OpR X (binaryOp .Add) (rCatG X.K) := fun pins s σ H x y v u Q I rx ry ⟨a, b, xs, ys, e1, e2, ha, hb, hz, k⟩ => op_catA pins s σ H x y v u Q I rx ry
  ⟨a, b, xs, ys, e1, e2, ha, hb, hz, fun e => k b H (fun _ _ h => h) (by rw [e]; exact hb), fun _ e => k a H (fun _ _ h => h) (by rw [e, List.append_nil]; exact ha), fun _ _ p hp => k p _ (Same.upd hp) (SqT.of upd_same)⟩
/-! ### a comprehension over zip of two tuples -/
theorem walk_zipT {K : PySem.W.Frag} {a b : Addr} {xs ys : List V} {n : Nat} (hn : n = min xs.length ys.length) : Walk (RZ.ItzT K a b) n (fun H => SqT K H a xs ∧ SqT K H b ys) (YPair (fun i => xs[i]?) (fun i => ys[i]?)) := by
  subst hn
  refine ⟨fun i _ hi q => ?_, fun _ q => ⟨xs, ys, q.1, q.2, by omega⟩, fun i H v H' _ q y => ?_⟩
  · have h1 : i < xs.length := by omega
    have h2 : i < ys.length := by omega
    exact ⟨xs, ys, xs[i], ys[i], q.1, q.2, by simp [h1], by simp [h2]⟩
  · obtain ⟨T, x, z, h1, h2, h3, h4, h5⟩ := y
    exact ⟨T, x, z, h1, h2, h3, h4 xs q.1, h5 ys q.2⟩
theorem lc_zip {K : PySem.W.Frag} {ta : TA} {g : TG} {tt : TT} {te : TE} {vs : List Nat} {σ : L2.St} {H : Hp} {Q : VK} (h : ta σ H fun us H1 => ∃ a b xs ys, us = [.ref a, .ref b] ∧
    ((SqL K H1 a xs ∧ SqL K H1 b ys ∧ tLc (fun _ H R => R (L2.Itz K a b) H) g tt te vs σ H1 Q) ∨ (SqT K H1 a xs ∧ SqT K H1 b ys ∧ tLc (fun _ H R => R (RZ.ItzT K a b) H) g tt te vs σ H1 Q))) : tLc (RZ.iZipA K ta) g tt te vs σ H Q := h
theorem st_zipT {K : PySem.W.Frag} {g : TG} {tt : TT} {te : TE} {vs : List Nat} {σ : L2.St} {H : Hp} {Q : VK} {a b : Addr} {xs ys : List V} {n : Nat} (hn : n = min xs.length ys.length) (Pv : Addr → Nat → Hp → Prop)
    (h0 : ∀ D H1, H D = none → Same H H1 → H1 D = some (.lst []) → Pv D 0 H1) (hl : ∀ D i H, Pv D i H → SqT K H a xs ∧ SqT K H b ys)
    (hs : ∀ D i x y T H H', xs[i]? = some x → ys[i]? = some y → Pv D i H → Same H H' → H' T = some (.tup [x, y]) → g (.ref T) (wipe σ vs) H' fun σ2 H2 => wipe σ2 vs = wipe σ vs ∧ tt σ2 H2 fun b H3 => if b = true then te σ2 H3 fun y H4 => ∃ acc, H4 D = some (.lst acc) ∧ acc.length < sizeLine ∧ Pv D (i + 1) (upd H4 D (.lst (acc ++ [y]))) else Pv D (i + 1) H3)
    (hd : ∀ D H, Pv D n H → Q (.ref D) H) : tLc (fun _ H R => R (RZ.ItzT K a b) H) g tt te vs σ H Q := fun D hD =>
  lc_it (walk_zipT hn) (Pv D) (h0 D _ hD (Same.upd hD) upd_same) (fun i H _ p => hl D i H p) (fun i x H1 H2 hi p y => by
    obtain ⟨T, u, z, rfl, hT, rfl, e1, e2⟩ := y
    exact hs D i u z T H1 _ e1 e2 p (Same.upd hT) upd_same) (hd D)
/-! ### enumerate over a tuple, items handed out -/
def IteT (K : PySem.W.Frag) (a : Addr) : It :=
  ⟨fun i H => ∃ (xs : List V) (x : V), SqT K H a xs ∧ xs[i]? = some x, fun i H v H' => ∃ T x, v = .ref T ∧ H T = none ∧ H' = upd H T (.tup [.int (i : Nat), x]) ∧ ∀ xs, SqT K H a xs → xs[i]? = some x, fun i H => ∃ xs : List V, SqT K H a xs ∧ xs.length = i⟩
theorem turn_enumG {P : Program} {w : World} {K : PySem.W.Frag} {elts : List Expr} {kk : Nat} {tpos : Pos} (a e it : Addr) :
    Turn P w K (.Tuple elts kk tpos) (IteT K a) [e, it] e fun i h => (∃ old, IsEnum h e it ((i : Nat) : Int) old) ∧ h.IsTupleIter it a i ∧ e ≠ it := by
  refine ⟨.head _, ?_, ?_, ?_, ?_, ?_⟩
  · rintro i h ⟨⟨old, he⟩, ⟨o, ho, hc, hd⟩, ne⟩ b hb
    simp only [List.mem_cons, List.not_mem_nil, or_false] at hb
    rcases hb with rfl | rfl
    · exact ⟨_, he, fun v z => by cases z⟩
    · exact ⟨_, ho, fun v z => by rw [hd] at z; cases z⟩
  · rintro i h h' ⟨⟨old, he⟩, ⟨o, ho, hc, hd⟩, ne⟩ k
    exact ⟨⟨old, k e (.head _) _ he⟩, ⟨o, k it (.tail _ (.head _)) _ ho, hc, hd⟩, ne⟩
  · rintro X rfl rfl rfl hc i pins s σ H E I hf ⟨⟨old, he⟩, hit, ne⟩ ⟨xs, x, hq, hx⟩
    obtain ⟨its, rv, htup, hz⟩ := I.tuple hq
    obtain ⟨u, hu, ru⟩ := rv.get hx
    have htup2 := htup
    obtain ⟨o, ho, hcl, n, hd⟩ := htup
    have ia : it ≠ a := fun z => by subst z; obtain ⟨o2, ho2, hc2, _⟩ := hit; rw [ho] at ho2; cases ho2; rw [hcl] at hc2; simp at hc2
    have ea : e ≠ a := fun z => by subst z; rw [he] at ho; cases ho; simp at hcl
    have hnd : X.A.in1.handled = none := I.ok.hd hc
    have hel : e < s.heap.objs.size := Heap.lt_size he
    have hil : it < s.heap.objs.size := by obtain ⟨_, q, _⟩ := hit; exact Heap.lt_size q
    have hlt : i < its.toArray.size := by rw [List.size_toArray]; exact (List.getElem?_eq_some_iff.mp hu).1
    refine wpAny_pyNext_enum_itemC (Draws.tuple (prog := X.prog) (w := X.w) hnd it a ia.symm its.toArray) he ⟨hit, htup2⟩ hlt ne (by simp [ne, ea]) fun z h' tk hP ho' hs' hT hsz hk => ?_
    have ez : z = u := by
      have h1 : its.toArray[i]? = some z := hP
      rw [List.getElem?_toArray, hu] at h1
      exact (Option.some.inj h1).symm
    subst ez
    refine ⟨_, rfl, wpAny_letOwnedTupleGo_enum (s := { s with heap := h', toks := tk + 1 }) ho' fun h'' he' sb => ?_⟩
    have hT2 : h''.get? s.heap.objs.size = some { cls := .type "tuple", data := .seq #[.int i tk, z] } := (sb.2 _ (Nat.ne_of_gt hel)).trans hT
    have new : ObjOk X.prog X.w (upd H s.heap.objs.size (.tup [.int (i : Nat), x])) h'' s.heap.objs.size (.tup [.int (i : Nat), x]) :=
      ⟨by show 2 ≤ sizeLine; decide, [.int i tk, z], .cons ⟨_, rfl⟩ (.cons ru .nil), ⟨_, hT2, rfl, _, rfl⟩⟩
    have I1 : Inv X pins σ (upd H s.heap.objs.size (.tup [.int (i : Nat), x])) { s with heap := h'', toks := tk + 1 } :=
      I.turnedNew (ch := [e, it]) (fun b ob hb q => (sb.2 b (fun z => hb (by simp [z]))).trans (hk b ob (fun z => hb (by simp [z])) (fun z => hb (by simp [z])) q)) hf (Nat.le_refl _) new
    refine ⟨.ref s.heap.objs.size, _, I1, rfl, ⟨_, x, rfl, I.hok.fresh (Nat.le_refl _), rfl, fun ys hy => by rw [I.tuple_inj hy hq]; exact hx⟩, ⟨⟨z, ?_⟩, hs'.1.at fun o q => (sb.2 it (Ne.symm ne)).trans q, ne⟩, fun b hb => ?_⟩
    · have e1 : ((i + 1 : Nat) : Int) = (i : Int) + 1 := by omega
      rw [e1]; exact he'
    · have hb' : b < s.heap.objs.size := by
        have e' : b = e ∨ b = it := by simpa using hb
        rcases e' with z | z
        · rw [z]; exact hel
        · rw [z]; exact hil
      rw [upd_ne (Nat.ne_of_lt hb')]
      exact (hf b hb).1
  · rintro X rfl rfl rfl hc i pins s σ H E I hf ⟨⟨old, he⟩, hit, ne⟩ ⟨xs, hq, hl⟩
    exact (turn_enumT (elts := elts) (kk := kk) (tpos := tpos) a e it).done X rfl rfl rfl hc i pins s σ H E I hf ⟨⟨old, he⟩, hit, ne⟩ ⟨xs, hq, hl⟩
  · rintro A i s Q E ⟨⟨old, he⟩, _, _⟩ q
    exact wpAny_pyIter_enum he q
def iEnumG (K : PySem.W.Frag) (ta : TA) : TI := fun σ H R => ta σ H fun vs H1 => ∃ a xs, vs = [.ref a] ∧ SqT K H1 a xs ∧ R (IteT K a) H1
theorem pi_enumG {X : Cx} {e : Expr} {ta : TA} {p pos tpos : Pos} {elts : List Expr} {kk : Nat} (hg : Gl X "enumerate") (hm : X.mg "enumerate" = none) (ha : PA X [e] ta) (hs : starEach [e] X.env = [(false, eval e X.env)] := by rfl) :
    PI X (.Tuple elts kk tpos) (.Call (.Name "enumerate" p) [e] [] pos) (iEnumG X.K ta) := by
  refine ⟨fun pins s σ H R I h => ?_⟩
  refine PyProof.Rows.Call_ (L2.ld_blt I hg hm PyProof.Rows.boot_enumerate (PyProof.Rows.callWith_type1 (thn (ha.run pos pins s σ H _ I h) fun us s1 ⟨vs, H1, I1, r1, q1⟩ => ?_) hs rfl) (by decide) (by decide)) rfl
  obtain ⟨a, xs, rfl, hq, q⟩ := q1
  obtain ⟨u, rfl, rv⟩ := vals1 r1
  cases rv
  obtain ⟨its, rv, htup, z⟩ := I1.tuple hq
  refine call_enumT (begins_tuple a its.toArray) htup fun h' he hit hsz hk => ?_
  have I2 := Inv.kept (t' := s1.toks) I1 hk
  refine wpAny_pyIter_enum he ?_
  refine ⟨s1.heap.objs.size + 1, [s1.heap.objs.size + 1, s1.heap.objs.size], _, IteT X.K a, H1, rfl, I2, turn_enumG a (s1.heap.objs.size + 1) s1.heap.objs.size, ⟨⟨_, he⟩, ⟨_, hit, rfl, rfl⟩, Nat.succ_ne_self _⟩, fun b hb => ?_, q⟩
  have hle : s1.heap.objs.size ≤ b := by
    simp only [List.mem_cons, List.not_mem_nil, or_false] at hb
    rcases hb with rfl | rfl
    · exact Nat.le_succ _
    · exact Nat.le_refl _
  exact I1.fpOk hle (I1.hok.fresh hle)
theorem walk_enumG {K : PySem.W.Frag} {a : Addr} {xs : List V} : Walk (IteT K a) xs.length (fun H => SqT K H a xs) (YPair (fun i => some (.int (i : Nat))) (fun i => xs[i]?)) := by
  refine ⟨fun i _ hi q => ⟨xs, xs[i], q, by simp [hi]⟩, fun _ q => ⟨xs, q, rfl⟩, fun i H v H' _ q y => ?_⟩
  obtain ⟨T, x, h1, h2, h3, h4⟩ := y
  exact ⟨T, _, x, h1, h2, h3, rfl, h4 xs q⟩
/-! ### a list or a tuple -/
def LG (K : PySem.W.Frag) (H : Hp) (a : Addr) (xs : List V) : Prop := H a = some (.lst xs) ∨ SqT K H a xs
section
variable {K : PySem.W.Frag} {a : Addr} {H H' : Hp} {xs : List V}
theorem LG.same (h : LG K H a xs) (s : Same H H') : LG K H' a xs := h.elim (fun h => .inl (s _ _ h)) fun h => .inr (SqT.same h s)
theorem LG.ty (h : LG K H a xs) : ∃ t, TyX K H (.ref a) t ∧ PySem.W.kitAny K t [.type "list", .type "tuple"] = some true := by
  rcases h with h | (h | ⟨o, h⟩) | ⟨o, its, n, h1, h2, _⟩
  · exact ⟨_, .base (.lst h), kitAny_ll⟩
  · exact ⟨_, .base (.tup h), kitAny_tl⟩
  · exact ⟨_, .fTuple h, kitAny_tl⟩
  · exact ⟨_, .kTuple h1 h2, kitAny_tl⟩
theorem st_forLG {g : TG} {tb : TS} {D : Ends} {σ : L2.St} {tl : TE} {H0 : Hp} (ha : ∀ R : V → Hp → Prop, R (.ref a) H → tl σ H R) (hx : LG K H0 a xs) (s0 : Same H0 H) (Pv : Nat → L2.St → Hp → Prop) (h0 : Pv 0 σ H) (hl : ∀ i σ H', Pv i σ H' → Same H0 H')
    (hs : ∀ i x σ H, xs[i]? = some x → Pv i σ H → g x σ H fun σ2 H2 => tb { nx := Pv (i + 1), rt := D.rt, bk := D.nx, ct := Pv (i + 1) } σ2 H2) (hd : ∀ σ H, Pv xs.length σ H → D.nx σ H) : tFor (fun σ H R => iList K tl σ H R ∨ iTup K tl σ H R) g tb D σ H := by
  rcases hx with hx | hx
  · exact .inl (st_forL ha (s0 _ _ hx) Pv h0 (fun i σ' H' p => hl i σ' H' p _ _ hx) hs hd)
  · exact .inr (ha _ ⟨a, rfl, ⟨_, SqT.same hx s0⟩, for_tup Pv h0 (fun i σ' H' _ p => SqT.same hx (hl i σ' H' p)) hs hd⟩)
theorem st_forEG {g : TG} {tb : TS} {D : Ends} {σ : L2.St} {ta : TA} {H0 : Hp} (ha : ∀ R : List V → Hp → Prop, R [.ref a] H → ta σ H R) (hx : LG K H0 a xs) (s0 : Same H0 H) (Pv : Nat → L2.St → Hp → Prop) (h0 : Pv 0 σ H) (hl : ∀ i σ H', Pv i σ H' → Same H0 H')
    (hs : ∀ i x T σ H H', xs[i]? = some x → Pv i σ H → Same H H' → H' T = some (.tup [.int (i : Nat), x]) → g (.ref T) σ H' fun σ2 H2 => tb { D with nx := Pv (i + 1), ct := Pv (i + 1), bk := D.nx } σ2 H2) (hd : ∀ σ H, Pv xs.length σ H → D.nx σ H) : tFor (fun σ H R => iEnum K ta σ H R ∨ iEnumG K ta σ H R) g tb D σ H := by
  rcases hx with hx | hx
  · exact .inl (st_forE ha (s0 _ _ hx) Pv h0 (fun i σ' H' p => hl i σ' H' p _ _ hx) hs hd)
  · exact .inr (ha _ ⟨a, xs, rfl, SqT.same hx s0, for_it walk_enumG Pv h0 (fun i σ H' _ p => SqT.same hx (hl i σ H' p)) (fun i v σ H1 H2 hi p y => by
      obtain ⟨T, x, z, rfl, hT, rfl, e1, e2⟩ := y
      cases e1
      exact hs i z T σ H1 _ e2 p (Same.upd hT) upd_same) hd⟩)
end
end Iz
/-! Lb -/
set_option Elab.async false
set_option linter.all false
set_option maxRecDepth 100000
set_option maxHeartbeats 4000000
namespace LamX
open PySem PySem.Spec PyProof.Rows L2
/-- a name's slot is empty -/
def slotFree (N : List Str) (p : Str) (σ : L2.St) : Bool := (N.zip σ).all fun q => !(q.1 == p) || q.2.isNone
theorem slotFree_at {N : List Str} {p : Str} {σ : L2.St} (h : slotFree N p σ = true) : ∀ (i : Nat) (v : V), N[i]? = some p → σ[i]? ≠ some (some v) := by
  intro i v h1 h2
  have hm : (p, some v) ∈ N.zip σ := by
    refine List.mem_of_getElem? (i := i) ?_
    rw [List.getElem?_zip_eq_some]
    exact ⟨h1, h2⟩
  have := List.all_eq_true.mp h _ hm
  simp at this
section
variable {X : Cx} {pins : List (Addr × Obj)} {σ : L2.St} {H HZ : Hp} {s s1 : Shared}
theorem lam_startS {A : Around} {outer : List Env} {E : XK} {scope : Scope} {f c' : Addr} {h₁ : Heap} {tk : Nat} {p : Str} {u : Value} {v : V} (I : Inv X pins σ H s) (L : LamP X.env.scope scope p) (hp : ∀ (i : Nat) (v : V), X.N[i]? = some p → σ[i]? ≠ some (some v)) (e0 : Env0 X.prog X.w X.K X.mg X.base A outer s1 HZ) (hd : A.handled = none)
    (un : Un (frs X.stack) [] H HZ s.heap s1.heap) (hns : h₁.Ns s1.heap.objs.size fun y => ([(p, u)] : List (Str × Value)).reverse.lookup y) (rv : RelV v u) (kp : ∀ b o, s1.heap.get? b = some o → h₁.get? b = some o) :
    Inv (lamCxP X A outer s1 HZ E scope f c' p) [] (σ ++ [some v]) HZ { s1 with heap := h₁, toks := tk } := by
  have hfree := L.has I.ok
  have cm : ∀ {y c}, (cloFrom X.env.cells scope.names []).lookup y = some c → X.env.cells.lookup y = some c := fun {y c} e => by
    rcases cloFrom_mem (PySem.mem_of_lookup e) with hm | ⟨h1, h2⟩
    · cases hm
    · obtain ⟨c1, hc⟩ := hfree _ h1 rfl
      have hc : X.env.cells.lookup y = some c1 := hc
      have e2 : c = c1 := by
        rw [h2, hc] <;> rfl
      rw [e2]
      exact hc
  have look : ∀ {y}, scope.names.lookup y = some .free → ∃ c, (cloFrom X.env.cells scope.names []).lookup y = some c := fun {y} hl => by
    have hy : (y, NameKind.free) ∈ scope.names := PySem.mem_of_lookup hl
    exact mem_lookup (cloFrom_has (cells := X.env.cells) (acc := []) hy)
  have cellK : ∀ {c : Addr} {v : Option Value}, H c = none → s.heap.IsCell c v → h₁.IsCell c v := fun {c v} n ⟨o, ho, hd⟩ => by
    obtain ⟨sl, q⟩ := un.any ho n (by simp)
    exact ⟨_, kp _ _ q, hd⟩
  have noA : ∀ b : Addr, b ∉ (lamCxP X A outer s1 HZ E scope f c' p).ex := fun b z => absurd (show b ∈ ([] : List Addr) from z) (by simp)
  refine ⟨⟨e0.mod, L.kind, rfl, rfl, Nat.le_refl _, fun y z c e1 e2 => I.ok.inj y z c (cm e1) (cm e2), fun y hy => ?_, fun y c z _ => ?_, fun _ => hd, Around.frames_deeper e0.frames, .inr ⟨rfl, rfl⟩, fun b z => absurd z (noA b), e0.bs, e0.bsz, fun b _ _ => noA b,
      fun b z => absurd z (noA b), e0.funs, e0.frf⟩,
    rfl, e0.bare, Un.kept kp, ⟨_, hns, fun i y v' e1 e2 e3 => ?_⟩, fun y c e => ?_, e0.hok.fresh (Nat.le_refl _), fun y c e => ?_, fun q hq => absurd (show q ∈ ([] : List (Addr × Obj)) ++ [] from hq) (by simp), e0.hok.kept kp, ?_⟩
  · have hy : scope.names.lookup y = some .cell ∨ scope.names.lookup y = some .free := hy
    rcases hy with hy | hy
    · exact absurd rfl (L.own _ (PySem.mem_of_lookup hy)).2
    · exact look hy
  · have z : false = true := z
    cases z
  · have e3 : Vis scope y := e3
    have e1 : (X.N ++ [p])[i]? = some y := e1
    have hl := I.len
    by_cases hi : i < X.N.length
    · rw [List.getElem?_append_left hi] at e1
      rw [List.getElem?_append_left (by omega)] at e2
      rcases e3 with k | k | k
      · have := (L.own _ (PySem.mem_of_lookup k)).1 rfl
        exact absurd e2 (hp i v' (by rw [← (show y = p from this)]; exact e1))
      · exact absurd rfl (L.own _ (PySem.mem_of_lookup k)).2
      · obtain ⟨m, hn, hl⟩ := I.loc
        have hvis : Vis X.env.scope y := (L.free _ (PySem.mem_of_lookup k) rfl).elim (fun k => .inr (.inl k)) (fun k => .inr (.inr k))
        obtain ⟨w', r, q⟩ := hl i y v' e1 e2 hvis
        obtain ⟨c2, h2⟩ := look k
        refine ⟨w', r, .inr ⟨.inr k, c2, h2, ?_⟩⟩
        have c1 := cm h2
        rcases q with ⟨k', _⟩ | ⟨_, c3, e', z⟩
        · have k' : X.env.scope.names.lookup y = some .local := k'
          rcases L.free _ (PySem.mem_of_lookup k) rfl with k2 | k2 <;> rw [show X.env.scope.names.lookup y = _ from k2] at k' <;> cases k'
        · rw [c1] at e'
          cases e'
          exact cellK (I.freeC y _ c1) z
    · rw [List.getElem?_append_right (by omega)] at e1 e2
      have h0 : i - X.N.length = 0 := by
        have := (List.getElem?_eq_some_iff.mp e1).1
        simp at this
        omega
      rw [h0] at e1
      rw [show i - σ.length = 0 by omega] at e2
      simp at e1 e2
      subst e1 e2
      exact ⟨u, rv, .inl ⟨L.par, by simp⟩⟩
  · obtain ⟨w', z⟩ := I.cell y c (cm e)
    exact ⟨w', cellK (I.freeC y c (cm e)) z⟩
  · obtain ⟨v, o, ho, hd⟩ := I.cell y c (cm e)
    exact un.free c o ho (I.freeC y c (cm e)) (by simp)
  · show (σ ++ [some v]).length = (X.N ++ [p]).length
    rw [List.length_append, List.length_append, I.len]
    rfl
/-- a(e), in the def that got the lambda -/
theorem pe_actS {CXg : CXT} {Eg : XK} {Ng : List Str} {qg : Str} {sg : Scope} {g f c' : Addr} {cdg pm ctv : Value} {params : Arguments} {body : Expr} {scope : Scope} {k i : Nat} {a p : Str} {tb : TE} {p1 p2 : Pos} {e : Expr} {ta : TA}
    (I : Inv X pins σ H s) (L : LamP X.env.scope scope p) (hp : ∀ (i : Nat) (v : V), X.N[i]? = some p → σ[i]? ≠ some (some v)) (hf : s.heap.get? f = some (PySem.W.kla_obj "<lambda>" (X.env.qual ++ "<lambda>") params body scope (cloFrom X.env.cells scope.names []) pm c' ctv)) (hfn : H f = none) (hfr : f ∉ frs X.stack)
    (hbind : ∀ u : Value, bindArgs (PySem.W.kla_fn "<lambda>" (X.env.qual ++ "<lambda>") params body scope (cloFrom X.env.cells scope.names []) pm (.ref c') ctv) ⟨[u], []⟩ = pure [(p, u)])
    (hr : Room (k + 1) (X.A.deeper (envOfC qg sg s.heap.objs.size g cdg)))
    (hbody : ∀ (A : Around) (outer : List Env) (s : Shared) (H : Hp), Room k (A.deeper (lamEnv X scope s.heap.objs.size f c')) → PE (lamCxP X A outer s H (fun _ _ _ => False) scope f c' p) body tb)
    (hN : Ng[i]? = some a) (hv : Vis sg a) (hd : (a == ("__debug__" : Str)) = false) (hcd : (a == ("__classdict__" : Str)) = false)
    (ha : PA (cxOf CXg X.prog X.w X.K X.mg X.base Ng qg sg g cdg X.A X.stack s H Eg).nox [e] ta)
    (he : starEach [e] (envOfC qg sg s.heap.objs.size g cdg) = (false, eval e (envOfC qg sg s.heap.objs.size g cdg)) :: starEach [] (envOfC qg sg s.heap.objs.size g cdg)) :
    PE (cxOf CXg X.prog X.w X.K X.mg X.base Ng qg sg g cdg X.A X.stack s H Eg).nox (.Call (.Name a p1) [e] [] p2)
      (fun σZ HZ Q => σZ[i]? = some (some (.ref f)) ∧ ta σZ HZ fun vs H1 => ∃ v, vs = [v] ∧ H1 c' = some (CodeO c' (X.env.qual ++ "<lambda>")) ∧ tb (σ ++ [some v]) H1 Q) := by
  refine ⟨fun pinsZ sZ σZ HZ Q IZ h => ?_⟩
  obtain ⟨hs, ht⟩ := h
  refine wpAny_Call_Name_kw (thn ((pe_var (X := (cxOf CXg X.prog X.w X.K X.mg X.base Ng qg sg g cdg X.A X.stack s H Eg).nox) (pos := p1) (i := i) hN hv hd hcd).run pinsZ sZ σZ HZ (fun v H1 => v = .ref f ∧ H1 = HZ) IZ ⟨.ref f, hs, rfl, rfl⟩) fun u s1 ⟨v, H1, I1, r1, q1⟩ => ?_)
  obtain ⟨ev, eH⟩ := q1
  subst ev
  rw [eH] at I1
  obtain rfl : u = Value.ref f := r1
  have of1 : s1.heap.get? f = some (PySem.W.kla_obj "<lambda>" (X.env.qual ++ "<lambda>") params body scope (cloFrom X.env.cells scope.names []) pm c' ctv) := I1.base.keep f _ hf hfn hfr (fun z => nomatch (show f ∈ ([] : List Addr) from z))
  refine PySem.W.callWith_F (first := []) ⟨_, _, _, _, of1⟩ (thn (ha.run p2 pinsZ s1 σZ HZ _ I1 ht) fun us s2 ⟨vs, H2, I2, r2, v, ev, hc, ht2⟩ => ?_) he rfl
  subst ev
  have of2 : s2.heap.get? f = some (PySem.W.kla_obj "<lambda>" (X.env.qual ++ "<lambda>") params body scope (cloFrom X.env.cells scope.names []) pm c' ctv) := I2.base.keep f _ hf hfn hfr (fun z => nomatch (show f ∈ ([] : List Addr) from z))
  refine ⟨⟨_, _, _, _, of2⟩, ?_⟩
  obtain ⟨u, rfl, rv⟩ := vals1 r2
  show wpAny _ _ (call (.ref f) [u]) _ _ _
  have un : Un (frs X.stack) [] H H2 s.heap s2.heap := I2.base
  obtain ⟨⟨oc, vs, t, hoc, hdc, hvc⟩, _, _⟩ := I2.hok c' _ hc
  have rc : codeAny (model X.prog X.w) (X.A.deeper (envOfC qg sg s.heap.objs.size g cdg)) (.call (.ref f) ⟨[u], []⟩) (CR (L2.CX X.prog X.w) (envOfC qg sg s.heap.objs.size g cdg :: X.stack) X.prog X.w H2 s2 Q (fun _ _ _ => False)) s2 := by
    refine PySem.W.kla_callFunE hr.depth of2 rfl L.co L.gen rfl ⟨c', oc, vs, t, rfl, hoc, hdc, hvc⟩ ?_
    rw [hbind]
    refine wpAny_pure (wpAny_newFunctionEnv (fun y hy => (L.own y hy).2) (fun y hy => by rw [List.mem_singleton.mp hy]; exact L.par) (fun h₁ hns hsb => ⟨I2.nolimit.fresh _ hsb, ?_⟩) L.kind)
    show codeAny _ _ (.expr body (lamEnv X scope s2.heap.objs.size f c')) _ _
    have kp : ∀ b o, s2.heap.get? b = some o → h₁.get? b = some o := fun b o e => hsb.extBut b o (Nat.ne_of_lt (Heap.lt_size e)) (Heap.get?_push_of_some _ e)
    have J : Inv (lamCxP X (X.A.deeper (envOfC qg sg s.heap.objs.size g cdg)) (envOfC qg sg s.heap.objs.size g cdg :: X.stack) s2 H2 (fun _ _ _ => False) scope f c' p) [] (σ ++ [some v]) H2 { s2 with heap := h₁, toks := s2.toks + ([(p, u)] : List (Str × Value)).length } :=
      lam_startS I L hp I2.env0 hr.hd un hns rv kp
    refine PySem.W.kla_codeExpr (wpAny_mono ((hbody _ _ s2 H2 (hr.deeper _)).run [] _ _ H2 Q J ht2) (fun v s' hq => ?_) fun e s' hq => hq)
    obtain ⟨w', H', J', rv, q⟩ := hq
    exact ⟨w', H', J'.os, J'.bare, J'.base, J'.hok, rv, q⟩
  refine wpAny_call (codeAny_mono rc fun r s' hq => ?_)
  cases r with
  | error e => obtain ⟨_, _, _, _, _, _, _, _, _, _, _, _, z⟩ := hq; exact z.elim
  | ok fl =>
    cases fl with
    | ret u => exact I2.after hq
    | next => exact False.elim hq
    | brk => exact False.elim hq
    | cont => exact False.elim hq
end
/-! ### a lambda of one parameter, handed as the third of three -/
def GivesP2 (X : Cx) (Ng : List Str) (x : Str) (sg : Scope) (g : Addr) (cdg : Value) (bg : List Stmt) (a : Str) (q : Str) (TT : (V → Hp → VK → Prop) → V → V → Hp → VK → Prop) : Prop :=
  ∀ (f c' : Addr) (s : Shared) (H : Hp) (v1 v2 : V) (Q : VK) (tl : V → Hp → VK → Prop),
    (∀ (e : Expr) (ta : TA) (p1 p2 : Pos), PA (cxOf C8.CX0 X.prog X.w X.K X.mg X.base Ng x sg g cdg X.A X.stack s H C8.E0).nox [e] ta →
      starEach [e] (envOfC x sg s.heap.objs.size g cdg) = (false, eval e (envOfC x sg s.heap.objs.size g cdg)) :: starEach [] (envOfC x sg s.heap.objs.size g cdg) →
      PE (cxOf C8.CX0 X.prog X.w X.K X.mg X.base Ng x sg g cdg X.A X.stack s H C8.E0).nox (.Call (.Name a p1) [e] [] p2) (fun σZ HZ Q => σZ[2]? = some (some (.ref f)) ∧ ta σZ HZ fun vs H1 => ∃ v, vs = [v] ∧ H1 c' = some (CodeO c' q) ∧ tl v H1 Q)) →
    H c' = some (CodeO c' q) → Room 8 (X.A.deeper (envOfC x sg s.heap.objs.size g cdg)) → TT tl v1 v2 H Q →
    ∃ t, PSs (cxOf C8.CX0 X.prog X.w X.K X.mg X.base Ng x sg g cdg X.A X.stack s H C8.E0).nox bg t ∧ t { nx := fun _ H' => Q .non H', rt := Q } (L2.start Ng [v1, v2, .ref f]) H
def tLam3b (N : List Str) (p : Str) (T : List (Addr × Str)) (q : Str) (TT : (V → Hp → VK → Prop) → V → V → Hp → VK → Prop) (t1 t2 t : TE) : TE := fun σ H Q => slotFree N p σ = true ∧ t1 σ H fun v1 H1 => t2 σ H1 fun v2 H2 => Tabs T H2 ∧ ∀ H3 c', ExtN H2 H3 → Tabs T H3 → H3 c' = some (CodeO c' q) →
  TT (fun v H' Q' => t (σ ++ [some v]) H' Q') v1 v2 H3 Q
section
variable {X : Cx}
/-- x(e1, e2, lambda p: body) -/
theorem pe_lamcall3b {T : List (Addr × Str)} {TT : (V → Hp → VK → Prop) → V → V → Hp → VK → Prop} {x a p0 : Str} {g c P : Addr} {pg : Arguments} {bg : List Stmt} {sg : Scope} {dV kV doc pm cdv ct oc : Value} {an od : Option Addr} {osl : Array (Option Value)} {Ng ps : List Str}
    {params : Arguments} {body e1 e2 : Expr} {scope : Scope} {t1 t2 t : TE} {p lpos pos : Pos} (hg : Gl X x) (hm : X.mg x = some (.ref g)) (hk : PySem.W.keepIn X.K (.ref g) = true)
    (lk : X.K.lookup g = some ⟨oc, od, .func (PySem.W.fnOf x x pg bg sg dV kV doc pm an cdv ct), osl⟩) (hcg : PySem.W.codeIn X.K cdv x = true) (hb : L2.Binds X.K (PySem.W.fnOf x x pg bg sg dV kV doc pm an cdv ct) ps []) (Sg : FnScope Ng ps sg) (hps : ps.length = 3) (hNg : Ng[2]? = some a) (hva : Vis sg a)
    (hG : GivesP2 X Ng x sg g cdv bg a (X.env.qual ++ "<lambda>") TT)
    (TB : TabB X.base X.mg c P) (hcode : X.env.code = .ref c) (hmT : (P, X.env.qual ++ "<lambda>") ∈ T) (hu : ∀ p ∈ T, p.1 = P → p.2 = X.env.qual ++ "<lambda>") (hr : Room 9 X.A) (L : LamP X.env.scope scope p0) (hdef : defaultsOf params X.env = ([], []))
    (hbind : ∀ (q : Str) (cl : List (Str × Addr)) (pm cv ctv u : Value), bindArgs (PySem.W.kla_fn "<lambda>" q params body scope cl pm cv ctv) ⟨[u], []⟩ = pure [(p0, u)])
    (h1 : PE X e1 t1) (h2 : PE X e2 t2)
    (hbody : ∀ (A : Around) (outer : List Env) (s : Shared) (H : Hp) (f c' : Addr), Room 7 (A.deeper (lamEnv X scope s.heap.objs.size f c')) → PE (lamCxP X A outer s H (fun _ _ _ => False) scope f c' p0) body t)
    (he1 : starEach [e1, e2, .Lambda params body scope lpos] X.env = (false, eval e1 X.env) :: starEach [e2, .Lambda params body scope lpos] X.env := by rfl) (he2 : starEach [e2, .Lambda params body scope lpos] X.env = (false, eval e2 X.env) :: starEach [.Lambda params body scope lpos] X.env := by rfl)
    (he3 : starEach [.Lambda params body scope lpos] X.env = (false, eval (.Lambda params body scope lpos) X.env) :: starEach [] X.env := by rfl) (hpl : (backTo pos (starEach [e2, .Lambda params body scope lpos] X.env)).any (·.1) = false := by rfl)
    (hdb : (x == ("__debug__" : Str)) = false := by decide) (hd : (a == ("__debug__" : Str)) = false := by decide) (hcd : (a == ("__classdict__" : Str)) = false := by decide) :
    PE X (.Call (.Name x p) [e1, e2, .Lambda params body scope lpos] [] pos) (tLam3b X.N p0 T (X.env.qual ++ "<lambda>") TT t1 t2 t) := by
  refine ⟨fun pins s σ H Q I ⟨hfree, h⟩ => ?_⟩
  have hp0 := slotFree_at hfree
  refine wpAny_Call_Name_kw (ld_glob I hg hm ?_ hdb)
  refine PySem.W.callWith_K (h₀ := X.base) I.ok.mod.kin hk ?_ he1 hpl
  rw [he1]
  show wpAny _ _ (spliced ((false, eval e1 X.env) :: backTo pos (starEach [e2, .Lambda params body scope lpos] X.env))) _ _ s
  rw [he2]
  show wpAny _ _ (spliced ((false, eval e1 X.env) :: (false, eval e2 X.env) :: backTo pos (starEach [.Lambda params body scope lpos] X.env))) _ _ s
  rw [he3]
  show wpAny _ _ (spliced ((false, eval e1 X.env) :: (false, eval e2 X.env) :: (false, eval (.Lambda params body scope lpos) X.env) :: backTo pos (starEach [] X.env))) _ _ s
  refine Calls.spliced_cons (thn (h1.run pins s σ H _ I h) fun u1 s1 ⟨v1, H1, I1, r1, h⟩ => ?_)
  refine Calls.spliced_cons (thn (h2.run pins s1 σ H1 _ I1 h) fun u2 s2 ⟨v2, H2, I2, r2, hT, h⟩ => ?_)
  refine Calls.spliced_cons (lam_make2 I2 TB hcode hmT hu hT hdef (L.has I2.ok) fun f c' pm' ctv H3 s3 I3 eN T3 hf hfn hfr hco => ?_)
  have h := h H3 c' eN T3 hco
  refine Calls.spliced_nil ⟨I3.kIn, ?_⟩
  have rc : codeAny (model X.prog X.w) X.A (.call (.ref g) ⟨[u1, u2, .ref f], []⟩) (CR C8.CX0 X.stack X.prog X.w H3 s3 Q C8.E0) s3 := by
    refine run_ofS (N := Ng) (ps := ps) (us := [u1, u2, .ref f]) (vs := [v1, v2, .ref f]) lk hcg Sg hr I3.env0 (hb s3 [u1, u2, .ref f] I3.kIn (by simp [hps])) (.cons r1 (.cons r2 (.cons rfl .nil))) (by simp [hps]) fun hr' => ?_
    obtain ⟨t', ht', hq'⟩ := hG f c' s3 H3 v1 v2 Q (fun v H' Q' => t (σ ++ [some v]) H' Q') (fun e ta p1 p2 ha he => pe_actS I3 L hp0 hf hfn hfr (fun u => hbind _ _ _ _ _ u) hr' (fun A outer s H hr2 => hbody A outer s H f c' hr2) hNg hva hd hcd ha he) hco hr' h
    exact ⟨t', ht'.nox, hq'⟩
  refine wpAny_call (codeAny_mono rc fun r s4 hq => ?_)
  cases r with
  | error e => exact (show False from hq).elim
  | ok fl =>
    cases fl with
    | ret u => exact I3.after hq
    | next => exact False.elim hq
    | brk => exact False.elim hq
    | cont => exact False.elim hq
end
end LamX
namespace Iz
open PySem PySem.Spec PyProof.Rows L2 LamX
theorem plam3b {X : Cx} {TS : List (Addr × Str)} {x a p0 : Str} {st : Stmt} {N ps : List Str} {TT : (V → Hp → VK → Prop) → V → V → Hp → VK → Prop} {c P : Addr} {qn : Str} {params : Arguments} {body e1 e2 : Expr} {scope : Scope} {t1 t2 t : TE} {p lpos pos : Pos}
    (F : ∃ (f : Addr) (fd : FuncData), X.mg x = some (.ref f) ∧ Fun X.K x x st f fd) (S : FnScope N ps (defScope st))
    (hb : ∀ (kV doc pm : Value) (an : Option Addr) (cdv ct : Value) (us : List Value), us.length = ps.length → bindArgs (PySem.W.fnOf x x (defArgs st) (defBody st) (defScope st) .none kV doc pm an cdv ct) ⟨us, []⟩ = pure (ps.zip us))
    (hG : ∀ (g : Addr) (cdg : Value), GivesP2 X N x (defScope st) g cdg (defBody st) a qn TT)
    (hm : (P, qn) ∈ TS) (hu : ∀ q ∈ TS, q.1 = P → q.2 = qn) (TB : TabB X.base X.mg c P) (hcode : X.env.code = .ref c) (hq : X.env.qual ++ "<lambda>" = qn) (hr : Room 9 X.A) (L : lamPB X.env.scope scope p0 = true)
    (h1 : PE X e1 t1) (h2 : PE X e2 t2)
    (hbody : ∀ (A : Around) (outer : List Env) (s : Shared) (H : Hp) (f c' : Addr), Room 7 (A.deeper (lamEnv X scope s.heap.objs.size f c')) → PE (lamCxP X A outer s H (fun _ _ _ => False) scope f c' p0) body t)
    (hps : ps.length = 3 := by rfl) (hdef : defaultsOf params X.env = ([], []) := by rfl) (hg : Gl X x := by rfl) (hv : Vis (defScope st) a := by first | exact Or.inl rfl | exact Or.inr (Or.inl rfl)) (hNa : N[2]? = some a := by rfl)
    (hbind : ∀ (q : Str) (cl : List (Str × Addr)) (pm cv ctv u : Value), bindArgs (PySem.W.kla_fn "<lambda>" q params body scope cl pm cv ctv) ⟨[u], []⟩ = pure [(p0, u)] := by intros; rfl)
    (he1 : starEach [e1, e2, .Lambda params body scope lpos] X.env = (false, eval e1 X.env) :: starEach [e2, .Lambda params body scope lpos] X.env := by rfl) (he2 : starEach [e2, .Lambda params body scope lpos] X.env = (false, eval e2 X.env) :: starEach [.Lambda params body scope lpos] X.env := by rfl)
    (he3 : starEach [.Lambda params body scope lpos] X.env = (false, eval (.Lambda params body scope lpos) X.env) :: starEach [] X.env := by rfl) (hpl : (backTo pos (starEach [e2, .Lambda params body scope lpos] X.env)).any (·.1) = false := by rfl)
    (hdb : (x == ("__debug__" : Str)) = false := by decide) (hd : (a == ("__debug__" : Str)) = false := by decide) (hcd : (a == ("__classdict__" : Str)) = false := by decide) :
    PE X (.Call (.Name x p) [e1, e2, .Lambda params body scope lpos] [] pos) (tLam3b X.N p0 TS qn TT t1 t2 t) := by
  subst hq
  obtain ⟨g, fd, hmg, F⟩ := F
  obtain ⟨oc, od, kV, doc, pm, an, cdv, ct, osl, rfl, lk, hcg⟩ := F.ex
  exact pe_lamcall3b hg hmg F.kp lk hcg (.all (hb kV doc pm an cdv ct)) S hps hNa hv (hG g cdv) TB hcode hm hu hr (lamP_by L) hdef hbind h1 h2 hbody he1 he2 he3 hpl hdb hd hcd
/-! ### a method called within a try, the slots known -/
def tMtS (C : Addr) (m : Str) (sp : Sp) (dv : List V) (E : L2.St → XK) (ta : TE) (t : TA) : TE := fun σ H Q => ta σ H fun x H1 => ∃ a dx fs, x = .ref a ∧ H1 a = some (.ins C dx fs) ∧ fs.lookup m = none ∧ t σ H1 fun vs H2 => sp (x :: (vs ++ dv)) H2 Q (E σ)
theorem pmtS {X : Cx} {CX : CXT} {k j : Nat} {x m : Str} {ps : List Str} {dvs : List V} {sp : Sp} {E : L2.St → XK} {o e : Expr} {es : List Expr} {ta : TE} {t : TA} {pos apos : Pos} {pl : Sem Bool} (O : OkM X.prog X.w X.K X.mg X.base CX k x m ps dvs sp) (C : Cls X.K (He.ga X.K x)) (he : PE X o ta) (hj : j ≤ dvs.length) (hr : Room k X.A) (hx : ∀ σ, PassesAt CX X σ (E σ)) (ha : PA X (e :: es) t)
    (hst : starEach (e :: es) X.env = (false, eval e X.env) :: starEach es X.env := by rfl) (hpl : (backTo pos (starEach es X.env)).any (·.1) = false := by rfl)
    (ht : eval (.Call (.Attribute o m apos) (e :: es) [] pos) X.env = (do
      let ov ← eval o X.env; standAt apos.atName
      let (f, first) ← holding [ov] (getMethod ov m pl)
      callWith pos f first (backTo pos (starEach (e :: es) X.env)) (backToKw pos (keywordEach [] X.env))) := by rfl) :
    PE X (.Call (.Attribute o m apos) (e :: es) [] pos) (tMtS (He.ga X.K x) m sp (dvs.drop j) E ta t) := by
  obtain ⟨f, fd, M, b, F⟩ := O.ex
  obtain ⟨ds, hd, hb⟩ := b j hj
  refine ⟨fun pins s σ H Q I h => ?_⟩
  refine PySem.W.methodCall_KW (pl := pl) (thn (he.run pins s σ H _ I h) fun u s1 ⟨x, H1, I1, rx, a, dx, fs, ex, ea, l, q⟩ => ?_) ht
  subst ex
  obtain rfl : u = Value.ref a := rx
  refine getmeth_ok I1 ea C M l ?_
  refine PySem.W.callWith_K (first := [.ref a]) (h₀ := X.base) I.ok.mod.kin M.kp (thn (ha.run pos pins s1 σ H1 _ I1 q) fun us s2 ⟨vs, H2, I2, r, q2⟩ => ⟨I2.kIn, ?_⟩) hst hpl
  exact run_fnSD (us := .ref a :: us) (vs := .ref a :: vs) F hr hb hd (hx σ) I2 (.cons rfl r) q2
end Iz
/-! Mx -/
namespace Iz
/-! ### how great a number is -/
def lg (x : Int) : Nat := if x = 0 then 0 else x.natAbs.log2 + 1
theorem lg_lt {x : Int} {n : Nat} (h : x.natAbs < 2 ^ n) : lg x ≤ n := by
  unfold lg
  split
  · omega
  · rename_i hx
    have := (Nat.log2_lt (n := x.natAbs) (k := n) (by omega)).mpr h
    omega
theorem lg_self (x : Int) : x.natAbs < 2 ^ lg x := by
  unfold lg
  split
  · rename_i h; subst h; decide
  · exact Nat.lt_log2_self
theorem lg_mono {x y : Int} (h : x.natAbs ≤ y.natAbs) : lg x ≤ lg y := lg_lt (Nat.lt_of_le_of_lt h (lg_self y))
theorem lg_half {x y : Int} (h : 2 * x.natAbs < y.natAbs) : lg x + 1 ≤ lg y := by
  have h1 := lg_self y
  have hy : 0 < lg y := by unfold lg; split <;> omega
  obtain ⟨n, hn⟩ : ∃ n, lg y = n + 1 := ⟨lg y - 1, by omega⟩
  rw [hn] at h1 ⊢
  have h2 : x.natAbs < 2 ^ n := by rw [Nat.pow_succ] at h1; omega
  have := lg_lt h2
  omega
def same (d r : Int) : Prop := (0 ≤ d ∧ 0 ≤ r) ∨ (d ≤ 0 ∧ r ≤ 0)
instance (d r : Int) : Decidable (same d r) := by unfold same; infer_instance
def bud (d r : Int) : Nat := if same d r then lg d + lg r + (if d.natAbs < r.natAbs then 1 else 0) else 2 * lg r + 1
/-- the rest of a division by floors -/
theorem rest_pos {d r : Int} (h : 0 < r) : 0 ≤ d - d.fdiv r * r ∧ d - d.fdiv r * r < r := by
  rw [Int.fdiv_eq_ediv_of_nonneg d (by omega)]
  have h1 := Int.emod_nonneg d (b := r) (by omega)
  have h2 := Int.emod_lt_of_pos d h
  have h3 := Int.emod_add_mul_ediv d r
  rw [Int.mul_comm] at h3
  omega
theorem rest_neg {d r : Int} (h : r < 0) : r < d - d.fdiv r * r ∧ d - d.fdiv r * r ≤ 0 := by
  have h1 := rest_pos (d := -d) (r := -r) (by omega)
  rw [Int.neg_fdiv_neg, Int.mul_neg] at h1
  omega
theorem fdiv_le (d r : Int) : (d.fdiv r).natAbs ≤ d.natAbs := by
  by_cases h : 0 ≤ r
  · rw [Int.fdiv_eq_ediv_of_nonneg d h]; exact Int.natAbs_ediv_le_natAbs _ _
  · rw [← Int.neg_fdiv_neg, Int.fdiv_eq_ediv_of_nonneg _ (by omega), ← Int.natAbs_neg d]; exact Int.natAbs_ediv_le_natAbs _ _
theorem fdiv_same {d r : Int} (hr : r ≠ 0) (hs : same d r) (hl : r.natAbs ≤ d.natAbs) : 2 * (d - d.fdiv r * r).natAbs < d.natAbs := by
  rcases Int.lt_or_gt_of_ne hr with h | h
  · have hd : d < 0 := by rcases hs with hs | hs <;> omega
    have h1 := rest_neg (d := d) h
    have ht : 1 ≤ d.fdiv r := by
      rw [← Int.neg_fdiv_neg, Int.fdiv_eq_ediv_of_nonneg _ (by omega)]
      exact (Int.le_ediv_iff_mul_le (by omega)).mpr (by omega)
    have h2 : d.fdiv r * r ≤ 1 * r := Int.mul_le_mul_of_nonpos_right ht (by omega)
    omega
  · have hd : 0 < d := by rcases hs with hs | hs <;> omega
    have h1 := rest_pos (d := d) h
    have ht : 1 ≤ d.fdiv r := by
      rw [Int.fdiv_eq_ediv_of_nonneg _ (by omega)]
      exact (Int.le_ediv_iff_mul_le (by omega)).mpr (by omega)
    have h2 : 1 * r ≤ d.fdiv r * r := Int.mul_le_mul_of_nonneg_right ht (by omega)
    omega
theorem fdiv_small {d r : Int} (hr : r ≠ 0) (hs : same d r) (hl : d.natAbs < r.natAbs) : d - d.fdiv r * r = d := by
  have : d.fdiv r = 0 := by
    rcases Int.lt_or_gt_of_ne hr with h | h
    · rw [← Int.neg_fdiv_neg, Int.fdiv_eq_ediv_of_nonneg _ (by omega)]
      exact Int.ediv_eq_zero_of_lt (by rcases hs with hs | hs <;> omega) (by rcases hs with hs | hs <;> omega)
    · rw [Int.fdiv_eq_ediv_of_nonneg _ (by omega)]
      exact Int.ediv_eq_zero_of_lt (by rcases hs with hs | hs <;> omega) (by rcases hs with hs | hs <;> omega)
  rw [this]; omega
theorem bud_step {d r : Int} (hr : r ≠ 0) : bud r (d - d.fdiv r * r) < bud d r := by
  have hlt : (d - d.fdiv r * r).natAbs < r.natAbs := by
    rcases Int.lt_or_gt_of_ne hr with h | h
    · have := rest_neg (d := d) h; omega
    · have := rest_pos (d := d) h; omega
  have hs' : same r (d - d.fdiv r * r) := by
    rcases Int.lt_or_gt_of_ne hr with h | h
    · have := rest_neg (d := d) h; exact .inr ⟨by omega, by omega⟩
    · have := rest_pos (d := d) h; exact .inl ⟨by omega, by omega⟩
  unfold bud
  rw [if_pos hs', if_neg (by omega)]
  by_cases hs : same d r
  · rw [if_pos hs]
    by_cases hl : d.natAbs < r.natAbs
    · rw [if_pos hl, fdiv_small hr hs hl]; omega
    · rw [if_neg hl]
      have := lg_half (fdiv_same hr hs (by omega))
      omega
  · rw [if_neg hs]
    have := lg_mono (x := d - d.fdiv r * r) (y := r) (by omega)
    omega
theorem bud_le {d r : Int} {n : Nat} (hd : d.natAbs < 2 ^ n) (hr : r.natAbs < 2 ^ n) : bud d r ≤ 2 * n + 1 := by
  have h1 := lg_lt hd
  have h2 := lg_lt hr
  unfold bud
  split
  · split <;> omega
  · omega
/-! ### the weighed divisor's loop -/
structure EI (one other d u v r nu nv : Int) (k : Nat) : Prop where
  e1 : u * one + v * other = d
  e2 : nu * one + nv * other = r
  g : Int.gcd d r = Int.gcd one other
  hd : d.natAbs < 2 ^ 250
  hr : r.natAbs < 2 ^ 250
  bu : u.natAbs ≤ 2 ^ (251 * k)
  bv : v.natAbs ≤ 2 ^ (251 * k)
  bnu : nu.natAbs ≤ 2 ^ (251 * k)
  bnv : nv.natAbs ≤ 2 ^ (251 * k)
  kb : k + bud d r ≤ 501
theorem EI.start {one other : Int} (h1 : one.natAbs < 2 ^ 250) (h2 : other.natAbs < 2 ^ 250) : EI one other one 1 0 other 0 1 0 :=
  ⟨by omega, by omega, rfl, h1, h2, by decide, by decide, by decide, by decide, by have := bud_le h1 h2; omega⟩
theorem grow {u t nu : Int} {k : Nat} (hu : u.natAbs ≤ 2 ^ (251 * k)) (hn : nu.natAbs ≤ 2 ^ (251 * k)) (ht : t.natAbs < 2 ^ 250) : (u - t * nu).natAbs ≤ 2 ^ (251 * (k + 1)) := by
  have h1 : (t * nu).natAbs ≤ 2 ^ 250 * 2 ^ (251 * k) := by rw [Int.natAbs_mul]; exact Nat.mul_le_mul (Nat.le_of_lt ht) hn
  have h2 : (u - t * nu).natAbs ≤ u.natAbs + (t * nu).natAbs := by omega
  have h3 : 2 ^ (251 * (k + 1)) = 2 * 2 ^ 250 * 2 ^ (251 * k) := by rw [Nat.mul_succ, Nat.pow_add, show (251 : Nat) = 250 + 1 from rfl, Nat.pow_succ]; rw [Nat.mul_comm, Nat.mul_comm (2 ^ 250) 2]
  have h4 : (1 : Nat) * 2 ^ (251 * k) ≤ 2 ^ 250 * 2 ^ (251 * k) := Nat.mul_le_mul_right _ (Nat.one_le_two_pow)
  rw [h3, Nat.mul_assoc]
  generalize 2 ^ 250 * 2 ^ (251 * k) = A at *
  omega
theorem EI.next {one other d u v r nu nv : Int} {k : Nat} (I : EI one other d u v r nu nv k) (h : r ≠ 0) :
    EI one other r nu nv (d - d.fdiv r * r) (u - d.fdiv r * nu) (v - d.fdiv r * nv) (k + 1) := by
  have ht : (d.fdiv r).natAbs < 2 ^ 250 := Nat.lt_of_le_of_lt (fdiv_le d r) I.hd
  have hm : ∀ {z : Int}, z.natAbs ≤ 2 ^ (251 * k) → z.natAbs ≤ 2 ^ (251 * (k + 1)) := fun hz => Nat.le_trans hz (Nat.pow_le_pow_right (by decide) (by omega))
  refine ⟨I.e2, ?_, ?_, I.hr, ?_, hm I.bnu, hm I.bnv, grow I.bu I.bnu ht, grow I.bv I.bnv ht, ?_⟩
  · generalize d.fdiv r = t
    rw [← I.e1, ← I.e2, Int.sub_mul, Int.sub_mul, Int.mul_add, Int.mul_assoc, Int.mul_assoc]; omega
  · rw [← I.g, Int.gcd_comm d r, Int.mul_comm]; exact Int.gcd_sub_mul_left_right _ _ _
  · refine Nat.lt_trans (?_ : _ < r.natAbs) I.hr
    rcases Int.lt_or_gt_of_ne h with h | h
    · have := rest_neg (d := d) h; omega
    · have := rest_pos (d := d) h; omega
  · have := bud_step (d := d) h
    have := I.kb
    omega
theorem EI.done {one other d u v nu nv : Int} {k : Nat} (I : EI one other d u v 0 nu nv k) : d.natAbs = Int.gcd one other ∧ u * one + v * other = d ∧ u.natAbs ≤ 2 ^ 130000 := by
  refine ⟨?_, I.e1, Nat.le_trans I.bu (Nat.pow_le_pow_right (by decide) (by have := I.kb; omega))⟩
  have := I.g
  rw [Int.gcd_zero_right] at this
  exact this
theorem EI.quo {one other d u v r nu nv : Int} {k : Nat} (I : EI one other d u v r nu nv k) : (d.fdiv r).natAbs < 2 ^ 250 := Nat.lt_of_le_of_lt (fdiv_le d r) I.hd
theorem EI.big {one other d u v r nu nv z : Int} {k : Nat} (I : EI one other d u v r nu nv k) (h : z.natAbs ≤ 2 ^ (251 * k)) : z.natAbs < 2 ^ 130000 := Nat.lt_of_le_of_lt h (Nat.pow_lt_pow_right (by decide) (by have := I.kb; omega))
end Iz
/-! My -/
namespace Iz
theorem gpos {b p : Int} (hp : 1 ≤ p) : 0 < (Int.gcd b p : Int) := by have := Int.gcd_pos_of_ne_zero_right b (show p ≠ 0 by omega); omega
theorem qpos {b p : Int} (hp : 1 ≤ p) : 0 < p / (Int.gcd b p : Int) := Int.ediv_pos_of_pos_of_dvd (by omega) (by omega) (Int.gcd_dvd_right b p)
theorem line_sol {a b r p u v : Int} (hp : 1 ≤ p) (h : u * b + v * p = (Int.gcd b p : Int)) (hd : (r - a) % (Int.gcd b p : Int) = 0) :
    (a + b * ((r - a) / (Int.gcd b p : Int) * u % (p / (Int.gcd b p : Int))) - r) % p = 0 := by
  have hg := gpos (b := b) hp
  have e1 : (Int.gcd b p : Int) * (p / (Int.gcd b p : Int)) = p := Int.mul_ediv_cancel' (Int.gcd_dvd_right b p)
  have e2 : (Int.gcd b p : Int) * (b / (Int.gcd b p : Int)) = b := Int.mul_ediv_cancel' (Int.gcd_dvd_left b p)
  have e3 : (Int.gcd b p : Int) * ((r - a) / (Int.gcd b p : Int)) = r - a := Int.mul_ediv_cancel' (Int.dvd_of_emod_eq_zero hd)
  generalize (Int.gcd b p : Int) = g at *
  generalize hq : p / g = q at *
  generalize hk : (r - a) / g = k at *
  generalize hb : b / g = b' at *
  have e4 := Int.emod_add_mul_ediv (k * u) q
  generalize k * u % q = s at *
  generalize k * u / q = m at *
  refine Int.emod_eq_zero_of_dvd ⟨-(k * v + b' * m), ?_⟩
  have e5 : s = k * u - q * m := by omega
  have e6 : b * s = b * (k * u) - b * (q * m) := by rw [e5, Int.mul_sub]
  have e7 : b * (q * m) = p * (b' * m) := by rw [← e1, ← e2, Int.mul_assoc g b', Int.mul_assoc g q]; congr 1; rw [← Int.mul_assoc, ← Int.mul_assoc, Int.mul_comm b' q, Int.mul_assoc]
  have e8 : b * (k * u) = k * (u * b) := by rw [Int.mul_comm b, Int.mul_assoc]
  have e9 : k * (u * b) = k * g - k * (v * p) := by rw [← Int.mul_sub]; congr 1; omega
  have e10 : k * (v * p) = p * (k * v) := by rw [← Int.mul_assoc, Int.mul_comm]
  have e11 : k * g = r - a := by rw [Int.mul_comm]; exact e3
  rw [Int.mul_neg, Int.mul_add]
  omega
theorem dvd_line {b p k : Int} (hp : 1 ≤ p) : p ∣ b * k ↔ p / (Int.gcd b p : Int) ∣ k := by
  have hg := gpos (b := b) hp
  have e1 : (Int.gcd b p : Int) * (p / (Int.gcd b p : Int)) = p := Int.mul_ediv_cancel' (Int.gcd_dvd_right b p)
  have e2 : (Int.gcd b p : Int) * (b / (Int.gcd b p : Int)) = b := Int.mul_ediv_cancel' (Int.gcd_dvd_left b p)
  have co := Int.gcd_ediv_gcd_ediv_gcd (i := b) (j := p) (by omega)
  generalize (Int.gcd b p : Int) = g at *
  generalize p / g = q at *
  generalize b / g = b' at *
  rw [← e1, ← e2, Int.mul_assoc, Int.mul_dvd_mul_iff_left (by omega)]
  constructor
  · intro h
    have h2 : q.natAbs ∣ b'.natAbs * k.natAbs := by rw [← Int.natAbs_mul]; exact Int.natAbs_dvd_natAbs.mpr h
    have h3 : Nat.Coprime q.natAbs b'.natAbs := by
      rw [Int.gcd_eq_natAbs_gcd_natAbs, Nat.gcd_comm] at co; exact co
    exact Int.natAbs_dvd_natAbs.mp (h3.dvd_of_dvd_mul_left h2)
  · exact fun h => Int.dvd_mul_of_dvd_right h
/-- of which i a + b i is r modulo p -/
theorem line_iff {a b r p s i : Int} (hp : 1 ≤ p) (h : (a + b * s - r) % p = 0) : (a + b * i - r) % p = 0 ↔ (i - s) % (p / (Int.gcd b p : Int)) = 0 := by
  have h1 := Int.dvd_of_emod_eq_zero h
  have e : a + b * i - r = (a + b * s - r) + b * (i - s) := by rw [Int.mul_sub]; omega
  rw [← Int.dvd_iff_emod_eq_zero, ← Int.dvd_iff_emod_eq_zero, e, ← dvd_line hp]
  exact Int.dvd_add_right h1
theorem gcd_small {b p : Int} {n : Nat} (hp : 1 ≤ p) (h : p.natAbs < 2 ^ n) : (Int.gcd b p : Int).natAbs < 2 ^ n := by
  have := Int.le_of_dvd (by omega) (Int.gcd_dvd_right b p)
  have := gpos (b := b) hp
  omega
theorem ediv_small {x g : Int} {n : Nat} (h : x.natAbs < 2 ^ n) : (x / g).natAbs < 2 ^ n := Nat.lt_of_le_of_lt (Int.natAbs_ediv_le_natAbs _ _) h
theorem pow_small {x m n : Nat} (h : x < 2 ^ m) (hm : m ≤ n) : x < 2 ^ n := Nat.lt_of_lt_of_le h (Nat.pow_le_pow_right (by decide) hm)
theorem mod_sub {a m n r : Int} (h : n ∣ m) (hr : n ∣ a - r) : (a % m - r) % n = 0 := by
  refine Int.emod_eq_zero_of_dvd ?_
  have h1 : n ∣ a - a % m := Int.dvd_trans h Int.dvd_self_sub_emod
  have e : a % m - r = (a - r) - (a - a % m) := by omega
  rw [e]; exact Int.dvd_sub hr h1
theorem both_sol {r p o q s : Int} (hq : 1 ≤ q) (h : (r + p * s - o) % q = 0) :
    ((r + p * s) % (p * (q / (Int.gcd p q : Int))) - r) % p = 0 ∧ ((r + p * s) % (p * (q / (Int.gcd p q : Int))) - o) % q = 0 := by
  refine ⟨mod_sub (Int.dvd_mul_right _ _) (by rw [show r + p * s - r = p * s by omega]; exact Int.dvd_mul_right _ _), mod_sub ?_ (Int.dvd_of_emod_eq_zero h)⟩
  have e1 : (Int.gcd p q : Int) * (q / (Int.gcd p q : Int)) = q := Int.mul_ediv_cancel' (Int.gcd_dvd_right p q)
  obtain ⟨c, hc⟩ := Int.gcd_dvd_left p q
  refine ⟨c, ?_⟩
  have : p * (q / (Int.gcd p q : Int)) = (Int.gcd p q : Int) * (q / (Int.gcd p q : Int)) * c := by
    conv => lhs; rw [hc]
    rw [Int.mul_assoc, Int.mul_assoc, Int.mul_comm c]
    congr 2
    rw [← hc]
  rw [this, e1]
/-! ### Euclid's steps -/
theorem bud_mod {d r : Int} (h : 0 < r) : bud r (d % r) < bud d r := by
  have := bud_step (d := d) (r := r) (by omega)
  rw [Int.fdiv_eq_ediv_of_nonneg d (by omega)] at this
  have e := Int.emod_def d r
  rw [Int.mul_comm] at e
  rw [e]; exact this
theorem mod_swap {a b g : Int} : (a - b) % g = 0 ↔ (b - a) % g = 0 := by
  rw [← Int.dvd_iff_emod_eq_zero, ← Int.dvd_iff_emod_eq_zero, ← Int.dvd_neg]
  rw [show -(a - b) = b - a by omega]
theorem mul_div_gcd {p q : Int} : p * (q / (Int.gcd p q : Int)) = p / (Int.gcd p q : Int) * q := by
  rw [← Int.mul_ediv_assoc _ (Int.gcd_dvd_right p q), Int.mul_comm p q, Int.mul_ediv_assoc _ (Int.gcd_dvd_left p q), Int.mul_comm]
theorem lcm_abs {x y : Int} : (x.natAbs : Int) / (Int.gcd (x.natAbs : Int) (y.natAbs : Int) : Int) * (y.natAbs : Int) = ((x * y).natAbs : Int) / (Int.gcd x y : Int) := by
  have e : Int.gcd (x.natAbs : Int) (y.natAbs : Int) = Int.gcd x y := by rw [Int.gcd_eq_natAbs_gcd_natAbs, Int.gcd_eq_natAbs_gcd_natAbs]; rfl
  have d : (Int.gcd x y : Int) ∣ (y.natAbs : Int) := Int.dvd_natAbs.mpr (Int.gcd_dvd_right x y)
  have d2 : (Int.gcd x y : Int) ∣ (x.natAbs : Int) := Int.dvd_natAbs.mpr (Int.gcd_dvd_left x y)
  rw [e, Int.natAbs_mul, Int.natCast_mul, Int.mul_comm (x.natAbs : Int) (y.natAbs : Int), Int.mul_ediv_assoc _ d2, Int.mul_comm]
end Iz
/-! k04_text -/
set_option Elab.async false
set_option linter.all false
set_option maxRecDepth 100000
set_option maxHeartbeats 4000000
namespace Iz
open PySem PySem.Spec PyProof.Rows L2
open He (ga)
local macro_rules | `(tactic| walk_at "wp") => `(tactic| simp only [rMax2, tYes, calmS, tDNew, rInDN, rIxDN, rSetDN, tPop, rTupN, rMax, rMin, rSum, rAny, rSorted, rRepN, tSl, tPart, tNoPart, rSlLN, rSlG, rCatG, rOwnB, LamX.tLam3b, rListT, rRepr, tXf, tMtS, cx_K, Value.ref.injEq, HO.xd.injEq, lk0, tSeq, tPar3, tPar, tCons, tNil, tVar, tC, tAsg, gName, gCons, gNil, gTupN, gSub, tOp, rI, rI0, rU, tTest, rNe, rEq, rIxTN, rIxLN, rLenL, rLenT, rIntI, rIntB, rAbs, rSetLN, tTruL, tRaiseX, rIsTy, rIsOw, ixN0, ixN1, tRet, tIf, tIfS, tNext, tBreak, tCont, tDrop, tTupN, tLstN, tUn, tCB, tCall, tNot, tAnd, tOr, tB, tAndV, tOrV, tNotV, tChain, tApp, LamX.tLam, tRevLN, rCatN, rInTN, rInLN, flatV, inV, List.all_cons, List.all_nil, List.any_cons, List.any_nil, Bool.and_self, Bool.and_true, if_true, Bool.false_eq_true, if_false, tMt, tFldN, tSto, HO.ins.injEq, lkh, List.drop_zero, List.drop_succ_cons, List.drop_nil, rListS, wipe, L2.start, List.map_cons, List.map_nil, List.length_cons, List.length_nil, List.replicate, List.cons_append, List.nil_append, List.append_nil, Nat.reduceAdd, Nat.reduceSub, Nat.zero_add, List.replicate_succ, List.replicate_zero, List.getElem?_cons_zero, List.getElem?_cons_succ, List.set_cons_zero, List.set_cons_succ, Option.some.injEq, V.int.injEq, V.bl.injEq, V.ref.injEq, V.str.injEq, V.ty.injEq, List.cons.injEq, HO.tup.injEq, HO.lst.injEq, and_true, true_and, and_assoc, exists_eq_left, exists_eq_left', exists_and_left, exists_eq', atI0, atI1, atI2, atI3, Int.cast_ofNat_Int, Int.reduceToNat, scal_ii, scal_in, scal_ni, scal_nn, scal_bb, scal_ss, scal_sn, scal_ns, scal_bn, scal_nb, ite_iff, decide_eq_true_eq, decide_eq_false_iff_not, Bool.not_eq_true', Classical.not_not, ne_eq, not_false_eq_true, not_true_eq_false, forall_const, true_implies, false_implies, imp_self, sizeLine_eq, Nat.reduceLeDiff, reduceCtorEq, decide_true, decide_false])
def top (i : Nat) : Stmt := PySem.Challenge.pw_endlessplane_k04_whole_spreads_put_toget.main.body.getD i (.Pass ⟨0, 0, 0, 0⟩)
abbrev s_is_whole : Stmt := top 7
abbrev N_is_whole : List Str := ["value"]
theorem sc_is_whole : FnScope ["value"] ["value"] (defScope s_is_whole) := ⟨rfl, rfl, rfl, by decide +kernel, rfl, by decide +kernel, by decide +kernel⟩
abbrev s_is_from : Stmt := top 8
abbrev N_is_from : List Str := ["value", "least"]
theorem sc_is_from : FnScope ["value", "least"] ["value", "least"] (defScope s_is_from) := ⟨rfl, rfl, rfl, by decide +kernel, rfl, by decide +kernel, by decide +kernel⟩
abbrev s_is_row : Stmt := top 9
abbrev N_is_row : List Str := ["value"]
theorem sc_is_row : FnScope ["value"] ["value"] (defScope s_is_row) := ⟨rfl, rfl, rfl, by decide +kernel, rfl, by decide +kernel, by decide +kernel⟩
abbrev s_is_span : Stmt := top 10
abbrev N_is_span : List Str := ["low", "high"]
theorem sc_is_span : FnScope ["low", "high"] ["low", "high"] (defScope s_is_span) := ⟨rfl, rfl, rfl, by decide +kernel, rfl, by decide +kernel, by decide +kernel⟩
abbrev s_require_whole : Stmt := top 11
abbrev N_require_whole : List Str := ["value"]
theorem sc_require_whole : FnScope ["value"] ["value"] (defScope s_require_whole) := ⟨rfl, rfl, rfl, by decide +kernel, rfl, by decide +kernel, by decide +kernel⟩
abbrev s_require_from : Stmt := top 12
abbrev N_require_from : List Str := ["value", "least"]
theorem sc_require_from : FnScope ["value", "least"] ["value", "least"] (defScope s_require_from) := ⟨rfl, rfl, rfl, by decide +kernel, rfl, by decide +kernel, by decide +kernel⟩
abbrev s_Stretch___init__ : Stmt := inClass (top 14) 0
abbrev N_Stretch___init__ : List Str := ["self", "low", "high"]
theorem sc_Stretch___init__ : FnScope ["self", "low", "high"] ["self", "low", "high"] (defScope s_Stretch___init__) := ⟨rfl, rfl, rfl, by decide +kernel, rfl, by decide +kernel, by decide +kernel⟩
abbrev s_Stretch___eq__ : Stmt := inClass (top 14) 1
abbrev N_Stretch___eq__ : List Str := ["self", "other"]
theorem sc_Stretch___eq__ : FnScope ["self", "other"] ["self", "other"] (defScope s_Stretch___eq__) := ⟨rfl, rfl, rfl, by decide +kernel, rfl, by decide +kernel, by decide +kernel⟩
abbrev s_Stretch_holds : Stmt := inClass (top 14) 3
abbrev N_Stretch_holds : List Str := ["self", "number"]
theorem sc_Stretch_holds : FnScope ["self", "number"] ["self", "number"] (defScope s_Stretch_holds) := ⟨rfl, rfl, rfl, by decide +kernel, rfl, by decide +kernel, by decide +kernel⟩
abbrev s_Stretch_moved : Stmt := inClass (top 14) 4
abbrev N_Stretch_moved : List Str := ["self", "by", "low", "high"]
theorem sc_Stretch_moved : FnScope ["self", "by", "low", "high"] ["self", "by"] (defScope s_Stretch_moved) := ⟨rfl, rfl, rfl, by decide +kernel, rfl, by decide +kernel, by decide +kernel⟩
abbrev s_Stretch_turned : Stmt := inClass (top 14) 5
abbrev N_Stretch_turned : List Str := ["self", "low", "high"]
theorem sc_Stretch_turned : FnScope ["self", "low", "high"] ["self"] (defScope s_Stretch_turned) := ⟨rfl, rfl, rfl, by decide +kernel, rfl, by decide +kernel, by decide +kernel⟩
abbrev s_Spread___init__ : Stmt := inClass (top 15) 0
abbrev N_Spread___init__ : List Str := ["self", "stretches", "index", "item"]
theorem sc_Spread___init__ : FnScope ["self", "stretches", "index", "item"] ["self", "stretches"] (defScope s_Spread___init__) := ⟨rfl, rfl, rfl, by decide +kernel, rfl, by decide +kernel, by decide +kernel⟩
abbrev s_Spread___eq__ : Stmt := inClass (top 15) 1
abbrev N_Spread___eq__ : List Str := ["self", "other"]
theorem sc_Spread___eq__ : FnScope ["self", "other"] ["self", "other"] (defScope s_Spread___eq__) := ⟨rfl, rfl, rfl, by decide +kernel, rfl, by decide +kernel, by decide +kernel⟩
abbrev s_Spread___le__ : Stmt := inClass (top 15) 2
abbrev N_Spread___le__ : List Str := ["self", "other"]
theorem sc_Spread___le__ : FnScope ["self", "other"] ["self", "other"] (defScope s_Spread___le__) := ⟨rfl, rfl, rfl, by decide +kernel, rfl, by decide +kernel, by decide +kernel⟩
abbrev s_Spread___or__ : Stmt := inClass (top 15) 3
abbrev N_Spread___or__ : List Str := ["self", "other"]
theorem sc_Spread___or__ : FnScope ["self", "other"] ["self", "other"] (defScope s_Spread___or__) := ⟨rfl, rfl, rfl, by decide +kernel, rfl, by decide +kernel, by decide +kernel⟩
abbrev s_Spread___and__ : Stmt := inClass (top 15) 4
abbrev N_Spread___and__ : List Str := ["self", "other"]
theorem sc_Spread___and__ : FnScope ["self", "other"] ["self", "other"] (defScope s_Spread___and__) := ⟨rfl, rfl, rfl, by decide +kernel, rfl, by decide +kernel, by decide +kernel⟩
abbrev s_Spread___sub__ : Stmt := inClass (top 15) 5
abbrev N_Spread___sub__ : List Str := ["self", "other"]
theorem sc_Spread___sub__ : FnScope ["self", "other"] ["self", "other"] (defScope s_Spread___sub__) := ⟨rfl, rfl, rfl, by decide +kernel, rfl, by decide +kernel, by decide +kernel⟩
abbrev s_Spread_told : Stmt := inClass (top 15) 6
abbrev N_Spread_told : List Str := ["self"]
theorem sc_Spread_told : FnScope ["self"] ["self"] (defScope s_Spread_told) := ⟨rfl, rfl, rfl, by decide +kernel, rfl, by decide +kernel, by decide +kernel⟩
abbrev s_Spread_all_but : Stmt := inClass (top 15) 7
abbrev N_Spread_all_but : List Str := ["self", "gaps", "low", "high", "one", "other"]
theorem sc_Spread_all_but : FnScope ["self", "gaps", "low", "high", "one", "other"] ["self"] (defScope s_Spread_all_but) := ⟨rfl, rfl, rfl, by decide +kernel, rfl, by decide +kernel, by decide +kernel⟩
abbrev s_Spread_holds : Stmt := inClass (top 15) 8
abbrev N_Spread_holds : List Str := ["self", "number", "stretch"]
theorem sc_Spread_holds : FnScope ["self", "number", "stretch"] ["self", "number"] (defScope s_Spread_holds) := ⟨rfl, rfl, rfl, by decide +kernel, rfl, by decide +kernel, by decide +kernel⟩
abbrev s_Spread_is_endless : Stmt := inClass (top 15) 11
abbrev N_Spread_is_endless : List Str := ["self", "stretch"]
theorem sc_Spread_is_endless : FnScope ["self", "stretch"] ["self"] (defScope s_Spread_is_endless) := ⟨rfl, rfl, rfl, by decide +kernel, rfl, by decide +kernel, by decide +kernel⟩
abbrev s_Spread_moved : Stmt := inClass (top 15) 9
abbrev N_Spread_moved : List Str := ["self", "by", "stretch"]
theorem sc_Spread_moved : FnScope ["self", "by", "stretch"] ["self", "by"] (defScope s_Spread_moved) := ⟨rfl, rfl, rfl, by decide +kernel, rfl, by decide +kernel, by decide +kernel⟩
abbrev s_Spread_turned : Stmt := inClass (top 15) 10
abbrev N_Spread_turned : List Str := ["self", "stretch"]
theorem sc_Spread_turned : FnScope ["self", "stretch"] ["self"] (defScope s_Spread_turned) := ⟨rfl, rfl, rfl, by decide +kernel, rfl, by decide +kernel, by decide +kernel⟩
abbrev s_Spread_bounds : Stmt := inClass (top 15) 12
abbrev N_Spread_bounds : List Str := ["self"]
theorem sc_Spread_bounds : FnScope ["self"] ["self"] (defScope s_Spread_bounds) := ⟨rfl, rfl, rfl, by decide +kernel, rfl, by decide +kernel, by decide +kernel⟩
abbrev s__greater_high : Stmt := top 19
abbrev N__greater_high : List Str := ["one", "other"]
theorem sc__greater_high : FnScope ["one", "other"] ["one", "other"] (defScope s__greater_high) := ⟨rfl, rfl, rfl, by decide +kernel, rfl, by decide +kernel, by decide +kernel⟩
abbrev s__told_row : Stmt := top 20
abbrev N__told_row : List Str := ["stretches", "row", "low", "high", "begun", "end"]
theorem sc__told_row : FnScope ["stretches", "row", "low", "high", "begun", "end"] ["stretches"] (defScope s__told_row) := ⟨rfl, rfl, rfl, by decide +kernel, rfl, by decide +kernel, by decide +kernel⟩
abbrev s__pairs_by_low : Stmt := top 21
abbrev N__pairs_by_low : List Str := ["stretches", "tops", "stretch", "low", "lows", "pairs"]
theorem sc__pairs_by_low : FnScope ["stretches", "tops", "stretch", "low", "lows", "pairs"] ["stretches"] (defScope s__pairs_by_low) := ⟨rfl, rfl, rfl, by decide +kernel, rfl, by decide +kernel, by decide +kernel⟩
abbrev s__law_draw : Stmt := top 23
abbrev N__law_draw : List Str := ["_law_state", "_law_limit", "_law_cells", "_law_at", "_law_cell", "_law_mixed"]
theorem sc__law_draw : FnScope ["_law_state", "_law_limit", "_law_cells", "_law_at", "_law_cell", "_law_mixed"] ["_law_state", "_law_limit"] (defScope s__law_draw) := ⟨rfl, rfl, rfl, by decide +kernel, rfl, by decide +kernel, by decide +kernel⟩
abbrev s__law_number : Stmt := top 24
abbrev N__law_number : List Str := ["_law_state", "_law_most", "_law_number_here", "_law_turn"]
theorem sc__law_number : FnScope ["_law_state", "_law_most", "_law_number_here", "_law_turn"] ["_law_state", "_law_most"] (defScope s__law_number) := ⟨rfl, rfl, rfl, by decide +kernel, rfl, by decide +kernel, by decide +kernel⟩
abbrev s__law_ends : Stmt := top 25
abbrev N__law_ends : List Str := ["_law_state", "_law_low", "_law_high", "_law_way"]
theorem sc__law_ends : FnScope ["_law_state", "_law_low", "_law_high", "_law_way"] ["_law_state"] (defScope s__law_ends) := ⟨rfl, rfl, rfl, by decide +kernel, rfl, by decide +kernel, by decide +kernel⟩
abbrev s__law_has : Stmt := top 26
abbrev N__law_has : List Str := ["_law_pairs", "_law_number_here", "_law_low", "_law_high"]
theorem sc__law_has : FnScope ["_law_pairs", "_law_number_here", "_law_low", "_law_high"] ["_law_pairs", "_law_number_here"] (defScope s__law_has) := ⟨rfl, rfl, rfl, by decide +kernel, rfl, by decide +kernel, by decide +kernel⟩
abbrev s__law_points : Stmt := top 27
abbrev N__law_points : List Str := ["_law_pairs", "_law_found", "_law_low", "_law_high", "_law_end"]
theorem sc__law_points : FnScope ["_law_pairs", "_law_found", "_law_low", "_law_high", "_law_end"] ["_law_pairs"] (defScope s__law_points) := ⟨rfl, rfl, rfl, by decide +kernel, rfl, by decide +kernel, by decide +kernel⟩
abbrev s__law_told : Stmt := top 28
abbrev N__law_told : List Str := ["_law_pairs", "_law_ends_here", "_law_low", "_law_high", "_law_cuts", "_law_marks", "_law_cut", "_law_spans", "_law_row", "_law_inside", "_law_end", "_law_k"]
theorem sc__law_told : FnScope ["_law_pairs", "_law_ends_here", "_law_low", "_law_high", "_law_cuts", "_law_marks", "_law_cut", "_law_spans", "_law_row", "_law_inside", "_law_end", "_law_k"] ["_law_pairs"] (defScope s__law_told) := ⟨rfl, rfl, rfl, by decide +kernel, rfl, by decide +kernel, by decide +kernel⟩
abbrev s__law_some : Stmt := top 29
abbrev N__law_some : List Str := ["_law_state", "_law_most", "_law_other", "_law_pairs", "_law_low", "_law_high", "_law_turn"]
theorem sc__law_some : FnScope ["_law_state", "_law_most", "_law_other", "_law_pairs", "_law_low", "_law_high", "_law_turn"] ["_law_state", "_law_most", "_law_other"] (defScope s__law_some) := ⟨rfl, rfl, rfl, by decide +kernel, rfl, by decide +kernel, by decide +kernel⟩
abbrev s__law_spread : Stmt := top 30
abbrev N__law_spread : List Str := ["_law_pairs", "_law_low", "_law_high"]
theorem sc__law_spread : FnScope ["_law_pairs", "_law_low", "_law_high"] ["_law_pairs"] (defScope s__law_spread) := ⟨rfl, rfl, rfl, by decide +kernel, rfl, by decide +kernel, by decide +kernel⟩
abbrev s__law_row_right : Stmt := top 31
abbrev N__law_row_right : List Str := ["_law_spread_here", "_law_row", "_law_one"]
theorem sc__law_row_right : FnScope ["_law_spread_here", "_law_row", "_law_one"] ["_law_spread_here"] (defScope s__law_row_right) := ⟨rfl, rfl, rfl, by decide +kernel, rfl, by decide +kernel, by decide +kernel⟩
abbrev s__law_same : Stmt := top 32
abbrev N__law_same : List Str := ["_law_spread_here", "_law_numbers", "_law_wanted", "_law_number_here"]
theorem sc__law_same : FnScope ["_law_spread_here", "_law_numbers", "_law_wanted", "_law_number_here"] ["_law_spread_here", "_law_numbers", "_law_wanted"] (defScope s__law_same) := ⟨rfl, rfl, rfl, by decide +kernel, rfl, by decide +kernel, by decide +kernel⟩
abbrev s__law_odd_right : Stmt := top 33
abbrev N__law_odd_right : List Str := ["_law_spread_here", "_law_odd", "e"]
theorem sc__law_odd_right : FnScope ["_law_spread_here", "_law_odd", "e"] ["_law_spread_here"] (defScope s__law_odd_right) := ⟨rfl, rfl, rfl, by decide +kernel, rfl, by decide +kernel, by decide +kernel⟩
abbrev s_law : Stmt := top 34
abbrev N_law : List Str := ["_law_script", "_law_state", "_law_one", "_law_other", "_law_numbers", "_law_by", "_law_others", "_law_pairs", "_law_number_here"]
theorem sc_law : FnScope ["_law_script", "_law_state", "_law_one", "_law_other", "_law_numbers", "_law_by", "_law_others", "_law_pairs", "_law_number_here"] ["_law_script"] (defScope s_law) := ⟨rfl, rfl, rfl, by decide +kernel, rfl, by decide +kernel, by decide +kernel⟩
abbrev s_BadNumber___init__ : Stmt := inClass (top 4) 0
abbrev N_BadNumber___init__ : List Str := ["self", "number"]
theorem sc_BadNumber___init__ : FnScope ["self", "number"] ["self", "number"] (defScope s_BadNumber___init__) := ⟨rfl, rfl, rfl, by decide +kernel, rfl, by decide +kernel, by decide +kernel⟩
abbrev s_BadPart___init__ : Stmt := inClass (top 3) 0
abbrev N_BadPart___init__ : List Str := ["self", "part"]
theorem sc_BadPart___init__ : FnScope ["self", "part"] ["self", "part"] (defScope s_BadPart___init__) := ⟨rfl, rfl, rfl, by decide +kernel, rfl, by decide +kernel, by decide +kernel⟩
abbrev s_BadIndex___init__ : Stmt := inClass (top 5) 0
abbrev N_BadIndex___init__ : List Str := ["self", "index"]
theorem sc_BadIndex___init__ : FnScope ["self", "index"] ["self", "index"] (defScope s_BadIndex___init__) := ⟨rfl, rfl, rfl, by decide +kernel, rfl, by decide +kernel, by decide +kernel⟩
theorem b_Stretch___init__ {K : PySem.W.Frag} {f : Addr} {fd : FuncData} (F : FunD K "__init__" "Stretch.__init__" (defArgs s_Stretch___init__) (defBody s_Stretch___init__) (defScope s_Stretch___init__) [.non, .non] [] f fd) : BindD K fd ["self", "low", "high"] [.non, .non] := fun j hj => match j, hj with
    | 0, _ => F.binds1 1 0 (by simp) rfl fun _ _ _ _ _ _ _ us its hu hi => match us, its, hu, hi with | [_], [_, _], _, _ => ⟨_, rfl, rfl⟩
    | 1, _ => F.binds1 2 1 (by simp) rfl fun _ _ _ _ _ _ _ us its hu hi => match us, its, hu, hi with | [_, _], [_, _], _, _ => ⟨_, rfl, rfl⟩
    | 2, _ => F.binds1 3 2 (by simp) rfl fun _ _ _ _ _ _ _ us its hu hi => match us, its, hu, hi with | [_, _, _], [_, _], _, _ => ⟨_, rfl, rfl⟩
    | j + 3, h => absurd h (by simp)
theorem b_Stretch___eq__ {K : PySem.W.Frag} {f : Addr} {fd : FuncData} (F : FunD K "__eq__" "Stretch.__eq__" (defArgs s_Stretch___eq__) (defBody s_Stretch___eq__) (defScope s_Stretch___eq__) [] [] f fd) : BindD K fd ["self", "other"] [] := BindD.none (F.bindsN fun _ _ _ _ _ _ us hl => match us, hl with | [_, _], _ => rfl)
theorem b_Stretch_holds {K : PySem.W.Frag} {f : Addr} {fd : FuncData} (F : FunD K "holds" "Stretch.holds" (defArgs s_Stretch_holds) (defBody s_Stretch_holds) (defScope s_Stretch_holds) [] [] f fd) : BindD K fd ["self", "number"] [] := BindD.none (F.bindsN fun _ _ _ _ _ _ us hl => match us, hl with | [_, _], _ => rfl)
theorem b_Stretch_moved {K : PySem.W.Frag} {f : Addr} {fd : FuncData} (F : FunD K "moved" "Stretch.moved" (defArgs s_Stretch_moved) (defBody s_Stretch_moved) (defScope s_Stretch_moved) [] [] f fd) : BindD K fd ["self", "by"] [] := BindD.none (F.bindsN fun _ _ _ _ _ _ us hl => match us, hl with | [_, _], _ => rfl)
theorem b_Stretch_turned {K : PySem.W.Frag} {f : Addr} {fd : FuncData} (F : FunD K "turned" "Stretch.turned" (defArgs s_Stretch_turned) (defBody s_Stretch_turned) (defScope s_Stretch_turned) [] [] f fd) : BindD K fd ["self"] [] := BindD.none (F.bindsN fun _ _ _ _ _ _ us hl => match us, hl with | [_], _ => rfl)
theorem b_Spread___init__ {K : PySem.W.Frag} {f : Addr} {fd : FuncData} {t0 : Addr} (F : FunD K "__init__" "Spread.__init__" (defArgs s_Spread___init__) (defBody s_Spread___init__) (defScope s_Spread___init__) [.ref t0] [] f fd) : BindD K fd ["self", "stretches"] [.ref t0] := fun j hj => match j, hj with
    | 0, _ => F.binds1 1 0 (by simp) rfl fun _ _ _ _ _ _ _ us its hu hi => match us, its, hu, hi with | [_], [_], _, _ => ⟨_, rfl, rfl⟩
    | 1, _ => F.binds1 2 1 (by simp) rfl fun _ _ _ _ _ _ _ us its hu hi => match us, its, hu, hi with | [_, _], [_], _, _ => ⟨_, rfl, rfl⟩
    | j + 2, h => absurd h (by simp)
theorem b_Spread___eq__ {K : PySem.W.Frag} {f : Addr} {fd : FuncData} (F : FunD K "__eq__" "Spread.__eq__" (defArgs s_Spread___eq__) (defBody s_Spread___eq__) (defScope s_Spread___eq__) [] [] f fd) : BindD K fd ["self", "other"] [] := BindD.none (F.bindsN fun _ _ _ _ _ _ us hl => match us, hl with | [_, _], _ => rfl)
theorem b_Spread___le__ {K : PySem.W.Frag} {f : Addr} {fd : FuncData} (F : FunD K "__le__" "Spread.__le__" (defArgs s_Spread___le__) (defBody s_Spread___le__) (defScope s_Spread___le__) [] [] f fd) : BindD K fd ["self", "other"] [] := BindD.none (F.bindsN fun _ _ _ _ _ _ us hl => match us, hl with | [_, _], _ => rfl)
theorem b_Spread___or__ {K : PySem.W.Frag} {f : Addr} {fd : FuncData} (F : FunD K "__or__" "Spread.__or__" (defArgs s_Spread___or__) (defBody s_Spread___or__) (defScope s_Spread___or__) [] [] f fd) : BindD K fd ["self", "other"] [] := BindD.none (F.bindsN fun _ _ _ _ _ _ us hl => match us, hl with | [_, _], _ => rfl)
theorem b_Spread___and__ {K : PySem.W.Frag} {f : Addr} {fd : FuncData} (F : FunD K "__and__" "Spread.__and__" (defArgs s_Spread___and__) (defBody s_Spread___and__) (defScope s_Spread___and__) [] [] f fd) : BindD K fd ["self", "other"] [] := BindD.none (F.bindsN fun _ _ _ _ _ _ us hl => match us, hl with | [_, _], _ => rfl)
theorem b_Spread___sub__ {K : PySem.W.Frag} {f : Addr} {fd : FuncData} (F : FunD K "__sub__" "Spread.__sub__" (defArgs s_Spread___sub__) (defBody s_Spread___sub__) (defScope s_Spread___sub__) [] [] f fd) : BindD K fd ["self", "other"] [] := BindD.none (F.bindsN fun _ _ _ _ _ _ us hl => match us, hl with | [_, _], _ => rfl)
theorem b_Spread_told {K : PySem.W.Frag} {f : Addr} {fd : FuncData} (F : FunD K "told" "Spread.told" (defArgs s_Spread_told) (defBody s_Spread_told) (defScope s_Spread_told) [] [] f fd) : BindD K fd ["self"] [] := BindD.none (F.bindsN fun _ _ _ _ _ _ us hl => match us, hl with | [_], _ => rfl)
theorem b_Spread_all_but {K : PySem.W.Frag} {f : Addr} {fd : FuncData} (F : FunD K "all_but" "Spread.all_but" (defArgs s_Spread_all_but) (defBody s_Spread_all_but) (defScope s_Spread_all_but) [] [] f fd) : BindD K fd ["self"] [] := BindD.none (F.bindsN fun _ _ _ _ _ _ us hl => match us, hl with | [_], _ => rfl)
theorem b_Spread_holds {K : PySem.W.Frag} {f : Addr} {fd : FuncData} (F : FunD K "holds" "Spread.holds" (defArgs s_Spread_holds) (defBody s_Spread_holds) (defScope s_Spread_holds) [] [] f fd) : BindD K fd ["self", "number"] [] := BindD.none (F.bindsN fun _ _ _ _ _ _ us hl => match us, hl with | [_, _], _ => rfl)
theorem b_Spread_is_endless {K : PySem.W.Frag} {f : Addr} {fd : FuncData} (F : FunD K "is_endless" "Spread.is_endless" (defArgs s_Spread_is_endless) (defBody s_Spread_is_endless) (defScope s_Spread_is_endless) [] [] f fd) : BindD K fd ["self"] [] := BindD.none (F.bindsN fun _ _ _ _ _ _ us hl => match us, hl with | [_], _ => rfl)
theorem b_Spread_moved {K : PySem.W.Frag} {f : Addr} {fd : FuncData} (F : FunD K "moved" "Spread.moved" (defArgs s_Spread_moved) (defBody s_Spread_moved) (defScope s_Spread_moved) [] [] f fd) : BindD K fd ["self", "by"] [] := BindD.none (F.bindsN fun _ _ _ _ _ _ us hl => match us, hl with | [_, _], _ => rfl)
theorem b_Spread_turned {K : PySem.W.Frag} {f : Addr} {fd : FuncData} (F : FunD K "turned" "Spread.turned" (defArgs s_Spread_turned) (defBody s_Spread_turned) (defScope s_Spread_turned) [] [] f fd) : BindD K fd ["self"] [] := BindD.none (F.bindsN fun _ _ _ _ _ _ us hl => match us, hl with | [_], _ => rfl)
theorem b_Spread_bounds {K : PySem.W.Frag} {f : Addr} {fd : FuncData} (F : FunD K "bounds" "Spread.bounds" (defArgs s_Spread_bounds) (defBody s_Spread_bounds) (defScope s_Spread_bounds) [] [] f fd) : BindD K fd ["self"] [] := BindD.none (F.bindsN fun _ _ _ _ _ _ us hl => match us, hl with | [_], _ => rfl)
structure Txt (K : PySem.W.Frag) (mg : Str → Option Value) : Prop where
  d_is_whole : ∃ (f : Addr) (fd : FuncData), mg "is_whole" = some (.ref f) ∧ Fun K "is_whole" "is_whole" s_is_whole f fd
  d_is_from : ∃ (f : Addr) (fd : FuncData), mg "is_from" = some (.ref f) ∧ Fun K "is_from" "is_from" s_is_from f fd
  d_is_row : ∃ (f : Addr) (fd : FuncData), mg "is_row" = some (.ref f) ∧ Fun K "is_row" "is_row" s_is_row f fd
  d_is_span : ∃ (f : Addr) (fd : FuncData), mg "is_span" = some (.ref f) ∧ Fun K "is_span" "is_span" s_is_span f fd
  d_require_whole : ∃ (f : Addr) (fd : FuncData), mg "require_whole" = some (.ref f) ∧ Fun K "require_whole" "require_whole" s_require_whole f fd
  d_require_from : ∃ (f : Addr) (fd : FuncData), mg "require_from" = some (.ref f) ∧ Fun K "require_from" "require_from" s_require_from f fd
  d__greater_high : ∃ (f : Addr) (fd : FuncData), mg "_greater_high" = some (.ref f) ∧ Fun K "_greater_high" "_greater_high" s__greater_high f fd
  d__told_row : ∃ (f : Addr) (fd : FuncData), mg "_told_row" = some (.ref f) ∧ Fun K "_told_row" "_told_row" s__told_row f fd
  d__pairs_by_low : ∃ (f : Addr) (fd : FuncData), mg "_pairs_by_low" = some (.ref f) ∧ Fun K "_pairs_by_low" "_pairs_by_low" s__pairs_by_low f fd
  d__law_draw : ∃ (f : Addr) (fd : FuncData), mg "_law_draw" = some (.ref f) ∧ Fun K "_law_draw" "_law_draw" s__law_draw f fd
  d__law_number : ∃ (f : Addr) (fd : FuncData), mg "_law_number" = some (.ref f) ∧ Fun K "_law_number" "_law_number" s__law_number f fd
  d__law_ends : ∃ (f : Addr) (fd : FuncData), mg "_law_ends" = some (.ref f) ∧ Fun K "_law_ends" "_law_ends" s__law_ends f fd
  d__law_has : ∃ (f : Addr) (fd : FuncData), mg "_law_has" = some (.ref f) ∧ Fun K "_law_has" "_law_has" s__law_has f fd
  d__law_points : ∃ (f : Addr) (fd : FuncData), mg "_law_points" = some (.ref f) ∧ Fun K "_law_points" "_law_points" s__law_points f fd
  d__law_told : ∃ (f : Addr) (fd : FuncData), mg "_law_told" = some (.ref f) ∧ Fun K "_law_told" "_law_told" s__law_told f fd
  d__law_some : ∃ (f : Addr) (fd : FuncData), mg "_law_some" = some (.ref f) ∧ Fun K "_law_some" "_law_some" s__law_some f fd
  d__law_spread : ∃ (f : Addr) (fd : FuncData), mg "_law_spread" = some (.ref f) ∧ Fun K "_law_spread" "_law_spread" s__law_spread f fd
  d__law_row_right : ∃ (f : Addr) (fd : FuncData), mg "_law_row_right" = some (.ref f) ∧ Fun K "_law_row_right" "_law_row_right" s__law_row_right f fd
  d__law_same : ∃ (f : Addr) (fd : FuncData), mg "_law_same" = some (.ref f) ∧ Fun K "_law_same" "_law_same" s__law_same f fd
  d__law_odd_right : ∃ (f : Addr) (fd : FuncData), mg "_law_odd_right" = some (.ref f) ∧ Fun K "_law_odd_right" "_law_odd_right" s__law_odd_right f fd
  lam_law : LamF K mg "law" s_law
  ci_Stretch : ClsI K (ga K "Stretch")
  c_Stretch : Cls K (ga K "Stretch")
  g_Stretch : mg "Stretch" = some (.ref (ga K "Stretch"))
  na_Stretch_low : NoAttr K (ga K "Stretch") "low"
  na_Stretch_high : NoAttr K (ga K "Stretch") "high"
  ci_Spread : ClsI K (ga K "Spread")
  c_Spread : Cls K (ga K "Spread")
  g_Spread : mg "Spread" = some (.ref (ga K "Spread"))
  na_Spread__row : NoAttr K (ga K "Spread") "_row"
  d_Stretch___init__ : ∃ (f : Addr) (fd : FuncData), Mk K (ga K "Stretch") f ∧ FunD K "__init__" "Stretch.__init__" (defArgs s_Stretch___init__) (defBody s_Stretch___init__) (defScope s_Stretch___init__) [.non, .non] [] f fd
  d_Stretch___eq__ : ∃ (f : Addr) (fd : FuncData), Meth K (ga K "Stretch") "__eq__" f ∧ FunD K "__eq__" "Stretch.__eq__" (defArgs s_Stretch___eq__) (defBody s_Stretch___eq__) (defScope s_Stretch___eq__) [] [] f fd
  d_Stretch_holds : ∃ (f : Addr) (fd : FuncData), Meth K (ga K "Stretch") "holds" f ∧ FunD K "holds" "Stretch.holds" (defArgs s_Stretch_holds) (defBody s_Stretch_holds) (defScope s_Stretch_holds) [] [] f fd
  d_Stretch_moved : ∃ (f : Addr) (fd : FuncData), Meth K (ga K "Stretch") "moved" f ∧ FunD K "moved" "Stretch.moved" (defArgs s_Stretch_moved) (defBody s_Stretch_moved) (defScope s_Stretch_moved) [] [] f fd
  d_Stretch_turned : ∃ (f : Addr) (fd : FuncData), Meth K (ga K "Stretch") "turned" f ∧ FunD K "turned" "Stretch.turned" (defArgs s_Stretch_turned) (defBody s_Stretch_turned) (defScope s_Stretch_turned) [] [] f fd
  d_Spread___init__ : ∃ (f : Addr) (fd : FuncData) (t0 : Addr), Mk K (ga K "Spread") f ∧ FunD K "__init__" "Spread.__init__" (defArgs s_Spread___init__) (defBody s_Spread___init__) (defScope s_Spread___init__) [.ref t0] [] f fd ∧ EmpT K t0
  d_Spread___eq__ : ∃ (f : Addr) (fd : FuncData), Meth K (ga K "Spread") "__eq__" f ∧ FunD K "__eq__" "Spread.__eq__" (defArgs s_Spread___eq__) (defBody s_Spread___eq__) (defScope s_Spread___eq__) [] [] f fd
  d_Spread___le__ : ∃ (f : Addr) (fd : FuncData), Meth K (ga K "Spread") "__le__" f ∧ FunD K "__le__" "Spread.__le__" (defArgs s_Spread___le__) (defBody s_Spread___le__) (defScope s_Spread___le__) [] [] f fd
  d_Spread___or__ : ∃ (f : Addr) (fd : FuncData), Meth K (ga K "Spread") "__or__" f ∧ FunD K "__or__" "Spread.__or__" (defArgs s_Spread___or__) (defBody s_Spread___or__) (defScope s_Spread___or__) [] [] f fd
  d_Spread___and__ : ∃ (f : Addr) (fd : FuncData), Meth K (ga K "Spread") "__and__" f ∧ FunD K "__and__" "Spread.__and__" (defArgs s_Spread___and__) (defBody s_Spread___and__) (defScope s_Spread___and__) [] [] f fd
  d_Spread___sub__ : ∃ (f : Addr) (fd : FuncData), Meth K (ga K "Spread") "__sub__" f ∧ FunD K "__sub__" "Spread.__sub__" (defArgs s_Spread___sub__) (defBody s_Spread___sub__) (defScope s_Spread___sub__) [] [] f fd
  d_Spread_told : ∃ (f : Addr) (fd : FuncData), Meth K (ga K "Spread") "told" f ∧ FunD K "told" "Spread.told" (defArgs s_Spread_told) (defBody s_Spread_told) (defScope s_Spread_told) [] [] f fd
  d_Spread_all_but : ∃ (f : Addr) (fd : FuncData), Meth K (ga K "Spread") "all_but" f ∧ FunD K "all_but" "Spread.all_but" (defArgs s_Spread_all_but) (defBody s_Spread_all_but) (defScope s_Spread_all_but) [] [] f fd
  d_Spread_holds : ∃ (f : Addr) (fd : FuncData), Meth K (ga K "Spread") "holds" f ∧ FunD K "holds" "Spread.holds" (defArgs s_Spread_holds) (defBody s_Spread_holds) (defScope s_Spread_holds) [] [] f fd
  d_Spread_is_endless : ∃ (f : Addr) (fd : FuncData), Meth K (ga K "Spread") "is_endless" f ∧ FunD K "is_endless" "Spread.is_endless" (defArgs s_Spread_is_endless) (defBody s_Spread_is_endless) (defScope s_Spread_is_endless) [] [] f fd
  d_Spread_moved : ∃ (f : Addr) (fd : FuncData), Meth K (ga K "Spread") "moved" f ∧ FunD K "moved" "Spread.moved" (defArgs s_Spread_moved) (defBody s_Spread_moved) (defScope s_Spread_moved) [] [] f fd
  d_Spread_turned : ∃ (f : Addr) (fd : FuncData), Meth K (ga K "Spread") "turned" f ∧ FunD K "turned" "Spread.turned" (defArgs s_Spread_turned) (defBody s_Spread_turned) (defScope s_Spread_turned) [] [] f fd
  d_Spread_bounds : ∃ (f : Addr) (fd : FuncData), Meth K (ga K "Spread") "bounds" f ∧ FunD K "bounds" "Spread.bounds" (defArgs s_Spread_bounds) (defBody s_Spread_bounds) (defScope s_Spread_bounds) [] [] f fd
  m_isinstance : mg "isinstance" = none
  m_int : mg "int" = none
  m_bool : mg "bool" = none
  m_tuple : mg "tuple" = none
  m_len : mg "len" = none
  m_abs : mg "abs" = none
  m_list : mg "list" = none
  m_range : mg "range" = none
  m_repr : mg "repr" = none
  m_max : mg "max" = none
  m_min : mg "min" = none
  m_sorted : mg "sorted" = none
  m_enumerate : mg "enumerate" = none
  m_any : mg "any" = none
  m_sum : mg "sum" = none
  m_zip : mg "zip" = none
  x_BadNumber : ExT K mg "BadNumber" "number"
  x_BadPart : ExT K mg "BadPart" "part"
  x_BadIndex : ExT K mg "BadIndex" "index"
  sf_Spread : PySem.W.selfFirst K (ga K "Spread") = true
  ne_Spread : PySem.W.findIn K (.ref (ga K "Spread")) "__ne__" = some (some (.builtin "object.__ne__"))
  mN : PySem.W.exmOne K (.ref (ga K "BadNumber")) (.ref (ga K "BadNumber")) = some true
end Iz
/-! k04_a -/
set_option Elab.async false
set_option linter.all false
set_option maxRecDepth 100000
set_option maxHeartbeats 4000000
namespace Iz
open PySem PySem.Spec PyProof.Rows L2
open He (ga)
local macro_rules | `(tactic| walk_at "wp") => `(tactic| simp only [rMax2, tYes, calmS, tDNew, rInDN, rIxDN, rSetDN, tPop, rTupN, rMax, rMin, rSum, rAny, rSorted, rRepN, tSl, tPart, tNoPart, rSlLN, rSlG, rCatG, rOwnB, LamX.tLam3b, rListT, rRepr, tXf, tMtS, cx_K, Value.ref.injEq, HO.xd.injEq, lk0, tSeq, tPar3, tPar, tCons, tNil, tVar, tC, tAsg, gName, gCons, gNil, gTupN, gSub, tOp, rI, rI0, rU, tTest, rNe, rEq, rIxTN, rIxLN, rLenL, rLenT, rIntI, rIntB, rAbs, rSetLN, tTruL, tRaiseX, rIsTy, rIsOw, ixN0, ixN1, tRet, tIf, tIfS, tNext, tBreak, tCont, tDrop, tTupN, tLstN, tUn, tCB, tCall, tNot, tAnd, tOr, tB, tAndV, tOrV, tNotV, tChain, tApp, LamX.tLam, tRevLN, rCatN, rInTN, rInLN, flatV, inV, List.all_cons, List.all_nil, List.any_cons, List.any_nil, Bool.and_self, Bool.and_true, if_true, Bool.false_eq_true, if_false, tMt, tFldN, tSto, HO.ins.injEq, lkh, List.drop_zero, List.drop_succ_cons, List.drop_nil, rListS, wipe, L2.start, List.map_cons, List.map_nil, List.length_cons, List.length_nil, List.replicate, List.cons_append, List.nil_append, List.append_nil, Nat.reduceAdd, Nat.reduceSub, Nat.zero_add, List.replicate_succ, List.replicate_zero, List.getElem?_cons_zero, List.getElem?_cons_succ, List.set_cons_zero, List.set_cons_succ, Option.some.injEq, V.int.injEq, V.bl.injEq, V.ref.injEq, V.str.injEq, V.ty.injEq, List.cons.injEq, HO.tup.injEq, HO.lst.injEq, and_true, true_and, and_assoc, exists_eq_left, exists_eq_left', exists_and_left, exists_eq', atI0, atI1, atI2, atI3, Int.cast_ofNat_Int, Int.reduceToNat, scal_ii, scal_in, scal_ni, scal_nn, scal_bb, scal_ss, scal_sn, scal_ns, scal_bn, scal_nb, ite_iff, decide_eq_true_eq, decide_eq_false_iff_not, Bool.not_eq_true', Classical.not_not, ne_eq, not_false_eq_true, not_true_eq_false, forall_const, true_implies, false_implies, imp_self, sizeLine_eq, Nat.reduceLeDiff, reduceCtorEq, decide_true, decide_false])
section
variable {P : Program} {w : World} {K : PySem.W.Frag} {mg : Str → Option Value} {base : Heap}
/-! ### basics -/
def spWhole (K : PySem.W.Frag) : Sp := fun vs H Q _ => ∃ x, vs = [x] ∧ Wh K H x ∧ Q (.bl (isI x)) H
theorem o_is_whole (T : Txt K mg) : OkF P w K mg base CX0 1 "is_whole" ["value"] (spWhole K) := by
  obtain ⟨f, fd, g, F⟩ := T.d_is_whole
  refine ⟨f, fd, g, F.kp, F.binds (fun _ _ _ _ _ _ us hl => match us, hl with | [_], _ => rfl), F.ok sc_is_whole (fun vs H Q E h => ?_) (fun cdv A outer s H vs Q E hr h => ?_)⟩
  · obtain ⟨x, rfl, _⟩ := h; rfl
  · obtain ⟨x, rfl, ⟨t, b1, b2, ty, k1, k2, e⟩, kk⟩ := h
    refine ⟨_, pss_one (ps_ret (pe_and (pe_callB call_isTy (by rfl) T.m_isinstance (by decide +kernel) (pa_cons (pv 0) (pa_cons ((pe_bltn (v := .ty "int") (by rfl) T.m_int (by decide +kernel) rfl)) pa_nil))) (pe_one (pe_not (pe_callB call_isTy (by rfl) T.m_isinstance (by decide +kernel) (pa_cons (pv 0) (pa_cons ((pe_bltn (v := .ty "bool") (by rfl) T.m_bool (by decide +kernel) rfl)) pa_nil))))))), ?_⟩
    walk_at "wp"
    rw [← e] at kk
    refine ⟨t, ty, b1, k1, fun h => ⟨t, ty, b2, k2, ?_⟩, fun h => ?_⟩
    · subst h; exact kk
    · cases b1
      · exact kk
      · exact absurd rfl h
def spFrom (K : PySem.W.Frag) : Sp := fun vs H Q _ => ∃ x l, vs = [x, .int l] ∧ Wh K H x ∧ (isI x = false → Q (.bl false) H) ∧ (∀ i, x = .int i → Q (.bl (decide (l ≤ i))) H)
theorem o_is_from (T : Txt K mg) : OkF P w K mg base CX0 2 "is_from" ["value", "least"] (spFrom K) := by
  have o_is_whole := o_is_whole (P := P) (w := w) (base := base) T
  obtain ⟨f, fd, g, F⟩ := T.d_is_from
  refine ⟨f, fd, g, F.kp, F.binds (fun _ _ _ _ _ _ us hl => match us, hl with | [_, _], _ => rfl), F.ok sc_is_from (fun vs H Q E h => ?_) (fun cdv A outer s H vs Q E hr h => ?_)⟩
  · obtain ⟨x, l, rfl, _⟩ := h; rfl
  · obtain ⟨x, l, rfl, W, k1, k2⟩ := h
    refine ⟨_, pss_one (ps_ret (pe_and (pcl o_is_whole (hr.mono (by decide)) pass0 (pa_cons (pv 0) pa_nil)) (pe_one (pe_cmpR op_ge (pv 0) (pv 1) (nomark _))))), ?_⟩
    walk_at "wp"
    simp only [spWhole, List.cons.injEq, and_true, exists_eq_left']
    refine ⟨W, _, rfl, ?_⟩
    cases e : isI x
    · exact ⟨fun h => (by cases h), fun _ => k1 e⟩
    · obtain ⟨i, rfl⟩ := isI_int e
      exact ⟨fun _ => ⟨i, rfl, k2 i rfl⟩, fun h => absurd rfl h⟩
def spReqW (K : PySem.W.Frag) : Sp := fun vs H Q E => ∃ x, vs = [x] ∧ Wh K H x ∧ (isI x = true → Q .non H) ∧ (isI x = false → Rse K E H "BadNumber" "number" x)
theorem o_require_whole (T : Txt K mg) : OkF P w K mg base (L2.CX P w) 3 "require_whole" ["value"] (spReqW K) := by
  have o_is_whole := o_is_whole (P := P) (w := w) (base := base) T
  obtain ⟨f, fd, g, F⟩ := T.d_require_whole
  refine ⟨f, fd, g, F.kp, F.binds (fun _ _ _ _ _ _ us hl => match us, hl with | [_], _ => rfl), F.okX sc_require_whole (fun vs H Q E h => ?_) (fun cdv A outer s H vs Q E hr h => ?_)⟩
  · obtain ⟨x, rfl, _⟩ := h; rfl
  · obtain ⟨x, rfl, W, k1, k2⟩ := h
    refine ⟨_, pss_one (ps_if (pt_not (pt_val (pcl o_is_whole (hr.mono (by decide)) pass0 (pa_cons (pv 0) pa_nil)))) (pss_one (ps_raiseX (T.x_BadNumber) (hr.mono (by decide)) takesE (pv 0))) (pss_nil)), ?_⟩
    walk_at "wp"
    simp only [spWhole, List.cons.injEq, and_true, exists_eq_left']
    exact ⟨W, _, rfl, ⟨k2, fun h => k1 (by cases e : isI x <;> simp_all)⟩⟩
def spReqF (K : PySem.W.Frag) : Sp := fun vs H Q E => ∃ x l, vs = [x, .int l] ∧ Wh K H x ∧ (∀ i, x = .int i → l ≤ i → Q .non H) ∧ ((∀ i, x = .int i → i < l) → Rse K E H "BadNumber" "number" x)
theorem o_require_from (T : Txt K mg) : OkF P w K mg base (L2.CX P w) 3 "require_from" ["value", "least"] (spReqF K) := by
  have o_is_from := o_is_from (P := P) (w := w) (base := base) T
  obtain ⟨f, fd, g, F⟩ := T.d_require_from
  refine ⟨f, fd, g, F.kp, F.binds (fun _ _ _ _ _ _ us hl => match us, hl with | [_, _], _ => rfl), F.okX sc_require_from (fun vs H Q E h => ?_) (fun cdv A outer s H vs Q E hr h => ?_)⟩
  · obtain ⟨x, l, rfl, _⟩ := h; rfl
  · obtain ⟨x, l, rfl, W, k1, k2⟩ := h
    refine ⟨_, pss_one (ps_if (pt_not (pt_val (pcl o_is_from (hr.mono (by decide)) pass0 (pa_cons (pv 0) (pa_cons (pv 1) pa_nil))))) (pss_one (ps_raiseX (T.x_BadNumber) (hr.mono (by decide)) takesE (pv 0))) (pss_nil)), ?_⟩
    walk_at "wp"
    simp only [spFrom, List.cons.injEq, and_true, exists_and_left, exists_eq_left', V.int.injEq, and_assoc]
    refine ⟨W, fun e => ⟨_, rfl, ?_⟩, fun i e => ⟨_, rfl, ?_⟩⟩
    · refine ⟨fun _ => k2 fun i h => ?_, fun h => ?_⟩
      · subst h; cases e
      · simp at h
    · subst e
      refine ⟨fun h => k2 fun j h2 => ?_, fun h => k1 i rfl ?_⟩
      · cases h2; simp at h; omega
      · simp at h; omega
/-- one is an int of 1 or more -/
def isP : V → Bool
  | .int i => decide (1 ≤ i)
  | _ => false
theorem isP_int {x : V} (h : isP x = true) : ∃ i, x = .int i ∧ 1 ≤ i := by cases x <;> simp_all [isP]
theorem from1 {K : PySem.W.Frag} {H : Hp} {x : V} {Q : VK} {E : XK} (W : Wh K H x) (h1 : isP x = true → Q .non H) (h2 : isP x = false → Rse K E H "BadNumber" "number" x) : spReqF K [x, .int 1] H Q E :=
  ⟨x, 1, rfl, W, fun i e h => h1 (by subst e; simp [isP, h]), fun h => h2 (by cases x <;> simp_all [isP])⟩

end
end Iz
/-! k04_b -/
set_option Elab.async false
set_option linter.all false
set_option maxRecDepth 100000
set_option maxHeartbeats 4000000
namespace Iz
open PySem PySem.Spec PyProof.Rows L2
open He (ga)
local macro_rules | `(tactic| walk_at "wp") => `(tactic| simp only [rMax2, tYes, calmS, tDNew, rInDN, rIxDN, rSetDN, tPop, rTupN, rMax, rMin, rSum, rAny, rSorted, rRepN, tSl, tPart, tNoPart, rSlLN, rSlG, rCatG, rOwnB, LamX.tLam3b, rListT, rRepr, tXf, tMtS, cx_K, Value.ref.injEq, HO.xd.injEq, lk0, tSeq, tPar3, tPar, tCons, tNil, tVar, tC, tAsg, gName, gCons, gNil, gTupN, gSub, tOp, rI, rI0, rU, tTest, rNe, rEq, rIxTN, rIxLN, rLenL, rLenT, rIntI, rIntB, rAbs, rSetLN, tTruL, tRaiseX, rIsTy, rIsOw, ixN0, ixN1, tRet, tIf, tIfS, tNext, tBreak, tCont, tDrop, tTupN, tLstN, tUn, tCB, tCall, tNot, tAnd, tOr, tB, tAndV, tOrV, tNotV, tChain, tApp, LamX.tLam, tRevLN, rCatN, rInTN, rInLN, flatV, inV, List.all_cons, List.all_nil, List.any_cons, List.any_nil, Bool.and_self, Bool.and_true, if_true, Bool.false_eq_true, if_false, tMt, tFldN, tSto, HO.ins.injEq, lkh, List.drop_zero, List.drop_succ_cons, List.drop_nil, rListS, wipe, L2.start, List.map_cons, List.map_nil, List.length_cons, List.length_nil, List.replicate, List.cons_append, List.nil_append, List.append_nil, Nat.reduceAdd, Nat.reduceSub, Nat.zero_add, List.replicate_succ, List.replicate_zero, List.getElem?_cons_zero, List.getElem?_cons_succ, List.set_cons_zero, List.set_cons_succ, Option.some.injEq, V.int.injEq, V.bl.injEq, V.ref.injEq, V.str.injEq, V.ty.injEq, List.cons.injEq, HO.tup.injEq, HO.lst.injEq, and_true, true_and, and_assoc, exists_eq_left, exists_eq_left', exists_and_left, exists_eq', atI0, atI1, atI2, atI3, Int.cast_ofNat_Int, Int.reduceToNat, scal_ii, scal_in, scal_ni, scal_nn, scal_bb, scal_ss, scal_sn, scal_ns, scal_bn, scal_nb, ite_iff, decide_eq_true_eq, decide_eq_false_iff_not, Bool.not_eq_true', Classical.not_not, ne_eq, not_false_eq_true, not_true_eq_false, forall_const, true_implies, false_implies, imp_self, sizeLine_eq, Nat.reduceLeDiff, reduceCtorEq, decide_true, decide_false])
section
variable {P : Program} {w : World} {K : PySem.W.Frag} {mg : Str → Option Value} {base : Heap}
/-! ### stretches -/
/-- low and high are the ends of a stretch -/
def okS : V → V → Bool
  | .non, .non => true
  | .non, .int _ => true
  | .int _, .non => true
  | .int a, .int b => decide (a < b)
  | _, _ => false
def isE : V → Bool
  | .non => true
  | .int _ => true
  | _ => false
theorem isE_ov {x : V} (h : isE x = true) : ∃ o, x = ov o := by cases x <;> simp_all [isE]; exact ⟨none, rfl⟩; exact ⟨some _, rfl⟩
theorem okS_E {l h : V} (e : okS l h = true) : isE l = true ∧ isE h = true := by cases l <;> cases h <;> simp_all [okS, isE]
def okO : Option Int → Option Int → Prop
  | some a, some b => a < b
  | _, _ => True
theorem okS_ov {l h : Option Int} : okS (ov l) (ov h) = true ↔ okO l h := by cases l <;> cases h <;> simp [okS, okO, ov]
def spSpan (K : PySem.W.Frag) : Sp := fun vs H Q _ => ∃ l h, vs = [l, h] ∧ Wh K H l ∧ Wh K H h ∧ Q (.bl (okS l h)) H
theorem o_is_span (T : Txt K mg) : OkF P w K mg base CX0 2 "is_span" ["low", "high"] (spSpan K) := by
  have o_is_whole := o_is_whole (P := P) (w := w) (base := base) T
  obtain ⟨f, fd, g, F⟩ := T.d_is_span
  refine ⟨f, fd, g, F.kp, F.binds (fun _ _ _ _ _ _ us hl => match us, hl with | [_, _], _ => rfl), F.ok sc_is_span (fun vs H Q E h => ?_) (fun cdv A outer s H vs Q E hr h => ?_)⟩
  · first | (obtain ⟨_, rfl, _⟩ := h; rfl) | (obtain ⟨_, _, rfl, _⟩ := h; rfl) | (obtain ⟨_, _, _, rfl, _⟩ := h; rfl) | (obtain ⟨_, _, _, _, rfl, _⟩ := h; rfl) | (obtain ⟨_, _, _, _, _, rfl, _⟩ := h; rfl) | (obtain ⟨_, _, _, _, _, _, rfl, _⟩ := h; rfl) | (obtain ⟨_, _, _, _, _, _, _, rfl, _⟩ := h; rfl)
  have hu64 := hr.units
  refine ⟨_, pss_cons (ps_if (PW.pt (pw_or (pt_not (PW.pt (pw_or (pt_cmpR op_isN (pv 0) (pe_non) (nomark _)) (pw_or1 (pt_val (pcl o_is_whole (hr.mono (by decide)) pass0 (pa_cons (pv 0) pa_nil))))))) (pw_or1 (pt_not (PW.pt (pw_or (pt_cmpR op_isN (pv 1) (pe_non) (nomark _)) (pw_or1 (pt_val (pcl o_is_whole (hr.mono (by decide)) pass0 (pa_cons (pv 1) pa_nil)))))))))) (pss_one (ps_ret (pe_bl))) (pss_nil))
      (pss_one (ps_ret (pe_or (pe_cmpR op_isN (pv 0) (pe_non) (nomark _)) (pe_or (pe_cmpR op_isN (pv 1) (pe_non) (nomark _)) (pe_one (pe_cmpR op_lt (pv 0) (pv 1) (nomark _))))))), ?_⟩
  obtain ⟨l, h, rfl, Wl, Wr, k⟩ := h
  simp only [spWhole, exists_and_left, rMax2, tYes, calmS, tDNew, rInDN, rIxDN, rSetDN, tPop, rTupN, rMax, rMin, rSum, rAny, rSorted, rRepN, tSl, tPart, tNoPart, rSlLN, rSlG, rCatG, rOwnB, LamX.tLam3b, rListT, rRepr, tXf, tMtS, cx_K, Value.ref.injEq, HO.xd.injEq, lk0, tSeq, tPar3, tPar, tCons, tNil, tVar, tC, tAsg, gName, gCons, gNil, gTupN, gSub, tOp, rI, rI0, rU, tTest, rNe, rEq, rIxTN, rIxLN, rLenL, rLenT, rIntI, rIntB, rAbs, rSetLN, tTruL, tRaiseX, rIsTy, rIsOw, ixN0, ixN1, tRet, tIf, tIfS, tNext, tBreak, tCont, tDrop, tTupN, tLstN, tUn, tCB, tCall, tNot, tAnd, tOr, tB, tAndV, tOrV, tNotV, tChain, tApp, LamX.tLam, tRevLN, rCatN, rInTN, rInLN, flatV, inV, List.all_cons, List.all_nil, List.any_cons, List.any_nil, Bool.and_self, Bool.and_true, if_true, Bool.false_eq_true, if_false, tMt, tFldN, tSto, HO.ins.injEq, lkh, List.drop_zero, List.drop_succ_cons, List.drop_nil, rListS, wipe, L2.start, List.map_cons, List.map_nil, List.length_cons, List.length_nil, List.replicate, List.cons_append, List.nil_append, List.append_nil, Nat.reduceAdd, Nat.reduceSub, Nat.zero_add, List.replicate_succ, List.replicate_zero, List.getElem?_cons_zero, List.getElem?_cons_succ, List.set_cons_zero, List.set_cons_succ, Option.some.injEq, V.int.injEq, V.bl.injEq, V.ref.injEq, V.str.injEq, V.ty.injEq, List.cons.injEq, HO.tup.injEq, HO.lst.injEq, and_true, true_and, and_assoc, exists_eq_left, exists_eq_left', exists_and_left, exists_eq', atI0, atI1, atI2, atI3, Int.cast_ofNat_Int, Int.reduceToNat, scal_ii, scal_in, scal_ni, scal_nn, scal_bb, scal_ss, scal_sn, scal_ns, scal_bn, scal_nb, ite_iff, decide_eq_true_eq, decide_eq_false_iff_not, Bool.not_eq_true', Classical.not_not, ne_eq, not_false_eq_true, not_true_eq_false, forall_const, true_implies, false_implies, imp_self, sizeLine_eq, Nat.reduceLeDiff, reduceCtorEq, decide_true, decide_false]
  cases l <;> cases h <;> simp_all [okS, isI]
/-- a call of Stretch -/
def spSt (K : PySem.W.Frag) : Sp := fun vs H Q E => ∃ l h, vs = [l, h] ∧ Wh K H l ∧ Wh K H h ∧ (okS l h = true → NewsI H (ga K "Stretch") [("low", l), ("high", h)] Q) ∧ (okS l h = false → Rse K E H "BadPart" "part" (.str "stretch"))
def spStI (K : PySem.W.Frag) : Sp := fun vs H Q E => ∃ p l h, vs = [.ref p, l, h] ∧ ∃ dx, H p = some (.ins (ga K "Stretch") dx []) ∧ Wh K H l ∧ Wh K H h ∧
  (okS l h = true → ∀ H', (∀ b, b ≠ p → H' b = H b) → H' p = some (.ins (ga K "Stretch") dx [("low", l), ("high", h)]) → Q .non H') ∧ (okS l h = false → Rse K E H "BadPart" "part" (.str "stretch"))
theorem i_Stretch___init__ (T : Txt K mg) {f : Addr} {fd : FuncData} (F : FunD K "__init__" "Stretch.__init__" (defArgs s_Stretch___init__) (defBody s_Stretch___init__) (defScope s_Stretch___init__) [.non, .non] [] f fd) : FnOk P w K mg base (L2.CX P w) 3 f fd ["self", "low", "high"] (spStI K) := by
  have o_is_span := o_is_span (P := P) (w := w) (base := base) T
  refine F.ok (CX := (L2.CX P w)) sc_Stretch___init__ (fun vs H Q E h => ?_) (fun cdv A outer s H vs Q E hr h => ?_)
  · first | (obtain ⟨_, rfl, _⟩ := h; rfl) | (obtain ⟨_, _, rfl, _⟩ := h; rfl) | (obtain ⟨_, _, _, rfl, _⟩ := h; rfl) | (obtain ⟨_, _, _, _, rfl, _⟩ := h; rfl) | (obtain ⟨_, _, _, _, _, rfl, _⟩ := h; rfl) | (obtain ⟨_, _, _, _, _, _, rfl, _⟩ := h; rfl) | (obtain ⟨_, _, _, _, _, _, _, rfl, _⟩ := h; rfl)
  have hu64 := hr.units
  refine ⟨_, (pss_cons (ps_if (pt_not (pt_val (pcl o_is_span (hr.mono (by decide)) pass0 (pa_cons (pv 1) (pa_cons (pv 2) pa_nil))))) (pss_one (ps_raiseX (T.x_BadPart) (hr.mono (by decide)) takesE (pe_str))) (pss_nil))
      (pss_cons (ps_fldN T.c_Stretch T.na_Stretch_low (pv 0) (pv 1))
      (pss_one (ps_fldN T.c_Stretch T.na_Stretch_high (pv 0) (pv 2))))), ?_⟩
  obtain ⟨p, l, h, rfl, dx, hp, Wl, Wr, k1, k2⟩ := h
  simp only [spSpan, exists_and_left, rMax2, tYes, calmS, tDNew, rInDN, rIxDN, rSetDN, tPop, rTupN, rMax, rMin, rSum, rAny, rSorted, rRepN, tSl, tPart, tNoPart, rSlLN, rSlG, rCatG, rOwnB, LamX.tLam3b, rListT, rRepr, tXf, tMtS, cx_K, Value.ref.injEq, HO.xd.injEq, lk0, tSeq, tPar3, tPar, tCons, tNil, tVar, tC, tAsg, gName, gCons, gNil, gTupN, gSub, tOp, rI, rI0, rU, tTest, rNe, rEq, rIxTN, rIxLN, rLenL, rLenT, rIntI, rIntB, rAbs, rSetLN, tTruL, tRaiseX, rIsTy, rIsOw, ixN0, ixN1, tRet, tIf, tIfS, tNext, tBreak, tCont, tDrop, tTupN, tLstN, tUn, tCB, tCall, tNot, tAnd, tOr, tB, tAndV, tOrV, tNotV, tChain, tApp, LamX.tLam, tRevLN, rCatN, rInTN, rInLN, flatV, inV, List.all_cons, List.all_nil, List.any_cons, List.any_nil, Bool.and_self, Bool.and_true, if_true, Bool.false_eq_true, if_false, tMt, tFldN, tSto, HO.ins.injEq, lkh, List.drop_zero, List.drop_succ_cons, List.drop_nil, rListS, wipe, L2.start, List.map_cons, List.map_nil, List.length_cons, List.length_nil, List.replicate, List.cons_append, List.nil_append, List.append_nil, Nat.reduceAdd, Nat.reduceSub, Nat.zero_add, List.replicate_succ, List.replicate_zero, List.getElem?_cons_zero, List.getElem?_cons_succ, List.set_cons_zero, List.set_cons_succ, Option.some.injEq, V.int.injEq, V.bl.injEq, V.ref.injEq, V.str.injEq, V.ty.injEq, List.cons.injEq, HO.tup.injEq, HO.lst.injEq, and_true, true_and, and_assoc, exists_eq_left, exists_eq_left', exists_and_left, exists_eq', atI0, atI1, atI2, atI3, Int.cast_ofNat_Int, Int.reduceToNat, scal_ii, scal_in, scal_ni, scal_nn, scal_bb, scal_ss, scal_sn, scal_ns, scal_bn, scal_nb, ite_iff, decide_eq_true_eq, decide_eq_false_iff_not, Bool.not_eq_true', Classical.not_not, ne_eq, not_false_eq_true, not_true_eq_false, forall_const, true_implies, false_implies, imp_self, sizeLine_eq, Nat.reduceLeDiff, reduceCtorEq, decide_true, decide_false]
  refine ⟨Wl, Wr, k2, fun e => ⟨dx, [], hp, by decide, fun H1 p1 => ⟨dx, _, p1.1, by rw [putF_nil]; exact (by decide : 1 < 1000), fun H2 p2 => ?_⟩⟩⟩
  refine k1 (by simpa using e) H2 (fun b hb => by rw [p2.2 b hb, p1.2 b hb]) ?_
  rw [p2.1, putF_nil, putF_cons (by decide +kernel), putF_nil]
theorem o_Stretch (T : Txt K mg) : OkK P w K mg base (L2.CX P w) 3 "Stretch" ["low", "high"] [.non, .non] (spSt K) := by
  obtain ⟨f, fd, M, F⟩ := T.d_Stretch___init__
  refine ⟨f, fd, spStI K, M, T.g_Stretch, b_Stretch___init__ F, i_Stretch___init__ T F, fun vs H Q E h p dx hp hdx hne => ?_⟩
  obtain ⟨l, r, rfl, Wl, Wr, k1, k2⟩ := h
  have s := same_made (H' := upd (upd H dx (.own p)) p (.ins (ga K "Stretch") dx [])) hp hdx fun b _ => rfl
  exact ⟨p, l, r, rfl, dx, upd_same, wh_mono Wl s, wh_mono Wr s, fun e H' hk hp' => ⟨rfl, k1 e p dx H' hp (same_made hp hdx hk) hp'⟩, fun e => Rse.mono (k2 e) s⟩
theorem lkLow {l h : V} : List.lookup ("low" : Str) [(("low" : Str), l), (("high" : Str), h)] = some l := lkh
theorem lkHigh {l h : V} : List.lookup ("high" : Str) [(("low" : Str), l), (("high" : Str), h)] = some h := lk1 (by decide +kernel)
theorem lkNo {m : Str} {l h : V} (h1 : (m == ("low" : Str)) = false := by decide +kernel) (h2 : (m == ("high" : Str)) = false := by decide +kernel) : List.lookup m [(("low" : Str), l), (("high" : Str), h)] = none := lkn2 h1 h2
theorem lkN_holds {l h : V} : List.lookup ("holds" : Str) [(("low" : Str), l), (("high" : Str), h)] = none := lkNo
theorem lkN_moved {l h : V} : List.lookup ("moved" : Str) [(("low" : Str), l), (("high" : Str), h)] = none := lkNo
theorem lkN_turned {l h : V} : List.lookup ("turned" : Str) [(("low" : Str), l), (("high" : Str), h)] = none := lkNo
theorem lkN_common {l h : V} : List.lookup ("common" : Str) [(("low" : Str), l), (("high" : Str), h)] = none := lkNo
theorem lkN_count {l h : V} : List.lookup ("count" : Str) [(("low" : Str), l), (("high" : Str), h)] = none := lkNo
theorem lkN_first {l h : V} : List.lookup ("first" : Str) [(("low" : Str), l), (("high" : Str), h)] = none := lkNo
theorem lkN_final {l h : V} : List.lookup ("final" : Str) [(("low" : Str), l), (("high" : Str), h)] = none := lkNo
theorem lkN_nth {l h : V} : List.lookup ("nth" : Str) [(("low" : Str), l), (("high" : Str), h)] = none := lkNo
theorem lkN_below {l h : V} : List.lookup ("below" : Str) [(("low" : Str), l), (("high" : Str), h)] = none := lkNo
/-- the stretch at a -/
abbrev SAt (K : PySem.W.Frag) (H : Hp) (a dx : Addr) (lo hi : Option Int) : Prop := H a = some (.ins (ga K "Stretch") dx [("low", ov lo), ("high", ov hi)])
/-- i is in the stretch -/
def inS (lo hi : Option Int) (i : Int) : Bool := (match lo with | none => true | some l => decide (l ≤ i)) && (match hi with | none => true | some h => decide (i < h))
def hasV (lo hi : Option Int) : V → Bool
  | .int i => inS lo hi i
  | _ => false
def spHolds (K : PySem.W.Frag) : Sp := fun vs H Q _ => ∃ a x, vs = [.ref a, x] ∧ ∃ dx lo hi, SAt K H a dx lo hi ∧ Wh K H x ∧ Q (.bl (hasV lo hi x)) H
theorem o_Stretch_holds (T : Txt K mg) : OkM P w K mg base CX0 2 "Stretch" "holds" ["self", "number"] [] (spHolds K) := by
  have o_is_whole := o_is_whole (P := P) (w := w) (base := base) T
  obtain ⟨f, fd, M, F⟩ := T.d_Stretch_holds
  refine ⟨f, fd, M, b_Stretch_holds F, F.ok (CX := CX0) sc_Stretch_holds (fun vs H Q E h => ?_) (fun cdv A outer s H vs Q E hr h => ?_)⟩
  · first | (obtain ⟨_, rfl, _⟩ := h; rfl) | (obtain ⟨_, _, rfl, _⟩ := h; rfl) | (obtain ⟨_, _, _, rfl, _⟩ := h; rfl) | (obtain ⟨_, _, _, _, rfl, _⟩ := h; rfl) | (obtain ⟨_, _, _, _, _, rfl, _⟩ := h; rfl) | (obtain ⟨_, _, _, _, _, _, rfl, _⟩ := h; rfl) | (obtain ⟨_, _, _, _, _, _, _, rfl, _⟩ := h; rfl)
  have hu64 := hr.units
  refine ⟨_, PSs.nox (pss_cons (ps_if (pt_not (pt_val (pcl o_is_whole (hr.mono (by decide)) pass0 (pa_cons (pv 1) pa_nil)))) (pss_one (ps_ret (pe_bl))) (pss_nil))
      (pss_one (ps_ret (pe_and (pe_or (pe_cmpR op_isN (pe_fldN T.c_Stretch T.na_Stretch_low (pv 0)) (pe_non) (nomark _)) (pe_one (pe_cmpR op_le (pe_fldN T.c_Stretch T.na_Stretch_low (pv 0)) (pv 1) (nomark _)))) (pe_one (pe_or (pe_cmpR op_isN (pe_fldN T.c_Stretch T.na_Stretch_high (pv 0)) (pe_non) (nomark _)) (pe_one (pe_cmpR op_lt (pv 1) (pe_fldN T.c_Stretch T.na_Stretch_high (pv 0)) (nomark _))))))))), ?_⟩
  obtain ⟨a, x, rfl, dx, lo, hi, hs, W, k⟩ := h
  have hi' := @isI_int x
  cases lo <;> cases hi <;> simp only [spWhole, exists_and_left, hs, lkLow, lkHigh, lkN_holds, lkN_turned, lkN_common, lkN_count, lkN_first, lkN_final, lkN_nth, lkN_below, lkN_moved, ov, rMax2, tYes, calmS, tDNew, rInDN, rIxDN, rSetDN, tPop, rTupN, rMax, rMin, rSum, rAny, rSorted, rRepN, tSl, tPart, tNoPart, rSlLN, rSlG, rCatG, rOwnB, LamX.tLam3b, rListT, rRepr, tXf, tMtS, cx_K, Value.ref.injEq, HO.xd.injEq, lk0, tSeq, tPar3, tPar, tCons, tNil, tVar, tC, tAsg, gName, gCons, gNil, gTupN, gSub, tOp, rI, rI0, rU, tTest, rNe, rEq, rIxTN, rIxLN, rLenL, rLenT, rIntI, rIntB, rAbs, rSetLN, tTruL, tRaiseX, rIsTy, rIsOw, ixN0, ixN1, tRet, tIf, tIfS, tNext, tBreak, tCont, tDrop, tTupN, tLstN, tUn, tCB, tCall, tNot, tAnd, tOr, tB, tAndV, tOrV, tNotV, tChain, tApp, LamX.tLam, tRevLN, rCatN, rInTN, rInLN, flatV, inV, List.all_cons, List.all_nil, List.any_cons, List.any_nil, Bool.and_self, Bool.and_true, if_true, Bool.false_eq_true, if_false, tMt, tFldN, tSto, HO.ins.injEq, lkh, List.drop_zero, List.drop_succ_cons, List.drop_nil, rListS, wipe, L2.start, List.map_cons, List.map_nil, List.length_cons, List.length_nil, List.replicate, List.cons_append, List.nil_append, List.append_nil, Nat.reduceAdd, Nat.reduceSub, Nat.zero_add, List.replicate_succ, List.replicate_zero, List.getElem?_cons_zero, List.getElem?_cons_succ, List.set_cons_zero, List.set_cons_succ, Option.some.injEq, V.int.injEq, V.bl.injEq, V.ref.injEq, V.str.injEq, V.ty.injEq, List.cons.injEq, HO.tup.injEq, HO.lst.injEq, and_true, true_and, and_assoc, exists_eq_left, exists_eq_left', exists_and_left, exists_eq', atI0, atI1, atI2, atI3, Int.cast_ofNat_Int, Int.reduceToNat, scal_ii, scal_in, scal_ni, scal_nn, scal_bb, scal_ss, scal_sn, scal_ns, scal_bn, scal_nb, ite_iff, decide_eq_true_eq, decide_eq_false_iff_not, Bool.not_eq_true', Classical.not_not, ne_eq, not_false_eq_true, not_true_eq_false, forall_const, true_implies, false_implies, imp_self, sizeLine_eq, Nat.reduceLeDiff, reduceCtorEq, decide_true, decide_false] <;> refine ⟨W, fun h => ?_, fun h => ?_⟩
  all_goals first
    | (cases x <;> simp_all [hasV, inS, isI]; done)
    | (obtain ⟨i, rfl⟩ := hi' (by simpa using h); simp only [V.int.injEq, exists_eq_left']; simp_all [hasV, inS, isI]; done)
    | (obtain ⟨i, rfl⟩ := hi' (by simpa using h); simp only [V.int.injEq, exists_eq_left']; constructor <;> intro h1 <;> simp_all [hasV, inS, isI] <;> done)
/-- y is no Stretch -/
def NoS (K : PySem.W.Frag) (H : Hp) (y : V) : Prop := ∃ t, TyX K H y t ∧ PySem.W.kitOne K t (.ref (ga K "Stretch")) = some false

/-! ### stretches turned, moved -/
def turnO : Option Int → Option Int
  | none => none
  | some h => some (1 - h)
def spTurned (K : PySem.W.Frag) : Sp := fun vs H Q _ => ∃ a, vs = [.ref a] ∧ ∃ dx lo hi, SAt K H a dx lo hi ∧ okO lo hi ∧ ∀ p dx H2, H p = none → Same H H2 → SAt K H2 p dx (turnO hi) (turnO lo) → Q (.ref p) H2
theorem o_Stretch_turned (T : Txt K mg) : OkM P w K mg base (L2.CX P w) 5 "Stretch" "turned" ["self"] [] (spTurned K) := by
  have o_Stretch := o_Stretch (P := P) (w := w) (base := base) T
  obtain ⟨f, fd, M, F⟩ := T.d_Stretch_turned
  refine ⟨f, fd, M, b_Stretch_turned F, F.ok (CX := (L2.CX P w)) sc_Stretch_turned (fun vs H Q E h => ?_) (fun cdv A outer s H vs Q E hr h => ?_)⟩
  · first | (obtain ⟨_, rfl, _⟩ := h; rfl) | (obtain ⟨_, _, rfl, _⟩ := h; rfl) | (obtain ⟨_, _, _, rfl, _⟩ := h; rfl) | (obtain ⟨_, _, _, _, rfl, _⟩ := h; rfl) | (obtain ⟨_, _, _, _, _, rfl, _⟩ := h; rfl) | (obtain ⟨_, _, _, _, _, _, rfl, _⟩ := h; rfl) | (obtain ⟨_, _, _, _, _, _, _, rfl, _⟩ := h; rfl)
  have hu64 := hr.units
  refine ⟨_, (pss_cons (ps_set (i := 1) sc_Stretch_turned.nd rfl (Or.inl rfl) (pe_ifExp (pt_cmpR op_isN (pe_fldN T.c_Stretch T.na_Stretch_high (pv 0)) (pe_non) (nomark _)) (pe_non) (pe_op op_sub (pe_int) (pe_fldN T.c_Stretch T.na_Stretch_high (pv 0)))))
      (pss_cons (ps_set (i := 2) sc_Stretch_turned.nd rfl (Or.inl rfl) (pe_ifExp (pt_cmpR op_isN (pe_fldN T.c_Stretch T.na_Stretch_low (pv 0)) (pe_non) (nomark _)) (pe_non) (pe_op op_sub (pe_int) (pe_fldN T.c_Stretch T.na_Stretch_low (pv 0)))))
      (pss_one (ps_ret (pmk (j := 2) o_Stretch (by decide) (hr.mono (by decide)) passE (pa_cons (pv 1) (pa_cons (pv 2) pa_nil))))))), ?_⟩
  obtain ⟨a, rfl, dx, lo, hi, hs, ho, k⟩ := h
  cases lo <;> cases hi <;> simp only [spSt, exists_and_left, hs, lkLow, lkHigh, lkN_holds, lkN_turned, lkN_common, lkN_count, lkN_first, lkN_final, lkN_nth, lkN_below, lkN_moved, ov, wh_int, wh_non, rMax2, tYes, calmS, tDNew, rInDN, rIxDN, rSetDN, tPop, rTupN, rMax, rMin, rSum, rAny, rSorted, rRepN, tSl, tPart, tNoPart, rSlLN, rSlG, rCatG, rOwnB, LamX.tLam3b, rListT, rRepr, tXf, tMtS, cx_K, Value.ref.injEq, HO.xd.injEq, lk0, tSeq, tPar3, tPar, tCons, tNil, tVar, tC, tAsg, gName, gCons, gNil, gTupN, gSub, tOp, rI, rI0, rU, tTest, rNe, rEq, rIxTN, rIxLN, rLenL, rLenT, rIntI, rIntB, rAbs, rSetLN, tTruL, tRaiseX, rIsTy, rIsOw, ixN0, ixN1, tRet, tIf, tIfS, tNext, tBreak, tCont, tDrop, tTupN, tLstN, tUn, tCB, tCall, tNot, tAnd, tOr, tB, tAndV, tOrV, tNotV, tChain, tApp, LamX.tLam, tRevLN, rCatN, rInTN, rInLN, flatV, inV, List.all_cons, List.all_nil, List.any_cons, List.any_nil, Bool.and_self, Bool.and_true, if_true, Bool.false_eq_true, if_false, tMt, tFldN, tSto, HO.ins.injEq, lkh, List.drop_zero, List.drop_succ_cons, List.drop_nil, rListS, wipe, L2.start, List.map_cons, List.map_nil, List.length_cons, List.length_nil, List.replicate, List.cons_append, List.nil_append, List.append_nil, Nat.reduceAdd, Nat.reduceSub, Nat.zero_add, List.replicate_succ, List.replicate_zero, List.getElem?_cons_zero, List.getElem?_cons_succ, List.set_cons_zero, List.set_cons_succ, Option.some.injEq, V.int.injEq, V.bl.injEq, V.ref.injEq, V.str.injEq, V.ty.injEq, List.cons.injEq, HO.tup.injEq, HO.lst.injEq, and_true, true_and, and_assoc, exists_eq_left, exists_eq_left', exists_and_left, exists_eq', atI0, atI1, atI2, atI3, Int.cast_ofNat_Int, Int.reduceToNat, scal_ii, scal_in, scal_ni, scal_nn, scal_bb, scal_ss, scal_sn, scal_ns, scal_bn, scal_nb, ite_iff, decide_eq_true_eq, decide_eq_false_iff_not, Bool.not_eq_true', Classical.not_not, ne_eq, not_false_eq_true, not_true_eq_false, forall_const, true_implies, false_implies, imp_self, sizeLine_eq, Nat.reduceLeDiff, reduceCtorEq, decide_true, decide_false]
  all_goals refine ⟨fun _ => fun p dx' H2 hp s h2 => k p dx' H2 hp s h2, fun e => ?_⟩
  · cases e
  · cases e
  · cases e
  · simp [okS, okO] at e ho; omega
def addO : Option Int → Int → Option Int
  | none, _ => none
  | some a, b => some (a + b)
def spMoved (K : PySem.W.Frag) : Sp := fun vs H Q E => ∃ a y, vs = [.ref a, y] ∧ ∃ dx lo hi, SAt K H a dx lo hi ∧ okO lo hi ∧ Wh K H y ∧ (isI y = false → Rse K E H "BadNumber" "number" y) ∧ ∀ i, y = .int i → ∀ p dx' H2, H p = none → Same H H2 → SAt K H2 p dx' (addO lo i) (addO hi i) → Q (.ref p) H2
theorem o_Stretch_moved (T : Txt K mg) : OkM P w K mg base (L2.CX P w) 5 "Stretch" "moved" ["self", "by"] [] (spMoved K) := by
  have o_require_whole := o_require_whole (P := P) (w := w) (base := base) T
  have o_Stretch := o_Stretch (P := P) (w := w) (base := base) T
  obtain ⟨f, fd, M, F⟩ := T.d_Stretch_moved
  refine ⟨f, fd, M, b_Stretch_moved F, F.ok (CX := (L2.CX P w)) sc_Stretch_moved (fun vs H Q E h => ?_) (fun cdv A outer s H vs Q E hr h => ?_)⟩
  · first | (obtain ⟨_, rfl, _⟩ := h; rfl) | (obtain ⟨_, _, rfl, _⟩ := h; rfl) | (obtain ⟨_, _, _, rfl, _⟩ := h; rfl) | (obtain ⟨_, _, _, _, rfl, _⟩ := h; rfl) | (obtain ⟨_, _, _, _, _, rfl, _⟩ := h; rfl) | (obtain ⟨_, _, _, _, _, _, rfl, _⟩ := h; rfl) | (obtain ⟨_, _, _, _, _, _, _, rfl, _⟩ := h; rfl)
  have hu64 := hr.units
  refine ⟨_, (pss_cons (ps_expr (pcl o_require_whole (hr.mono (by decide)) passE (pa_cons (pv 1) pa_nil)))
      (pss_cons (ps_set (i := 2) sc_Stretch_moved.nd rfl (Or.inl rfl) (pe_ifExp (pt_cmpR op_isN (pe_fldN T.c_Stretch T.na_Stretch_low (pv 0)) (pe_non) (nomark _)) (pe_non) (pe_op op_add (pe_fldN T.c_Stretch T.na_Stretch_low (pv 0)) (pv 1))))
      (pss_cons (ps_set (i := 3) sc_Stretch_moved.nd rfl (Or.inl rfl) (pe_ifExp (pt_cmpR op_isN (pe_fldN T.c_Stretch T.na_Stretch_high (pv 0)) (pe_non) (nomark _)) (pe_non) (pe_op op_add (pe_fldN T.c_Stretch T.na_Stretch_high (pv 0)) (pv 1))))
      (pss_one (ps_ret (pmk (j := 2) o_Stretch (by decide) (hr.mono (by decide)) passE (pa_cons (pv 2) (pa_cons (pv 3) pa_nil)))))))), ?_⟩
  obtain ⟨a, y, rfl, dx, lo, hi, hs, ho, W, kE, k⟩ := h
  simp only [spReqW, exists_and_left, rMax2, tYes, calmS, tDNew, rInDN, rIxDN, rSetDN, tPop, rTupN, rMax, rMin, rSum, rAny, rSorted, rRepN, tSl, tPart, tNoPart, rSlLN, rSlG, rCatG, rOwnB, LamX.tLam3b, rListT, rRepr, tXf, tMtS, cx_K, Value.ref.injEq, HO.xd.injEq, lk0, tSeq, tPar3, tPar, tCons, tNil, tVar, tC, tAsg, gName, gCons, gNil, gTupN, gSub, tOp, rI, rI0, rU, tTest, rNe, rEq, rIxTN, rIxLN, rLenL, rLenT, rIntI, rIntB, rAbs, rSetLN, tTruL, tRaiseX, rIsTy, rIsOw, ixN0, ixN1, tRet, tIf, tIfS, tNext, tBreak, tCont, tDrop, tTupN, tLstN, tUn, tCB, tCall, tNot, tAnd, tOr, tB, tAndV, tOrV, tNotV, tChain, tApp, LamX.tLam, tRevLN, rCatN, rInTN, rInLN, flatV, inV, List.all_cons, List.all_nil, List.any_cons, List.any_nil, Bool.and_self, Bool.and_true, if_true, Bool.false_eq_true, if_false, tMt, tFldN, tSto, HO.ins.injEq, lkh, List.drop_zero, List.drop_succ_cons, List.drop_nil, rListS, wipe, L2.start, List.map_cons, List.map_nil, List.length_cons, List.length_nil, List.replicate, List.cons_append, List.nil_append, List.append_nil, Nat.reduceAdd, Nat.reduceSub, Nat.zero_add, List.replicate_succ, List.replicate_zero, List.getElem?_cons_zero, List.getElem?_cons_succ, List.set_cons_zero, List.set_cons_succ, Option.some.injEq, V.int.injEq, V.bl.injEq, V.ref.injEq, V.str.injEq, V.ty.injEq, List.cons.injEq, HO.tup.injEq, HO.lst.injEq, and_true, true_and, and_assoc, exists_eq_left, exists_eq_left', exists_and_left, exists_eq', atI0, atI1, atI2, atI3, Int.cast_ofNat_Int, Int.reduceToNat, scal_ii, scal_in, scal_ni, scal_nn, scal_bb, scal_ss, scal_sn, scal_ns, scal_bn, scal_nb, ite_iff, decide_eq_true_eq, decide_eq_false_iff_not, Bool.not_eq_true', Classical.not_not, ne_eq, not_false_eq_true, not_true_eq_false, forall_const, true_implies, false_implies, imp_self, sizeLine_eq, Nat.reduceLeDiff, reduceCtorEq, decide_true, decide_false]
  refine ⟨W, fun h1 => ?_, kE⟩
  obtain ⟨i, rfl⟩ := isI_int h1
  have k := k i rfl
  cases lo <;> cases hi <;> simp only [spSt, exists_and_left, hs, lkLow, lkHigh, lkN_holds, lkN_turned, lkN_common, lkN_count, lkN_first, lkN_final, lkN_nth, lkN_below, lkN_moved, ov, wh_int, wh_non, rMax2, tYes, calmS, tDNew, rInDN, rIxDN, rSetDN, tPop, rTupN, rMax, rMin, rSum, rAny, rSorted, rRepN, tSl, tPart, tNoPart, rSlLN, rSlG, rCatG, rOwnB, LamX.tLam3b, rListT, rRepr, tXf, tMtS, cx_K, Value.ref.injEq, HO.xd.injEq, lk0, tSeq, tPar3, tPar, tCons, tNil, tVar, tC, tAsg, gName, gCons, gNil, gTupN, gSub, tOp, rI, rI0, rU, tTest, rNe, rEq, rIxTN, rIxLN, rLenL, rLenT, rIntI, rIntB, rAbs, rSetLN, tTruL, tRaiseX, rIsTy, rIsOw, ixN0, ixN1, tRet, tIf, tIfS, tNext, tBreak, tCont, tDrop, tTupN, tLstN, tUn, tCB, tCall, tNot, tAnd, tOr, tB, tAndV, tOrV, tNotV, tChain, tApp, LamX.tLam, tRevLN, rCatN, rInTN, rInLN, flatV, inV, List.all_cons, List.all_nil, List.any_cons, List.any_nil, Bool.and_self, Bool.and_true, if_true, Bool.false_eq_true, if_false, tMt, tFldN, tSto, HO.ins.injEq, lkh, List.drop_zero, List.drop_succ_cons, List.drop_nil, rListS, wipe, L2.start, List.map_cons, List.map_nil, List.length_cons, List.length_nil, List.replicate, List.cons_append, List.nil_append, List.append_nil, Nat.reduceAdd, Nat.reduceSub, Nat.zero_add, List.replicate_succ, List.replicate_zero, List.getElem?_cons_zero, List.getElem?_cons_succ, List.set_cons_zero, List.set_cons_succ, Option.some.injEq, V.int.injEq, V.bl.injEq, V.ref.injEq, V.str.injEq, V.ty.injEq, List.cons.injEq, HO.tup.injEq, HO.lst.injEq, and_true, true_and, and_assoc, exists_eq_left, exists_eq_left', exists_and_left, exists_eq', atI0, atI1, atI2, atI3, Int.cast_ofNat_Int, Int.reduceToNat, scal_ii, scal_in, scal_ni, scal_nn, scal_bb, scal_ss, scal_sn, scal_ns, scal_bn, scal_nb, ite_iff, decide_eq_true_eq, decide_eq_false_iff_not, Bool.not_eq_true', Classical.not_not, ne_eq, not_false_eq_true, not_true_eq_false, forall_const, true_implies, false_implies, imp_self, sizeLine_eq, Nat.reduceLeDiff, reduceCtorEq, decide_true, decide_false]
  all_goals refine ⟨fun _ => fun p dx' H2 hp s h2 => k p dx' H2 hp s h2, fun e => ?_⟩
  · cases e
  · cases e
  · cases e
  · simp [okS, okO] at e ho; omega

end
end Iz
/-! k04_c -/
set_option Elab.async false
set_option linter.all false
set_option maxRecDepth 100000
set_option maxHeartbeats 4000000
namespace Iz
open PySem PySem.Spec PyProof.Rows L2
open He (ga)
local macro_rules | `(tactic| walk_at "wp") => `(tactic| simp only [rMax2, tYes, calmS, tDNew, rInDN, rIxDN, rSetDN, tPop, rTupN, rMax, rMin, rSum, rAny, rSorted, rRepN, tSl, tPart, tNoPart, rSlLN, rSlG, rCatG, rOwnB, LamX.tLam3b, rListT, rRepr, tXf, tMtS, cx_K, Value.ref.injEq, HO.xd.injEq, lk0, tSeq, tPar3, tPar, tCons, tNil, tVar, tC, tAsg, gName, gCons, gNil, gTupN, gSub, tOp, rI, rI0, rU, tTest, rNe, rEq, rIxTN, rIxLN, rLenL, rLenT, rIntI, rIntB, rAbs, rSetLN, tTruL, tRaiseX, rIsTy, rIsOw, ixN0, ixN1, tRet, tIf, tIfS, tNext, tBreak, tCont, tDrop, tTupN, tLstN, tUn, tCB, tCall, tNot, tAnd, tOr, tB, tAndV, tOrV, tNotV, tChain, tApp, LamX.tLam, tRevLN, rCatN, rInTN, rInLN, flatV, inV, List.all_cons, List.all_nil, List.any_cons, List.any_nil, Bool.and_self, Bool.and_true, if_true, Bool.false_eq_true, if_false, tMt, tFldN, tSto, HO.ins.injEq, lkh, List.drop_zero, List.drop_succ_cons, List.drop_nil, rListS, wipe, L2.start, List.map_cons, List.map_nil, List.length_cons, List.length_nil, List.replicate, List.cons_append, List.nil_append, List.append_nil, Nat.reduceAdd, Nat.reduceSub, Nat.zero_add, List.replicate_succ, List.replicate_zero, List.getElem?_cons_zero, List.getElem?_cons_succ, List.set_cons_zero, List.set_cons_succ, Option.some.injEq, V.int.injEq, V.bl.injEq, V.ref.injEq, V.str.injEq, V.ty.injEq, List.cons.injEq, HO.tup.injEq, HO.lst.injEq, and_true, true_and, and_assoc, exists_eq_left, exists_eq_left', exists_and_left, exists_eq', atI0, atI1, atI2, atI3, Int.cast_ofNat_Int, Int.reduceToNat, scal_ii, scal_in, scal_ni, scal_nn, scal_bb, scal_ss, scal_sn, scal_ns, scal_bn, scal_nb, ite_iff, decide_eq_true_eq, decide_eq_false_iff_not, Bool.not_eq_true', Classical.not_not, ne_eq, not_false_eq_true, not_true_eq_false, forall_const, true_implies, false_implies, imp_self, sizeLine_eq, Nat.reduceLeDiff, reduceCtorEq, decide_true, decide_false])
section
variable {P : Program} {w : World} {K : PySem.W.Frag} {mg : Str → Option Value} {base : Heap}
/-! ### spreads made -/
def spIsRow (K : PySem.W.Frag) : Sp := fun vs H Q _ => ∃ x, vs = [x] ∧ ∃ t b, TyX K H x t ∧ PySem.W.kitAny K t [.type "list", .type "tuple"] = some b ∧ ∀ H', Same H H' → Q (.bl b) H'
theorem o_is_row (T : Txt K mg) : OkF P w K mg base CX0 2 "is_row" ["value"] (spIsRow K) := by
  obtain ⟨f, fd, g, F⟩ := T.d_is_row
  refine ⟨f, fd, g, F.kp, F.binds (fun _ _ _ _ _ _ us hl => match us, hl with | [_], _ => rfl), F.ok sc_is_row (fun vs H Q E h => ?_) (fun cdv A outer s H vs Q E hr h => ?_)⟩
  · first | (obtain ⟨_, rfl, _⟩ := h; rfl) | (obtain ⟨_, _, rfl, _⟩ := h; rfl) | (obtain ⟨_, _, _, rfl, _⟩ := h; rfl) | (obtain ⟨_, _, _, _, rfl, _⟩ := h; rfl) | (obtain ⟨_, _, _, _, _, rfl, _⟩ := h; rfl) | (obtain ⟨_, _, _, _, _, _, rfl, _⟩ := h; rfl) | (obtain ⟨_, _, _, _, _, _, _, rfl, _⟩ := h; rfl)
  have hu64 := hr.units
  refine ⟨_, pss_one (ps_ret (pe_callB call_isiT (by rfl) T.m_isinstance (by decide +kernel) (pa_cons (pv 0) (pa_cons (pe_tupN (pa_cons ((pe_bltn (v := .ty "list") (by rfl) T.m_list (by decide +kernel) rfl)) (pa_cons ((pe_bltn (v := .ty "tuple") (by rfl) T.m_tuple (by decide +kernel) rfl)) pa_nil))) pa_nil)))), ?_⟩
  obtain ⟨x, rfl, t, b, ty, kt, k⟩ := h
  simp only [rIsiT, exists_and_left, rMax2, tYes, calmS, tDNew, rInDN, rIxDN, rSetDN, tPop, rTupN, rMax, rMin, rSum, rAny, rSorted, rRepN, tSl, tPart, tNoPart, rSlLN, rSlG, rCatG, rOwnB, LamX.tLam3b, rListT, rRepr, tXf, tMtS, cx_K, Value.ref.injEq, HO.xd.injEq, lk0, tSeq, tPar3, tPar, tCons, tNil, tVar, tC, tAsg, gName, gCons, gNil, gTupN, gSub, tOp, rI, rI0, rU, tTest, rNe, rEq, rIxTN, rIxLN, rLenL, rLenT, rIntI, rIntB, rAbs, rSetLN, tTruL, tRaiseX, rIsTy, rIsOw, ixN0, ixN1, tRet, tIf, tIfS, tNext, tBreak, tCont, tDrop, tTupN, tLstN, tUn, tCB, tCall, tNot, tAnd, tOr, tB, tAndV, tOrV, tNotV, tChain, tApp, LamX.tLam, tRevLN, rCatN, rInTN, rInLN, flatV, inV, List.all_cons, List.all_nil, List.any_cons, List.any_nil, Bool.and_self, Bool.and_true, if_true, Bool.false_eq_true, if_false, tMt, tFldN, tSto, HO.ins.injEq, lkh, List.drop_zero, List.drop_succ_cons, List.drop_nil, rListS, wipe, L2.start, List.map_cons, List.map_nil, List.length_cons, List.length_nil, List.replicate, List.cons_append, List.nil_append, List.append_nil, Nat.reduceAdd, Nat.reduceSub, Nat.zero_add, List.replicate_succ, List.replicate_zero, List.getElem?_cons_zero, List.getElem?_cons_succ, List.set_cons_zero, List.set_cons_succ, Option.some.injEq, V.int.injEq, V.bl.injEq, V.ref.injEq, V.str.injEq, V.ty.injEq, List.cons.injEq, HO.tup.injEq, HO.lst.injEq, and_true, true_and, and_assoc, exists_eq_left, exists_eq_left', exists_and_left, exists_eq', atI0, atI1, atI2, atI3, Int.cast_ofNat_Int, Int.reduceToNat, scal_ii, scal_in, scal_ni, scal_nn, scal_bb, scal_ss, scal_sn, scal_ns, scal_bn, scal_nb, ite_iff, decide_eq_true_eq, decide_eq_false_iff_not, Bool.not_eq_true', Classical.not_not, ne_eq, not_false_eq_true, not_true_eq_false, forall_const, true_implies, false_implies, imp_self, sizeLine_eq, Nat.reduceLeDiff, reduceCtorEq, decide_true, decide_false]
  intro p H1 hp s1 h1
  exact ⟨p, rfl, _, h1, t, _, .cons (.ty _) (.cons (.ty _) .nil), tyX_mono ty s1, _, kt, k _ s1⟩
def spGh : Sp := fun vs H Q _ => ∃ x y, vs = [ov x, ov y] ∧ Q (ov (ghigh x y)) H
theorem o__greater_high (T : Txt K mg) : OkF P w K mg base CX0 1 "_greater_high" ["one", "other"] spGh := by
  obtain ⟨f, fd, g, F⟩ := T.d__greater_high
  refine ⟨f, fd, g, F.kp, F.binds (fun _ _ _ _ _ _ us hl => match us, hl with | [_, _], _ => rfl), F.ok sc__greater_high (fun vs H Q E h => ?_) (fun cdv A outer s H vs Q E hr h => ?_)⟩
  · first | (obtain ⟨_, rfl, _⟩ := h; rfl) | (obtain ⟨_, _, rfl, _⟩ := h; rfl) | (obtain ⟨_, _, _, rfl, _⟩ := h; rfl) | (obtain ⟨_, _, _, _, rfl, _⟩ := h; rfl) | (obtain ⟨_, _, _, _, _, rfl, _⟩ := h; rfl) | (obtain ⟨_, _, _, _, _, _, rfl, _⟩ := h; rfl) | (obtain ⟨_, _, _, _, _, _, _, rfl, _⟩ := h; rfl)
  have hu64 := hr.units
  refine ⟨_, pss_cons (ps_if (PW.pt (pw_or (pt_cmpR op_isN (pv 0) (pe_non) (nomark _)) (pw_or1 (pt_cmpR op_isN (pv 1) (pe_non) (nomark _))))) (pss_one (ps_ret (pe_non))) (pss_nil))
      (pss_one (ps_ret (pe_ifExp (pt_cmpR op_gt (pv 0) (pv 1) (nomark _)) (pv 0) (pv 1)))), ?_⟩
  obtain ⟨x, y, rfl, k⟩ := h
  cases x <;> cases y <;> simp only [ov, rMax2, tYes, calmS, tDNew, rInDN, rIxDN, rSetDN, tPop, rTupN, rMax, rMin, rSum, rAny, rSorted, rRepN, tSl, tPart, tNoPart, rSlLN, rSlG, rCatG, rOwnB, LamX.tLam3b, rListT, rRepr, tXf, tMtS, cx_K, Value.ref.injEq, HO.xd.injEq, lk0, tSeq, tPar3, tPar, tCons, tNil, tVar, tC, tAsg, gName, gCons, gNil, gTupN, gSub, tOp, rI, rI0, rU, tTest, rNe, rEq, rIxTN, rIxLN, rLenL, rLenT, rIntI, rIntB, rAbs, rSetLN, tTruL, tRaiseX, rIsTy, rIsOw, ixN0, ixN1, tRet, tIf, tIfS, tNext, tBreak, tCont, tDrop, tTupN, tLstN, tUn, tCB, tCall, tNot, tAnd, tOr, tB, tAndV, tOrV, tNotV, tChain, tApp, LamX.tLam, tRevLN, rCatN, rInTN, rInLN, flatV, inV, List.all_cons, List.all_nil, List.any_cons, List.any_nil, Bool.and_self, Bool.and_true, if_true, Bool.false_eq_true, if_false, tMt, tFldN, tSto, HO.ins.injEq, lkh, List.drop_zero, List.drop_succ_cons, List.drop_nil, rListS, wipe, L2.start, List.map_cons, List.map_nil, List.length_cons, List.length_nil, List.replicate, List.cons_append, List.nil_append, List.append_nil, Nat.reduceAdd, Nat.reduceSub, Nat.zero_add, List.replicate_succ, List.replicate_zero, List.getElem?_cons_zero, List.getElem?_cons_succ, List.set_cons_zero, List.set_cons_succ, Option.some.injEq, V.int.injEq, V.bl.injEq, V.ref.injEq, V.str.injEq, V.ty.injEq, List.cons.injEq, HO.tup.injEq, HO.lst.injEq, and_true, true_and, and_assoc, exists_eq_left, exists_eq_left', exists_and_left, exists_eq', atI0, atI1, atI2, atI3, Int.cast_ofNat_Int, Int.reduceToNat, scal_ii, scal_in, scal_ni, scal_nn, scal_bb, scal_ss, scal_sn, scal_ns, scal_bn, scal_nb, ite_iff, decide_eq_true_eq, decide_eq_false_iff_not, Bool.not_eq_true', Classical.not_not, ne_eq, not_false_eq_true, not_true_eq_false, forall_const, true_implies, false_implies, imp_self, sizeLine_eq, Nat.reduceLeDiff, reduceCtorEq, decide_true, decide_false] <;> simp_all [ghigh, ov]
  refine ⟨fun h => ?_, fun h => ?_⟩
  · rw [if_pos h] at k; exact k
  · rw [if_neg (by omega)] at k; exact k
/-- stretches in a row -/
inductive SAll (K : PySem.W.Frag) (H : Hp) : List V → List PP → Prop
  | nil : SAll K H [] []
  | cons {a dx : Addr} {q : PP} {xs : List V} {ps : List PP} : SAt K H a dx q.1 q.2 → SAll K H xs ps → SAll K H (.ref a :: xs) (q :: ps)
section
variable {H H' : Hp} {xs : List V} {ps : List PP}
theorem SAll.length (h : SAll K H xs ps) : xs.length = ps.length := by induction h <;> simp_all
theorem SAll.mono (h : SAll K H xs ps) (s : Same H H') : SAll K H' xs ps := by
  induction h with
  | nil => exact .nil
  | cons e _ ih => exact .cons (s _ _ e) ih
theorem SAll.monoI (h : SAll K H xs ps) (s : ∀ b C dx fs, H b = some (.ins C dx fs) → H' b = some (.ins C dx fs)) : SAll K H' xs ps := by
  induction h with
  | nil => exact .nil
  | cons e _ ih => exact .cons (s _ _ _ _ e) ih
theorem SAll.monoP (h : SAll K H xs ps) (s : ∀ b dx lo hi, SAt K H b dx lo hi → SAt K H' b dx lo hi) : SAll K H' xs ps := by
  induction h with
  | nil => exact .nil
  | cons e _ ih => exact .cons (s _ _ _ _ e) ih
theorem SAll.snoc {a dx : Addr} {q : PP} (h : SAll K H xs ps) (e : SAt K H a dx q.1 q.2) : SAll K H (xs ++ [.ref a]) (ps ++ [q]) := by
  induction h with
  | nil => exact .cons e .nil
  | cons e0 _ ih => exact .cons e0 ih
theorem SAll.get {i : Nat} {x : V} (h : SAll K H xs ps) (hi : xs[i]? = some x) : ∃ a dx q, x = .ref a ∧ ps[i]? = some q ∧ SAt K H a dx q.1 q.2 := by
  induction h generalizing i with
  | nil => simp at hi
  | @cons a dx q xs ps e _ ih =>
    cases i with
    | zero => simp at hi; subst hi; exact ⟨a, dx, q, rfl, rfl, e⟩
    | succ j => simp at hi; exact ih hi
end
def spPairs (K : PySem.W.Frag) : Sp := fun vs H Q _ => ∃ L, vs = [.ref L] ∧ ∃ xs ps, LG K H L xs ∧ SAll K H xs ps ∧ (∀ q ∈ ps, okB q) ∧ ps.length ≤ 1000 ∧
  ∀ r H' qs, H r = none → Same H H' → PairsAt H' r qs → Asc qs → (∀ q ∈ qs, okB q) → (∀ i, has qs i = has ps i) → qs.length ≤ ps.length → Q (.ref r) H'
theorem o__pairs_by_low (T : Txt K mg) : OkF P w K mg base CX0 2 "_pairs_by_low" ["stretches"] (spPairs K) := by
  have o__greater_high := o__greater_high (P := P) (w := w) (base := base) T
  obtain ⟨f, fd, g, F⟩ := T.d__pairs_by_low
  refine ⟨f, fd, g, F.kp, F.binds (fun _ _ _ _ _ _ us hl => match us, hl with | [_], _ => rfl), F.ok sc__pairs_by_low (fun vs H Q E h => ?_) (fun cdv A outer s H vs Q E hr h => ?_)⟩
  · first | (obtain ⟨_, rfl, _⟩ := h; rfl) | (obtain ⟨_, _, rfl, _⟩ := h; rfl) | (obtain ⟨_, _, _, rfl, _⟩ := h; rfl) | (obtain ⟨_, _, _, _, rfl, _⟩ := h; rfl) | (obtain ⟨_, _, _, _, _, rfl, _⟩ := h; rfl) | (obtain ⟨_, _, _, _, _, _, rfl, _⟩ := h; rfl) | (obtain ⟨_, _, _, _, _, _, _, rfl, _⟩ := h; rfl)
  have hu64 := hr.units
  refine ⟨_, pss_cons (ps_set (i := 1) sc__pairs_by_low.nd rfl (Or.inr rfl) ((pe_dnNk (P := P) (w := w) rfl rfl)))
      (pss_cons (ps_for PassesOwn.never rfl (pi_or (pi_list (pv 0)) (pi_tup (pv 0))) (pg_name (i := 2) sc__pairs_by_low.nd rfl (Or.inl rfl)) (pss_cons (ps_set (i := 3) sc__pairs_by_low.nd rfl (Or.inl rfl) (pe_fldN T.c_Stretch T.na_Stretch_low (pv 2)))
      (pss_one (ps_asg (pe_ifExp (pt_cmpR (op_inDNk (P := P) (w := w) rfl rfl) (pv 3) (pv 1) (by rfl)) (pcl o__greater_high (hr.mono (by decide)) pass0 (pa_cons (pe_ix (ix_DNk (P := P) (w := w) rfl rfl) (pv 1) (pv 3) (fun _ _ => rfl)) (pa_cons (pe_fldN T.c_Stretch T.na_Stretch_high (pv 2)) pa_nil))) (pe_fldN T.c_Stretch T.na_Stretch_high (pv 2))) (pg_sub (pv 1) (pv 3) (set_DNk (P := P) (w := w) rfl rfl))))))
      (pss_cons (ps_set (i := 4) sc__pairs_by_low.nd rfl (Or.inl rfl) (pe_callB cr_sortedI (by rfl) T.m_sorted (by decide +kernel) (pa_cons (pe_lc (own := [("low", 3)]) (g := gName 3) (by rfl) sc__pairs_by_low.nd (pi_DNk (P := P) (w := w) rfl rfl (pv 1)) (blkOk_by (N := ["stretches", "tops", "stretch", "low", "lows", "pairs"]) (sc := defScope s__pairs_by_low) (own := [("low", 3)]) (by decide +kernel)) (fun _ _ _ _ _ => pg_name (i := 3) sc__pairs_by_low.nd rfl (Or.inl rfl)) (fun _ _ _ _ _ => pts_one (pt_cmpR op_notN (pv 3) (pe_non) (nomark _))) (fun _ _ _ _ _ => pe_callTy call_intI (by rfl) T.m_int (by decide +kernel) (pa_cons (pv 3) pa_nil))) pa_nil)))
      (pss_cons (ps_set (i := 5) sc__pairs_by_low.nd rfl (Or.inl rfl) (pe_ifExp (pt_cmpR (op_inDNk (P := P) (w := w) rfl rfl) (pe_non) (pv 1) (by rfl)) (pe_lstN (pa_cons (pe_tupN (pa_cons (pe_non) (pa_cons (pe_ix (ix_DNk (P := P) (w := w) rfl rfl) (pv 1) (pe_non) (fun _ _ => rfl)) pa_nil))) pa_nil)) (pe_lstN (pa_nil))))
      (pss_one (ps_ret (pe_op op_catN (pv 5) (pe_lc (own := [("low", 3)]) (g := gName 3) (by rfl) sc__pairs_by_low.nd (pi_list (pv 4)) (blkOk_by (N := ["stretches", "tops", "stretch", "low", "lows", "pairs"]) (sc := defScope s__pairs_by_low) (own := [("low", 3)]) (by decide +kernel)) (fun _ _ _ _ _ => pg_name (i := 3) sc__pairs_by_low.nd rfl (Or.inl rfl)) (fun _ _ _ _ _ => pts_nil) (fun _ _ _ _ _ => pe_tupN (pa_cons (pv 3) (pa_cons (pe_ix (ix_DNk (P := P) (w := w) rfl rfl) (pv 1) (pv 3) (fun _ _ => rfl)) pa_nil)))))))))), ?_⟩
  obtain ⟨L, rfl, xs, ps, hL, hp, ho, hlen, k⟩ := h
  simp only [spGh, exists_and_left, rMax2, tYes, calmS, tDNew, rInDN, rIxDN, rSetDN, tPop, rTupN, rMax, rMin, rSum, rAny, rSorted, rRepN, tSl, tPart, tNoPart, rSlLN, rSlG, rCatG, rOwnB, LamX.tLam3b, rListT, rRepr, tXf, tMtS, cx_K, Value.ref.injEq, HO.xd.injEq, lk0, tSeq, tPar3, tPar, tCons, tNil, tVar, tC, tAsg, gName, gCons, gNil, gTupN, gSub, tOp, rI, rI0, rU, tTest, rNe, rEq, rIxTN, rIxLN, rLenL, rLenT, rIntI, rIntB, rAbs, rSetLN, tTruL, tRaiseX, rIsTy, rIsOw, ixN0, ixN1, tRet, tIf, tIfS, tNext, tBreak, tCont, tDrop, tTupN, tLstN, tUn, tCB, tCall, tNot, tAnd, tOr, tB, tAndV, tOrV, tNotV, tChain, tApp, LamX.tLam, tRevLN, rCatN, rInTN, rInLN, flatV, inV, List.all_cons, List.all_nil, List.any_cons, List.any_nil, Bool.and_self, Bool.and_true, if_true, Bool.false_eq_true, if_false, tMt, tFldN, tSto, HO.ins.injEq, lkh, List.drop_zero, List.drop_succ_cons, List.drop_nil, rListS, wipe, L2.start, List.map_cons, List.map_nil, List.length_cons, List.length_nil, List.replicate, List.cons_append, List.nil_append, List.append_nil, Nat.reduceAdd, Nat.reduceSub, Nat.zero_add, List.replicate_succ, List.replicate_zero, List.getElem?_cons_zero, List.getElem?_cons_succ, List.set_cons_zero, List.set_cons_succ, Option.some.injEq, V.int.injEq, V.bl.injEq, V.ref.injEq, V.str.injEq, V.ty.injEq, List.cons.injEq, HO.tup.injEq, HO.lst.injEq, and_true, true_and, and_assoc, exists_eq_left, exists_eq_left', exists_and_left, exists_eq', atI0, atI1, atI2, atI3, Int.cast_ofNat_Int, Int.reduceToNat, scal_ii, scal_in, scal_ni, scal_nn, scal_bb, scal_ss, scal_sn, scal_ns, scal_bn, scal_nb, ite_iff, decide_eq_true_eq, decide_eq_false_iff_not, Bool.not_eq_true', Classical.not_not, ne_eq, not_false_eq_true, not_true_eq_false, forall_const, true_implies, false_implies, imp_self, sizeLine_eq, Nat.reduceLeDiff, reduceCtorEq, decide_true, decide_false]
  intro tp H1 n1 s1 h1
  refine st_forLG (a := L) (fun R r => ⟨_, rfl, r⟩) hL s1 (fun i σ' H' => ∃ ts ep x2 x3, σ' = [some (V.ref L), some (V.ref tp), x2, x3, none, none] ∧ Same H H' ∧ H' tp = some (DN P w tp (toV ts) ep) ∧ NdK ts ∧ (∀ q ∈ ts, okB q) ∧ (∀ j, has ts j = has (ps.take i) j) ∧ ts.length ≤ i)
    ⟨[], 0, none, none, rfl, s1, h1, by simp [NdK], by simp, fun j => rfl, Nat.le_refl _⟩ (fun i σ' H' h => by obtain ⟨_, _, _, _, _, h, _⟩ := h; exact h) ?_ ?_
  · rintro i x _ H2 hi ⟨ts, ep, x2, x3, rfl, s2, h2, nd, ots, hts, lts⟩
    obtain ⟨a, dx, q, rfl, hq, ha⟩ := hp.get hi
    have ha2 := s2 _ _ ha
    have hi2 := (List.getElem?_eq_some_iff.mp hq).1
    have hoq := ho q (List.mem_of_getElem? hq)
    have lt : (toV ts).length < sizeLine := by rw [sizeLine_eq]; simp [toV]; omega
    simp only [exists_and_left, ha2, lkLow, lkHigh, lkN_holds, lkN_turned, lkN_common, lkN_count, lkN_first, lkN_final, lkN_nth, lkN_below, lkN_moved, rMax2, tYes, calmS, tDNew, rInDN, rIxDN, rSetDN, tPop, rTupN, rMax, rMin, rSum, rAny, rSorted, rRepN, tSl, tPart, tNoPart, rSlLN, rSlG, rCatG, rOwnB, LamX.tLam3b, rListT, rRepr, tXf, tMtS, cx_K, Value.ref.injEq, HO.xd.injEq, lk0, tSeq, tPar3, tPar, tCons, tNil, tVar, tC, tAsg, gName, gCons, gNil, gTupN, gSub, tOp, rI, rI0, rU, tTest, rNe, rEq, rIxTN, rIxLN, rLenL, rLenT, rIntI, rIntB, rAbs, rSetLN, tTruL, tRaiseX, rIsTy, rIsOw, ixN0, ixN1, tRet, tIf, tIfS, tNext, tBreak, tCont, tDrop, tTupN, tLstN, tUn, tCB, tCall, tNot, tAnd, tOr, tB, tAndV, tOrV, tNotV, tChain, tApp, LamX.tLam, tRevLN, rCatN, rInTN, rInLN, flatV, inV, List.all_cons, List.all_nil, List.any_cons, List.any_nil, Bool.and_self, Bool.and_true, if_true, Bool.false_eq_true, if_false, tMt, tFldN, tSto, HO.ins.injEq, lkh, List.drop_zero, List.drop_succ_cons, List.drop_nil, rListS, wipe, L2.start, List.map_cons, List.map_nil, List.length_cons, List.length_nil, List.replicate, List.cons_append, List.nil_append, List.append_nil, Nat.reduceAdd, Nat.reduceSub, Nat.zero_add, List.replicate_succ, List.replicate_zero, List.getElem?_cons_zero, List.getElem?_cons_succ, List.set_cons_zero, List.set_cons_succ, Option.some.injEq, V.int.injEq, V.bl.injEq, V.ref.injEq, V.str.injEq, V.ty.injEq, List.cons.injEq, HO.tup.injEq, HO.lst.injEq, and_true, true_and, and_assoc, exists_eq_left, exists_eq_left', exists_and_left, exists_eq', atI0, atI1, atI2, atI3, Int.cast_ofNat_Int, Int.reduceToNat, scal_ii, scal_in, scal_ni, scal_nn, scal_bb, scal_ss, scal_sn, scal_ns, scal_bn, scal_nb, ite_iff, decide_eq_true_eq, decide_eq_false_iff_not, Bool.not_eq_true', Classical.not_not, ne_eq, not_false_eq_true, not_true_eq_false, forall_const, true_implies, false_implies, imp_self, sizeLine_eq, Nat.reduceLeDiff, reduceCtorEq, decide_true, decide_false]
    have same3 : ∀ {H3 : Hp} {o : HO}, Put H2 H3 tp o → Same H H3 := fun p3 b o hb => by rw [p3.2 b (ne_of_none hb n1)]; exact s2 _ _ hb
    refine ⟨q.1, rfl, toV ts, ep, h2, fun e => ?_, fun e => ?_⟩
    · rw [valV_toV, Option.isSome_map] at e
      obtain ⟨h0, e0⟩ := Option.isSome_iff_exists.mp e
      refine ⟨q.1, rfl, toV ts, ep, h2, ov h0, by rw [valV_toV, e0]; rfl, h0, q.2, rfl, q.1, rfl, toV ts, ep, h2, lt, fun ep' H3 p3 => ?_⟩
      refine ⟨same3 p3, putO ts q.1 (ghigh h0 q.2), ep', by rw [← putK_toV]; exact p3.1, putO_nd nd, putO_ok ots (okB_ghigh (ots _ (keyO_mem e0))), fun j => ?_, by have := putO_len (ts := ts) (k := q.1) (v := ghigh h0 q.2); omega⟩
      rw [has_putO_some nd e0, hts, has_take hq]
    · rw [valV_toV, Option.isSome_map] at e
      have e0 : keyO ts q.1 = none := by cases z : keyO ts q.1 <;> simp_all
      refine ⟨q.1, rfl, toV ts, ep, h2, lt, fun ep' H3 p3 => ?_⟩
      refine ⟨same3 p3, putO ts q.1 q.2, ep', by rw [← putK_toV]; exact p3.1, putO_nd nd, putO_ok ots hoq, fun j => ?_, by have := putO_len (ts := ts) (k := q.1) (v := q.2); omega⟩
      rw [has_putO_none e0, hts, has_take hq]
  · rintro _ H2 ⟨ts, ep, x2, x3, rfl, s2, h2, nd, ots, hts, lts⟩
    rw [hp.length, List.take_length] at hts
    rw [hp.length] at lts
    simp only [exists_and_left, rMax2, tYes, calmS, tDNew, rInDN, rIxDN, rSetDN, tPop, rTupN, rMax, rMin, rSum, rAny, rSorted, rRepN, tSl, tPart, tNoPart, rSlLN, rSlG, rCatG, rOwnB, LamX.tLam3b, rListT, rRepr, tXf, tMtS, cx_K, Value.ref.injEq, HO.xd.injEq, lk0, tSeq, tPar3, tPar, tCons, tNil, tVar, tC, tAsg, gName, gCons, gNil, gTupN, gSub, tOp, rI, rI0, rU, tTest, rNe, rEq, rIxTN, rIxLN, rLenL, rLenT, rIntI, rIntB, rAbs, rSetLN, tTruL, tRaiseX, rIsTy, rIsOw, ixN0, ixN1, tRet, tIf, tIfS, tNext, tBreak, tCont, tDrop, tTupN, tLstN, tUn, tCB, tCall, tNot, tAnd, tOr, tB, tAndV, tOrV, tNotV, tChain, tApp, LamX.tLam, tRevLN, rCatN, rInTN, rInLN, flatV, inV, List.all_cons, List.all_nil, List.any_cons, List.any_nil, Bool.and_self, Bool.and_true, if_true, Bool.false_eq_true, if_false, tMt, tFldN, tSto, HO.ins.injEq, lkh, List.drop_zero, List.drop_succ_cons, List.drop_nil, rListS, wipe, L2.start, List.map_cons, List.map_nil, List.length_cons, List.length_nil, List.replicate, List.cons_append, List.nil_append, List.append_nil, Nat.reduceAdd, Nat.reduceSub, Nat.zero_add, List.replicate_succ, List.replicate_zero, List.getElem?_cons_zero, List.getElem?_cons_succ, List.set_cons_zero, List.set_cons_succ, Option.some.injEq, V.int.injEq, V.bl.injEq, V.ref.injEq, V.str.injEq, V.ty.injEq, List.cons.injEq, HO.tup.injEq, HO.lst.injEq, and_true, true_and, and_assoc, exists_eq_left, exists_eq_left', exists_and_left, exists_eq', atI0, atI1, atI2, atI3, Int.cast_ofNat_Int, Int.reduceToNat, scal_ii, scal_in, scal_ni, scal_nn, scal_bb, scal_ss, scal_sn, scal_ns, scal_bn, scal_nb, ite_iff, decide_eq_true_eq, decide_eq_false_iff_not, Bool.not_eq_true', Classical.not_not, ne_eq, not_false_eq_true, not_true_eq_false, forall_const, true_implies, false_implies, imp_self, sizeLine_eq, Nat.reduceLeDiff, reduceCtorEq, decide_true, decide_false]
    refine st_lcDN (fun R r => ⟨_, rfl, r⟩) h2 (by rw [sizeLine_eq]; simp [toV]; omega) Option.isSome (fun o => .int (o.getD 0)) (fun x H' A B hx s hA hB => ?_) (fun D H3 nD s3 h3 => ?_)
    · cases x <;> simp only [exists_and_left, ov, rMax2, tYes, calmS, tDNew, rInDN, rIxDN, rSetDN, tPop, rTupN, rMax, rMin, rSum, rAny, rSorted, rRepN, tSl, tPart, tNoPart, rSlLN, rSlG, rCatG, rOwnB, LamX.tLam3b, rListT, rRepr, tXf, tMtS, cx_K, Value.ref.injEq, HO.xd.injEq, lk0, tSeq, tPar3, tPar, tCons, tNil, tVar, tC, tAsg, gName, gCons, gNil, gTupN, gSub, tOp, rI, rI0, rU, tTest, rNe, rEq, rIxTN, rIxLN, rLenL, rLenT, rIntI, rIntB, rAbs, rSetLN, tTruL, tRaiseX, rIsTy, rIsOw, ixN0, ixN1, tRet, tIf, tIfS, tNext, tBreak, tCont, tDrop, tTupN, tLstN, tUn, tCB, tCall, tNot, tAnd, tOr, tB, tAndV, tOrV, tNotV, tChain, tApp, LamX.tLam, tRevLN, rCatN, rInTN, rInLN, flatV, inV, List.all_cons, List.all_nil, List.any_cons, List.any_nil, Bool.and_self, Bool.and_true, if_true, Bool.false_eq_true, if_false, tMt, tFldN, tSto, HO.ins.injEq, lkh, List.drop_zero, List.drop_succ_cons, List.drop_nil, rListS, wipe, L2.start, List.map_cons, List.map_nil, List.length_cons, List.length_nil, List.replicate, List.cons_append, List.nil_append, List.append_nil, Nat.reduceAdd, Nat.reduceSub, Nat.zero_add, List.replicate_succ, List.replicate_zero, List.getElem?_cons_zero, List.getElem?_cons_succ, List.set_cons_zero, List.set_cons_succ, Option.some.injEq, V.int.injEq, V.bl.injEq, V.ref.injEq, V.str.injEq, V.ty.injEq, List.cons.injEq, HO.tup.injEq, HO.lst.injEq, and_true, true_and, and_assoc, exists_eq_left, exists_eq_left', exists_and_left, exists_eq', atI0, atI1, atI2, atI3, Int.cast_ofNat_Int, Int.reduceToNat, scal_ii, scal_in, scal_ni, scal_nn, scal_bb, scal_ss, scal_sn, scal_ns, scal_bn, scal_nb, ite_iff, decide_eq_true_eq, decide_eq_false_iff_not, Bool.not_eq_true', Classical.not_not, ne_eq, not_false_eq_true, not_true_eq_false, forall_const, true_implies, false_implies, imp_self, sizeLine_eq, Nat.reduceLeDiff, reduceCtorEq, decide_true, decide_false]
      · exact hA rfl H' (fun _ _ h => h)
      · exact hB rfl H' (fun _ _ h => h)
    · rw [lows_map] at h3
      refine ⟨D, lowsO ts, rfl, SqL.of h3, fun ys S hy hs nS => ?_⟩
      have s4 : Same H (upd H3 S (.lst (ys.map V.int))) := (s2.trans s3).trans (Same.upd nS)
      have hS : (upd H3 S (.lst (ys.map V.int))) S = some (.lst (ys.map V.int)) := upd_same
      have ht : (upd H3 S (.lst (ys.map V.int))) tp = some (DN P w tp (toV ts) ep) := Same.upd nS _ _ (s3 _ _ h2)
      generalize upd H3 S (.lst (ys.map V.int)) = H4 at s4 hS ht ⊢
      have ly : ys.length ≤ 1000 := by
        have := hy.length_eq
        have h9 : (lowsO ts).length ≤ ts.length := List.length_filterMap_le _ _
        omega
      have tail : ∀ (l : Addr) (H5 : Hp) (zs : List V) (hd : List PP), Same H4 H5 → H5 l = some (.lst zs) → PAll H5 zs hd → hd = (if (keyO ts none).isSome = true then [(none, valO ts none)] else []) →
          tLc (iList K (tVar 4)) (gName 3) tYes (tTupN (tCons (tVar 3) (tCons (tOp (rIxDN P w) (tVar 1) (tVar 3)) tNil))) [3] [some (V.ref L), some (V.ref tp), x2, x3, some (V.ref S), some (V.ref l)] H5 fun y H2 =>
            ∃ l', V.ref l = V.ref l' ∧ ∃ x, y = V.ref x ∧ ∃ x_8, H2 l' = some (HO.lst x_8) ∧ ∃ x_9, H2 x = some (HO.lst x_9) ∧ x_8.length + x_9.length ≤ 16777216 ∧ News H2 (HO.lst (x_8 ++ x_9)) Q := by
        intro l H5 zs hd s5 hl hz ehd
        refine st_lcL (fun R r => ⟨_, rfl, r⟩) (s5 _ _ hS) (fun D i H' => H5 D = none ∧ Same H5 H' ∧ PairsAt H' D ((ys.take i).map fun l => (some l, valO ts (some l)))) (fun D H6 n6 s6 h6 => ⟨n6, s6, [], h6, .nil⟩) (fun D i H' q => q.2.1 _ _ (s5 _ _ hS)) ?_ ?_
        · rintro D i x H6 hi ⟨n6, s6, p6⟩
          rw [List.getElem?_map] at hi
          obtain ⟨y, hyi, rfl⟩ := Option.map_eq_some_iff.mp hi
          have hym : y ∈ lowsO ts := hy.mem_iff.mp (List.mem_of_getElem? hyi)
          obtain ⟨h0, hm⟩ := mem_lowsO.mp hym
          have e0 : valV (toV ts) (some y) = some (ov (valO ts (some y))) := by rw [valV_toV]; unfold valO; rw [mem_keyO nd hm]; rfl
          have hi2 := (List.getElem?_eq_some_iff.mp hyi).1
          simp only [exists_and_left, rMax2, tYes, calmS, tDNew, rInDN, rIxDN, rSetDN, tPop, rTupN, rMax, rMin, rSum, rAny, rSorted, rRepN, tSl, tPart, tNoPart, rSlLN, rSlG, rCatG, rOwnB, LamX.tLam3b, rListT, rRepr, tXf, tMtS, cx_K, Value.ref.injEq, HO.xd.injEq, lk0, tSeq, tPar3, tPar, tCons, tNil, tVar, tC, tAsg, gName, gCons, gNil, gTupN, gSub, tOp, rI, rI0, rU, tTest, rNe, rEq, rIxTN, rIxLN, rLenL, rLenT, rIntI, rIntB, rAbs, rSetLN, tTruL, tRaiseX, rIsTy, rIsOw, ixN0, ixN1, tRet, tIf, tIfS, tNext, tBreak, tCont, tDrop, tTupN, tLstN, tUn, tCB, tCall, tNot, tAnd, tOr, tB, tAndV, tOrV, tNotV, tChain, tApp, LamX.tLam, tRevLN, rCatN, rInTN, rInLN, flatV, inV, List.all_cons, List.all_nil, List.any_cons, List.any_nil, Bool.and_self, Bool.and_true, if_true, Bool.false_eq_true, if_false, tMt, tFldN, tSto, HO.ins.injEq, lkh, List.drop_zero, List.drop_succ_cons, List.drop_nil, rListS, wipe, L2.start, List.map_cons, List.map_nil, List.length_cons, List.length_nil, List.replicate, List.cons_append, List.nil_append, List.append_nil, Nat.reduceAdd, Nat.reduceSub, Nat.zero_add, List.replicate_succ, List.replicate_zero, List.getElem?_cons_zero, List.getElem?_cons_succ, List.set_cons_zero, List.set_cons_succ, Option.some.injEq, V.int.injEq, V.bl.injEq, V.ref.injEq, V.str.injEq, V.ty.injEq, List.cons.injEq, HO.tup.injEq, HO.lst.injEq, and_true, true_and, and_assoc, exists_eq_left, exists_eq_left', exists_and_left, exists_eq', atI0, atI1, atI2, atI3, Int.cast_ofNat_Int, Int.reduceToNat, scal_ii, scal_in, scal_ni, scal_nn, scal_bb, scal_ss, scal_sn, scal_ns, scal_bn, scal_nb, ite_iff, decide_eq_true_eq, decide_eq_false_iff_not, Bool.not_eq_true', Classical.not_not, ne_eq, not_false_eq_true, not_true_eq_false, forall_const, true_implies, false_implies, imp_self, sizeLine_eq, Nat.reduceLeDiff, reduceCtorEq, decide_true, decide_false]
          refine ⟨some y, rfl, toV ts, ep, s6 _ _ (s5 _ _ ht), ov (valO ts (some y)), e0, ?_⟩
          intro t7 H7 n7 s7 h7
          obtain ⟨acc, a1, a2, a3⟩ := PairsAt.push (q := (some y, valO ts (some y))) (p6.mono s7) h7 (by simp; omega)
          refine ⟨acc, a1, by rw [sizeLine_eq] at a2; exact a2, n6, fun b o hb => by rw [upd_ne (ne_of_none hb n6)]; exact s7 _ _ (s6 _ _ hb), ?_⟩
          rw [List.take_succ, hyi]
          simpa using a3
        · rintro D H6 ⟨n6, s6, p6⟩
          rw [List.length_map, List.take_length] at p6
          obtain ⟨ws, hw, pw⟩ := p6
          have hz6 := hz.mono s6
          refine ⟨l, rfl, D, rfl, zs, s6 _ _ hl, ws, hw, ?_, fun r H7 n7 s7 h7 => ?_⟩
          · have := hz.length; have := pw.length; simp at this
            have : hd.length ≤ 1 := by rw [ehd]; split <;> simp
            omega
          · refine k r H7 (ascO ts ys) (none_of ((s4.trans s5).trans s6) n7) (((s4.trans s5).trans s6).trans s7) ⟨_, h7, ?_⟩ (ascO_asc nd hy hs) (fun q hq => ots q ((mem_ascO nd hy).mp hq)) (fun j => by rw [has_ascO nd hy, hts]) ?_
            · unfold ascO; rw [← ehd]; exact (hz6.app pw).mono s7
            · have := ascO_len hy; omega
      refine ⟨none, rfl, toV ts, ep, ht, fun e => ?_, fun e => ?_⟩
      · rw [valV_toV, Option.isSome_map] at e
        obtain ⟨h0, e0⟩ := Option.isSome_iff_exists.mp e
        refine ⟨none, rfl, toV ts, ep, ht, ov h0, by rw [valV_toV, e0]; rfl, fun t H5 n5 s5 h5 l H6 n6 s6 h6 => ?_⟩
        exact tail l H6 _ [(none, h0)] (s5.trans s6) h6 (.cons (s6 _ _ h5) .nil) (by rw [if_pos e]; simp [valO, e0])
      · rw [valV_toV, Option.isSome_map] at e
        refine fun l H5 n5 s5 h5 => tail l H5 _ [] s5 h5 .nil (by rw [if_neg e])
theorem okB_O {q : PP} (h : okB q) : okO q.1 q.2 := by obtain ⟨a, b⟩ := q; cases a <;> cases b <;> simp_all [okB, okO]
def spTold (K : PySem.W.Frag) : Sp := fun vs H Q _ => ∃ L, vs = [.ref L] ∧ ∃ xs ps, LG K H L xs ∧ SAll K H xs ps ∧ (∀ q ∈ ps, okB q) ∧ ps.length ≤ 1000 ∧
  ∀ r zs rs H', Same H H' → H' r = some (.tup zs) → SAll K H' zs rs → Norm rs → (∀ i, has rs i = has ps i) → rs.length ≤ ps.length → Q (.ref r) H'
theorem o__told_row (T : Txt K mg) : OkF P w K mg base CX0 5 "_told_row" ["stretches"] (spTold K) := by
  have o__pairs_by_low := o__pairs_by_low (P := P) (w := w) (base := base) T
  have o__greater_high := o__greater_high (P := P) (w := w) (base := base) T
  have o_Stretch := o_Stretch (P := P) (w := w) (base := base) T
  obtain ⟨f, fd, g, F⟩ := T.d__told_row
  refine ⟨f, fd, g, F.kp, F.binds (fun _ _ _ _ _ _ us hl => match us, hl with | [_], _ => rfl), F.ok sc__told_row (fun vs H Q E h => ?_) (fun cdv A outer s H vs Q E hr h => ?_)⟩
  · first | (obtain ⟨_, rfl, _⟩ := h; rfl) | (obtain ⟨_, _, rfl, _⟩ := h; rfl) | (obtain ⟨_, _, _, rfl, _⟩ := h; rfl) | (obtain ⟨_, _, _, _, rfl, _⟩ := h; rfl) | (obtain ⟨_, _, _, _, _, rfl, _⟩ := h; rfl) | (obtain ⟨_, _, _, _, _, _, rfl, _⟩ := h; rfl) | (obtain ⟨_, _, _, _, _, _, _, rfl, _⟩ := h; rfl)
  have hu64 := hr.units
  refine ⟨_, pss_cons (ps_set (i := 1) sc__told_row.nd rfl (Or.inl rfl) (pe_lstN (pa_nil)))
      (pss_cons (ps_for PassesOwn.never rfl (pi_list (pcl o__pairs_by_low (hr.mono (by decide)) pass0 (pa_cons (pv 0) pa_nil))) (pg_tupN (n := 2) (by rfl) (pgs_cons (pg_name (i := 2) sc__told_row.nd rfl (Or.inl rfl)) (pgs_cons (pg_name (i := 3) sc__told_row.nd rfl (Or.inl rfl)) pgs_nil))) (pss_one (ps_if (PW.pt (pw_and (pt_truL (pv 1)) (pw_and1 (PW.pt (pw_or (pt_cmpR op_isN (pe_ix ix_tupN (pe_ix ix_listN (pv 1) (pe_un un_neg (pe_int)) (fun _ _ => rfl)) (pe_int) (fun _ _ => rfl)) (pe_non) (nomark _)) (pw_or1 (pt_cmpR op_le (pv 2) (pe_ix ix_tupN (pe_ix ix_listN (pv 1) (pe_un un_neg (pe_int)) (fun _ _ => rfl)) (pe_int) (fun _ _ => rfl)) (nomark _)))))))) (pss_cons (ps_asg (pe_popN (pv 1)) (pg_tupN (n := 2) (by rfl) (pgs_cons (pg_name (i := 4) sc__told_row.nd rfl (Or.inl rfl)) (pgs_cons (pg_name (i := 5) sc__told_row.nd rfl (Or.inl rfl)) pgs_nil))))
      (pss_one (ps_expr (pe_appN (pv 1) (pa_cons (pe_tupN (pa_cons (pv 4) (pa_cons (pcl o__greater_high (hr.mono (by decide)) pass0 (pa_cons (pv 5) (pa_cons (pv 3) pa_nil))) pa_nil))) pa_nil))))) (pss_one (ps_expr (pe_appN (pv 1) (pa_cons (pe_tupN (pa_cons (pv 2) (pa_cons (pv 3) pa_nil))) pa_nil)))))))
      (pss_one (ps_ret (pe_callTy call_tupN (by rfl) T.m_tuple (by decide +kernel) (pa_cons (pe_lc (own := [("low", 2), ("high", 3)]) (by rfl) sc__told_row.nd (pi_list (pv 1)) (blkOk_by (N := ["stretches", "row", "low", "high", "begun", "end"]) (sc := defScope s__told_row) (own := [("low", 2), ("high", 3)]) (by decide +kernel)) (fun _ _ _ _ _ => pg_tupN (n := 2) (by rfl) (pgs_cons (pg_name (i := 2) sc__told_row.nd rfl (Or.inl rfl)) (pgs_cons (pg_name (i := 3) sc__told_row.nd rfl (Or.inl rfl)) pgs_nil))) (fun _ _ _ _ _ => pts_nil) (fun _ _ _ _ _ => pmk (j := 2) o_Stretch.calm (by decide) (hr.mono (by decide)) pass0 (pa_cons (pv 2) (pa_cons (pv 3) pa_nil)))) pa_nil))))), ?_⟩
  obtain ⟨L, rfl, xs, ps, hL, hp, ho, hlen, k⟩ := h
  simp only [exists_and_left, rMax2, tYes, calmS, tDNew, rInDN, rIxDN, rSetDN, tPop, rTupN, rMax, rMin, rSum, rAny, rSorted, rRepN, tSl, tPart, tNoPart, rSlLN, rSlG, rCatG, rOwnB, LamX.tLam3b, rListT, rRepr, tXf, tMtS, cx_K, Value.ref.injEq, HO.xd.injEq, lk0, tSeq, tPar3, tPar, tCons, tNil, tVar, tC, tAsg, gName, gCons, gNil, gTupN, gSub, tOp, rI, rI0, rU, tTest, rNe, rEq, rIxTN, rIxLN, rLenL, rLenT, rIntI, rIntB, rAbs, rSetLN, tTruL, tRaiseX, rIsTy, rIsOw, ixN0, ixN1, tRet, tIf, tIfS, tNext, tBreak, tCont, tDrop, tTupN, tLstN, tUn, tCB, tCall, tNot, tAnd, tOr, tB, tAndV, tOrV, tNotV, tChain, tApp, LamX.tLam, tRevLN, rCatN, rInTN, rInLN, flatV, inV, List.all_cons, List.all_nil, List.any_cons, List.any_nil, Bool.and_self, Bool.and_true, if_true, Bool.false_eq_true, if_false, tMt, tFldN, tSto, HO.ins.injEq, lkh, List.drop_zero, List.drop_succ_cons, List.drop_nil, rListS, wipe, L2.start, List.map_cons, List.map_nil, List.length_cons, List.length_nil, List.replicate, List.cons_append, List.nil_append, List.append_nil, Nat.reduceAdd, Nat.reduceSub, Nat.zero_add, List.replicate_succ, List.replicate_zero, List.getElem?_cons_zero, List.getElem?_cons_succ, List.set_cons_zero, List.set_cons_succ, Option.some.injEq, V.int.injEq, V.bl.injEq, V.ref.injEq, V.str.injEq, V.ty.injEq, List.cons.injEq, HO.tup.injEq, HO.lst.injEq, and_true, true_and, and_assoc, exists_eq_left, exists_eq_left', exists_and_left, exists_eq', atI0, atI1, atI2, atI3, Int.cast_ofNat_Int, Int.reduceToNat, scal_ii, scal_in, scal_ni, scal_nn, scal_bb, scal_ss, scal_sn, scal_ns, scal_bn, scal_nb, ite_iff, decide_eq_true_eq, decide_eq_false_iff_not, Bool.not_eq_true', Classical.not_not, ne_eq, not_false_eq_true, not_true_eq_false, forall_const, true_implies, false_implies, imp_self, sizeLine_eq, Nat.reduceLeDiff, reduceCtorEq, decide_true, decide_false]
  intro R H1 n1 s1 h1
  refine for_inL ?_
  simp only [spPairs, exists_and_left, rMax2, tYes, calmS, tDNew, rInDN, rIxDN, rSetDN, tPop, rTupN, rMax, rMin, rSum, rAny, rSorted, rRepN, tSl, tPart, tNoPart, rSlLN, rSlG, rCatG, rOwnB, LamX.tLam3b, rListT, rRepr, tXf, tMtS, cx_K, Value.ref.injEq, HO.xd.injEq, lk0, tSeq, tPar3, tPar, tCons, tNil, tVar, tC, tAsg, gName, gCons, gNil, gTupN, gSub, tOp, rI, rI0, rU, tTest, rNe, rEq, rIxTN, rIxLN, rLenL, rLenT, rIntI, rIntB, rAbs, rSetLN, tTruL, tRaiseX, rIsTy, rIsOw, ixN0, ixN1, tRet, tIf, tIfS, tNext, tBreak, tCont, tDrop, tTupN, tLstN, tUn, tCB, tCall, tNot, tAnd, tOr, tB, tAndV, tOrV, tNotV, tChain, tApp, LamX.tLam, tRevLN, rCatN, rInTN, rInLN, flatV, inV, List.all_cons, List.all_nil, List.any_cons, List.any_nil, Bool.and_self, Bool.and_true, if_true, Bool.false_eq_true, if_false, tMt, tFldN, tSto, HO.ins.injEq, lkh, List.drop_zero, List.drop_succ_cons, List.drop_nil, rListS, wipe, L2.start, List.map_cons, List.map_nil, List.length_cons, List.length_nil, List.replicate, List.cons_append, List.nil_append, List.append_nil, Nat.reduceAdd, Nat.reduceSub, Nat.zero_add, List.replicate_succ, List.replicate_zero, List.getElem?_cons_zero, List.getElem?_cons_succ, List.set_cons_zero, List.set_cons_succ, Option.some.injEq, V.int.injEq, V.bl.injEq, V.ref.injEq, V.str.injEq, V.ty.injEq, List.cons.injEq, HO.tup.injEq, HO.lst.injEq, and_true, true_and, and_assoc, exists_eq_left, exists_eq_left', exists_and_left, exists_eq', atI0, atI1, atI2, atI3, Int.cast_ofNat_Int, Int.reduceToNat, scal_ii, scal_in, scal_ni, scal_nn, scal_bb, scal_ss, scal_sn, scal_ns, scal_bn, scal_nb, ite_iff, decide_eq_true_eq, decide_eq_false_iff_not, Bool.not_eq_true', Classical.not_not, ne_eq, not_false_eq_true, not_true_eq_false, forall_const, true_implies, false_implies, imp_self, sizeLine_eq, Nat.reduceLeDiff, reduceCtorEq, decide_true, decide_false]
  refine ⟨xs, hL.same s1, ps, hp.mono s1, ho, hlen, fun r H2 qs nr s2 hqs asc oqs hqq lqs => ?_⟩
  have hR2 := s2 _ _ h1
  obtain ⟨us, hr, hus⟩ := hqs
  have ne : r ≠ R := fun z => by subst z; rw [h1] at nr; cases nr
  refine st_forL (fun R r => r) hr (fun i σ' H' => ∃ zs rs x2 x3 x4 x5, σ' = [some (V.ref L), some (V.ref R), x2, x3, x4, x5] ∧ (∀ b o, H2 b = some o → b ≠ R → H' b = some o) ∧ H' R = some (.lst zs) ∧ PAll H' zs rs ∧ Norm rs ∧ (∀ j, has rs j = has (qs.take i) j) ∧ rs.length ≤ i ∧ ∀ p ∈ rs, ∀ q ∈ qs.drop i, ltL p.1 q.1)
    ⟨[], [], none, none, none, none, rfl, fun _ _ h _ => h, hR2, .nil, Norm.nil, fun j => rfl, Nat.le_refl _, by simp⟩ (fun i σ' H' h => by obtain ⟨_, _, _, _, _, _, _, h, _⟩ := h; exact h _ _ hr ne) ?_ ?_
  · rintro i x _ H3 hi ⟨zs, rs, x2, x3, x4, x5, rfl, s3, hR, hz, N, hh, hl, hle⟩
    obtain ⟨b, q, rfl, hq, hb⟩ := hus.get hi
    have neb : b ≠ R := ne_of hb hR2 (by intro z; cases z)
    have hb3 := s3 _ _ hb neb
    simp only [exists_and_left, hb3, hR, rMax2, tYes, calmS, tDNew, rInDN, rIxDN, rSetDN, tPop, rTupN, rMax, rMin, rSum, rAny, rSorted, rRepN, tSl, tPart, tNoPart, rSlLN, rSlG, rCatG, rOwnB, LamX.tLam3b, rListT, rRepr, tXf, tMtS, cx_K, Value.ref.injEq, HO.xd.injEq, lk0, tSeq, tPar3, tPar, tCons, tNil, tVar, tC, tAsg, gName, gCons, gNil, gTupN, gSub, tOp, rI, rI0, rU, tTest, rNe, rEq, rIxTN, rIxLN, rLenL, rLenT, rIntI, rIntB, rAbs, rSetLN, tTruL, tRaiseX, rIsTy, rIsOw, ixN0, ixN1, tRet, tIf, tIfS, tNext, tBreak, tCont, tDrop, tTupN, tLstN, tUn, tCB, tCall, tNot, tAnd, tOr, tB, tAndV, tOrV, tNotV, tChain, tApp, LamX.tLam, tRevLN, rCatN, rInTN, rInLN, flatV, inV, List.all_cons, List.all_nil, List.any_cons, List.any_nil, Bool.and_self, Bool.and_true, if_true, Bool.false_eq_true, if_false, tMt, tFldN, tSto, HO.ins.injEq, lkh, List.drop_zero, List.drop_succ_cons, List.drop_nil, rListS, wipe, L2.start, List.map_cons, List.map_nil, List.length_cons, List.length_nil, List.replicate, List.cons_append, List.nil_append, List.append_nil, Nat.reduceAdd, Nat.reduceSub, Nat.zero_add, List.replicate_succ, List.replicate_zero, List.getElem?_cons_zero, List.getElem?_cons_succ, List.set_cons_zero, List.set_cons_succ, Option.some.injEq, V.int.injEq, V.bl.injEq, V.ref.injEq, V.str.injEq, V.ty.injEq, List.cons.injEq, HO.tup.injEq, HO.lst.injEq, and_true, true_and, and_assoc, exists_eq_left, exists_eq_left', exists_and_left, exists_eq', atI0, atI1, atI2, atI3, Int.cast_ofNat_Int, Int.reduceToNat, scal_ii, scal_in, scal_ni, scal_nn, scal_bb, scal_ss, scal_sn, scal_ns, scal_bn, scal_nb, ite_iff, decide_eq_true_eq, decide_eq_false_iff_not, Bool.not_eq_true', Classical.not_not, ne_eq, not_false_eq_true, not_true_eq_false, forall_const, true_implies, false_implies, imp_self, sizeLine_eq, Nat.reduceLeDiff, reduceCtorEq, decide_true, decide_false]
    have oq := oqs q (List.mem_of_getElem? hq)
    have hi2 := (List.getElem?_eq_some_iff.mp hq).1
    have asq : ∀ q' ∈ qs.drop (i + 1), ltL q.1 q'.1 := by
      have h9 := asc.sublist (List.drop_sublist i qs)
      rw [drop_at hq] at h9
      exact (List.pairwise_cons.mp h9).1
    have fin : (∀ p, rs.getLast? = some p → gapP p q) → ∀ u H4 H5, Same H3 H4 → H4 u = some (.tup [ov q.1, ov q.2]) → Put H4 H5 R (.lst (zs ++ [.ref u])) →
        (∀ (b : Addr) (o : HO), H2 b = some o → ¬b = R → H5 b = some o) ∧ ∃ x, H5 R = some (HO.lst x) ∧ ∃ x_2, PAll H5 x x_2 ∧ Norm x_2 ∧ (∀ (j : Int), has x_2 j = has (List.take (i + 1) qs) j) ∧ x_2.length ≤ i + 1 ∧ ∀ (p : PP), p ∈ x_2 → ∀ (q : PP), q ∈ List.drop (i + 1) qs → ltL p.fst q.fst := by
      intro hg u H4 H5 s4 h4 p5
      have keep5 : ∀ {b : Addr} {us : List V}, H4 b = some (.tup us) → H5 b = some (.tup us) := fun {b us} hb => by rw [p5.2 b (ne_of hb (s4 _ _ hR) (by intro z; cases z))]; exact hb
      refine ⟨fun b o hb hn => by rw [p5.2 b hn]; exact s4 _ _ (s3 _ _ hb hn), _, p5.1, rs ++ [q], (hz.monoT fun b us hb => keep5 (s4 _ _ hb)).snoc (keep5 h4), N.app oq hg, fun j => by rw [has_app, has_one, hh, has_take hq], by simp; omega, fun p' hp' q' hq' => ?_⟩
      rcases List.mem_append.mp hp' with h | h
      · exact hle p' h q' (by rw [drop_at hq]; exact .tail _ hq')
      · rw [List.mem_singleton.mp h]; exact asq q' hq'
    have lz : zs.length < 16777216 := by have := hz.length; omega
    rcases List.eq_nil_or_concat zs with rfl | ⟨z0, y, rfl⟩
    · have er : rs = [] := by have := hz.length; cases rs with | nil => rfl | cons _ _ => simp at this
      subst er
      exact ⟨fun e => (by cases e), fun _ => fun u H4 n4 s4 h4 => ⟨[], s4 _ _ hR, by simp, fun H5 p5 => fin (by simp) u H4 H5 s4 h4 p5⟩⟩
    · rw [List.concat_eq_append] at hR hz lz fin ⊢
      obtain ⟨t, r0, p, rfl, rfl, hz0, ht⟩ := hz.last
      have hlt := hle p (by simp) q (by rw [drop_at hq]; exact .head _)
      obtain ⟨pl, ph⟩ := p
      refine ⟨fun _ => ⟨V.ref t, atI_end, t, rfl, _, ht, _, atI1, fun e => ?_, fun e => ?_⟩, fun e => by simp at e⟩
      · have hm : ph = none ∨ ∃ x y, q.1 = some x ∧ ph = some y ∧ x ≤ y := .inl (by cases ph; rfl; cases e)
        dsimp only at hlt
        · refine ⟨z0, _, rfl, fun H4 p4 => ?_⟩
          have keep4 : ∀ {b : Addr} {us : List V}, H3 b = some (.tup us) → H4 b = some (.tup us) := fun {b us} hb => by rw [p4.2 b (ne_of hb hR (by intro z; cases z))]; exact hb
          refine ⟨t, rfl, _, keep4 ht, rfl, _, _, rfl, _, _, rfl, rfl, ⟨_, p4.1⟩, ph, q.2, rfl, fun u H5 n5 s5 h5 => ?_⟩
          refine ⟨z0, s5 _ _ p4.1, by have := hz0.length; simp at hl; have := (List.getElem?_eq_some_iff.mp hq).1; omega, fun H6 p6 => ?_⟩
          have keep6 : ∀ {b : Addr} {us : List V}, H5 b = some (.tup us) → H6 b = some (.tup us) := fun {b us} hb => by rw [p6.2 b (ne_of hb (s5 _ _ p4.1) (by intro z; cases z))]; exact hb
          refine ⟨fun b o hb hn => by rw [p6.2 b hn]; exact s5 _ _ (by rw [p4.2 b hn]; exact s3 _ _ hb hn), _, p6.1, r0 ++ [(pl, ghigh ph q.2)], ((hz0.monoT fun b us hb => keep6 (s5 _ _ (keep4 hb))).snoc (keep6 h5)), N.merge, fun j => by rw [has_merge hlt.le hm, hh, has_take hq], by simp at hl ⊢; omega, fun p' hp' q' hq' => ?_⟩
          rcases List.mem_append.mp hp' with h | h
          · exact hle p' (List.mem_append.mpr (.inl h)) q' (by rw [drop_at hq]; exact .tail _ hq')
          · rw [List.mem_singleton.mp h]; exact hle (pl, ph) (by simp) q' (by rw [drop_at hq]; exact .tail _ hq')
      · obtain ⟨py, rfl⟩ : ∃ py, ph = some py := by cases ph; exact absurd rfl e; exact ⟨_, rfl⟩
        obtain ⟨l, hl1⟩ : ∃ l, q.1 = some l := by
          cases c : q.1 with
          | none => rw [c] at hlt; cases pl <;> exact hlt.elim
          | some l => exact ⟨l, rfl⟩
        refine ⟨V.ref t, atI_end, t, rfl, _, ht, _, atI1, l, by rw [hl1]; rfl, py, rfl, fun h => ?_, fun h => ?_⟩
        · have hm : some py = none ∨ ∃ x y, q.1 = some x ∧ some py = some y ∧ x ≤ y := .inr ⟨l, py, hl1, rfl, h⟩
          dsimp only at hlt
          · refine ⟨z0, _, rfl, fun H4 p4 => ?_⟩
            have keep4 : ∀ {b : Addr} {us : List V}, H3 b = some (.tup us) → H4 b = some (.tup us) := fun {b us} hb => by rw [p4.2 b (ne_of hb hR (by intro z; cases z))]; exact hb
            refine ⟨t, rfl, _, keep4 ht, rfl, _, _, rfl, _, _, rfl, rfl, ⟨_, p4.1⟩, some py, q.2, rfl, fun u H5 n5 s5 h5 => ?_⟩
            refine ⟨z0, s5 _ _ p4.1, by have := hz0.length; simp at hl; have := (List.getElem?_eq_some_iff.mp hq).1; omega, fun H6 p6 => ?_⟩
            have keep6 : ∀ {b : Addr} {us : List V}, H5 b = some (.tup us) → H6 b = some (.tup us) := fun {b us} hb => by rw [p6.2 b (ne_of hb (s5 _ _ p4.1) (by intro z; cases z))]; exact hb
            refine ⟨fun b o hb hn => by rw [p6.2 b hn]; exact s5 _ _ (by rw [p4.2 b hn]; exact s3 _ _ hb hn), _, p6.1, r0 ++ [(pl, ghigh (some py) q.2)], ((hz0.monoT fun b us hb => keep6 (s5 _ _ (keep4 hb))).snoc (keep6 h5)), N.merge, fun j => by rw [has_merge hlt.le hm, hh, has_take hq], by simp at hl ⊢; omega, fun p' hp' q' hq' => ?_⟩
            rcases List.mem_append.mp hp' with h | h
            · exact hle p' (List.mem_append.mpr (.inl h)) q' (by rw [drop_at hq]; exact .tail _ hq')
            · rw [List.mem_singleton.mp h]; exact hle (pl, some py) (by simp) q' (by rw [drop_at hq]; exact .tail _ hq')
        · refine fun u H4 n4 s4 h4 => ⟨_, s4 _ _ hR, lz, fun H5 p5 => fin (fun p' hp' => ?_) u H4 H5 s4 h4 p5⟩
          simp at hp'
          subst hp'
          exact ⟨py, l, rfl, hl1, by omega⟩
  · rintro _ H3 ⟨zs, rs, x2, x3, x4, x5, rfl, s3, hR, hz, N, hh, hl, hle⟩
    simp only [exists_and_left, rMax2, tYes, calmS, tDNew, rInDN, rIxDN, rSetDN, tPop, rTupN, rMax, rMin, rSum, rAny, rSorted, rRepN, tSl, tPart, tNoPart, rSlLN, rSlG, rCatG, rOwnB, LamX.tLam3b, rListT, rRepr, tXf, tMtS, cx_K, Value.ref.injEq, HO.xd.injEq, lk0, tSeq, tPar3, tPar, tCons, tNil, tVar, tC, tAsg, gName, gCons, gNil, gTupN, gSub, tOp, rI, rI0, rU, tTest, rNe, rEq, rIxTN, rIxLN, rLenL, rLenT, rIntI, rIntB, rAbs, rSetLN, tTruL, tRaiseX, rIsTy, rIsOw, ixN0, ixN1, tRet, tIf, tIfS, tNext, tBreak, tCont, tDrop, tTupN, tLstN, tUn, tCB, tCall, tNot, tAnd, tOr, tB, tAndV, tOrV, tNotV, tChain, tApp, LamX.tLam, tRevLN, rCatN, rInTN, rInLN, flatV, inV, List.all_cons, List.all_nil, List.any_cons, List.any_nil, Bool.and_self, Bool.and_true, if_true, Bool.false_eq_true, if_false, tMt, tFldN, tSto, HO.ins.injEq, lkh, List.drop_zero, List.drop_succ_cons, List.drop_nil, rListS, wipe, L2.start, List.map_cons, List.map_nil, List.length_cons, List.length_nil, List.replicate, List.cons_append, List.nil_append, List.append_nil, Nat.reduceAdd, Nat.reduceSub, Nat.zero_add, List.replicate_succ, List.replicate_zero, List.getElem?_cons_zero, List.getElem?_cons_succ, List.set_cons_zero, List.set_cons_succ, Option.some.injEq, V.int.injEq, V.bl.injEq, V.ref.injEq, V.str.injEq, V.ty.injEq, List.cons.injEq, HO.tup.injEq, HO.lst.injEq, and_true, true_and, and_assoc, exists_eq_left, exists_eq_left', exists_and_left, exists_eq', atI0, atI1, atI2, atI3, Int.cast_ofNat_Int, Int.reduceToNat, scal_ii, scal_in, scal_ni, scal_nn, scal_bb, scal_ss, scal_sn, scal_ns, scal_bn, scal_nb, ite_iff, decide_eq_true_eq, decide_eq_false_iff_not, Bool.not_eq_true', Classical.not_not, ne_eq, not_false_eq_true, not_true_eq_false, forall_const, true_implies, false_implies, imp_self, sizeLine_eq, Nat.reduceLeDiff, reduceCtorEq, decide_true, decide_false]
    rw [hus.length, List.take_length] at hh
    rw [hus.length] at hl
    have s03 : Same H H3 := fun b o hb => s3 _ _ (s2 _ _ (s1 _ _ hb)) (ne_of_none hb n1)
    refine st_lcL (fun R r => ⟨_, rfl, r⟩) hR (fun D i H' => H3 D = none ∧ Same H3 H' ∧ ∃ ws, H' D = some (.lst ws) ∧ SAll K H' ws (rs.take i)) (fun D H6 n6 s6 h6 => ⟨n6, s6, [], h6, .nil⟩) (fun D i H' q => q.2.1 _ _ hR) ?_ ?_
    · rintro D i x H6 hi ⟨n6, s6, ws, hw, pw⟩
      obtain ⟨b, q, rfl, hq, hb⟩ := hz.get hi
      have hb6 := s6 _ _ hb
      have oq := N.ok q (List.mem_of_getElem? hq)
      simp only [exists_and_left, hb6, spSt, rMax2, tYes, calmS, tDNew, rInDN, rIxDN, rSetDN, tPop, rTupN, rMax, rMin, rSum, rAny, rSorted, rRepN, tSl, tPart, tNoPart, rSlLN, rSlG, rCatG, rOwnB, LamX.tLam3b, rListT, rRepr, tXf, tMtS, cx_K, Value.ref.injEq, HO.xd.injEq, lk0, tSeq, tPar3, tPar, tCons, tNil, tVar, tC, tAsg, gName, gCons, gNil, gTupN, gSub, tOp, rI, rI0, rU, tTest, rNe, rEq, rIxTN, rIxLN, rLenL, rLenT, rIntI, rIntB, rAbs, rSetLN, tTruL, tRaiseX, rIsTy, rIsOw, ixN0, ixN1, tRet, tIf, tIfS, tNext, tBreak, tCont, tDrop, tTupN, tLstN, tUn, tCB, tCall, tNot, tAnd, tOr, tB, tAndV, tOrV, tNotV, tChain, tApp, LamX.tLam, tRevLN, rCatN, rInTN, rInLN, flatV, inV, List.all_cons, List.all_nil, List.any_cons, List.any_nil, Bool.and_self, Bool.and_true, if_true, Bool.false_eq_true, if_false, tMt, tFldN, tSto, HO.ins.injEq, lkh, List.drop_zero, List.drop_succ_cons, List.drop_nil, rListS, wipe, L2.start, List.map_cons, List.map_nil, List.length_cons, List.length_nil, List.replicate, List.cons_append, List.nil_append, List.append_nil, Nat.reduceAdd, Nat.reduceSub, Nat.zero_add, List.replicate_succ, List.replicate_zero, List.getElem?_cons_zero, List.getElem?_cons_succ, List.set_cons_zero, List.set_cons_succ, Option.some.injEq, V.int.injEq, V.bl.injEq, V.ref.injEq, V.str.injEq, V.ty.injEq, List.cons.injEq, HO.tup.injEq, HO.lst.injEq, and_true, true_and, and_assoc, exists_eq_left, exists_eq_left', exists_and_left, exists_eq', atI0, atI1, atI2, atI3, Int.cast_ofNat_Int, Int.reduceToNat, scal_ii, scal_in, scal_ni, scal_nn, scal_bb, scal_ss, scal_sn, scal_ns, scal_bn, scal_nb, ite_iff, decide_eq_true_eq, decide_eq_false_iff_not, Bool.not_eq_true', Classical.not_not, ne_eq, not_false_eq_true, not_true_eq_false, forall_const, true_implies, false_implies, imp_self, sizeLine_eq, Nat.reduceLeDiff, reduceCtorEq, decide_true, decide_false]
      have hi2 := (List.getElem?_eq_some_iff.mp hq).1
      have oS : okS (ov q.1) (ov q.2) = true := okS_ov.mpr (okB_O oq)
      refine ⟨wh_ov, wh_ov, fun _ p dx H7 np s7 h7 => ⟨ws, s7 _ _ hw, by have := pw.length; simp at this; omega, n6, fun b o hb => by rw [upd_ne (ne_of_none hb n6)]; exact s7 _ _ (s6 _ _ hb), ws ++ [.ref p], upd_same, ?_⟩, fun e => by rw [oS] at e; cases e⟩
      have keep : ∀ b C dx fs, H7 b = some (.ins C dx fs) → (upd H7 D (.lst (ws ++ [.ref p]))) b = some (.ins C dx fs) := fun b C dx fs hb => by rw [upd_ne (ne_of hb (s7 _ _ hw) (by intro z; cases z))]; exact hb
      rw [List.take_succ, hq]
      exact ((pw.mono s7).monoI keep).snoc (keep _ _ _ _ h7)
    · rintro D H6 ⟨n6, s6, ws, hw, pw⟩
      rw [hz.length, List.take_length] at pw
      exact ⟨D, rfl, ws, hw, fun p H7 np s7 h7 => k p ws rs H7 ((s03.trans s6).trans s7) h7 (pw.mono s7) N (fun j => by rw [hh, hqq]) (by omega)⟩
/-- the spread at a, its told row -/
structure SprAt (K : PySem.W.Frag) (H : Hp) (a dx row : Addr) (rs : List PP) : Prop where
  at_ : H a = some (.ins (ga K "Spread") dx [("_row", .ref row)])
  row : ∃ zs, H row = some (.tup zs) ∧ SAll K H zs rs
  N : Norm rs
theorem SprAt.mono {H H' : Hp} {a dx row : Addr} {rs : List PP} (h : SprAt K H a dx row rs) (s : Same H H') : SprAt K H' a dx row rs := ⟨s _ _ h.at_, let ⟨zs, e, p⟩ := h.row; ⟨zs, s _ _ e, p.mono s⟩, h.N⟩
/-- x is no list of stretches -/
def NoRow (K : PySem.W.Frag) (H : Hp) (E : XK) (x : V) : Prop := (∃ t, TyX K H x t ∧ PySem.W.kitAny K t [.type "list", .type "tuple"] = some false ∧ Rse K E H "BadPart" "part" (.str "stretches")) ∨
  ∃ L xs i y ps, x = .ref L ∧ H L = some (.lst xs) ∧ xs[i]? = some y ∧ SAll K H (xs.take i) ps ∧ NoS K H y ∧ Rse K E H "BadIndex" "index" (.int (i : Nat))
theorem NoRow.mono {H H' : Hp} {E : XK} {x : V} (h : NoRow K H E x) (s : Same H H') : NoRow K H' E x := by
  rcases h with ⟨t, ty, kt, hE⟩ | ⟨L, xs, i, y, ps, rfl, hL, hi, hps, ⟨t, ty, kt⟩, hE⟩
  · exact .inl ⟨t, tyX_mono ty s, kt, hE.mono s⟩
  · exact .inr ⟨L, xs, i, y, ps, rfl, s _ _ hL, hi, hps.mono s, ⟨t, tyX_mono ty s, kt⟩, hE.mono s⟩
def spSpr (K : PySem.W.Frag) : Sp := fun vs H Q E => ∃ x, vs = [x] ∧ (NoRow K H E x ∨ ∃ L xs ps, x = .ref L ∧ LG K H L xs ∧ SAll K H xs ps ∧ (∀ q ∈ ps, okB q) ∧ ps.length ≤ 1000 ∧
  ∀ p dx row rs H', H p = none → Same H H' → SprAt K H' p dx row rs → (∀ i, has rs i = has ps i) → rs.length ≤ ps.length → Q (.ref p) H')
def spSprI (K : PySem.W.Frag) : Sp := fun vs H Q E => ∃ p x, vs = [.ref p, x] ∧ ∃ dx, H p = some (.ins (ga K "Spread") dx []) ∧ (NoRow K H E x ∨ ∃ L xs ps, x = .ref L ∧ LG K H L xs ∧ SAll K H xs ps ∧ (∀ q ∈ ps, okB q) ∧ ps.length ≤ 1000 ∧
  ∀ row rs H', (∀ b o, b ≠ p → H b = some o → H' b = some o) → SprAt K H' p dx row rs → (∀ i, has rs i = has ps i) → rs.length ≤ ps.length → Q .non H')
theorem i_Spread___init__ (T : Txt K mg) {f : Addr} {fd : FuncData} {t0 : Addr} (F : FunD K "__init__" "Spread.__init__" (defArgs s_Spread___init__) (defBody s_Spread___init__) (defScope s_Spread___init__) [.ref t0] [] f fd) : FnOk P w K mg base (L2.CX P w) 6 f fd ["self", "stretches"] (spSprI K) := by
  have o_is_row := o_is_row (P := P) (w := w) (base := base) T
  have o__told_row := o__told_row (P := P) (w := w) (base := base) T
  refine F.ok (CX := (L2.CX P w)) sc_Spread___init__ (fun vs H Q E h => ?_) (fun cdv A outer s H vs Q E hr h => ?_)
  · first | (obtain ⟨_, rfl, _⟩ := h; rfl) | (obtain ⟨_, _, rfl, _⟩ := h; rfl) | (obtain ⟨_, _, _, rfl, _⟩ := h; rfl) | (obtain ⟨_, _, _, _, rfl, _⟩ := h; rfl) | (obtain ⟨_, _, _, _, _, rfl, _⟩ := h; rfl) | (obtain ⟨_, _, _, _, _, _, rfl, _⟩ := h; rfl) | (obtain ⟨_, _, _, _, _, _, _, rfl, _⟩ := h; rfl)
  have hu64 := hr.units
  refine ⟨_, (pss_cons (ps_if (pt_not (pt_val (pcl o_is_row (hr.mono (by decide)) pass0 (pa_cons (pv 1) pa_nil)))) (pss_one (ps_raiseX (T.x_BadPart) (hr.mono (by decide)) takesE (pe_str))) (pss_nil))
      (pss_cons (ps_for (passes_of rfl) rfl (pi_or (pi_enum rfl T.m_enumerate (pa_cons (pv 1) pa_nil)) (pi_enumG rfl T.m_enumerate (pa_cons (pv 1) pa_nil))) (pg_tupN (n := 2) (by rfl) (pgs_cons (pg_name (i := 2) sc_Spread___init__.nd rfl (Or.inl rfl)) (pgs_cons (pg_name (i := 3) sc_Spread___init__.nd rfl (Or.inl rfl)) pgs_nil))) (pss_one (ps_if (pt_not (pt_val (pe_callB call_isOw (by rfl) T.m_isinstance (by decide +kernel) (pa_cons (pv 3) (pa_cons ((pe_glob (v := .ref (ga K "Stretch")) (by rfl) T.g_Stretch rfl)) pa_nil))))) (pss_one (ps_raiseX (T.x_BadIndex) (hr.mono (by decide)) takesE (pv 2))) (pss_nil))))
      (pss_one (ps_fldN T.c_Spread T.na_Spread__row (pv 0) (pcl o__told_row (hr.mono (by decide)) pass0 (pa_cons (pv 1) pa_nil)))))), ?_⟩
  obtain ⟨p, x, rfl, dx, hp, h⟩ := h
  simp only [spIsRow, exists_and_left, rMax2, tYes, calmS, tDNew, rInDN, rIxDN, rSetDN, tPop, rTupN, rMax, rMin, rSum, rAny, rSorted, rRepN, tSl, tPart, tNoPart, rSlLN, rSlG, rCatG, rOwnB, LamX.tLam3b, rListT, rRepr, tXf, tMtS, cx_K, Value.ref.injEq, HO.xd.injEq, lk0, tSeq, tPar3, tPar, tCons, tNil, tVar, tC, tAsg, gName, gCons, gNil, gTupN, gSub, tOp, rI, rI0, rU, tTest, rNe, rEq, rIxTN, rIxLN, rLenL, rLenT, rIntI, rIntB, rAbs, rSetLN, tTruL, tRaiseX, rIsTy, rIsOw, ixN0, ixN1, tRet, tIf, tIfS, tNext, tBreak, tCont, tDrop, tTupN, tLstN, tUn, tCB, tCall, tNot, tAnd, tOr, tB, tAndV, tOrV, tNotV, tChain, tApp, LamX.tLam, tRevLN, rCatN, rInTN, rInLN, flatV, inV, List.all_cons, List.all_nil, List.any_cons, List.any_nil, Bool.and_self, Bool.and_true, if_true, Bool.false_eq_true, if_false, tMt, tFldN, tSto, HO.ins.injEq, lkh, List.drop_zero, List.drop_succ_cons, List.drop_nil, rListS, wipe, L2.start, List.map_cons, List.map_nil, List.length_cons, List.length_nil, List.replicate, List.cons_append, List.nil_append, List.append_nil, Nat.reduceAdd, Nat.reduceSub, Nat.zero_add, List.replicate_succ, List.replicate_zero, List.getElem?_cons_zero, List.getElem?_cons_succ, List.set_cons_zero, List.set_cons_succ, Option.some.injEq, V.int.injEq, V.bl.injEq, V.ref.injEq, V.str.injEq, V.ty.injEq, List.cons.injEq, HO.tup.injEq, HO.lst.injEq, and_true, true_and, and_assoc, exists_eq_left, exists_eq_left', exists_and_left, exists_eq', atI0, atI1, atI2, atI3, Int.cast_ofNat_Int, Int.reduceToNat, scal_ii, scal_in, scal_ni, scal_nn, scal_bb, scal_ss, scal_sn, scal_ns, scal_bn, scal_nb, ite_iff, decide_eq_true_eq, decide_eq_false_iff_not, Bool.not_eq_true', Classical.not_not, ne_eq, not_false_eq_true, not_true_eq_false, forall_const, true_implies, false_implies, imp_self, sizeLine_eq, Nat.reduceLeDiff, reduceCtorEq, decide_true, decide_false]
  rcases h with (⟨t, ty, kt, hE⟩ | ⟨L, xs, i, y, ps, rfl, hL, hi, hps, hy, hE⟩) | ⟨L, xs, ps, rfl, hL, hps, ho, hlen, k⟩
  · exact ⟨t, ty, _, kt, fun H1 s1 => ⟨fun _ => hE.mono s1, fun e => absurd rfl e⟩⟩
  · refine ⟨.type "list", .base (.lst hL), _, kitAny_ll, fun H1 s1 => ⟨fun e => (by cases e), fun _ => ?_⟩⟩
    have hi2 := (List.getElem?_eq_some_iff.mp hi).1
    refine st_forEG (fun R r => ⟨_, rfl, r⟩) (.inl hL) s1 (fun j σ' H' => ∃ x2 x3, σ' = [some (V.ref p), some (V.ref L), x2, x3] ∧ Same H H' ∧ j ≤ i) ⟨none, none, rfl, s1, Nat.zero_le _⟩ (fun j σ' H' h => by obtain ⟨_, _, _, h, _⟩ := h; exact h) ?_ ?_
    · rintro j z u _ H2 H3 hj ⟨x2, x3, rfl, s2, hji⟩ s3 h3
      simp only [h3, exists_and_left, rMax2, tYes, calmS, tDNew, rInDN, rIxDN, rSetDN, tPop, rTupN, rMax, rMin, rSum, rAny, rSorted, rRepN, tSl, tPart, tNoPart, rSlLN, rSlG, rCatG, rOwnB, LamX.tLam3b, rListT, rRepr, tXf, tMtS, cx_K, Value.ref.injEq, HO.xd.injEq, lk0, tSeq, tPar3, tPar, tCons, tNil, tVar, tC, tAsg, gName, gCons, gNil, gTupN, gSub, tOp, rI, rI0, rU, tTest, rNe, rEq, rIxTN, rIxLN, rLenL, rLenT, rIntI, rIntB, rAbs, rSetLN, tTruL, tRaiseX, rIsTy, rIsOw, ixN0, ixN1, tRet, tIf, tIfS, tNext, tBreak, tCont, tDrop, tTupN, tLstN, tUn, tCB, tCall, tNot, tAnd, tOr, tB, tAndV, tOrV, tNotV, tChain, tApp, LamX.tLam, tRevLN, rCatN, rInTN, rInLN, flatV, inV, List.all_cons, List.all_nil, List.any_cons, List.any_nil, Bool.and_self, Bool.and_true, if_true, Bool.false_eq_true, if_false, tMt, tFldN, tSto, HO.ins.injEq, lkh, List.drop_zero, List.drop_succ_cons, List.drop_nil, rListS, wipe, L2.start, List.map_cons, List.map_nil, List.length_cons, List.length_nil, List.replicate, List.cons_append, List.nil_append, List.append_nil, Nat.reduceAdd, Nat.reduceSub, Nat.zero_add, List.replicate_succ, List.replicate_zero, List.getElem?_cons_zero, List.getElem?_cons_succ, List.set_cons_zero, List.set_cons_succ, Option.some.injEq, V.int.injEq, V.bl.injEq, V.ref.injEq, V.str.injEq, V.ty.injEq, List.cons.injEq, HO.tup.injEq, HO.lst.injEq, and_true, true_and, and_assoc, exists_eq_left, exists_eq_left', exists_and_left, exists_eq', atI0, atI1, atI2, atI3, Int.cast_ofNat_Int, Int.reduceToNat, scal_ii, scal_in, scal_ni, scal_nn, scal_bb, scal_ss, scal_sn, scal_ns, scal_bn, scal_nb, ite_iff, decide_eq_true_eq, decide_eq_false_iff_not, Bool.not_eq_true', Classical.not_not, ne_eq, not_false_eq_true, not_true_eq_false, forall_const, true_implies, false_implies, imp_self, sizeLine_eq, Nat.reduceLeDiff, reduceCtorEq, decide_true, decide_false]
      by_cases c : j = i
      · subst c
        rw [hi] at hj
        cases hj
        obtain ⟨t, ty, kt⟩ := hy
        exact ⟨t, tyX_mono ty (s2.trans s3), false, kt, fun _ => hE.mono (s2.trans s3), fun e => absurd rfl e⟩
      · have hj2 : (xs.take i)[j]? = some z := by rw [List.getElem?_take, if_pos (by omega)]; exact hj
        obtain ⟨a, dx2, q, rfl, hq, ha⟩ := hps.get hj2
        have ha3 := s3 _ _ (s2 _ _ ha)
        exact ⟨_, T.ci_Stretch.ty ha3, true, kit_self, fun e => (by cases e), fun _ => ⟨s2.trans s3, by omega⟩⟩
    · rintro _ H2 ⟨x2, x3, rfl, s2, hji⟩
      omega
  · obtain ⟨tl, tyl, kl⟩ := hL.ty
    refine ⟨tl, tyl, _, kl, fun H1 s1 => ⟨fun e => (by cases e), fun _ => ?_⟩⟩
    refine st_forEG (fun R r => ⟨_, rfl, r⟩) hL s1 (fun j σ' H' => ∃ x2 x3, σ' = [some (V.ref p), some (V.ref L), x2, x3] ∧ Same H H') ⟨none, none, rfl, s1⟩ (fun j σ' H' h => by obtain ⟨_, _, _, h⟩ := h; exact h) ?_ ?_
    · rintro j z u _ H2 H3 hj ⟨x2, x3, rfl, s2⟩ s3 h3
      simp only [h3, exists_and_left, rMax2, tYes, calmS, tDNew, rInDN, rIxDN, rSetDN, tPop, rTupN, rMax, rMin, rSum, rAny, rSorted, rRepN, tSl, tPart, tNoPart, rSlLN, rSlG, rCatG, rOwnB, LamX.tLam3b, rListT, rRepr, tXf, tMtS, cx_K, Value.ref.injEq, HO.xd.injEq, lk0, tSeq, tPar3, tPar, tCons, tNil, tVar, tC, tAsg, gName, gCons, gNil, gTupN, gSub, tOp, rI, rI0, rU, tTest, rNe, rEq, rIxTN, rIxLN, rLenL, rLenT, rIntI, rIntB, rAbs, rSetLN, tTruL, tRaiseX, rIsTy, rIsOw, ixN0, ixN1, tRet, tIf, tIfS, tNext, tBreak, tCont, tDrop, tTupN, tLstN, tUn, tCB, tCall, tNot, tAnd, tOr, tB, tAndV, tOrV, tNotV, tChain, tApp, LamX.tLam, tRevLN, rCatN, rInTN, rInLN, flatV, inV, List.all_cons, List.all_nil, List.any_cons, List.any_nil, Bool.and_self, Bool.and_true, if_true, Bool.false_eq_true, if_false, tMt, tFldN, tSto, HO.ins.injEq, lkh, List.drop_zero, List.drop_succ_cons, List.drop_nil, rListS, wipe, L2.start, List.map_cons, List.map_nil, List.length_cons, List.length_nil, List.replicate, List.cons_append, List.nil_append, List.append_nil, Nat.reduceAdd, Nat.reduceSub, Nat.zero_add, List.replicate_succ, List.replicate_zero, List.getElem?_cons_zero, List.getElem?_cons_succ, List.set_cons_zero, List.set_cons_succ, Option.some.injEq, V.int.injEq, V.bl.injEq, V.ref.injEq, V.str.injEq, V.ty.injEq, List.cons.injEq, HO.tup.injEq, HO.lst.injEq, and_true, true_and, and_assoc, exists_eq_left, exists_eq_left', exists_and_left, exists_eq', atI0, atI1, atI2, atI3, Int.cast_ofNat_Int, Int.reduceToNat, scal_ii, scal_in, scal_ni, scal_nn, scal_bb, scal_ss, scal_sn, scal_ns, scal_bn, scal_nb, ite_iff, decide_eq_true_eq, decide_eq_false_iff_not, Bool.not_eq_true', Classical.not_not, ne_eq, not_false_eq_true, not_true_eq_false, forall_const, true_implies, false_implies, imp_self, sizeLine_eq, Nat.reduceLeDiff, reduceCtorEq, decide_true, decide_false]
      obtain ⟨a, dx2, q, rfl, hq, ha⟩ := hps.get hj
      have ha3 := s3 _ _ (s2 _ _ ha)
      exact ⟨_, T.ci_Stretch.ty ha3, true, kit_self, fun e => (by cases e), fun _ => s2.trans s3⟩
    · rintro _ H2 ⟨x2, x3, rfl, s2⟩
      simp only [spTold, exists_and_left, rMax2, tYes, calmS, tDNew, rInDN, rIxDN, rSetDN, tPop, rTupN, rMax, rMin, rSum, rAny, rSorted, rRepN, tSl, tPart, tNoPart, rSlLN, rSlG, rCatG, rOwnB, LamX.tLam3b, rListT, rRepr, tXf, tMtS, cx_K, Value.ref.injEq, HO.xd.injEq, lk0, tSeq, tPar3, tPar, tCons, tNil, tVar, tC, tAsg, gName, gCons, gNil, gTupN, gSub, tOp, rI, rI0, rU, tTest, rNe, rEq, rIxTN, rIxLN, rLenL, rLenT, rIntI, rIntB, rAbs, rSetLN, tTruL, tRaiseX, rIsTy, rIsOw, ixN0, ixN1, tRet, tIf, tIfS, tNext, tBreak, tCont, tDrop, tTupN, tLstN, tUn, tCB, tCall, tNot, tAnd, tOr, tB, tAndV, tOrV, tNotV, tChain, tApp, LamX.tLam, tRevLN, rCatN, rInTN, rInLN, flatV, inV, List.all_cons, List.all_nil, List.any_cons, List.any_nil, Bool.and_self, Bool.and_true, if_true, Bool.false_eq_true, if_false, tMt, tFldN, tSto, HO.ins.injEq, lkh, List.drop_zero, List.drop_succ_cons, List.drop_nil, rListS, wipe, L2.start, List.map_cons, List.map_nil, List.length_cons, List.length_nil, List.replicate, List.cons_append, List.nil_append, List.append_nil, Nat.reduceAdd, Nat.reduceSub, Nat.zero_add, List.replicate_succ, List.replicate_zero, List.getElem?_cons_zero, List.getElem?_cons_succ, List.set_cons_zero, List.set_cons_succ, Option.some.injEq, V.int.injEq, V.bl.injEq, V.ref.injEq, V.str.injEq, V.ty.injEq, List.cons.injEq, HO.tup.injEq, HO.lst.injEq, and_true, true_and, and_assoc, exists_eq_left, exists_eq_left', exists_and_left, exists_eq', atI0, atI1, atI2, atI3, Int.cast_ofNat_Int, Int.reduceToNat, scal_ii, scal_in, scal_ni, scal_nn, scal_bb, scal_ss, scal_sn, scal_ns, scal_bn, scal_nb, ite_iff, decide_eq_true_eq, decide_eq_false_iff_not, Bool.not_eq_true', Classical.not_not, ne_eq, not_false_eq_true, not_true_eq_false, forall_const, true_implies, false_implies, imp_self, sizeLine_eq, Nat.reduceLeDiff, reduceCtorEq, decide_true, decide_false]
      refine ⟨xs, hL.same s2, ps, hps.mono s2, ho, hlen, fun r zs rs H3 s3 hr hzs N hh hl => ?_⟩
      have hp3 := s3 _ _ (s2 _ _ hp)
      refine ⟨dx, [], hp3, by decide, fun H4 p4 => k r rs H4 (fun b o hb h => by rw [p4.2 b hb]; exact s3 _ _ (s2 _ _ h)) ⟨by rw [p4.1, putF_nil], ⟨zs, by rw [p4.2 r (ne_of hr hp3 (by intro z; cases z))]; exact hr, hzs.monoP fun b d lo hi hb => ?_⟩, N⟩ hh hl⟩
      show H4 b = _
      rw [p4.2 b (ne_of hb hp3 (by intro z; simp at z))]; exact hb
theorem o_Spread (T : Txt K mg) : ∃ t0, EmpT K t0 ∧ OkK P w K mg base (L2.CX P w) 6 "Spread" ["stretches"] [.ref t0] (spSpr K) := by
  obtain ⟨f, fd, t0, M, F, e0⟩ := T.d_Spread___init__
  refine ⟨t0, e0, f, fd, spSprI K, M, T.g_Spread, b_Spread___init__ F, i_Spread___init__ T F, fun vs H Q E h p dx hp hdx hne => ?_⟩
  obtain ⟨x, rfl, h⟩ := h
  have s := same_made (H' := upd (upd H dx (.own p)) p (.ins (ga K "Spread") dx [])) hp hdx fun b _ => rfl
  refine ⟨p, x, rfl, dx, upd_same, ?_⟩
  rcases h with h | ⟨L, xs, ps, rfl, hL, hps, ho, hlen, k⟩
  · exact .inl (h.mono s)
  · refine .inr ⟨L, xs, ps, rfl, hL.same s, hps.mono s, ho, hlen, fun row rs H' hk hS hh hl => ⟨rfl, k p dx row rs H' hp (fun b o hb => hk b o (ne_of_none hb hp) (s _ _ hb)) hS hh hl⟩⟩

end
end Iz
/-! k04_d -/
set_option Elab.async false
set_option linter.all false
set_option maxRecDepth 100000
set_option maxHeartbeats 4000000
namespace Iz
open PySem PySem.Spec PyProof.Rows L2
open He (ga)
local macro_rules | `(tactic| walk_at "wp") => `(tactic| simp only [rMax2, tYes, calmS, tDNew, rInDN, rIxDN, rSetDN, tPop, rTupN, rMax, rMin, rSum, rAny, rSorted, rRepN, tSl, tPart, tNoPart, rSlLN, rSlG, rCatG, rOwnB, LamX.tLam3b, rListT, rRepr, tXf, tMtS, cx_K, Value.ref.injEq, HO.xd.injEq, lk0, tSeq, tPar3, tPar, tCons, tNil, tVar, tC, tAsg, gName, gCons, gNil, gTupN, gSub, tOp, rI, rI0, rU, tTest, rNe, rEq, rIxTN, rIxLN, rLenL, rLenT, rIntI, rIntB, rAbs, rSetLN, tTruL, tRaiseX, rIsTy, rIsOw, ixN0, ixN1, tRet, tIf, tIfS, tNext, tBreak, tCont, tDrop, tTupN, tLstN, tUn, tCB, tCall, tNot, tAnd, tOr, tB, tAndV, tOrV, tNotV, tChain, tApp, LamX.tLam, tRevLN, rCatN, rInTN, rInLN, flatV, inV, List.all_cons, List.all_nil, List.any_cons, List.any_nil, Bool.and_self, Bool.and_true, if_true, Bool.false_eq_true, if_false, tMt, tFldN, tSto, HO.ins.injEq, lkh, List.drop_zero, List.drop_succ_cons, List.drop_nil, rListS, wipe, L2.start, List.map_cons, List.map_nil, List.length_cons, List.length_nil, List.replicate, List.cons_append, List.nil_append, List.append_nil, Nat.reduceAdd, Nat.reduceSub, Nat.zero_add, List.replicate_succ, List.replicate_zero, List.getElem?_cons_zero, List.getElem?_cons_succ, List.set_cons_zero, List.set_cons_succ, Option.some.injEq, V.int.injEq, V.bl.injEq, V.ref.injEq, V.str.injEq, V.ty.injEq, List.cons.injEq, HO.tup.injEq, HO.lst.injEq, and_true, true_and, and_assoc, exists_eq_left, exists_eq_left', exists_and_left, exists_eq', atI0, atI1, atI2, atI3, Int.cast_ofNat_Int, Int.reduceToNat, scal_ii, scal_in, scal_ni, scal_nn, scal_bb, scal_ss, scal_sn, scal_ns, scal_bn, scal_nb, ite_iff, decide_eq_true_eq, decide_eq_false_iff_not, Bool.not_eq_true', Classical.not_not, ne_eq, not_false_eq_true, not_true_eq_false, forall_const, true_implies, false_implies, imp_self, sizeLine_eq, Nat.reduceLeDiff, reduceCtorEq, decide_true, decide_false])
section
variable {P : Program} {w : World} {K : PySem.W.Frag} {mg : Str → Option Value} {base : Heap}
/-! ### spreads asked -/
theorem lkRow {v : V} : List.lookup ("_row" : Str) [(("_row" : Str), v)] = some v := lkh
theorem lkRowNo {m : Str} {v : V} (h : (m == ("_row" : Str)) = false := by decide +kernel) : List.lookup m [(("_row" : Str), v)] = none := by simp [List.lookup, h]
/-- a list made of the stretches of a row, each told by f -/
theorem st_lcS {tl : TE} {g : TG} {tt : TT} {te : TE} {vs : List Nat} {σ : L2.St} {H : Hp} {Q : VK} {a : Addr} {zs : List V} {rs : List PP} (ha : ∀ R : V → Hp → Prop, R (.ref a) H → tl σ H R) (hx : H a = some (.tup zs)) (hz : SAll K H zs rs) (hl : rs.length ≤ 1000) (f : PP → V)
    (hs : ∀ (b dx : Addr) (q : PP) H' (R : V → Hp → Prop) (R2 : Hp → Prop), q ∈ rs → SAt K H' b dx q.1 q.2 → Same H H' → (∀ H'', Same H' H'' → R (f q) H'') → g (.ref b) (wipe σ vs) H' fun σ2 H2 => wipe σ2 vs = wipe σ vs ∧ tt σ2 H2 fun c H3 => if c = true then te σ2 H3 R else R2 H3)
    (hd : ∀ D H', Same H H' → H' D = some (.lst (rs.map f)) → Q (.ref D) H') : tLc (iTup K tl) g tt te vs σ H Q := by
  refine st_lcT ha hx (fun D i H' => H D = none ∧ Same H H' ∧ H' D = some (.lst ((rs.take i).map f))) (fun D H1 n1 s1 h1 => ⟨n1, s1, h1⟩) (fun D i H' h => h.2.1 _ _ hx) ?_ ?_
  · rintro D i x H1 hi ⟨n1, s1, h1⟩
    obtain ⟨b, dx, q, rfl, hq, hb⟩ := hz.get hi
    have hlt : ((rs.take i).map f).length < sizeLine := by
      have h9 : (rs.take i).length ≤ rs.length := by rw [List.length_take]; exact Nat.min_le_right _ _
      rw [List.length_map, sizeLine_eq]; omega
    have key : ∀ H2, Same H1 H2 → ∃ acc, H2 D = some (.lst acc) ∧ acc.length < sizeLine ∧ H D = none ∧ Same H (upd H2 D (.lst (acc ++ [f q]))) ∧ (upd H2 D (.lst (acc ++ [f q]))) D = some (.lst ((rs.take (i + 1)).map f)) := fun H2 s2 =>
      ⟨_, s2 _ _ h1, hlt, n1, fun c o hc => by rw [upd_ne (ne_of_none hc n1)]; exact s2 _ _ (s1 _ _ hc), by rw [upd_same, List.take_succ, hq, List.map_append]; rfl⟩
    exact hs b dx q H1 _ _ (List.mem_of_getElem? hq) (s1 _ _ hb) s1 key
  · rintro D H1 ⟨n1, s1, h1⟩
    rw [hz.length, List.take_length] at h1
    exact hd D H1 s1 h1
def endq (q : PP) : Bool := q.1.isNone || q.2.isNone
def spEndless (K : PySem.W.Frag) : Sp := fun vs H Q _ => ∃ a, vs = [.ref a] ∧ ∃ dx row rs, SprAt K H a dx row rs ∧ rs.length ≤ 1000 ∧ ∀ H', Same H H' → Q (.bl (rs.any endq)) H'
theorem o_Spread_is_endless (T : Txt K mg) : OkM P w K mg base CX0 2 "Spread" "is_endless" ["self"] [] (spEndless K) := by
  obtain ⟨f, fd, M, F⟩ := T.d_Spread_is_endless
  refine ⟨f, fd, M, b_Spread_is_endless F, F.ok (CX := CX0) sc_Spread_is_endless (fun vs H Q E h => ?_) (fun cdv A outer s H vs Q E hr h => ?_)⟩
  · first | (obtain ⟨_, rfl, _⟩ := h; rfl) | (obtain ⟨_, _, rfl, _⟩ := h; rfl) | (obtain ⟨_, _, _, rfl, _⟩ := h; rfl) | (obtain ⟨_, _, _, _, rfl, _⟩ := h; rfl) | (obtain ⟨_, _, _, _, _, rfl, _⟩ := h; rfl) | (obtain ⟨_, _, _, _, _, _, rfl, _⟩ := h; rfl) | (obtain ⟨_, _, _, _, _, _, _, rfl, _⟩ := h; rfl)
  have hu64 := hr.units
  refine ⟨_, PSs.nox (pss_one (ps_ret (pe_callB (cr_any rfl) (by rfl) T.m_any (by decide +kernel) (pa_cons (pe_lc (own := [("stretch", 1)]) (g := gName 1) (by rfl) sc_Spread_is_endless.nd (pi_tup (pe_fldN T.c_Spread T.na_Spread__row (pv 0))) (blkOk_by (N := ["self", "stretch"]) (sc := defScope s_Spread_is_endless) (own := [("stretch", 1)]) (by decide +kernel)) (fun _ _ _ _ _ => pg_name (i := 1) sc_Spread_is_endless.nd rfl (Or.inl rfl)) (fun _ _ _ _ _ => pts_nil) (fun _ _ _ _ _ => pe_or (pe_cmpR op_isN (pe_fldNK (K := K) rfl T.c_Stretch T.na_Stretch_low (pv 1)) (pe_non) (nomark _)) (pe_one (pe_cmpR op_isN (pe_fldNK (K := K) rfl T.c_Stretch T.na_Stretch_high (pv 1)) (pe_non) (nomark _))))) pa_nil)))), ?_⟩
  obtain ⟨a, rfl, dx, row, rs, hS, hl, k⟩ := h
  obtain ⟨zs, hr, hz⟩ := hS.row
  have h0 := hS.at_
  simp only [exists_and_left, h0, lkRow, rMax2, tYes, calmS, tDNew, rInDN, rIxDN, rSetDN, tPop, rTupN, rMax, rMin, rSum, rAny, rSorted, rRepN, tSl, tPart, tNoPart, rSlLN, rSlG, rCatG, rOwnB, LamX.tLam3b, rListT, rRepr, tXf, tMtS, cx_K, Value.ref.injEq, HO.xd.injEq, lk0, tSeq, tPar3, tPar, tCons, tNil, tVar, tC, tAsg, gName, gCons, gNil, gTupN, gSub, tOp, rI, rI0, rU, tTest, rNe, rEq, rIxTN, rIxLN, rLenL, rLenT, rIntI, rIntB, rAbs, rSetLN, tTruL, tRaiseX, rIsTy, rIsOw, ixN0, ixN1, tRet, tIf, tIfS, tNext, tBreak, tCont, tDrop, tTupN, tLstN, tUn, tCB, tCall, tNot, tAnd, tOr, tB, tAndV, tOrV, tNotV, tChain, tApp, LamX.tLam, tRevLN, rCatN, rInTN, rInLN, flatV, inV, List.all_cons, List.all_nil, List.any_cons, List.any_nil, Bool.and_self, Bool.and_true, if_true, Bool.false_eq_true, if_false, tMt, tFldN, tSto, HO.ins.injEq, lkh, List.drop_zero, List.drop_succ_cons, List.drop_nil, rListS, wipe, L2.start, List.map_cons, List.map_nil, List.length_cons, List.length_nil, List.replicate, List.cons_append, List.nil_append, List.append_nil, Nat.reduceAdd, Nat.reduceSub, Nat.zero_add, List.replicate_succ, List.replicate_zero, List.getElem?_cons_zero, List.getElem?_cons_succ, List.set_cons_zero, List.set_cons_succ, Option.some.injEq, V.int.injEq, V.bl.injEq, V.ref.injEq, V.str.injEq, V.ty.injEq, List.cons.injEq, HO.tup.injEq, HO.lst.injEq, and_true, true_and, and_assoc, exists_eq_left, exists_eq_left', exists_and_left, exists_eq', atI0, atI1, atI2, atI3, Int.cast_ofNat_Int, Int.reduceToNat, scal_ii, scal_in, scal_ni, scal_nn, scal_bb, scal_ss, scal_sn, scal_ns, scal_bn, scal_nb, ite_iff, decide_eq_true_eq, decide_eq_false_iff_not, Bool.not_eq_true', Classical.not_not, ne_eq, not_false_eq_true, not_true_eq_false, forall_const, true_implies, false_implies, imp_self, sizeLine_eq, Nat.reduceLeDiff, reduceCtorEq, decide_true, decide_false]
  refine st_lcS (fun R r => (by simp only [exists_and_left, h0, lkRow, rMax2, tYes, calmS, tDNew, rInDN, rIxDN, rSetDN, tPop, rTupN, rMax, rMin, rSum, rAny, rSorted, rRepN, tSl, tPart, tNoPart, rSlLN, rSlG, rCatG, rOwnB, LamX.tLam3b, rListT, rRepr, tXf, tMtS, cx_K, Value.ref.injEq, HO.xd.injEq, lk0, tSeq, tPar3, tPar, tCons, tNil, tVar, tC, tAsg, gName, gCons, gNil, gTupN, gSub, tOp, rI, rI0, rU, tTest, rNe, rEq, rIxTN, rIxLN, rLenL, rLenT, rIntI, rIntB, rAbs, rSetLN, tTruL, tRaiseX, rIsTy, rIsOw, ixN0, ixN1, tRet, tIf, tIfS, tNext, tBreak, tCont, tDrop, tTupN, tLstN, tUn, tCB, tCall, tNot, tAnd, tOr, tB, tAndV, tOrV, tNotV, tChain, tApp, LamX.tLam, tRevLN, rCatN, rInTN, rInLN, flatV, inV, List.all_cons, List.all_nil, List.any_cons, List.any_nil, Bool.and_self, Bool.and_true, if_true, Bool.false_eq_true, if_false, tMt, tFldN, tSto, HO.ins.injEq, lkh, List.drop_zero, List.drop_succ_cons, List.drop_nil, rListS, wipe, L2.start, List.map_cons, List.map_nil, List.length_cons, List.length_nil, List.replicate, List.cons_append, List.nil_append, List.append_nil, Nat.reduceAdd, Nat.reduceSub, Nat.zero_add, List.replicate_succ, List.replicate_zero, List.getElem?_cons_zero, List.getElem?_cons_succ, List.set_cons_zero, List.set_cons_succ, Option.some.injEq, V.int.injEq, V.bl.injEq, V.ref.injEq, V.str.injEq, V.ty.injEq, List.cons.injEq, HO.tup.injEq, HO.lst.injEq, and_true, true_and, and_assoc, exists_eq_left, exists_eq_left', exists_and_left, exists_eq', atI0, atI1, atI2, atI3, Int.cast_ofNat_Int, Int.reduceToNat, scal_ii, scal_in, scal_ni, scal_nn, scal_bb, scal_ss, scal_sn, scal_ns, scal_bn, scal_nb, ite_iff, decide_eq_true_eq, decide_eq_false_iff_not, Bool.not_eq_true', Classical.not_not, ne_eq, not_false_eq_true, not_true_eq_false, forall_const, true_implies, false_implies, imp_self, sizeLine_eq, Nat.reduceLeDiff, reduceCtorEq, decide_true, decide_false]; exact r)) hr hz hl (fun q => .bl (endq q)) (fun b dx2 q H1 R R2 hq hb s1 kk => ?_) (fun D H1 s1 h1 => ?_)
  · have kk := kk H1 (fun _ _ h => h)
    obtain ⟨lo, hi⟩ := q
    cases lo <;> cases hi <;> simp only [exists_and_left, hb, lkLow, lkHigh, lkN_holds, lkN_turned, lkN_common, lkN_count, lkN_first, lkN_final, lkN_nth, lkN_below, lkN_moved, ov, rMax2, tYes, calmS, tDNew, rInDN, rIxDN, rSetDN, tPop, rTupN, rMax, rMin, rSum, rAny, rSorted, rRepN, tSl, tPart, tNoPart, rSlLN, rSlG, rCatG, rOwnB, LamX.tLam3b, rListT, rRepr, tXf, tMtS, cx_K, Value.ref.injEq, HO.xd.injEq, lk0, tSeq, tPar3, tPar, tCons, tNil, tVar, tC, tAsg, gName, gCons, gNil, gTupN, gSub, tOp, rI, rI0, rU, tTest, rNe, rEq, rIxTN, rIxLN, rLenL, rLenT, rIntI, rIntB, rAbs, rSetLN, tTruL, tRaiseX, rIsTy, rIsOw, ixN0, ixN1, tRet, tIf, tIfS, tNext, tBreak, tCont, tDrop, tTupN, tLstN, tUn, tCB, tCall, tNot, tAnd, tOr, tB, tAndV, tOrV, tNotV, tChain, tApp, LamX.tLam, tRevLN, rCatN, rInTN, rInLN, flatV, inV, List.all_cons, List.all_nil, List.any_cons, List.any_nil, Bool.and_self, Bool.and_true, if_true, Bool.false_eq_true, if_false, tMt, tFldN, tSto, HO.ins.injEq, lkh, List.drop_zero, List.drop_succ_cons, List.drop_nil, rListS, wipe, L2.start, List.map_cons, List.map_nil, List.length_cons, List.length_nil, List.replicate, List.cons_append, List.nil_append, List.append_nil, Nat.reduceAdd, Nat.reduceSub, Nat.zero_add, List.replicate_succ, List.replicate_zero, List.getElem?_cons_zero, List.getElem?_cons_succ, List.set_cons_zero, List.set_cons_succ, Option.some.injEq, V.int.injEq, V.bl.injEq, V.ref.injEq, V.str.injEq, V.ty.injEq, List.cons.injEq, HO.tup.injEq, HO.lst.injEq, and_true, true_and, and_assoc, exists_eq_left, exists_eq_left', exists_and_left, exists_eq', atI0, atI1, atI2, atI3, Int.cast_ofNat_Int, Int.reduceToNat, scal_ii, scal_in, scal_ni, scal_nn, scal_bb, scal_ss, scal_sn, scal_ns, scal_bn, scal_nb, ite_iff, decide_eq_true_eq, decide_eq_false_iff_not, Bool.not_eq_true', Classical.not_not, ne_eq, not_false_eq_true, not_true_eq_false, forall_const, true_implies, false_implies, imp_self, sizeLine_eq, Nat.reduceLeDiff, reduceCtorEq, decide_true, decide_false] <;> exact kk
  · refine ⟨D, rfl, rs.map endq, SqL.of ?_, ?_⟩
    · rw [h1, List.map_map]; rfl
    · rw [List.any_map]; exact k H1 s1

end
end Iz
/-! k04_e -/
set_option Elab.async false
set_option linter.all false
set_option maxRecDepth 100000
set_option maxHeartbeats 4000000
namespace Iz
open PySem PySem.Spec PyProof.Rows L2
open He (ga)
local macro_rules | `(tactic| walk_at "wp") => `(tactic| simp only [rMax2, tYes, calmS, tDNew, rInDN, rIxDN, rSetDN, tPop, rTupN, rMax, rMin, rSum, rAny, rSorted, rRepN, tSl, tPart, tNoPart, rSlLN, rSlG, rCatG, rOwnB, LamX.tLam3b, rListT, rRepr, tXf, tMtS, cx_K, Value.ref.injEq, HO.xd.injEq, lk0, tSeq, tPar3, tPar, tCons, tNil, tVar, tC, tAsg, gName, gCons, gNil, gTupN, gSub, tOp, rI, rI0, rU, tTest, rNe, rEq, rIxTN, rIxLN, rLenL, rLenT, rIntI, rIntB, rAbs, rSetLN, tTruL, tRaiseX, rIsTy, rIsOw, ixN0, ixN1, tRet, tIf, tIfS, tNext, tBreak, tCont, tDrop, tTupN, tLstN, tUn, tCB, tCall, tNot, tAnd, tOr, tB, tAndV, tOrV, tNotV, tChain, tApp, LamX.tLam, tRevLN, rCatN, rInTN, rInLN, flatV, inV, List.all_cons, List.all_nil, List.any_cons, List.any_nil, Bool.and_self, Bool.and_true, if_true, Bool.false_eq_true, if_false, tMt, tFldN, tSto, HO.ins.injEq, lkh, List.drop_zero, List.drop_succ_cons, List.drop_nil, rListS, wipe, L2.start, List.map_cons, List.map_nil, List.length_cons, List.length_nil, List.replicate, List.cons_append, List.nil_append, List.append_nil, Nat.reduceAdd, Nat.reduceSub, Nat.zero_add, List.replicate_succ, List.replicate_zero, List.getElem?_cons_zero, List.getElem?_cons_succ, List.set_cons_zero, List.set_cons_succ, Option.some.injEq, V.int.injEq, V.bl.injEq, V.ref.injEq, V.str.injEq, V.ty.injEq, List.cons.injEq, HO.tup.injEq, HO.lst.injEq, and_true, true_and, and_assoc, exists_eq_left, exists_eq_left', exists_and_left, exists_eq', atI0, atI1, atI2, atI3, Int.cast_ofNat_Int, Int.reduceToNat, scal_ii, scal_in, scal_ni, scal_nn, scal_bb, scal_ss, scal_sn, scal_ns, scal_bn, scal_nb, ite_iff, decide_eq_true_eq, decide_eq_false_iff_not, Bool.not_eq_true', Classical.not_not, ne_eq, not_false_eq_true, not_true_eq_false, forall_const, true_implies, false_implies, imp_self, sizeLine_eq, Nat.reduceLeDiff, reduceCtorEq, decide_true, decide_false])
section
variable {P : Program} {w : World} {K : PySem.W.Frag} {mg : Str → Option Value} {base : Heap}
/-! ### stretches compared -/
def spSEq (K : PySem.W.Frag) : Sp := fun vs H Q _ => ∃ a y, vs = [.ref a, y] ∧ ∃ dx lo hi, SAt K H a dx lo hi ∧ ((NoS K H y ∧ Q (.bl false) H) ∨ ∃ b dx2 lo2 hi2, y = .ref b ∧ SAt K H b dx2 lo2 hi2 ∧ Q (.bl (decide (lo = lo2 ∧ hi = hi2))) H)
theorem o_Stretch___eq__ (T : Txt K mg) : OkM P w K mg base CX0 2 "Stretch" "__eq__" ["self", "other"] [] (spSEq K) := by
  obtain ⟨f, fd, M, F⟩ := T.d_Stretch___eq__
  refine ⟨f, fd, M, b_Stretch___eq__ F, F.ok (CX := CX0) sc_Stretch___eq__ (fun vs H Q E h => ?_) (fun cdv A outer s H vs Q E hr h => ?_)⟩
  · first | (obtain ⟨_, rfl, _⟩ := h; rfl) | (obtain ⟨_, _, rfl, _⟩ := h; rfl) | (obtain ⟨_, _, _, rfl, _⟩ := h; rfl) | (obtain ⟨_, _, _, _, rfl, _⟩ := h; rfl) | (obtain ⟨_, _, _, _, _, rfl, _⟩ := h; rfl) | (obtain ⟨_, _, _, _, _, _, rfl, _⟩ := h; rfl) | (obtain ⟨_, _, _, _, _, _, _, rfl, _⟩ := h; rfl)
  have hu64 := hr.units
  refine ⟨_, PSs.nox (pss_one (ps_ret (pe_and (pe_callB call_isOw (by rfl) T.m_isinstance (by decide +kernel) (pa_cons (pv 1) (pa_cons ((pe_glob (v := .ref (ga K "Stretch")) (by rfl) T.g_Stretch rfl)) pa_nil))) (pe_and (pe_cmpR op_eq (pe_fldN T.c_Stretch T.na_Stretch_low (pv 0)) (pe_fldN T.c_Stretch T.na_Stretch_low (pv 1)) (nomark _)) (pe_one (pe_cmpR op_eq (pe_fldN T.c_Stretch T.na_Stretch_high (pv 0)) (pe_fldN T.c_Stretch T.na_Stretch_high (pv 1)) (nomark _))))))), ?_⟩
  obtain ⟨a, y, rfl, dx, lo, hi, hs, h⟩ := h
  simp only [exists_and_left, hs, lkLow, lkHigh, lkN_holds, lkN_turned, lkN_common, lkN_count, lkN_first, lkN_final, lkN_nth, lkN_below, lkN_moved, rMax2, tYes, calmS, tDNew, rInDN, rIxDN, rSetDN, tPop, rTupN, rMax, rMin, rSum, rAny, rSorted, rRepN, tSl, tPart, tNoPart, rSlLN, rSlG, rCatG, rOwnB, LamX.tLam3b, rListT, rRepr, tXf, tMtS, cx_K, Value.ref.injEq, HO.xd.injEq, lk0, tSeq, tPar3, tPar, tCons, tNil, tVar, tC, tAsg, gName, gCons, gNil, gTupN, gSub, tOp, rI, rI0, rU, tTest, rNe, rEq, rIxTN, rIxLN, rLenL, rLenT, rIntI, rIntB, rAbs, rSetLN, tTruL, tRaiseX, rIsTy, rIsOw, ixN0, ixN1, tRet, tIf, tIfS, tNext, tBreak, tCont, tDrop, tTupN, tLstN, tUn, tCB, tCall, tNot, tAnd, tOr, tB, tAndV, tOrV, tNotV, tChain, tApp, LamX.tLam, tRevLN, rCatN, rInTN, rInLN, flatV, inV, List.all_cons, List.all_nil, List.any_cons, List.any_nil, Bool.and_self, Bool.and_true, if_true, Bool.false_eq_true, if_false, tMt, tFldN, tSto, HO.ins.injEq, lkh, List.drop_zero, List.drop_succ_cons, List.drop_nil, rListS, wipe, L2.start, List.map_cons, List.map_nil, List.length_cons, List.length_nil, List.replicate, List.cons_append, List.nil_append, List.append_nil, Nat.reduceAdd, Nat.reduceSub, Nat.zero_add, List.replicate_succ, List.replicate_zero, List.getElem?_cons_zero, List.getElem?_cons_succ, List.set_cons_zero, List.set_cons_succ, Option.some.injEq, V.int.injEq, V.bl.injEq, V.ref.injEq, V.str.injEq, V.ty.injEq, List.cons.injEq, HO.tup.injEq, HO.lst.injEq, and_true, true_and, and_assoc, exists_eq_left, exists_eq_left', exists_and_left, exists_eq', atI0, atI1, atI2, atI3, Int.cast_ofNat_Int, Int.reduceToNat, scal_ii, scal_in, scal_ni, scal_nn, scal_bb, scal_ss, scal_sn, scal_ns, scal_bn, scal_nb, ite_iff, decide_eq_true_eq, decide_eq_false_iff_not, Bool.not_eq_true', Classical.not_not, ne_eq, not_false_eq_true, not_true_eq_false, forall_const, true_implies, false_implies, imp_self, sizeLine_eq, Nat.reduceLeDiff, reduceCtorEq, decide_true, decide_false]
  rcases h with ⟨⟨t, ty, kt⟩, k⟩ | ⟨b, dx2, lo2, hi2, rfl, hs2, k⟩
  · exact ⟨t, ty, false, kt, fun h => (by cases h), fun _ => k⟩
  · refine ⟨_, T.ci_Stretch.ty hs2, true, kit_self, fun _ => ?_, fun h => absurd rfl h⟩
    refine ⟨b, rfl, dx2, _, hs2, _, lkLow, scalO, fun e => ⟨b, rfl, dx2, _, hs2, _, lkHigh, scalO, ?_⟩, fun e => ?_⟩
    · have e := ov_inj e
      have : decide (ov hi = ov hi2) = decide (lo = lo2 ∧ hi = hi2) := by
        by_cases c : hi = hi2
        · simp [c, e]
        · have c2 : ¬ ov hi = ov hi2 := fun z => c (ov_inj z)
          simp [c, c2]
      rw [this]; exact k
    · rw [decide_eq_false (fun z => e (by rw [z.1]))] at k; exact k

/-! ### spreads compared, told -/
/-- v is the stretch of q -/
def StV (K : PySem.W.Frag) (H : Hp) (v : V) (q : PP) : Prop := ∃ p dx, v = .ref p ∧ SAt K H p dx q.1 q.2
theorem StV.uniq {H : Hp} {v : V} {q q' : PP} (h : StV K H v q) (h' : StV K H v q') : q = q' := by
  obtain ⟨p, dx, rfl, h⟩ := h
  obtain ⟨p', dx', e, h'⟩ := h'
  cases e
  have h2 := Option.some.inj (h.symm.trans h')
  simp only [HO.ins.injEq, List.cons.injEq, Prod.mk.injEq, true_and, and_true] at h2
  exact Prod.ext (ov_inj h2.2.1) (ov_inj h2.2.2)
noncomputable def sameV (K : PySem.W.Frag) (H : Hp) (u v : V) : Bool := @decide (∃ q, StV K H u q ∧ StV K H v q) (Classical.propDecidable _)
theorem sameV_iff {H : Hp} {u v : V} : sameV K H u v = true ↔ ∃ q, StV K H u q ∧ StV K H v q := @decide_eq_true_iff _ (Classical.propDecidable _)
theorem sameV_at {H : Hp} {u v : V} {q q' : PP} (h : StV K H u q) (h' : StV K H v q') : sameV K H u v = decide (q.1 = q'.1 ∧ q.2 = q'.2) := by
  rw [Bool.eq_iff_iff, sameV_iff, decide_eq_true_eq]
  constructor
  · rintro ⟨x, h1, h2⟩
    rw [h.uniq h1, h'.uniq h2]; exact ⟨rfl, rfl⟩
  · rintro ⟨e1, e2⟩
    have : q = q' := Prod.ext e1 e2
    subst this
    exact ⟨q, h, h'⟩
theorem SAll.allEq {H : Hp} {zs ws : List V} {rs qs : List PP} (h : SAll K H zs rs) (h' : SAll K H ws qs) : Iz.allEq (sameV K H) zs ws = decide (rs = qs) := by
  induction h generalizing ws qs with
  | nil =>
    cases h' with
    | nil => rfl
    | cons e t => simp [Iz.allEq]
  | @cons a dx q xs ps e t ih =>
    cases h' with
    | nil => simp [Iz.allEq]
    | @cons b dy q' ys qs e' t' =>
      have := ih t'
      have s := sameV_at (K := K) (u := .ref a) (v := .ref b) ⟨a, dx, rfl, e⟩ ⟨b, dy, rfl, e'⟩
      unfold Iz.allEq at this ⊢
      simp only [List.zip_cons_cons, List.all_cons, List.length_cons]
      rw [s, Bool.and_assoc, show ((xs.length + 1 == ys.length + 1) = (xs.length == ys.length)) by simp, this]
      by_cases c : q = q'
      · subst c; simp
      · have c2 : ¬ (q.1 = q'.1 ∧ q.2 = q'.2) := fun z => c (Prod.ext z.1 z.2)
        simp [c, c2]
theorem row_eq {H : Hp} {a b : Addr} {zs ws : List V} {rs qs : List PP} {Q : VK} (ha : H a = some (.tup zs)) (hb : H b = some (.tup ws)) (h : SAll K H zs rs) (h' : SAll K H ws qs) (T : Txt K mg) (k : Q (.bl (decide (rs = qs))) H) : rEqTo K (ga K "Stretch") (spSEq K) E0 (.ref a) (.ref b) H Q := by
  refine ⟨a, b, zs, ws, rfl, rfl, ha, hb, sameV K H, fun u hu v hv => ?_, by rw [h.allEq h']; exact k⟩
  obtain ⟨i, hi⟩ := List.getElem?_of_mem hu
  obtain ⟨j, hj⟩ := List.getElem?_of_mem hv
  obtain ⟨p, dx, q, rfl, hq, hp⟩ := h.get hi
  obtain ⟨p', dy, q', rfl, hq', hp'⟩ := h'.get hj
  have s := sameV_at (K := K) (u := .ref p) (v := .ref p') ⟨p, dx, rfl, hp⟩ ⟨p', dy, rfl, hp'⟩
  refine ⟨fun e => ?_, ⟨p, p', rfl, rfl⟩, own_op hp (T.ci_Stretch.ty hp') notFirst_self ⟨p, .ref p', rfl, dx, q.1, q.2, hp, .inr ⟨p', dy, q'.1, q'.2, rfl, hp', _, rfl, by rw [s], rfl⟩⟩⟩
  cases e
  rw [sameV_iff]
  exact ⟨q, ⟨p, dx, rfl, hp⟩, ⟨p, dx, rfl, hp⟩⟩
/-- y is no Spread -/
def NoP (K : PySem.W.Frag) (H : Hp) (y : V) : Prop := ∃ t, TyX K H y t ∧ PySem.W.kitOne K t (.ref (ga K "Spread")) = some false
def spPEq (K : PySem.W.Frag) : Sp := fun vs H Q _ => ∃ a y, vs = [.ref a, y] ∧ ∃ dx row rs, SprAt K H a dx row rs ∧ ((NoP K H y ∧ Q (.bl false) H) ∨ ∃ b dx2 row2 rs2, y = .ref b ∧ SprAt K H b dx2 row2 rs2 ∧ Q (.bl (decide (rs = rs2))) H)
theorem o_Spread___eq__ (T : Txt K mg) : OkM P w K mg base CX0 5 "Spread" "__eq__" ["self", "other"] [] (spPEq K) := by
  have o_Stretch___eq__ := o_Stretch___eq__ (P := P) (w := w) (base := base) T
  obtain ⟨f, fd, M, F⟩ := T.d_Spread___eq__
  refine ⟨f, fd, M, b_Spread___eq__ F, F.ok (CX := CX0) sc_Spread___eq__ (fun vs H Q E h => ?_) (fun cdv A outer s H vs Q E hr h => ?_)⟩
  · first | (obtain ⟨_, rfl, _⟩ := h; rfl) | (obtain ⟨_, _, rfl, _⟩ := h; rfl) | (obtain ⟨_, _, _, rfl, _⟩ := h; rfl) | (obtain ⟨_, _, _, _, rfl, _⟩ := h; rfl) | (obtain ⟨_, _, _, _, _, rfl, _⟩ := h; rfl) | (obtain ⟨_, _, _, _, _, _, rfl, _⟩ := h; rfl) | (obtain ⟨_, _, _, _, _, _, _, rfl, _⟩ := h; rfl)
  have hu64 := hr.units
  refine ⟨_, PSs.nox (pss_one (ps_ret (pe_and (pe_callB call_isOw (by rfl) T.m_isinstance (by decide +kernel) (pa_cons (pv 1) (pa_cons ((pe_glob (v := .ref (ga K "Spread")) (by rfl) T.g_Spread rfl)) pa_nil))) (pe_one (pe_cmpR (op_eqTo o_Stretch___eq__ (hr.mono (by decide)) pass0) (pe_fldN T.c_Spread T.na_Spread__row (pv 0)) (pe_fldN T.c_Spread T.na_Spread__row (pv 1)) (nomark _)))))), ?_⟩
  obtain ⟨a, y, rfl, dx, row, rs, hS, h⟩ := h
  obtain ⟨zs, hr, hz⟩ := hS.row
  have h0 := hS.at_
  simp only [exists_and_left, h0, lkRow, rMax2, tYes, calmS, tDNew, rInDN, rIxDN, rSetDN, tPop, rTupN, rMax, rMin, rSum, rAny, rSorted, rRepN, tSl, tPart, tNoPart, rSlLN, rSlG, rCatG, rOwnB, LamX.tLam3b, rListT, rRepr, tXf, tMtS, cx_K, Value.ref.injEq, HO.xd.injEq, lk0, tSeq, tPar3, tPar, tCons, tNil, tVar, tC, tAsg, gName, gCons, gNil, gTupN, gSub, tOp, rI, rI0, rU, tTest, rNe, rEq, rIxTN, rIxLN, rLenL, rLenT, rIntI, rIntB, rAbs, rSetLN, tTruL, tRaiseX, rIsTy, rIsOw, ixN0, ixN1, tRet, tIf, tIfS, tNext, tBreak, tCont, tDrop, tTupN, tLstN, tUn, tCB, tCall, tNot, tAnd, tOr, tB, tAndV, tOrV, tNotV, tChain, tApp, LamX.tLam, tRevLN, rCatN, rInTN, rInLN, flatV, inV, List.all_cons, List.all_nil, List.any_cons, List.any_nil, Bool.and_self, Bool.and_true, if_true, Bool.false_eq_true, if_false, tMt, tFldN, tSto, HO.ins.injEq, lkh, List.drop_zero, List.drop_succ_cons, List.drop_nil, rListS, wipe, L2.start, List.map_cons, List.map_nil, List.length_cons, List.length_nil, List.replicate, List.cons_append, List.nil_append, List.append_nil, Nat.reduceAdd, Nat.reduceSub, Nat.zero_add, List.replicate_succ, List.replicate_zero, List.getElem?_cons_zero, List.getElem?_cons_succ, List.set_cons_zero, List.set_cons_succ, Option.some.injEq, V.int.injEq, V.bl.injEq, V.ref.injEq, V.str.injEq, V.ty.injEq, List.cons.injEq, HO.tup.injEq, HO.lst.injEq, and_true, true_and, and_assoc, exists_eq_left, exists_eq_left', exists_and_left, exists_eq', atI0, atI1, atI2, atI3, Int.cast_ofNat_Int, Int.reduceToNat, scal_ii, scal_in, scal_ni, scal_nn, scal_bb, scal_ss, scal_sn, scal_ns, scal_bn, scal_nb, ite_iff, decide_eq_true_eq, decide_eq_false_iff_not, Bool.not_eq_true', Classical.not_not, ne_eq, not_false_eq_true, not_true_eq_false, forall_const, true_implies, false_implies, imp_self, sizeLine_eq, Nat.reduceLeDiff, reduceCtorEq, decide_true, decide_false]
  rcases h with ⟨⟨t, ty, kt⟩, k⟩ | ⟨b, dx2, row2, rs2, rfl, hS2, k⟩
  · exact ⟨t, ty, false, kt, fun h => (by cases h), fun _ => k⟩
  · obtain ⟨ws, hr2, hz2⟩ := hS2.row
    exact ⟨_, T.ci_Spread.ty hS2.at_, true, kit_self, fun _ => ⟨b, rfl, dx2, _, hS2.at_, _, lkRow, row_eq hr hr2 hz hz2 T k⟩, fun h => absurd rfl h⟩
def spTolds (K : PySem.W.Frag) : Sp := fun vs H Q _ => ∃ a, vs = [.ref a] ∧ ∃ dx row rs, SprAt K H a dx row rs ∧ ∀ p zs H', H p = none → Same H H' → H' p = some (.lst zs) → SAll K H' zs rs → Q (.ref p) H'
theorem o_Spread_told (T : Txt K mg) : OkM P w K mg base CX0 2 "Spread" "told" ["self"] [] (spTolds K) := by
  obtain ⟨f, fd, M, F⟩ := T.d_Spread_told
  refine ⟨f, fd, M, b_Spread_told F, F.ok (CX := CX0) sc_Spread_told (fun vs H Q E h => ?_) (fun cdv A outer s H vs Q E hr h => ?_)⟩
  · first | (obtain ⟨_, rfl, _⟩ := h; rfl) | (obtain ⟨_, _, rfl, _⟩ := h; rfl) | (obtain ⟨_, _, _, rfl, _⟩ := h; rfl) | (obtain ⟨_, _, _, _, rfl, _⟩ := h; rfl) | (obtain ⟨_, _, _, _, _, rfl, _⟩ := h; rfl) | (obtain ⟨_, _, _, _, _, _, rfl, _⟩ := h; rfl) | (obtain ⟨_, _, _, _, _, _, _, rfl, _⟩ := h; rfl)
  have hu64 := hr.units
  refine ⟨_, PSs.nox (pss_one (ps_ret (pe_callTy call_listT (by rfl) T.m_list (by decide +kernel) (pa_cons (pe_fldN T.c_Spread T.na_Spread__row (pv 0)) pa_nil)))), ?_⟩
  obtain ⟨a, rfl, dx, row, rs, hS, k⟩ := h
  obtain ⟨zs, hr, hz⟩ := hS.row
  have h0 := hS.at_
  simp only [exists_and_left, h0, lkRow, rMax2, tYes, calmS, tDNew, rInDN, rIxDN, rSetDN, tPop, rTupN, rMax, rMin, rSum, rAny, rSorted, rRepN, tSl, tPart, tNoPart, rSlLN, rSlG, rCatG, rOwnB, LamX.tLam3b, rListT, rRepr, tXf, tMtS, cx_K, Value.ref.injEq, HO.xd.injEq, lk0, tSeq, tPar3, tPar, tCons, tNil, tVar, tC, tAsg, gName, gCons, gNil, gTupN, gSub, tOp, rI, rI0, rU, tTest, rNe, rEq, rIxTN, rIxLN, rLenL, rLenT, rIntI, rIntB, rAbs, rSetLN, tTruL, tRaiseX, rIsTy, rIsOw, ixN0, ixN1, tRet, tIf, tIfS, tNext, tBreak, tCont, tDrop, tTupN, tLstN, tUn, tCB, tCall, tNot, tAnd, tOr, tB, tAndV, tOrV, tNotV, tChain, tApp, LamX.tLam, tRevLN, rCatN, rInTN, rInLN, flatV, inV, List.all_cons, List.all_nil, List.any_cons, List.any_nil, Bool.and_self, Bool.and_true, if_true, Bool.false_eq_true, if_false, tMt, tFldN, tSto, HO.ins.injEq, lkh, List.drop_zero, List.drop_succ_cons, List.drop_nil, rListS, wipe, L2.start, List.map_cons, List.map_nil, List.length_cons, List.length_nil, List.replicate, List.cons_append, List.nil_append, List.append_nil, Nat.reduceAdd, Nat.reduceSub, Nat.zero_add, List.replicate_succ, List.replicate_zero, List.getElem?_cons_zero, List.getElem?_cons_succ, List.set_cons_zero, List.set_cons_succ, Option.some.injEq, V.int.injEq, V.bl.injEq, V.ref.injEq, V.str.injEq, V.ty.injEq, List.cons.injEq, HO.tup.injEq, HO.lst.injEq, and_true, true_and, and_assoc, exists_eq_left, exists_eq_left', exists_and_left, exists_eq', atI0, atI1, atI2, atI3, Int.cast_ofNat_Int, Int.reduceToNat, scal_ii, scal_in, scal_ni, scal_nn, scal_bb, scal_ss, scal_sn, scal_ns, scal_bn, scal_nb, ite_iff, decide_eq_true_eq, decide_eq_false_iff_not, Bool.not_eq_true', Classical.not_not, ne_eq, not_false_eq_true, not_true_eq_false, forall_const, true_implies, false_implies, imp_self, sizeLine_eq, Nat.reduceLeDiff, reduceCtorEq, decide_true, decide_false]
  exact ⟨zs, hr, fun p H1 n1 s1 h1 => k p zs H1 n1 s1 h1 (hz.mono s1)⟩
/-- what is in a row -/
def hasR (rs : List PP) : V → Bool
  | .int i => has rs i
  | _ => false
def spPHolds (K : PySem.W.Frag) : Sp := fun vs H Q _ => ∃ a x, vs = [.ref a, x] ∧ ∃ dx row rs, SprAt K H a dx row rs ∧ rs.length ≤ 1000 ∧ (∀ H', Same H H' → Wh K H' x) ∧ ∀ H', Same H H' → Q (.bl (hasR rs x)) H'
theorem o_Spread_holds (T : Txt K mg) : OkM P w K mg base CX0 3 "Spread" "holds" ["self", "number"] [] (spPHolds K) := by
  have o_Stretch_holds := o_Stretch_holds (P := P) (w := w) (base := base) T
  obtain ⟨f, fd, M, F⟩ := T.d_Spread_holds
  refine ⟨f, fd, M, b_Spread_holds F, F.ok (CX := CX0) sc_Spread_holds (fun vs H Q E h => ?_) (fun cdv A outer s H vs Q E hr h => ?_)⟩
  · first | (obtain ⟨_, rfl, _⟩ := h; rfl) | (obtain ⟨_, _, rfl, _⟩ := h; rfl) | (obtain ⟨_, _, _, rfl, _⟩ := h; rfl) | (obtain ⟨_, _, _, _, rfl, _⟩ := h; rfl) | (obtain ⟨_, _, _, _, _, rfl, _⟩ := h; rfl) | (obtain ⟨_, _, _, _, _, _, rfl, _⟩ := h; rfl) | (obtain ⟨_, _, _, _, _, _, _, rfl, _⟩ := h; rfl)
  have hu64 := hr.units
  refine ⟨_, PSs.nox (pss_one (ps_ret (pe_callB (cr_any rfl) (by rfl) T.m_any (by decide +kernel) (pa_cons (pe_lc (own := [("stretch", 2)]) (g := gName 2) (by rfl) sc_Spread_holds.nd (pi_tup (pe_fldN T.c_Spread T.na_Spread__row (pv 0))) (blkOk_by (N := ["self", "number", "stretch"]) (sc := defScope s_Spread_holds) (own := [("stretch", 2)]) (by decide +kernel)) (fun _ _ _ _ _ => pg_name (i := 2) sc_Spread_holds.nd rfl (Or.inl rfl)) (fun _ _ _ _ _ => pts_nil) (fun _ _ _ _ _ => pmtK (K := K) rfl (j := 0) o_Stretch_holds T.c_Stretch (pv 2) (by decide) (hr.mono (by decide)) pass0 (pa_cons (pv 1) pa_nil))) pa_nil)))), ?_⟩
  obtain ⟨a, x, rfl, dx, row, rs, hS, hl, W, k⟩ := h
  obtain ⟨zs, hr, hz⟩ := hS.row
  have h0 := hS.at_
  simp only [exists_and_left, h0, lkRow, rMax2, tYes, calmS, tDNew, rInDN, rIxDN, rSetDN, tPop, rTupN, rMax, rMin, rSum, rAny, rSorted, rRepN, tSl, tPart, tNoPart, rSlLN, rSlG, rCatG, rOwnB, LamX.tLam3b, rListT, rRepr, tXf, tMtS, cx_K, Value.ref.injEq, HO.xd.injEq, lk0, tSeq, tPar3, tPar, tCons, tNil, tVar, tC, tAsg, gName, gCons, gNil, gTupN, gSub, tOp, rI, rI0, rU, tTest, rNe, rEq, rIxTN, rIxLN, rLenL, rLenT, rIntI, rIntB, rAbs, rSetLN, tTruL, tRaiseX, rIsTy, rIsOw, ixN0, ixN1, tRet, tIf, tIfS, tNext, tBreak, tCont, tDrop, tTupN, tLstN, tUn, tCB, tCall, tNot, tAnd, tOr, tB, tAndV, tOrV, tNotV, tChain, tApp, LamX.tLam, tRevLN, rCatN, rInTN, rInLN, flatV, inV, List.all_cons, List.all_nil, List.any_cons, List.any_nil, Bool.and_self, Bool.and_true, if_true, Bool.false_eq_true, if_false, tMt, tFldN, tSto, HO.ins.injEq, lkh, List.drop_zero, List.drop_succ_cons, List.drop_nil, rListS, wipe, L2.start, List.map_cons, List.map_nil, List.length_cons, List.length_nil, List.replicate, List.cons_append, List.nil_append, List.append_nil, Nat.reduceAdd, Nat.reduceSub, Nat.zero_add, List.replicate_succ, List.replicate_zero, List.getElem?_cons_zero, List.getElem?_cons_succ, List.set_cons_zero, List.set_cons_succ, Option.some.injEq, V.int.injEq, V.bl.injEq, V.ref.injEq, V.str.injEq, V.ty.injEq, List.cons.injEq, HO.tup.injEq, HO.lst.injEq, and_true, true_and, and_assoc, exists_eq_left, exists_eq_left', exists_and_left, exists_eq', atI0, atI1, atI2, atI3, Int.cast_ofNat_Int, Int.reduceToNat, scal_ii, scal_in, scal_ni, scal_nn, scal_bb, scal_ss, scal_sn, scal_ns, scal_bn, scal_nb, ite_iff, decide_eq_true_eq, decide_eq_false_iff_not, Bool.not_eq_true', Classical.not_not, ne_eq, not_false_eq_true, not_true_eq_false, forall_const, true_implies, false_implies, imp_self, sizeLine_eq, Nat.reduceLeDiff, reduceCtorEq, decide_true, decide_false]
  refine st_lcS (fun R r => (by simp only [exists_and_left, h0, lkRow, rMax2, tYes, calmS, tDNew, rInDN, rIxDN, rSetDN, tPop, rTupN, rMax, rMin, rSum, rAny, rSorted, rRepN, tSl, tPart, tNoPart, rSlLN, rSlG, rCatG, rOwnB, LamX.tLam3b, rListT, rRepr, tXf, tMtS, cx_K, Value.ref.injEq, HO.xd.injEq, lk0, tSeq, tPar3, tPar, tCons, tNil, tVar, tC, tAsg, gName, gCons, gNil, gTupN, gSub, tOp, rI, rI0, rU, tTest, rNe, rEq, rIxTN, rIxLN, rLenL, rLenT, rIntI, rIntB, rAbs, rSetLN, tTruL, tRaiseX, rIsTy, rIsOw, ixN0, ixN1, tRet, tIf, tIfS, tNext, tBreak, tCont, tDrop, tTupN, tLstN, tUn, tCB, tCall, tNot, tAnd, tOr, tB, tAndV, tOrV, tNotV, tChain, tApp, LamX.tLam, tRevLN, rCatN, rInTN, rInLN, flatV, inV, List.all_cons, List.all_nil, List.any_cons, List.any_nil, Bool.and_self, Bool.and_true, if_true, Bool.false_eq_true, if_false, tMt, tFldN, tSto, HO.ins.injEq, lkh, List.drop_zero, List.drop_succ_cons, List.drop_nil, rListS, wipe, L2.start, List.map_cons, List.map_nil, List.length_cons, List.length_nil, List.replicate, List.cons_append, List.nil_append, List.append_nil, Nat.reduceAdd, Nat.reduceSub, Nat.zero_add, List.replicate_succ, List.replicate_zero, List.getElem?_cons_zero, List.getElem?_cons_succ, List.set_cons_zero, List.set_cons_succ, Option.some.injEq, V.int.injEq, V.bl.injEq, V.ref.injEq, V.str.injEq, V.ty.injEq, List.cons.injEq, HO.tup.injEq, HO.lst.injEq, and_true, true_and, and_assoc, exists_eq_left, exists_eq_left', exists_and_left, exists_eq', atI0, atI1, atI2, atI3, Int.cast_ofNat_Int, Int.reduceToNat, scal_ii, scal_in, scal_ni, scal_nn, scal_bb, scal_ss, scal_sn, scal_ns, scal_bn, scal_nb, ite_iff, decide_eq_true_eq, decide_eq_false_iff_not, Bool.not_eq_true', Classical.not_not, ne_eq, not_false_eq_true, not_true_eq_false, forall_const, true_implies, false_implies, imp_self, sizeLine_eq, Nat.reduceLeDiff, reduceCtorEq, decide_true, decide_false]; exact r)) hr hz hl (fun q => .bl (hasV q.1 q.2 x)) (fun b dx2 q H1 R R2 hq hb s1 kk => ?_) (fun D H1 s1 h1 => ?_)
  · have kk := kk H1 (fun _ _ h => h)
    simp only [spHolds, exists_and_left, hb, lkLow, lkHigh, lkN_holds, lkN_turned, lkN_common, lkN_count, lkN_first, lkN_final, lkN_nth, lkN_below, lkN_moved, rMax2, tYes, calmS, tDNew, rInDN, rIxDN, rSetDN, tPop, rTupN, rMax, rMin, rSum, rAny, rSorted, rRepN, tSl, tPart, tNoPart, rSlLN, rSlG, rCatG, rOwnB, LamX.tLam3b, rListT, rRepr, tXf, tMtS, cx_K, Value.ref.injEq, HO.xd.injEq, lk0, tSeq, tPar3, tPar, tCons, tNil, tVar, tC, tAsg, gName, gCons, gNil, gTupN, gSub, tOp, rI, rI0, rU, tTest, rNe, rEq, rIxTN, rIxLN, rLenL, rLenT, rIntI, rIntB, rAbs, rSetLN, tTruL, tRaiseX, rIsTy, rIsOw, ixN0, ixN1, tRet, tIf, tIfS, tNext, tBreak, tCont, tDrop, tTupN, tLstN, tUn, tCB, tCall, tNot, tAnd, tOr, tB, tAndV, tOrV, tNotV, tChain, tApp, LamX.tLam, tRevLN, rCatN, rInTN, rInLN, flatV, inV, List.all_cons, List.all_nil, List.any_cons, List.any_nil, Bool.and_self, Bool.and_true, if_true, Bool.false_eq_true, if_false, tMt, tFldN, tSto, HO.ins.injEq, lkh, List.drop_zero, List.drop_succ_cons, List.drop_nil, rListS, wipe, L2.start, List.map_cons, List.map_nil, List.length_cons, List.length_nil, List.replicate, List.cons_append, List.nil_append, List.append_nil, Nat.reduceAdd, Nat.reduceSub, Nat.zero_add, List.replicate_succ, List.replicate_zero, List.getElem?_cons_zero, List.getElem?_cons_succ, List.set_cons_zero, List.set_cons_succ, Option.some.injEq, V.int.injEq, V.bl.injEq, V.ref.injEq, V.str.injEq, V.ty.injEq, List.cons.injEq, HO.tup.injEq, HO.lst.injEq, and_true, true_and, and_assoc, exists_eq_left, exists_eq_left', exists_and_left, exists_eq', atI0, atI1, atI2, atI3, Int.cast_ofNat_Int, Int.reduceToNat, scal_ii, scal_in, scal_ni, scal_nn, scal_bb, scal_ss, scal_sn, scal_ns, scal_bn, scal_nb, ite_iff, decide_eq_true_eq, decide_eq_false_iff_not, Bool.not_eq_true', Classical.not_not, ne_eq, not_false_eq_true, not_true_eq_false, forall_const, true_implies, false_implies, imp_self, sizeLine_eq, Nat.reduceLeDiff, reduceCtorEq, decide_true, decide_false]
    exact ⟨dx2, _, _, hb, W _ s1, kk⟩
  · refine ⟨D, rfl, rs.map fun q => hasV q.1 q.2 x, SqL.of ?_, ?_⟩
    · rw [h1, List.map_map]; rfl
    · have : (rs.map fun q => hasV q.1 q.2 x).any id = hasR rs x := by
        rw [List.any_map]
        cases x with
        | int i => rfl
        | _ => simp [hasR, hasV, Function.comp_def]
      rw [this]; exact k H1 s1
def spBounds (K : PySem.W.Frag) : Sp := fun vs H Q _ => ∃ a, vs = [.ref a] ∧ ∃ dx row rs, SprAt K H a dx row rs ∧ ∀ p H', Same H H' → H' p = some (.tup [ov ((rs.head?.map (·.1)).getD none), ov ((rs.getLast?.map (·.2)).getD none)]) → Q (.ref p) H'
theorem o_Spread_bounds (T : Txt K mg) : OkM P w K mg base CX0 2 "Spread" "bounds" ["self"] [] (spBounds K) := by
  obtain ⟨f, fd, M, F⟩ := T.d_Spread_bounds
  refine ⟨f, fd, M, b_Spread_bounds F, F.ok (CX := CX0) sc_Spread_bounds (fun vs H Q E h => ?_) (fun cdv A outer s H vs Q E hr h => ?_)⟩
  · first | (obtain ⟨_, rfl, _⟩ := h; rfl) | (obtain ⟨_, _, rfl, _⟩ := h; rfl) | (obtain ⟨_, _, _, rfl, _⟩ := h; rfl) | (obtain ⟨_, _, _, _, rfl, _⟩ := h; rfl) | (obtain ⟨_, _, _, _, _, rfl, _⟩ := h; rfl) | (obtain ⟨_, _, _, _, _, _, rfl, _⟩ := h; rfl) | (obtain ⟨_, _, _, _, _, _, _, rfl, _⟩ := h; rfl)
  have hu64 := hr.units
  refine ⟨_, PSs.nox (pss_one (ps_ret (pe_ifExp (pt_truth (pe_fldN T.c_Spread T.na_Spread__row (pv 0)) (by intro _; rfl)) (pe_tupN (pa_cons (pe_fldN T.c_Stretch T.na_Stretch_low (pe_ix ix_tupN (pe_fldN T.c_Spread T.na_Spread__row (pv 0)) (pe_int) (fun _ _ => rfl))) (pa_cons (pe_fldN T.c_Stretch T.na_Stretch_high (pe_ix ix_tupN (pe_fldN T.c_Spread T.na_Spread__row (pv 0)) (pe_un un_neg (pe_int)) (fun _ _ => rfl))) pa_nil))) (pe_tupN (pa_cons (pe_non) (pa_cons (pe_non) pa_nil)))))), ?_⟩
  obtain ⟨a, rfl, dx, row, rs, hS, k⟩ := h
  obtain ⟨zs, hr, hz⟩ := hS.row
  have h0 := hS.at_
  simp only [exists_and_left, h0, lkRow, rMax2, tYes, calmS, tDNew, rInDN, rIxDN, rSetDN, tPop, rTupN, rMax, rMin, rSum, rAny, rSorted, rRepN, tSl, tPart, tNoPart, rSlLN, rSlG, rCatG, rOwnB, LamX.tLam3b, rListT, rRepr, tXf, tMtS, cx_K, Value.ref.injEq, HO.xd.injEq, lk0, tSeq, tPar3, tPar, tCons, tNil, tVar, tC, tAsg, gName, gCons, gNil, gTupN, gSub, tOp, rI, rI0, rU, tTest, rNe, rEq, rIxTN, rIxLN, rLenL, rLenT, rIntI, rIntB, rAbs, rSetLN, tTruL, tRaiseX, rIsTy, rIsOw, ixN0, ixN1, tRet, tIf, tIfS, tNext, tBreak, tCont, tDrop, tTupN, tLstN, tUn, tCB, tCall, tNot, tAnd, tOr, tB, tAndV, tOrV, tNotV, tChain, tApp, LamX.tLam, tRevLN, rCatN, rInTN, rInLN, flatV, inV, List.all_cons, List.all_nil, List.any_cons, List.any_nil, Bool.and_self, Bool.and_true, if_true, Bool.false_eq_true, if_false, tMt, tFldN, tSto, HO.ins.injEq, lkh, List.drop_zero, List.drop_succ_cons, List.drop_nil, rListS, wipe, L2.start, List.map_cons, List.map_nil, List.length_cons, List.length_nil, List.replicate, List.cons_append, List.nil_append, List.append_nil, Nat.reduceAdd, Nat.reduceSub, Nat.zero_add, List.replicate_succ, List.replicate_zero, List.getElem?_cons_zero, List.getElem?_cons_succ, List.set_cons_zero, List.set_cons_succ, Option.some.injEq, V.int.injEq, V.bl.injEq, V.ref.injEq, V.str.injEq, V.ty.injEq, List.cons.injEq, HO.tup.injEq, HO.lst.injEq, and_true, true_and, and_assoc, exists_eq_left, exists_eq_left', exists_and_left, exists_eq', atI0, atI1, atI2, atI3, Int.cast_ofNat_Int, Int.reduceToNat, scal_ii, scal_in, scal_ni, scal_nn, scal_bb, scal_ss, scal_sn, scal_ns, scal_bn, scal_nb, ite_iff, decide_eq_true_eq, decide_eq_false_iff_not, Bool.not_eq_true', Classical.not_not, ne_eq, not_false_eq_true, not_true_eq_false, forall_const, true_implies, false_implies, imp_self, sizeLine_eq, Nat.reduceLeDiff, reduceCtorEq, decide_true, decide_false]
  refine ⟨!zs.isEmpty, .inr (.inl ⟨zs, SqT.of hr, rfl⟩), fun e => ?_, fun e => ?_⟩
  · have hl := hz.length
    have n0 : 0 < zs.length := by cases zs with | nil => cases e | cons _ _ => simp
    have g0 : zs[0]? = some (zs[0]'n0) := List.getElem?_eq_getElem _
    have gl : zs[zs.length - 1]? = some (zs[zs.length - 1]'(by omega)) := List.getElem?_eq_getElem _
    obtain ⟨b, dx1, q, e1, hq, hb⟩ := hz.get g0
    obtain ⟨c, dx2, q2, e2, hq2, hc⟩ := hz.get gl
    rw [e1] at g0
    rw [e2] at gl
    refine ⟨_, hr, _, atI_ok (by decide) g0, b, rfl, dx1, _, hb, _, lkLow, _, hr, _, atI_lastG gl, c, rfl, dx2, _, hc, _, lkHigh, fun p H1 _ s1 h1 => k p H1 s1 ?_⟩
    rw [h1, List.head?_eq_getElem?, hq, List.getLast?_eq_getElem?, ← hl, hq2]
    rfl
  · have : rs = [] := by
      have hl := hz.length
      cases zs with
      | nil => cases rs with | nil => rfl | cons _ _ => simp at hl
      | cons _ _ => exact absurd rfl e
    subst this
    exact fun p H1 _ s1 h1 => k p H1 s1 h1

end
end Iz
/-! k04_f -/
set_option Elab.async false
set_option linter.all false
set_option maxRecDepth 100000
set_option maxHeartbeats 4000000
namespace Iz
open PySem PySem.Spec PyProof.Rows L2
open He (ga)
local macro_rules | `(tactic| walk_at "wp") => `(tactic| simp only [rMax2, tYes, calmS, tDNew, rInDN, rIxDN, rSetDN, tPop, rTupN, rMax, rMin, rSum, rAny, rSorted, rRepN, tSl, tPart, tNoPart, rSlLN, rSlG, rCatG, rOwnB, LamX.tLam3b, rListT, rRepr, tXf, tMtS, cx_K, Value.ref.injEq, HO.xd.injEq, lk0, tSeq, tPar3, tPar, tCons, tNil, tVar, tC, tAsg, gName, gCons, gNil, gTupN, gSub, tOp, rI, rI0, rU, tTest, rNe, rEq, rIxTN, rIxLN, rLenL, rLenT, rIntI, rIntB, rAbs, rSetLN, tTruL, tRaiseX, rIsTy, rIsOw, ixN0, ixN1, tRet, tIf, tIfS, tNext, tBreak, tCont, tDrop, tTupN, tLstN, tUn, tCB, tCall, tNot, tAnd, tOr, tB, tAndV, tOrV, tNotV, tChain, tApp, LamX.tLam, tRevLN, rCatN, rInTN, rInLN, flatV, inV, List.all_cons, List.all_nil, List.any_cons, List.any_nil, Bool.and_self, Bool.and_true, if_true, Bool.false_eq_true, if_false, tMt, tFldN, tSto, HO.ins.injEq, lkh, List.drop_zero, List.drop_succ_cons, List.drop_nil, rListS, wipe, L2.start, List.map_cons, List.map_nil, List.length_cons, List.length_nil, List.replicate, List.cons_append, List.nil_append, List.append_nil, Nat.reduceAdd, Nat.reduceSub, Nat.zero_add, List.replicate_succ, List.replicate_zero, List.getElem?_cons_zero, List.getElem?_cons_succ, List.set_cons_zero, List.set_cons_succ, Option.some.injEq, V.int.injEq, V.bl.injEq, V.ref.injEq, V.str.injEq, V.ty.injEq, List.cons.injEq, HO.tup.injEq, HO.lst.injEq, and_true, true_and, and_assoc, exists_eq_left, exists_eq_left', exists_and_left, exists_eq', atI0, atI1, atI2, atI3, Int.cast_ofNat_Int, Int.reduceToNat, scal_ii, scal_in, scal_ni, scal_nn, scal_bb, scal_ss, scal_sn, scal_ns, scal_bn, scal_nb, ite_iff, decide_eq_true_eq, decide_eq_false_iff_not, Bool.not_eq_true', Classical.not_not, ne_eq, not_false_eq_true, not_true_eq_false, forall_const, true_implies, false_implies, imp_self, sizeLine_eq, Nat.reduceLeDiff, reduceCtorEq, decide_true, decide_false])
section
variable {P : Program} {w : World} {K : PySem.W.Frag} {mg : Str → Option Value} {base : Heap}
/-! ### the law's draws -/
/-- the draws' state: a list of the cells and a count -/
def StA (H : Hp) (a c : Addr) : Prop := a ≠ c ∧ ∃ (n : Int) (cs : List Int), H a = some (.lst [.ref c, .int n]) ∧ H c = some (.lst (cs.map V.int)) ∧ cs.length ≤ 63
/-- all but the state stays -/
def Stp (a c : Addr) (H H' : Hp) : Prop := ∀ b o, H b = some o → b ≠ a → b ≠ c → H' b = some o
theorem Stp.refl {a c : Addr} {H : Hp} : Stp a c H H := fun _ _ h _ _ => h
theorem Stp.trans {a c : Addr} {H H1 H2 : Hp} (x : Stp a c H H1) (y : Stp a c H1 H2) : Stp a c H H2 := fun b o h h1 h2 => y b o (x b o h h1 h2) h1 h2
theorem Stp.of {a c : Addr} {H H1 : Hp} (x : Same H H1) : Stp a c H H1 := fun b o h _ _ => x b o h
theorem Put.stp {a c p : Addr} {H H1 : Hp} {o : HO} (x : Put H H1 p o) (h : p = a ∨ p = c) : Stp a c H H1 := fun b u e h1 h2 => by
  rw [x.2 b (by rcases h with h | h <;> (subst h; assumption))]; exact e
theorem StA.same {a c : Addr} {H H1 : Hp} (x : StA H a c) (h : Same H H1) : StA H1 a c := let ⟨n, m, cs, h1, h2, h3⟩ := x; ⟨n, m, cs, h _ _ h1, h _ _ h2, h3⟩
def spDraw : Sp := fun vs H Q _ => ∃ a c lim, vs = [.ref a, .int lim] ∧ StA H a c ∧ 1 ≤ lim ∧ lim.natAbs < 2 ^ 250 ∧ ∀ d H', 0 ≤ d → d < lim → StA H' a c → Stp a c H H' → Q (.int d) H'
theorem o__law_draw (T : Txt K mg) : OkF P w K mg base CX0 1 "_law_draw" ["_law_state", "_law_limit"] spDraw := by
  obtain ⟨f, fd, g, F⟩ := T.d__law_draw
  refine ⟨f, fd, g, F.kp, F.binds (fun _ _ _ _ _ _ us hl => match us, hl with | [_, _], _ => rfl), F.ok sc__law_draw (fun vs H Q E h => ?_) (fun cdv A outer s H vs Q E hr h => ?_)⟩
  · first | (obtain ⟨_, rfl, _⟩ := h; rfl) | (obtain ⟨_, _, rfl, _⟩ := h; rfl) | (obtain ⟨_, _, _, rfl, _⟩ := h; rfl) | (obtain ⟨_, _, _, _, rfl, _⟩ := h; rfl) | (obtain ⟨_, _, _, _, _, rfl, _⟩ := h; rfl) | (obtain ⟨_, _, _, _, _, _, rfl, _⟩ := h; rfl) | (obtain ⟨_, _, _, _, _, _, _, rfl, _⟩ := h; rfl)
  have hu64 := hr.units
  refine ⟨_, pss_cons (ps_set (i := 2) sc__law_draw.nd rfl (Or.inl rfl) (pe_ix ix_listN (pv 0) (pe_int) (fun _ _ => rfl)))
      (pss_cons (ps_if (pt_not (pt_truL (pv 2))) (pss_one (ps_ret (pe_int))) (pss_nil))
      (pss_cons (ps_set (i := 3) sc__law_draw.nd rfl (Or.inl rfl) (pe_op op_mod (pe_callTy call_intI (by rfl) T.m_int (by decide +kernel) (pa_cons (pe_ix ix_listN (pv 0) (pe_int) (fun _ _ => rfl)) pa_nil)) (pe_callB call_lenL (by rfl) T.m_len (by decide +kernel) (pa_cons (pv 2) pa_nil))))
      (pss_cons (ps_set (i := 4) sc__law_draw.nd rfl (Or.inl rfl) (pe_ix ix_listN (pv 2) (pv 3) (fun _ _ => rfl)))
      (pss_cons (ps_asg (pe_op op_add (pe_ix ix_listN (pv 0) (pe_int) (fun _ _ => rfl)) (pe_int)) (pg_sub (pv 0) (pe_int) set_listN))
      (pss_cons (ps_if (pt_cmpR op_ge (pv 4) (pe_op op_pow (pe_int) (pe_int)) (nomark _)) (pss_cons (ps_asg (pe_op op_fdivW (pv 4) (pv 1)) (pg_sub (pv 2) (pv 3) set_listN))
      (pss_one (ps_ret (pe_op op_mod (pe_callTy call_intI (by rfl) T.m_int (by decide +kernel) (pa_cons (pv 4) pa_nil)) (pv 1))))) (pss_nil))
      (pss_cons (ps_set (i := 5) sc__law_draw.nd rfl (Or.inl rfl) (pe_op op_mod (pe_callTy call_intI (by rfl) T.m_int (by decide +kernel) (pa_cons (pe_op op_add (pe_op op_add (pe_op op_mul (pv 4) (pe_int)) (pe_op op_mul (pe_ix ix_listN (pv 0) (pe_int) (fun _ _ => rfl)) (pe_int))) (pe_int)) pa_nil)) (pe_int)))
      (pss_one (ps_ret (pe_op op_mod (pe_op op_mod (pe_callTy call_intI (by rfl) T.m_int (by decide +kernel) (pa_cons (pe_op op_add (pe_op op_mul (pv 5) (pe_int)) (pe_op op_mul (pe_ix ix_listN (pv 0) (pe_int) (fun _ _ => rfl)) (pe_int))) pa_nil)) (pe_int)) (pv 1)))))))))), ?_⟩
  obtain ⟨a, c, lim, rfl, ⟨hac, n, cs, ha, hc, hl⟩, h1, hb, k⟩ := h
  simp only [ha, hc, exists_and_left, rMax2, tYes, calmS, tDNew, rInDN, rIxDN, rSetDN, tPop, rTupN, rMax, rMin, rSum, rAny, rSorted, rRepN, tSl, tPart, tNoPart, rSlLN, rSlG, rCatG, rOwnB, LamX.tLam3b, rListT, rRepr, tXf, tMtS, cx_K, Value.ref.injEq, HO.xd.injEq, lk0, tSeq, tPar3, tPar, tCons, tNil, tVar, tC, tAsg, gName, gCons, gNil, gTupN, gSub, tOp, rI, rI0, rU, tTest, rNe, rEq, rIxTN, rIxLN, rLenL, rLenT, rIntI, rIntB, rAbs, rSetLN, tTruL, tRaiseX, rIsTy, rIsOw, ixN0, ixN1, tRet, tIf, tIfS, tNext, tBreak, tCont, tDrop, tTupN, tLstN, tUn, tCB, tCall, tNot, tAnd, tOr, tB, tAndV, tOrV, tNotV, tChain, tApp, LamX.tLam, tRevLN, rCatN, rInTN, rInLN, flatV, inV, List.all_cons, List.all_nil, List.any_cons, List.any_nil, Bool.and_self, Bool.and_true, if_true, Bool.false_eq_true, if_false, tMt, tFldN, tSto, HO.ins.injEq, lkh, List.drop_zero, List.drop_succ_cons, List.drop_nil, rListS, wipe, L2.start, List.map_cons, List.map_nil, List.length_cons, List.length_nil, List.replicate, List.cons_append, List.nil_append, List.append_nil, Nat.reduceAdd, Nat.reduceSub, Nat.zero_add, List.replicate_succ, List.replicate_zero, List.getElem?_cons_zero, List.getElem?_cons_succ, List.set_cons_zero, List.set_cons_succ, Option.some.injEq, V.int.injEq, V.bl.injEq, V.ref.injEq, V.str.injEq, V.ty.injEq, List.cons.injEq, HO.tup.injEq, HO.lst.injEq, and_true, true_and, and_assoc, exists_eq_left, exists_eq_left', exists_and_left, exists_eq', atI0, atI1, atI2, atI3, Int.cast_ofNat_Int, Int.reduceToNat, scal_ii, scal_in, scal_ni, scal_nn, scal_bb, scal_ss, scal_sn, scal_ns, scal_bn, scal_nb, ite_iff, decide_eq_true_eq, decide_eq_false_iff_not, Bool.not_eq_true', Classical.not_not, ne_eq, not_false_eq_true, not_true_eq_false, forall_const, true_implies, false_implies, imp_self, sizeLine_eq, Nat.reduceLeDiff, reduceCtorEq, decide_true, decide_false]
  cases hcs : cs with
  | nil => 
    subst hcs
    exact ⟨fun _ => k 0 H (by decide) (by omega) ⟨hac, n, [], ha, hc, by decide⟩ Stp.refl, fun h => absurd rfl h⟩
  | cons z zs =>
    refine ⟨fun h => (by cases h), fun _ => ?_⟩
    rw [← hcs]
    rw [List.length_map]
    have hpos : 0 < cs.length := by rw [hcs]; simp
    have m1 := Int.emod_nonneg n (b := (cs.length : Int)) (by omega)
    have m2 := Int.emod_lt_of_pos n (b := (cs.length : Int)) (by omega)
    have hlt : (n % (cs.length : Int)).toNat < cs.length := by omega
    refine ⟨by omega, .int cs[(n % (cs.length : Int)).toNat], atI_ok m1 (by rw [List.getElem?_map, List.getElem?_eq_getElem hlt]; rfl), fun H2 p2 => ?_⟩
    have hc2 : H2 c = some (.lst (cs.map V.int)) := by rw [p2.2 c hac.symm]; exact hc
    have ha2 := p2.1
    simp only [hc2, ha2, exists_and_left, rMax2, tYes, calmS, tDNew, rInDN, rIxDN, rSetDN, tPop, rTupN, rMax, rMin, rSum, rAny, rSorted, rRepN, tSl, tPart, tNoPart, rSlLN, rSlG, rCatG, rOwnB, LamX.tLam3b, rListT, rRepr, tXf, tMtS, cx_K, Value.ref.injEq, HO.xd.injEq, lk0, tSeq, tPar3, tPar, tCons, tNil, tVar, tC, tAsg, gName, gCons, gNil, gTupN, gSub, tOp, rI, rI0, rU, tTest, rNe, rEq, rIxTN, rIxLN, rLenL, rLenT, rIntI, rIntB, rAbs, rSetLN, tTruL, tRaiseX, rIsTy, rIsOw, ixN0, ixN1, tRet, tIf, tIfS, tNext, tBreak, tCont, tDrop, tTupN, tLstN, tUn, tCB, tCall, tNot, tAnd, tOr, tB, tAndV, tOrV, tNotV, tChain, tApp, LamX.tLam, tRevLN, rCatN, rInTN, rInLN, flatV, inV, List.all_cons, List.all_nil, List.any_cons, List.any_nil, Bool.and_self, Bool.and_true, if_true, Bool.false_eq_true, if_false, tMt, tFldN, tSto, HO.ins.injEq, lkh, List.drop_zero, List.drop_succ_cons, List.drop_nil, rListS, wipe, L2.start, List.map_cons, List.map_nil, List.length_cons, List.length_nil, List.replicate, List.cons_append, List.nil_append, List.append_nil, Nat.reduceAdd, Nat.reduceSub, Nat.zero_add, List.replicate_succ, List.replicate_zero, List.getElem?_cons_zero, List.getElem?_cons_succ, List.set_cons_zero, List.set_cons_succ, Option.some.injEq, V.int.injEq, V.bl.injEq, V.ref.injEq, V.str.injEq, V.ty.injEq, List.cons.injEq, HO.tup.injEq, HO.lst.injEq, and_true, true_and, and_assoc, exists_eq_left, exists_eq_left', exists_and_left, exists_eq', atI0, atI1, atI2, atI3, Int.cast_ofNat_Int, Int.reduceToNat, scal_ii, scal_in, scal_ni, scal_nn, scal_bb, scal_ss, scal_sn, scal_ns, scal_bn, scal_nb, ite_iff, decide_eq_true_eq, decide_eq_false_iff_not, Bool.not_eq_true', Classical.not_not, ne_eq, not_false_eq_true, not_true_eq_false, forall_const, true_implies, false_implies, imp_self, sizeLine_eq, Nat.reduceLeDiff, reduceCtorEq, decide_true, decide_false]
    refine ⟨⟨by decide, by decide, by decide⟩, fun _ => ⟨⟨by omega, log_lt hb (by decide) (by decide)⟩, _, by rw [List.length_map]; exact ixN_ok m1 m2, fun H3 p3 => ?_⟩, fun _ => ?_⟩
    · refine ⟨by omega, k _ H3 (Int.emod_nonneg _ (by omega)) (Int.emod_lt_of_pos _ (by omega)) ⟨hac, n + 1, cs.set (n % (cs.length : Int)).toNat (cs[(n % (cs.length : Int)).toNat] / lim), ?_, ?_, by rw [List.length_set]; exact hl⟩ ((p2.stp (.inl rfl)).trans (p3.stp (.inr rfl)))⟩
      · rw [p3.2 a hac]; exact ha2
      · rw [p3.1, List.map_set]
    · exact ⟨.inr ⟨by decide, by decide⟩, .inr ⟨by decide, by decide⟩, by decide, .inr ⟨by decide, by decide⟩, .inr ⟨by decide, by decide⟩, by decide, by omega,
        k _ H2 (Int.emod_nonneg _ (by omega)) (Int.emod_lt_of_pos _ (by omega)) ⟨hac, n + 1, cs, ha2, hc2, hl⟩ (p2.stp (.inl rfl))⟩
def spNum : Sp := fun vs H Q _ => ∃ a c most, vs = [.ref a, .int most] ∧ StA H a c ∧ 0 ≤ most ∧ most < 2 ^ 20 ∧ ∀ (d : Int) H', d.natAbs < 2 ^ 98 → StA H' a c → Stp a c H H' → Q (.int d) H'
theorem o__law_number (T : Txt K mg) : OkF P w K mg base CX0 2 "_law_number" ["_law_state", "_law_most"] spNum := by
  have o__law_draw := o__law_draw (P := P) (w := w) (base := base) T
  obtain ⟨f, fd, g, F⟩ := T.d__law_number
  refine ⟨f, fd, g, F.kp, F.binds (fun _ _ _ _ _ _ us hl => match us, hl with | [_, _], _ => rfl), F.ok sc__law_number (fun vs H Q E h => ?_) (fun cdv A outer s H vs Q E hr h => ?_)⟩
  · first | (obtain ⟨_, rfl, _⟩ := h; rfl) | (obtain ⟨_, _, rfl, _⟩ := h; rfl) | (obtain ⟨_, _, _, rfl, _⟩ := h; rfl) | (obtain ⟨_, _, _, _, rfl, _⟩ := h; rfl) | (obtain ⟨_, _, _, _, _, rfl, _⟩ := h; rfl) | (obtain ⟨_, _, _, _, _, _, rfl, _⟩ := h; rfl) | (obtain ⟨_, _, _, _, _, _, _, rfl, _⟩ := h; rfl)
  have hu64 := hr.units
  refine ⟨_, pss_cons (ps_if (pt_cmpR op_lt (pcl o__law_draw (hr.mono (by decide)) pass0 (pa_cons (pv 0) (pa_cons (pe_int) pa_nil))) (pe_int) (nomark _)) (pss_one (ps_ret (pe_op op_sub (pcl o__law_draw (hr.mono (by decide)) pass0 (pa_cons (pv 0) (pa_cons (pe_op op_add (pe_op op_mul (pe_int) (pv 1)) (pe_int)) pa_nil))) (pv 1)))) (pss_nil))
      (pss_cons (ps_set (i := 2) sc__law_number.nd rfl (Or.inl rfl) (pe_int))
      (pss_cons (ps_for PassesOwn.never rfl (pi_range1 rfl T.m_range (pa_cons (pe_int) pa_nil)) (pg_name (i := 3) sc__law_number.nd rfl (Or.inl rfl)) (pss_one (ps_set (i := 2) sc__law_number.nd rfl (Or.inl rfl) (pe_op op_add (pe_op op_mulW (pv 2) (pe_op op_pow (pe_int) (pe_int))) (pcl o__law_draw (hr.mono (by decide)) pass0 (pa_cons (pv 0) (pa_cons (pe_op op_pow (pe_int) (pe_int)) pa_nil)))))))
      (pss_one (ps_ret (pe_op op_mulW (pe_op op_add (pv 2) (pe_op op_pow (pe_int) (pe_int))) (pe_op op_sub (pe_int) (pe_op op_mul (pe_int) (pcl o__law_draw (hr.mono (by decide)) pass0 (pa_cons (pv 0) (pa_cons (pe_int) pa_nil)))))))))), ?_⟩
  obtain ⟨a, c, most, rfl, hS, h0, h1, k⟩ := h
  simp only [spDraw, exists_and_left, rMax2, tYes, calmS, tDNew, rInDN, rIxDN, rSetDN, tPop, rTupN, rMax, rMin, rSum, rAny, rSorted, rRepN, tSl, tPart, tNoPart, rSlLN, rSlG, rCatG, rOwnB, LamX.tLam3b, rListT, rRepr, tXf, tMtS, cx_K, Value.ref.injEq, HO.xd.injEq, lk0, tSeq, tPar3, tPar, tCons, tNil, tVar, tC, tAsg, gName, gCons, gNil, gTupN, gSub, tOp, rI, rI0, rU, tTest, rNe, rEq, rIxTN, rIxLN, rLenL, rLenT, rIntI, rIntB, rAbs, rSetLN, tTruL, tRaiseX, rIsTy, rIsOw, ixN0, ixN1, tRet, tIf, tIfS, tNext, tBreak, tCont, tDrop, tTupN, tLstN, tUn, tCB, tCall, tNot, tAnd, tOr, tB, tAndV, tOrV, tNotV, tChain, tApp, LamX.tLam, tRevLN, rCatN, rInTN, rInLN, flatV, inV, List.all_cons, List.all_nil, List.any_cons, List.any_nil, Bool.and_self, Bool.and_true, if_true, Bool.false_eq_true, if_false, tMt, tFldN, tSto, HO.ins.injEq, lkh, List.drop_zero, List.drop_succ_cons, List.drop_nil, rListS, wipe, L2.start, List.map_cons, List.map_nil, List.length_cons, List.length_nil, List.replicate, List.cons_append, List.nil_append, List.append_nil, Nat.reduceAdd, Nat.reduceSub, Nat.zero_add, List.replicate_succ, List.replicate_zero, List.getElem?_cons_zero, List.getElem?_cons_succ, List.set_cons_zero, List.set_cons_succ, Option.some.injEq, V.int.injEq, V.bl.injEq, V.ref.injEq, V.str.injEq, V.ty.injEq, List.cons.injEq, HO.tup.injEq, HO.lst.injEq, and_true, true_and, and_assoc, exists_eq_left, exists_eq_left', exists_and_left, exists_eq', atI0, atI1, atI2, atI3, Int.cast_ofNat_Int, Int.reduceToNat, scal_ii, scal_in, scal_ni, scal_nn, scal_bb, scal_ss, scal_sn, scal_ns, scal_bn, scal_nb, ite_iff, decide_eq_true_eq, decide_eq_false_iff_not, Bool.not_eq_true', Classical.not_not, ne_eq, not_false_eq_true, not_true_eq_false, forall_const, true_implies, false_implies, imp_self, sizeLine_eq, Nat.reduceLeDiff, reduceCtorEq, decide_true, decide_false]
  refine ⟨c, hS, by decide, by decide, fun d H1 d0 d1 hS1 t1 => ⟨fun _ => ⟨.inl ⟨by decide, by decide⟩, c, hS1, by omega, by omega, fun e H2 e0 e1 hS2 t2 => k _ H2 (by omega) hS2 (t1.trans t2)⟩, fun _ => ?_⟩⟩
  have e24 : (2 : Int) ^ (24 : Int).toNat = 16777216 := rfl
  have e29 : (10 : Int) ^ (29 : Int).toNat = 100000000000000000000000000000 := rfl
  refine st_forR1 4 (by decide) (fun Q q => q) (fun i σ H' => ∃ (x : Int) (t : Option V), σ = [some (.ref a), some (.int most), some (.int x), t] ∧ 0 ≤ x ∧ x.natAbs < 2 ^ (24 * i) ∧ StA H' a c ∧ Stp a c H H') ⟨0, none, rfl, by decide, by decide, hS1, t1⟩ ?_ ?_
  · rintro i _ H2 hi ⟨x, t, rfl, x0, x1, hS2, t2⟩
    simp only [spDraw, exists_and_left, e24, rMax2, tYes, calmS, tDNew, rInDN, rIxDN, rSetDN, tPop, rTupN, rMax, rMin, rSum, rAny, rSorted, rRepN, tSl, tPart, tNoPart, rSlLN, rSlG, rCatG, rOwnB, LamX.tLam3b, rListT, rRepr, tXf, tMtS, cx_K, Value.ref.injEq, HO.xd.injEq, lk0, tSeq, tPar3, tPar, tCons, tNil, tVar, tC, tAsg, gName, gCons, gNil, gTupN, gSub, tOp, rI, rI0, rU, tTest, rNe, rEq, rIxTN, rIxLN, rLenL, rLenT, rIntI, rIntB, rAbs, rSetLN, tTruL, tRaiseX, rIsTy, rIsOw, ixN0, ixN1, tRet, tIf, tIfS, tNext, tBreak, tCont, tDrop, tTupN, tLstN, tUn, tCB, tCall, tNot, tAnd, tOr, tB, tAndV, tOrV, tNotV, tChain, tApp, LamX.tLam, tRevLN, rCatN, rInTN, rInLN, flatV, inV, List.all_cons, List.all_nil, List.any_cons, List.any_nil, Bool.and_self, Bool.and_true, if_true, Bool.false_eq_true, if_false, tMt, tFldN, tSto, HO.ins.injEq, lkh, List.drop_zero, List.drop_succ_cons, List.drop_nil, rListS, wipe, L2.start, List.map_cons, List.map_nil, List.length_cons, List.length_nil, List.replicate, List.cons_append, List.nil_append, List.append_nil, Nat.reduceAdd, Nat.reduceSub, Nat.zero_add, List.replicate_succ, List.replicate_zero, List.getElem?_cons_zero, List.getElem?_cons_succ, List.set_cons_zero, List.set_cons_succ, Option.some.injEq, V.int.injEq, V.bl.injEq, V.ref.injEq, V.str.injEq, V.ty.injEq, List.cons.injEq, HO.tup.injEq, HO.lst.injEq, and_true, true_and, and_assoc, exists_eq_left, exists_eq_left', exists_and_left, exists_eq', atI0, atI1, atI2, atI3, Int.cast_ofNat_Int, Int.reduceToNat, scal_ii, scal_in, scal_ni, scal_nn, scal_bb, scal_ss, scal_sn, scal_ns, scal_bn, scal_nb, ite_iff, decide_eq_true_eq, decide_eq_false_iff_not, Bool.not_eq_true', Classical.not_not, ne_eq, not_false_eq_true, not_true_eq_false, forall_const, true_implies, false_implies, imp_self, sizeLine_eq, Nat.reduceLeDiff, reduceCtorEq, decide_true, decide_false]
    have hi : i < 4 := hi
    have hx : x.natAbs < 2 ^ 96 := Nat.lt_of_lt_of_le x1 (Nat.pow_le_pow_right (by decide) (by omega))
    refine ⟨⟨by decide, by decide, by decide⟩, wide_mul hx (b := 25) (by decide) (by decide) (by decide) (by decide), ⟨by decide, by decide, by decide⟩, c, hS2, by decide, by decide, fun d H3 d0 d1 hS3 t3 => ⟨?_, ?_, hS3, t2.trans t3⟩⟩
    · omega
    · rw [Nat.mul_succ, Nat.pow_add, show (2 : Nat) ^ 24 = 16777216 from rfl]
      generalize 2 ^ (24 * i) = B at *
      omega
  · rintro _ H2 ⟨x, t, rfl, x0, x1, hS2, t2⟩
    simp only [spDraw, exists_and_left, e29, rMax2, tYes, calmS, tDNew, rInDN, rIxDN, rSetDN, tPop, rTupN, rMax, rMin, rSum, rAny, rSorted, rRepN, tSl, tPart, tNoPart, rSlLN, rSlG, rCatG, rOwnB, LamX.tLam3b, rListT, rRepr, tXf, tMtS, cx_K, Value.ref.injEq, HO.xd.injEq, lk0, tSeq, tPar3, tPar, tCons, tNil, tVar, tC, tAsg, gName, gCons, gNil, gTupN, gSub, tOp, rI, rI0, rU, tTest, rNe, rEq, rIxTN, rIxLN, rLenL, rLenT, rIntI, rIntB, rAbs, rSetLN, tTruL, tRaiseX, rIsTy, rIsOw, ixN0, ixN1, tRet, tIf, tIfS, tNext, tBreak, tCont, tDrop, tTupN, tLstN, tUn, tCB, tCall, tNot, tAnd, tOr, tB, tAndV, tOrV, tNotV, tChain, tApp, LamX.tLam, tRevLN, rCatN, rInTN, rInLN, flatV, inV, List.all_cons, List.all_nil, List.any_cons, List.any_nil, Bool.and_self, Bool.and_true, if_true, Bool.false_eq_true, if_false, tMt, tFldN, tSto, HO.ins.injEq, lkh, List.drop_zero, List.drop_succ_cons, List.drop_nil, rListS, wipe, L2.start, List.map_cons, List.map_nil, List.length_cons, List.length_nil, List.replicate, List.cons_append, List.nil_append, List.append_nil, Nat.reduceAdd, Nat.reduceSub, Nat.zero_add, List.replicate_succ, List.replicate_zero, List.getElem?_cons_zero, List.getElem?_cons_succ, List.set_cons_zero, List.set_cons_succ, Option.some.injEq, V.int.injEq, V.bl.injEq, V.ref.injEq, V.str.injEq, V.ty.injEq, List.cons.injEq, HO.tup.injEq, HO.lst.injEq, and_true, true_and, and_assoc, exists_eq_left, exists_eq_left', exists_and_left, exists_eq', atI0, atI1, atI2, atI3, Int.cast_ofNat_Int, Int.reduceToNat, scal_ii, scal_in, scal_ni, scal_nn, scal_bb, scal_ss, scal_sn, scal_ns, scal_bn, scal_nb, ite_iff, decide_eq_true_eq, decide_eq_false_iff_not, Bool.not_eq_true', Classical.not_not, ne_eq, not_false_eq_true, not_true_eq_false, forall_const, true_implies, false_implies, imp_self, sizeLine_eq, Nat.reduceLeDiff, reduceCtorEq, decide_true, decide_false]
    have hx : x.natAbs < 2 ^ 96 := x1
    refine ⟨⟨by decide, by decide, by decide⟩, c, hS2, by decide, by decide, fun d H3 d0 d1 hS3 t3 => ⟨.inl ⟨by decide, by decide⟩, wide_mul (a := 98) (b := 3) ?_ (by omega) (by decide) (by decide) (by decide), k _ H3 ?_ hS3 (t2.trans t3)⟩⟩
    · omega
    · have : d = 0 ∨ d = 1 := by omega
      rcases this with rfl | rfl <;> omega

/-! ### what the law tells of rows of stretches -/
def bndO (n : Nat) : Option Int → Prop
  | none => True
  | some i => i.natAbs < 2 ^ n
def spEnds : Sp := fun vs H Q _ => ∃ a c, vs = [.ref a] ∧ StA H a c ∧ ∀ p lo hi H', okO lo hi → bndO 102 lo → bndO 102 hi → StA H' a c → Stp a c H H' → H' p = some (.tup [ov lo, ov hi]) → Q (.ref p) H'
theorem o__law_ends (T : Txt K mg) : OkF P w K mg base CX0 3 "_law_ends" ["_law_state"] spEnds := by
  have o__law_draw := o__law_draw (P := P) (w := w) (base := base) T
  have o__law_number := o__law_number (P := P) (w := w) (base := base) T
  obtain ⟨f, fd, g, F⟩ := T.d__law_ends
  refine ⟨f, fd, g, F.kp, F.binds (fun _ _ _ _ _ _ us hl => match us, hl with | [_], _ => rfl), F.ok sc__law_ends (fun vs H Q E h => ?_) (fun cdv A outer s H vs Q E hr h => ?_)⟩
  · first | (obtain ⟨_, rfl, _⟩ := h; rfl) | (obtain ⟨_, _, rfl, _⟩ := h; rfl) | (obtain ⟨_, _, _, rfl, _⟩ := h; rfl) | (obtain ⟨_, _, _, _, rfl, _⟩ := h; rfl) | (obtain ⟨_, _, _, _, _, rfl, _⟩ := h; rfl) | (obtain ⟨_, _, _, _, _, _, rfl, _⟩ := h; rfl) | (obtain ⟨_, _, _, _, _, _, _, rfl, _⟩ := h; rfl)
  have hu64 := hr.units
  refine ⟨_, pss_cons (ps_set (i := 1) sc__law_ends.nd rfl (Or.inl rfl) (pcl o__law_number (hr.mono (by decide)) pass0 (pa_cons (pv 0) (pa_cons (pe_int) pa_nil))))
      (pss_cons (ps_set (i := 2) sc__law_ends.nd rfl (Or.inl rfl) (pe_op op_add (pe_op op_add (pv 1) (pe_int)) (pe_op op_mulW (pcl o__law_draw (hr.mono (by decide)) pass0 (pa_cons (pv 0) (pa_cons (pe_int) pa_nil))) (pe_op op_add (pe_int) (pcl o__law_draw (hr.mono (by decide)) pass0 (pa_cons (pv 0) (pa_cons (pe_int) pa_nil)))))))
      (pss_cons (ps_cut (ps_if (pt_cmpR op_eq (pcl o__law_draw (hr.mono (by decide)) pass0 (pa_cons (pv 0) (pa_cons (pe_int) pa_nil))) (pe_int) (nomark _)) (pss_one (ps_set (i := 2) sc__law_ends.nd rfl (Or.inl rfl) (pe_op op_add (pe_op op_add (pv 2) (pe_op op_pow (pe_int) (pe_int))) (pcl o__law_draw (hr.mono (by decide)) pass0 (pa_cons (pv 0) (pa_cons (pe_int) pa_nil)))))) (pss_nil)))
      (pss_cons (ps_set (i := 3) sc__law_ends.nd rfl (Or.inl rfl) (pcl o__law_draw (hr.mono (by decide)) pass0 (pa_cons (pv 0) (pa_cons (pe_int) pa_nil))))
      (pss_cons (ps_cut (ps_if (pt_cmpR op_eq (pv 3) (pe_int) (nomark _)) (pss_one (ps_set (i := 1) sc__law_ends.nd rfl (Or.inl rfl) (pe_non))) (pss_nil)))
      (pss_cons (ps_cut (ps_if (pt_cmpR op_eq (pv 3) (pe_int) (nomark _)) (pss_one (ps_set (i := 2) sc__law_ends.nd rfl (Or.inl rfl) (pe_non))) (pss_nil)))
      (pss_cons (ps_if (PW.pt (pw_and (pt_cmpR op_eq (pv 3) (pe_int) (nomark _)) (pw_and1 (pt_cmpR op_eq (pcl o__law_draw (hr.mono (by decide)) pass0 (pa_cons (pv 0) (pa_cons (pe_int) pa_nil))) (pe_int) (nomark _))))) (pss_one (ps_ret (pe_tupN (pa_cons (pe_non) (pa_cons (pe_non) pa_nil))))) (pss_nil))
      (pss_one (ps_ret (pe_tupN (pa_cons (pv 1) (pa_cons (pv 2) pa_nil))))))))))), ?_⟩
  obtain ⟨a, c, rfl, hS, k⟩ := h
  have e30 : (10 : Int) ^ (30 : Int).toNat = 1000000000000000000000000000000 := rfl
  simp only [spNum, exists_and_left, rMax2, tYes, calmS, tDNew, rInDN, rIxDN, rSetDN, tPop, rTupN, rMax, rMin, rSum, rAny, rSorted, rRepN, tSl, tPart, tNoPart, rSlLN, rSlG, rCatG, rOwnB, LamX.tLam3b, rListT, rRepr, tXf, tMtS, cx_K, Value.ref.injEq, HO.xd.injEq, lk0, tSeq, tPar3, tPar, tCons, tNil, tVar, tC, tAsg, gName, gCons, gNil, gTupN, gSub, tOp, rI, rI0, rU, tTest, rNe, rEq, rIxTN, rIxLN, rLenL, rLenT, rIntI, rIntB, rAbs, rSetLN, tTruL, tRaiseX, rIsTy, rIsOw, ixN0, ixN1, tRet, tIf, tIfS, tNext, tBreak, tCont, tDrop, tTupN, tLstN, tUn, tCB, tCall, tNot, tAnd, tOr, tB, tAndV, tOrV, tNotV, tChain, tApp, LamX.tLam, tRevLN, rCatN, rInTN, rInLN, flatV, inV, List.all_cons, List.all_nil, List.any_cons, List.any_nil, Bool.and_self, Bool.and_true, if_true, Bool.false_eq_true, if_false, tMt, tFldN, tSto, HO.ins.injEq, lkh, List.drop_zero, List.drop_succ_cons, List.drop_nil, rListS, wipe, L2.start, List.map_cons, List.map_nil, List.length_cons, List.length_nil, List.replicate, List.cons_append, List.nil_append, List.append_nil, Nat.reduceAdd, Nat.reduceSub, Nat.zero_add, List.replicate_succ, List.replicate_zero, List.getElem?_cons_zero, List.getElem?_cons_succ, List.set_cons_zero, List.set_cons_succ, Option.some.injEq, V.int.injEq, V.bl.injEq, V.ref.injEq, V.str.injEq, V.ty.injEq, List.cons.injEq, HO.tup.injEq, HO.lst.injEq, and_true, true_and, and_assoc, exists_eq_left, exists_eq_left', exists_and_left, exists_eq', atI0, atI1, atI2, atI3, Int.cast_ofNat_Int, Int.reduceToNat, scal_ii, scal_in, scal_ni, scal_nn, scal_bb, scal_ss, scal_sn, scal_ns, scal_bn, scal_nb, ite_iff, decide_eq_true_eq, decide_eq_false_iff_not, Bool.not_eq_true', Classical.not_not, ne_eq, not_false_eq_true, not_true_eq_false, forall_const, true_implies, false_implies, imp_self, sizeLine_eq, Nat.reduceLeDiff, reduceCtorEq, decide_true, decide_false]
  refine ⟨c, hS, by decide, by decide, fun l H1 bl hS1 t1 => ?_⟩
  simp only [spDraw, exists_and_left, rMax2, tYes, calmS, tDNew, rInDN, rIxDN, rSetDN, tPop, rTupN, rMax, rMin, rSum, rAny, rSorted, rRepN, tSl, tPart, tNoPart, rSlLN, rSlG, rCatG, rOwnB, LamX.tLam3b, rListT, rRepr, tXf, tMtS, cx_K, Value.ref.injEq, HO.xd.injEq, lk0, tSeq, tPar3, tPar, tCons, tNil, tVar, tC, tAsg, gName, gCons, gNil, gTupN, gSub, tOp, rI, rI0, rU, tTest, rNe, rEq, rIxTN, rIxLN, rLenL, rLenT, rIntI, rIntB, rAbs, rSetLN, tTruL, tRaiseX, rIsTy, rIsOw, ixN0, ixN1, tRet, tIf, tIfS, tNext, tBreak, tCont, tDrop, tTupN, tLstN, tUn, tCB, tCall, tNot, tAnd, tOr, tB, tAndV, tOrV, tNotV, tChain, tApp, LamX.tLam, tRevLN, rCatN, rInTN, rInLN, flatV, inV, List.all_cons, List.all_nil, List.any_cons, List.any_nil, Bool.and_self, Bool.and_true, if_true, Bool.false_eq_true, if_false, tMt, tFldN, tSto, HO.ins.injEq, lkh, List.drop_zero, List.drop_succ_cons, List.drop_nil, rListS, wipe, L2.start, List.map_cons, List.map_nil, List.length_cons, List.length_nil, List.replicate, List.cons_append, List.nil_append, List.append_nil, Nat.reduceAdd, Nat.reduceSub, Nat.zero_add, List.replicate_succ, List.replicate_zero, List.getElem?_cons_zero, List.getElem?_cons_succ, List.set_cons_zero, List.set_cons_succ, Option.some.injEq, V.int.injEq, V.bl.injEq, V.ref.injEq, V.str.injEq, V.ty.injEq, List.cons.injEq, HO.tup.injEq, HO.lst.injEq, and_true, true_and, and_assoc, exists_eq_left, exists_eq_left', exists_and_left, exists_eq', atI0, atI1, atI2, atI3, Int.cast_ofNat_Int, Int.reduceToNat, scal_ii, scal_in, scal_ni, scal_nn, scal_bb, scal_ss, scal_sn, scal_ns, scal_bn, scal_nb, ite_iff, decide_eq_true_eq, decide_eq_false_iff_not, Bool.not_eq_true', Classical.not_not, ne_eq, not_false_eq_true, not_true_eq_false, forall_const, true_implies, false_implies, imp_self, sizeLine_eq, Nat.reduceLeDiff, reduceCtorEq, decide_true, decide_false]
  refine ⟨c, hS1, by decide, by decide, fun d1 H2 d10 d11 hS2 t2 => ⟨c, hS2, by decide, by decide, fun d2 H3 d20 d21 hS3 t3 => ?_⟩⟩
  have hm : 0 ≤ d1 * (1 + d2) ∧ d1 * (1 + d2) ≤ 18 := by
    have : d2 = 0 ∨ d2 = 1 := by omega
    rcases this with rfl | rfl <;> omega
  refine ⟨wide_mul (a := 4) (b := 2) (by omega) (by omega) (by decide) (by decide) (by decide), ?_⟩
  generalize d1 * (1 + d2) = m at *
  have u3 := (t1.trans t2).trans t3
  refine ⟨fun σ' H' => ∃ h, σ' = [some (.ref a), some (.int l), some (.int h), none] ∧ l < h ∧ h.natAbs < 2 ^ 102 ∧ StA H' a c ∧ Stp a c H H', ?_, ?_⟩
  · simp only [spDraw, exists_and_left, e30, rMax2, tYes, calmS, tDNew, rInDN, rIxDN, rSetDN, tPop, rTupN, rMax, rMin, rSum, rAny, rSorted, rRepN, tSl, tPart, tNoPart, rSlLN, rSlG, rCatG, rOwnB, LamX.tLam3b, rListT, rRepr, tXf, tMtS, cx_K, Value.ref.injEq, HO.xd.injEq, lk0, tSeq, tPar3, tPar, tCons, tNil, tVar, tC, tAsg, gName, gCons, gNil, gTupN, gSub, tOp, rI, rI0, rU, tTest, rNe, rEq, rIxTN, rIxLN, rLenL, rLenT, rIntI, rIntB, rAbs, rSetLN, tTruL, tRaiseX, rIsTy, rIsOw, ixN0, ixN1, tRet, tIf, tIfS, tNext, tBreak, tCont, tDrop, tTupN, tLstN, tUn, tCB, tCall, tNot, tAnd, tOr, tB, tAndV, tOrV, tNotV, tChain, tApp, LamX.tLam, tRevLN, rCatN, rInTN, rInLN, flatV, inV, List.all_cons, List.all_nil, List.any_cons, List.any_nil, Bool.and_self, Bool.and_true, if_true, Bool.false_eq_true, if_false, tMt, tFldN, tSto, HO.ins.injEq, lkh, List.drop_zero, List.drop_succ_cons, List.drop_nil, rListS, wipe, L2.start, List.map_cons, List.map_nil, List.length_cons, List.length_nil, List.replicate, List.cons_append, List.nil_append, List.append_nil, Nat.reduceAdd, Nat.reduceSub, Nat.zero_add, List.replicate_succ, List.replicate_zero, List.getElem?_cons_zero, List.getElem?_cons_succ, List.set_cons_zero, List.set_cons_succ, Option.some.injEq, V.int.injEq, V.bl.injEq, V.ref.injEq, V.str.injEq, V.ty.injEq, List.cons.injEq, HO.tup.injEq, HO.lst.injEq, and_true, true_and, and_assoc, exists_eq_left, exists_eq_left', exists_and_left, exists_eq', atI0, atI1, atI2, atI3, Int.cast_ofNat_Int, Int.reduceToNat, scal_ii, scal_in, scal_ni, scal_nn, scal_bb, scal_ss, scal_sn, scal_ns, scal_bn, scal_nb, ite_iff, decide_eq_true_eq, decide_eq_false_iff_not, Bool.not_eq_true', Classical.not_not, ne_eq, not_false_eq_true, not_true_eq_false, forall_const, true_implies, false_implies, imp_self, sizeLine_eq, Nat.reduceLeDiff, reduceCtorEq, decide_true, decide_false]
    refine ⟨c, hS3, by decide, by decide, fun d3 H4 d30 d31 hS4 t4 => ⟨fun _ => ⟨⟨by decide, by decide, by decide⟩, c, hS4, by decide, by decide, fun d4 H5 d40 d41 hS5 t5 => ⟨by omega, by omega, hS5, (u3.trans t4).trans t5⟩⟩, fun _ => ⟨by omega, by omega, hS4, u3.trans t4⟩⟩⟩
  · rintro σ' H4 ⟨h, rfl, hlh, bh, hS4, u4⟩
    simp only [spDraw, exists_and_left, rMax2, tYes, calmS, tDNew, rInDN, rIxDN, rSetDN, tPop, rTupN, rMax, rMin, rSum, rAny, rSorted, rRepN, tSl, tPart, tNoPart, rSlLN, rSlG, rCatG, rOwnB, LamX.tLam3b, rListT, rRepr, tXf, tMtS, cx_K, Value.ref.injEq, HO.xd.injEq, lk0, tSeq, tPar3, tPar, tCons, tNil, tVar, tC, tAsg, gName, gCons, gNil, gTupN, gSub, tOp, rI, rI0, rU, tTest, rNe, rEq, rIxTN, rIxLN, rLenL, rLenT, rIntI, rIntB, rAbs, rSetLN, tTruL, tRaiseX, rIsTy, rIsOw, ixN0, ixN1, tRet, tIf, tIfS, tNext, tBreak, tCont, tDrop, tTupN, tLstN, tUn, tCB, tCall, tNot, tAnd, tOr, tB, tAndV, tOrV, tNotV, tChain, tApp, LamX.tLam, tRevLN, rCatN, rInTN, rInLN, flatV, inV, List.all_cons, List.all_nil, List.any_cons, List.any_nil, Bool.and_self, Bool.and_true, if_true, Bool.false_eq_true, if_false, tMt, tFldN, tSto, HO.ins.injEq, lkh, List.drop_zero, List.drop_succ_cons, List.drop_nil, rListS, wipe, L2.start, List.map_cons, List.map_nil, List.length_cons, List.length_nil, List.replicate, List.cons_append, List.nil_append, List.append_nil, Nat.reduceAdd, Nat.reduceSub, Nat.zero_add, List.replicate_succ, List.replicate_zero, List.getElem?_cons_zero, List.getElem?_cons_succ, List.set_cons_zero, List.set_cons_succ, Option.some.injEq, V.int.injEq, V.bl.injEq, V.ref.injEq, V.str.injEq, V.ty.injEq, List.cons.injEq, HO.tup.injEq, HO.lst.injEq, and_true, true_and, and_assoc, exists_eq_left, exists_eq_left', exists_and_left, exists_eq', atI0, atI1, atI2, atI3, Int.cast_ofNat_Int, Int.reduceToNat, scal_ii, scal_in, scal_ni, scal_nn, scal_bb, scal_ss, scal_sn, scal_ns, scal_bn, scal_nb, ite_iff, decide_eq_true_eq, decide_eq_false_iff_not, Bool.not_eq_true', Classical.not_not, ne_eq, not_false_eq_true, not_true_eq_false, forall_const, true_implies, false_implies, imp_self, sizeLine_eq, Nat.reduceLeDiff, reduceCtorEq, decide_true, decide_false]
    refine ⟨c, hS4, by decide, by decide, fun d3 H5 d30 d31 hS5 t5 => ?_⟩
    have u5 := u4.trans t5
    refine ⟨fun σ' H' => ∃ lo, σ' = [some (.ref a), some (ov lo), some (.int h), some (.int d3)] ∧ (lo = some l ∨ lo = none ∧ d3 = 7) ∧ H' = H5, ?_, ?_⟩
    · simp only [spDraw, exists_and_left, rMax2, tYes, calmS, tDNew, rInDN, rIxDN, rSetDN, tPop, rTupN, rMax, rMin, rSum, rAny, rSorted, rRepN, tSl, tPart, tNoPart, rSlLN, rSlG, rCatG, rOwnB, LamX.tLam3b, rListT, rRepr, tXf, tMtS, cx_K, Value.ref.injEq, HO.xd.injEq, lk0, tSeq, tPar3, tPar, tCons, tNil, tVar, tC, tAsg, gName, gCons, gNil, gTupN, gSub, tOp, rI, rI0, rU, tTest, rNe, rEq, rIxTN, rIxLN, rLenL, rLenT, rIntI, rIntB, rAbs, rSetLN, tTruL, tRaiseX, rIsTy, rIsOw, ixN0, ixN1, tRet, tIf, tIfS, tNext, tBreak, tCont, tDrop, tTupN, tLstN, tUn, tCB, tCall, tNot, tAnd, tOr, tB, tAndV, tOrV, tNotV, tChain, tApp, LamX.tLam, tRevLN, rCatN, rInTN, rInLN, flatV, inV, List.all_cons, List.all_nil, List.any_cons, List.any_nil, Bool.and_self, Bool.and_true, if_true, Bool.false_eq_true, if_false, tMt, tFldN, tSto, HO.ins.injEq, lkh, List.drop_zero, List.drop_succ_cons, List.drop_nil, rListS, wipe, L2.start, List.map_cons, List.map_nil, List.length_cons, List.length_nil, List.replicate, List.cons_append, List.nil_append, List.append_nil, Nat.reduceAdd, Nat.reduceSub, Nat.zero_add, List.replicate_succ, List.replicate_zero, List.getElem?_cons_zero, List.getElem?_cons_succ, List.set_cons_zero, List.set_cons_succ, Option.some.injEq, V.int.injEq, V.bl.injEq, V.ref.injEq, V.str.injEq, V.ty.injEq, List.cons.injEq, HO.tup.injEq, HO.lst.injEq, and_true, true_and, and_assoc, exists_eq_left, exists_eq_left', exists_and_left, exists_eq', atI0, atI1, atI2, atI3, Int.cast_ofNat_Int, Int.reduceToNat, scal_ii, scal_in, scal_ni, scal_nn, scal_bb, scal_ss, scal_sn, scal_ns, scal_bn, scal_nb, ite_iff, decide_eq_true_eq, decide_eq_false_iff_not, Bool.not_eq_true', Classical.not_not, ne_eq, not_false_eq_true, not_true_eq_false, forall_const, true_implies, false_implies, imp_self, sizeLine_eq, Nat.reduceLeDiff, reduceCtorEq, decide_true, decide_false]
      exact ⟨fun e => ⟨none, rfl, .inr ⟨rfl, e⟩⟩, fun e => ⟨some l, rfl, .inl rfl⟩⟩
    · rintro σ' H6 ⟨lo, rfl, hlo, rfl⟩
      refine ⟨fun σ' H' => ∃ hi, σ' = [some (.ref a), some (ov lo), some (ov hi), some (.int d3)] ∧ (hi = some h ∨ hi = none) ∧ H' = H6, ?_, ?_⟩
      · simp only [spDraw, exists_and_left, rMax2, tYes, calmS, tDNew, rInDN, rIxDN, rSetDN, tPop, rTupN, rMax, rMin, rSum, rAny, rSorted, rRepN, tSl, tPart, tNoPart, rSlLN, rSlG, rCatG, rOwnB, LamX.tLam3b, rListT, rRepr, tXf, tMtS, cx_K, Value.ref.injEq, HO.xd.injEq, lk0, tSeq, tPar3, tPar, tCons, tNil, tVar, tC, tAsg, gName, gCons, gNil, gTupN, gSub, tOp, rI, rI0, rU, tTest, rNe, rEq, rIxTN, rIxLN, rLenL, rLenT, rIntI, rIntB, rAbs, rSetLN, tTruL, tRaiseX, rIsTy, rIsOw, ixN0, ixN1, tRet, tIf, tIfS, tNext, tBreak, tCont, tDrop, tTupN, tLstN, tUn, tCB, tCall, tNot, tAnd, tOr, tB, tAndV, tOrV, tNotV, tChain, tApp, LamX.tLam, tRevLN, rCatN, rInTN, rInLN, flatV, inV, List.all_cons, List.all_nil, List.any_cons, List.any_nil, Bool.and_self, Bool.and_true, if_true, Bool.false_eq_true, if_false, tMt, tFldN, tSto, HO.ins.injEq, lkh, List.drop_zero, List.drop_succ_cons, List.drop_nil, rListS, wipe, L2.start, List.map_cons, List.map_nil, List.length_cons, List.length_nil, List.replicate, List.cons_append, List.nil_append, List.append_nil, Nat.reduceAdd, Nat.reduceSub, Nat.zero_add, List.replicate_succ, List.replicate_zero, List.getElem?_cons_zero, List.getElem?_cons_succ, List.set_cons_zero, List.set_cons_succ, Option.some.injEq, V.int.injEq, V.bl.injEq, V.ref.injEq, V.str.injEq, V.ty.injEq, List.cons.injEq, HO.tup.injEq, HO.lst.injEq, and_true, true_and, and_assoc, exists_eq_left, exists_eq_left', exists_and_left, exists_eq', atI0, atI1, atI2, atI3, Int.cast_ofNat_Int, Int.reduceToNat, scal_ii, scal_in, scal_ni, scal_nn, scal_bb, scal_ss, scal_sn, scal_ns, scal_bn, scal_nb, ite_iff, decide_eq_true_eq, decide_eq_false_iff_not, Bool.not_eq_true', Classical.not_not, ne_eq, not_false_eq_true, not_true_eq_false, forall_const, true_implies, false_implies, imp_self, sizeLine_eq, Nat.reduceLeDiff, reduceCtorEq, decide_true, decide_false]
        exact ⟨fun e => ⟨none, rfl, .inr rfl⟩, fun e => ⟨some h, rfl, .inl rfl⟩⟩
      · rintro σ' H7 ⟨hi, rfl, hhi, rfl⟩
        simp only [spDraw, exists_and_left, rMax2, tYes, calmS, tDNew, rInDN, rIxDN, rSetDN, tPop, rTupN, rMax, rMin, rSum, rAny, rSorted, rRepN, tSl, tPart, tNoPart, rSlLN, rSlG, rCatG, rOwnB, LamX.tLam3b, rListT, rRepr, tXf, tMtS, cx_K, Value.ref.injEq, HO.xd.injEq, lk0, tSeq, tPar3, tPar, tCons, tNil, tVar, tC, tAsg, gName, gCons, gNil, gTupN, gSub, tOp, rI, rI0, rU, tTest, rNe, rEq, rIxTN, rIxLN, rLenL, rLenT, rIntI, rIntB, rAbs, rSetLN, tTruL, tRaiseX, rIsTy, rIsOw, ixN0, ixN1, tRet, tIf, tIfS, tNext, tBreak, tCont, tDrop, tTupN, tLstN, tUn, tCB, tCall, tNot, tAnd, tOr, tB, tAndV, tOrV, tNotV, tChain, tApp, LamX.tLam, tRevLN, rCatN, rInTN, rInLN, flatV, inV, List.all_cons, List.all_nil, List.any_cons, List.any_nil, Bool.and_self, Bool.and_true, if_true, Bool.false_eq_true, if_false, tMt, tFldN, tSto, HO.ins.injEq, lkh, List.drop_zero, List.drop_succ_cons, List.drop_nil, rListS, wipe, L2.start, List.map_cons, List.map_nil, List.length_cons, List.length_nil, List.replicate, List.cons_append, List.nil_append, List.append_nil, Nat.reduceAdd, Nat.reduceSub, Nat.zero_add, List.replicate_succ, List.replicate_zero, List.getElem?_cons_zero, List.getElem?_cons_succ, List.set_cons_zero, List.set_cons_succ, Option.some.injEq, V.int.injEq, V.bl.injEq, V.ref.injEq, V.str.injEq, V.ty.injEq, List.cons.injEq, HO.tup.injEq, HO.lst.injEq, and_true, true_and, and_assoc, exists_eq_left, exists_eq_left', exists_and_left, exists_eq', atI0, atI1, atI2, atI3, Int.cast_ofNat_Int, Int.reduceToNat, scal_ii, scal_in, scal_ni, scal_nn, scal_bb, scal_ss, scal_sn, scal_ns, scal_bn, scal_nb, ite_iff, decide_eq_true_eq, decide_eq_false_iff_not, Bool.not_eq_true', Classical.not_not, ne_eq, not_false_eq_true, not_true_eq_false, forall_const, true_implies, false_implies, imp_self, sizeLine_eq, Nat.reduceLeDiff, reduceCtorEq, decide_true, decide_false]
        have fin : ∀ H', StA H' a c → Stp a c H H' → News H' (.tup [ov lo, ov hi]) Q := fun H' hS' u' p H2 hp s h2 => k p lo hi H2 (by
            rcases hlo with rfl | ⟨rfl, _⟩ <;> rcases hhi with rfl | rfl <;> simp [okO, hlh]) (by
            rcases hlo with rfl | ⟨rfl, _⟩ <;> simp [bndO]; omega) (by
            rcases hhi with rfl | rfl <;> simp [bndO]; omega) (hS'.same s) (u'.trans (Stp.of s)) h2
        have fin2 : ∀ H', StA H' a c → Stp a c H H' → News H' (.tup [.non, .non]) Q := fun H' hS' u' p H2 hp s h2 => k p none none H2 trivial trivial trivial (hS'.same s) (u'.trans (Stp.of s)) h2
        exact ⟨fun _ => ⟨c, hS5, by decide, by decide, fun d H' _ _ hS' t' => ⟨fun _ => fin2 H' hS' (u5.trans t'), fun _ => fin H' hS' (u5.trans t')⟩⟩, fun _ => fin _ hS5 u5⟩

/-- a list of ints -/
def IntsAt (H : Hp) (a : Addr) (ns : List Int) : Prop := H a = some (.lst (ns.map V.int))
theorem op_pow40 : (10 : Int) ^ (40 : Int).toNat = 10000000000000000000000000000000000000000 := rfl
def spPts : Sp := fun vs H Q _ => ∃ a ps, vs = [.ref a] ∧ PairsAt H a ps ∧ ps.length < 1000 ∧ ∀ b ns H', H b = none → Same H H' → IntsAt H' b ns → ns.length ≤ 5 + 10 * ps.length → Q (.ref b) H'
theorem o__law_points (T : Txt K mg) : OkF P w K mg base CX0 1 "_law_points" ["_law_pairs"] spPts := by
  obtain ⟨f, fd, g, F⟩ := T.d__law_points
  refine ⟨f, fd, g, F.kp, F.binds (fun _ _ _ _ _ _ us hl => match us, hl with | [_], _ => rfl), F.ok sc__law_points (fun vs H Q E h => ?_) (fun cdv A outer s H vs Q E hr h => ?_)⟩
  · first | (obtain ⟨_, rfl, _⟩ := h; rfl) | (obtain ⟨_, _, rfl, _⟩ := h; rfl) | (obtain ⟨_, _, _, rfl, _⟩ := h; rfl) | (obtain ⟨_, _, _, _, rfl, _⟩ := h; rfl) | (obtain ⟨_, _, _, _, _, rfl, _⟩ := h; rfl) | (obtain ⟨_, _, _, _, _, _, rfl, _⟩ := h; rfl) | (obtain ⟨_, _, _, _, _, _, _, rfl, _⟩ := h; rfl)
  have hu64 := hr.units
  refine ⟨_, pss_cons (ps_set (i := 1) sc__law_points.nd rfl (Or.inl rfl) (pe_lstN (pa_cons (pe_un un_neg (pe_op op_pow (pe_int) (pe_int))) (pa_cons (pe_un un_neg (pe_int)) (pa_cons (pe_int) (pa_cons (pe_int) (pa_cons (pe_op op_pow (pe_int) (pe_int)) pa_nil)))))))
      (pss_cons (ps_for PassesOwn.never rfl (pi_list (pv 0)) (pg_tupN (n := 2) (by rfl) (pgs_cons (pg_name (i := 2) sc__law_points.nd rfl (Or.inl rfl)) (pgs_cons (pg_name (i := 3) sc__law_points.nd rfl (Or.inl rfl)) pgs_nil))) (pss_one (ps_for PassesOwn.never rfl (pi_tup (pe_tupN (pa_cons (pv 2) (pa_cons (pv 3) pa_nil)))) (pg_name (i := 4) sc__law_points.nd rfl (Or.inl rfl)) (pss_one (ps_if (pt_cmpR op_notN (pv 4) (pe_non) (nomark _)) (pss_one (ps_set (i := 1) sc__law_points.nd rfl (Or.inl rfl) (pe_op op_catN (pv 1) (pe_lstN (pa_cons (pe_op op_sub (pv 4) (pe_int)) (pa_cons (pe_op op_sub (pv 4) (pe_int)) (pa_cons (pv 4) (pa_cons (pe_op op_add (pv 4) (pe_int)) (pa_cons (pe_op op_add (pv 4) (pe_int)) pa_nil))))))))) (pss_nil))))))
      (pss_one (ps_ret (pv 1)))), ?_⟩
  obtain ⟨a, ps, rfl, ⟨xs, hx, hp⟩, hlen, k⟩ := h
  simp only [exists_and_left, op_pow40, rMax2, tYes, calmS, tDNew, rInDN, rIxDN, rSetDN, tPop, rTupN, rMax, rMin, rSum, rAny, rSorted, rRepN, tSl, tPart, tNoPart, rSlLN, rSlG, rCatG, rOwnB, LamX.tLam3b, rListT, rRepr, tXf, tMtS, cx_K, Value.ref.injEq, HO.xd.injEq, lk0, tSeq, tPar3, tPar, tCons, tNil, tVar, tC, tAsg, gName, gCons, gNil, gTupN, gSub, tOp, rI, rI0, rU, tTest, rNe, rEq, rIxTN, rIxLN, rLenL, rLenT, rIntI, rIntB, rAbs, rSetLN, tTruL, tRaiseX, rIsTy, rIsOw, ixN0, ixN1, tRet, tIf, tIfS, tNext, tBreak, tCont, tDrop, tTupN, tLstN, tUn, tCB, tCall, tNot, tAnd, tOr, tB, tAndV, tOrV, tNotV, tChain, tApp, LamX.tLam, tRevLN, rCatN, rInTN, rInLN, flatV, inV, List.all_cons, List.all_nil, List.any_cons, List.any_nil, Bool.and_self, Bool.and_true, if_true, Bool.false_eq_true, if_false, tMt, tFldN, tSto, HO.ins.injEq, lkh, List.drop_zero, List.drop_succ_cons, List.drop_nil, rListS, wipe, L2.start, List.map_cons, List.map_nil, List.length_cons, List.length_nil, List.replicate, List.cons_append, List.nil_append, List.append_nil, Nat.reduceAdd, Nat.reduceSub, Nat.zero_add, List.replicate_succ, List.replicate_zero, List.getElem?_cons_zero, List.getElem?_cons_succ, List.set_cons_zero, List.set_cons_succ, Option.some.injEq, V.int.injEq, V.bl.injEq, V.ref.injEq, V.str.injEq, V.ty.injEq, List.cons.injEq, HO.tup.injEq, HO.lst.injEq, and_true, true_and, and_assoc, exists_eq_left, exists_eq_left', exists_and_left, exists_eq', atI0, atI1, atI2, atI3, Int.cast_ofNat_Int, Int.reduceToNat, scal_ii, scal_in, scal_ni, scal_nn, scal_bb, scal_ss, scal_sn, scal_ns, scal_bn, scal_nb, ite_iff, decide_eq_true_eq, decide_eq_false_iff_not, Bool.not_eq_true', Classical.not_not, ne_eq, not_false_eq_true, not_true_eq_false, forall_const, true_implies, false_implies, imp_self, sizeLine_eq, Nat.reduceLeDiff, reduceCtorEq, decide_true, decide_false]
  refine ⟨⟨by decide, by decide, by decide⟩, ⟨by decide, by decide, by decide⟩, ?_⟩
  intro D H2 hD s2 h2
  have hp2 := hp.mono s2
  refine st_forL (a := a) (fun R r' => ⟨_, rfl, r'⟩) (s2 _ _ hx) (fun i σ' H' => ∃ D ns t u v, σ' = [some (.ref a), some (.ref D), t, u, v] ∧ Same H H' ∧ IntsAt H' D ns ∧ ns.length ≤ 5 + 10 * i ∧ H D = none) ?_ (fun i σ' H' q => ?_) ?_ ?_
  · exact ⟨D, [-10000000000000000000000000000000000000000, -1, 0, 1, 10000000000000000000000000000000000000000], none, none, none, rfl, s2, h2, by decide, hD⟩
  · obtain ⟨D, ns, t, u, v, rfl, s, q⟩ := q
    exact s _ _ hx
  · rintro i x _ H' hi ⟨D, ns, t, u, v, rfl, st, hD, hl, nD⟩
    obtain ⟨b, q, rfl, hq, hb⟩ := hp.get hi
    have hb' := st _ _ hb
    obtain ⟨lo, hi'⟩ := q
    simp only [hb', exists_and_left, rMax2, tYes, calmS, tDNew, rInDN, rIxDN, rSetDN, tPop, rTupN, rMax, rMin, rSum, rAny, rSorted, rRepN, tSl, tPart, tNoPart, rSlLN, rSlG, rCatG, rOwnB, LamX.tLam3b, rListT, rRepr, tXf, tMtS, cx_K, Value.ref.injEq, HO.xd.injEq, lk0, tSeq, tPar3, tPar, tCons, tNil, tVar, tC, tAsg, gName, gCons, gNil, gTupN, gSub, tOp, rI, rI0, rU, tTest, rNe, rEq, rIxTN, rIxLN, rLenL, rLenT, rIntI, rIntB, rAbs, rSetLN, tTruL, tRaiseX, rIsTy, rIsOw, ixN0, ixN1, tRet, tIf, tIfS, tNext, tBreak, tCont, tDrop, tTupN, tLstN, tUn, tCB, tCall, tNot, tAnd, tOr, tB, tAndV, tOrV, tNotV, tChain, tApp, LamX.tLam, tRevLN, rCatN, rInTN, rInLN, flatV, inV, List.all_cons, List.all_nil, List.any_cons, List.any_nil, Bool.and_self, Bool.and_true, if_true, Bool.false_eq_true, if_false, tMt, tFldN, tSto, HO.ins.injEq, lkh, List.drop_zero, List.drop_succ_cons, List.drop_nil, rListS, wipe, L2.start, List.map_cons, List.map_nil, List.length_cons, List.length_nil, List.replicate, List.cons_append, List.nil_append, List.append_nil, Nat.reduceAdd, Nat.reduceSub, Nat.zero_add, List.replicate_succ, List.replicate_zero, List.getElem?_cons_zero, List.getElem?_cons_succ, List.set_cons_zero, List.set_cons_succ, Option.some.injEq, V.int.injEq, V.bl.injEq, V.ref.injEq, V.str.injEq, V.ty.injEq, List.cons.injEq, HO.tup.injEq, HO.lst.injEq, and_true, true_and, and_assoc, exists_eq_left, exists_eq_left', exists_and_left, exists_eq', atI0, atI1, atI2, atI3, Int.cast_ofNat_Int, Int.reduceToNat, scal_ii, scal_in, scal_ni, scal_nn, scal_bb, scal_ss, scal_sn, scal_ns, scal_bn, scal_nb, ite_iff, decide_eq_true_eq, decide_eq_false_iff_not, Bool.not_eq_true', Classical.not_not, ne_eq, not_false_eq_true, not_true_eq_false, forall_const, true_implies, false_implies, imp_self, sizeLine_eq, Nat.reduceLeDiff, reduceCtorEq, decide_true, decide_false]
    have hi2 := (List.getElem?_eq_some_iff.mp hq).1
    refine ⟨_, rfl, _, rfl, by rw [sizeLine_eq]; simp, fun T H3 hT s3 h3 => ⟨T, rfl, ⟨_, SqT.of h3⟩, for_tup (xs := [ov lo, ov hi']) (fun j σ' H' => ∃ D ns t u v, σ' = [some (.ref a), some (.ref D), t, u, v] ∧ Same H3 H' ∧ IntsAt H' D ns ∧ ns.length ≤ 5 + 10 * i + 5 * j ∧ H D = none) ?_ (fun j σ' H' _ q => ?_) ?_ ?_⟩⟩
    · exact ⟨D, ns, _, _, v, rfl, fun _ _ h => h, s3 _ _ hD, by omega, nD⟩
    · obtain ⟨D, ns, t, u, v, rfl, s, q⟩ := q
      exact SqT.of (s _ _ h3)
    · rintro j x _ H4 hj ⟨D, ns, t, u, v, rfl, s4, hD, hl, nD⟩
      have hj2 := (List.getElem?_eq_some_iff.mp hj).1
      have hj3 : j < 2 := hj2
      have hxo : ∃ o : Option Int, x = ov o := by
        have := List.mem_of_getElem? hj
        simp only [List.mem_cons, List.not_mem_nil, or_false] at this
        rcases this with rfl | rfl <;> exact ⟨_, rfl⟩
      obtain ⟨o, rfl⟩ := hxo
      cases o with
      | none =>
        simp only [exists_and_left, ov, rMax2, tYes, calmS, tDNew, rInDN, rIxDN, rSetDN, tPop, rTupN, rMax, rMin, rSum, rAny, rSorted, rRepN, tSl, tPart, tNoPart, rSlLN, rSlG, rCatG, rOwnB, LamX.tLam3b, rListT, rRepr, tXf, tMtS, cx_K, Value.ref.injEq, HO.xd.injEq, lk0, tSeq, tPar3, tPar, tCons, tNil, tVar, tC, tAsg, gName, gCons, gNil, gTupN, gSub, tOp, rI, rI0, rU, tTest, rNe, rEq, rIxTN, rIxLN, rLenL, rLenT, rIntI, rIntB, rAbs, rSetLN, tTruL, tRaiseX, rIsTy, rIsOw, ixN0, ixN1, tRet, tIf, tIfS, tNext, tBreak, tCont, tDrop, tTupN, tLstN, tUn, tCB, tCall, tNot, tAnd, tOr, tB, tAndV, tOrV, tNotV, tChain, tApp, LamX.tLam, tRevLN, rCatN, rInTN, rInLN, flatV, inV, List.all_cons, List.all_nil, List.any_cons, List.any_nil, Bool.and_self, Bool.and_true, if_true, Bool.false_eq_true, if_false, tMt, tFldN, tSto, HO.ins.injEq, lkh, List.drop_zero, List.drop_succ_cons, List.drop_nil, rListS, wipe, L2.start, List.map_cons, List.map_nil, List.length_cons, List.length_nil, List.replicate, List.cons_append, List.nil_append, List.append_nil, Nat.reduceAdd, Nat.reduceSub, Nat.zero_add, List.replicate_succ, List.replicate_zero, List.getElem?_cons_zero, List.getElem?_cons_succ, List.set_cons_zero, List.set_cons_succ, Option.some.injEq, V.int.injEq, V.bl.injEq, V.ref.injEq, V.str.injEq, V.ty.injEq, List.cons.injEq, HO.tup.injEq, HO.lst.injEq, and_true, true_and, and_assoc, exists_eq_left, exists_eq_left', exists_and_left, exists_eq', atI0, atI1, atI2, atI3, Int.cast_ofNat_Int, Int.reduceToNat, scal_ii, scal_in, scal_ni, scal_nn, scal_bb, scal_ss, scal_sn, scal_ns, scal_bn, scal_nb, ite_iff, decide_eq_true_eq, decide_eq_false_iff_not, Bool.not_eq_true', Classical.not_not, ne_eq, not_false_eq_true, not_true_eq_false, forall_const, true_implies, false_implies, imp_self, sizeLine_eq, Nat.reduceLeDiff, reduceCtorEq, decide_true, decide_false]
        exact ⟨s4, ns, hD, by omega, nD⟩
      | some e =>
        simp only [exists_and_left, ov, rMax2, tYes, calmS, tDNew, rInDN, rIxDN, rSetDN, tPop, rTupN, rMax, rMin, rSum, rAny, rSorted, rRepN, tSl, tPart, tNoPart, rSlLN, rSlG, rCatG, rOwnB, LamX.tLam3b, rListT, rRepr, tXf, tMtS, cx_K, Value.ref.injEq, HO.xd.injEq, lk0, tSeq, tPar3, tPar, tCons, tNil, tVar, tC, tAsg, gName, gCons, gNil, gTupN, gSub, tOp, rI, rI0, rU, tTest, rNe, rEq, rIxTN, rIxLN, rLenL, rLenT, rIntI, rIntB, rAbs, rSetLN, tTruL, tRaiseX, rIsTy, rIsOw, ixN0, ixN1, tRet, tIf, tIfS, tNext, tBreak, tCont, tDrop, tTupN, tLstN, tUn, tCB, tCall, tNot, tAnd, tOr, tB, tAndV, tOrV, tNotV, tChain, tApp, LamX.tLam, tRevLN, rCatN, rInTN, rInLN, flatV, inV, List.all_cons, List.all_nil, List.any_cons, List.any_nil, Bool.and_self, Bool.and_true, if_true, Bool.false_eq_true, if_false, tMt, tFldN, tSto, HO.ins.injEq, lkh, List.drop_zero, List.drop_succ_cons, List.drop_nil, rListS, wipe, L2.start, List.map_cons, List.map_nil, List.length_cons, List.length_nil, List.replicate, List.cons_append, List.nil_append, List.append_nil, Nat.reduceAdd, Nat.reduceSub, Nat.zero_add, List.replicate_succ, List.replicate_zero, List.getElem?_cons_zero, List.getElem?_cons_succ, List.set_cons_zero, List.set_cons_succ, Option.some.injEq, V.int.injEq, V.bl.injEq, V.ref.injEq, V.str.injEq, V.ty.injEq, List.cons.injEq, HO.tup.injEq, HO.lst.injEq, and_true, true_and, and_assoc, exists_eq_left, exists_eq_left', exists_and_left, exists_eq', atI0, atI1, atI2, atI3, Int.cast_ofNat_Int, Int.reduceToNat, scal_ii, scal_in, scal_ni, scal_nn, scal_bb, scal_ss, scal_sn, scal_ns, scal_bn, scal_nb, ite_iff, decide_eq_true_eq, decide_eq_false_iff_not, Bool.not_eq_true', Classical.not_not, ne_eq, not_false_eq_true, not_true_eq_false, forall_const, true_implies, false_implies, imp_self, sizeLine_eq, Nat.reduceLeDiff, reduceCtorEq, decide_true, decide_false]
        refine fun D2 H5 hD2 s5 h5 => ⟨D2, rfl, _, s5 _ _ hD, _, h5, ?_, fun D3 H6 hD3 s6 h6 => ⟨D3, rfl, (s4.trans s5).trans s6, ns ++ [e - 2, e - 1, e, e + 1, e + 3], by unfold IntsAt; rw [h6]; simp, by simp; omega, none_of (((st.trans s3).trans s4).trans s5) hD3⟩⟩
        simp; omega
    · rintro _ H4 ⟨D, ns, t, u, v, rfl, s4, hD, hl, nD⟩
      exact ⟨D, ns, t, u, v, rfl, (st.trans s3).trans s4, hD, by simp at hl; omega, nD⟩
  · rintro _ H' ⟨D, ns, t, u, v, rfl, st, hD, hl, nD⟩
    simp only [exists_and_left, rMax2, tYes, calmS, tDNew, rInDN, rIxDN, rSetDN, tPop, rTupN, rMax, rMin, rSum, rAny, rSorted, rRepN, tSl, tPart, tNoPart, rSlLN, rSlG, rCatG, rOwnB, LamX.tLam3b, rListT, rRepr, tXf, tMtS, cx_K, Value.ref.injEq, HO.xd.injEq, lk0, tSeq, tPar3, tPar, tCons, tNil, tVar, tC, tAsg, gName, gCons, gNil, gTupN, gSub, tOp, rI, rI0, rU, tTest, rNe, rEq, rIxTN, rIxLN, rLenL, rLenT, rIntI, rIntB, rAbs, rSetLN, tTruL, tRaiseX, rIsTy, rIsOw, ixN0, ixN1, tRet, tIf, tIfS, tNext, tBreak, tCont, tDrop, tTupN, tLstN, tUn, tCB, tCall, tNot, tAnd, tOr, tB, tAndV, tOrV, tNotV, tChain, tApp, LamX.tLam, tRevLN, rCatN, rInTN, rInLN, flatV, inV, List.all_cons, List.all_nil, List.any_cons, List.any_nil, Bool.and_self, Bool.and_true, if_true, Bool.false_eq_true, if_false, tMt, tFldN, tSto, HO.ins.injEq, lkh, List.drop_zero, List.drop_succ_cons, List.drop_nil, rListS, wipe, L2.start, List.map_cons, List.map_nil, List.length_cons, List.length_nil, List.replicate, List.cons_append, List.nil_append, List.append_nil, Nat.reduceAdd, Nat.reduceSub, Nat.zero_add, List.replicate_succ, List.replicate_zero, List.getElem?_cons_zero, List.getElem?_cons_succ, List.set_cons_zero, List.set_cons_succ, Option.some.injEq, V.int.injEq, V.bl.injEq, V.ref.injEq, V.str.injEq, V.ty.injEq, List.cons.injEq, HO.tup.injEq, HO.lst.injEq, and_true, true_and, and_assoc, exists_eq_left, exists_eq_left', exists_and_left, exists_eq', atI0, atI1, atI2, atI3, Int.cast_ofNat_Int, Int.reduceToNat, scal_ii, scal_in, scal_ni, scal_nn, scal_bb, scal_ss, scal_sn, scal_ns, scal_bn, scal_nb, ite_iff, decide_eq_true_eq, decide_eq_false_iff_not, Bool.not_eq_true', Classical.not_not, ne_eq, not_false_eq_true, not_true_eq_false, forall_const, true_implies, false_implies, imp_self, sizeLine_eq, Nat.reduceLeDiff, reduceCtorEq, decide_true, decide_false]
    exact k D ns H' nD st hD (by rw [hp.length] at hl; exact hl)

/-! ### whether a number is in pairs -/
theorem inS_B {lo hi : Option Int} {i : Int} : inS lo hi i = inB lo hi i := rfl
def spHas : Sp := fun vs H Q _ => ∃ a n ps, vs = [.ref a, .int n] ∧ PairsAt H a ps ∧ Q (.bl (has ps n)) H
theorem o__law_has (T : Txt K mg) : OkF P w K mg base CX0 1 "_law_has" ["_law_pairs", "_law_number_here"] spHas := by
  obtain ⟨f, fd, g, F⟩ := T.d__law_has
  refine ⟨f, fd, g, F.kp, F.binds (fun _ _ _ _ _ _ us hl => match us, hl with | [_, _], _ => rfl), F.ok sc__law_has (fun vs H Q E h => ?_) (fun cdv A outer s H vs Q E hr h => ?_)⟩
  · first | (obtain ⟨_, rfl, _⟩ := h; rfl) | (obtain ⟨_, _, rfl, _⟩ := h; rfl) | (obtain ⟨_, _, _, rfl, _⟩ := h; rfl) | (obtain ⟨_, _, _, _, rfl, _⟩ := h; rfl) | (obtain ⟨_, _, _, _, _, rfl, _⟩ := h; rfl) | (obtain ⟨_, _, _, _, _, _, rfl, _⟩ := h; rfl) | (obtain ⟨_, _, _, _, _, _, _, rfl, _⟩ := h; rfl)
  have hu64 := hr.units
  refine ⟨_, pss_cons (ps_for PassesOwn.never rfl (pi_list (pv 0)) (pg_tupN (n := 2) (by rfl) (pgs_cons (pg_name (i := 2) sc__law_has.nd rfl (Or.inl rfl)) (pgs_cons (pg_name (i := 3) sc__law_has.nd rfl (Or.inl rfl)) pgs_nil))) (pss_one (ps_if (PW.pt (pw_and (PW.pt (pw_or (pt_cmpR op_isN (pv 2) (pe_non) (nomark _)) (pw_or1 (pt_cmpR op_le (pv 2) (pv 1) (nomark _))))) (pw_and1 (PW.pt (pw_or (pt_cmpR op_isN (pv 3) (pe_non) (nomark _)) (pw_or1 (pt_cmpR op_lt (pv 1) (pv 3) (nomark _)))))))) (pss_one (ps_ret (pe_bl))) (pss_nil))))
      (pss_one (ps_ret (pe_bl))), ?_⟩
  obtain ⟨a, n, ps, rfl, ⟨xs, hx, hp⟩, k⟩ := h
  simp only [exists_and_left, rMax2, tYes, calmS, tDNew, rInDN, rIxDN, rSetDN, tPop, rTupN, rMax, rMin, rSum, rAny, rSorted, rRepN, tSl, tPart, tNoPart, rSlLN, rSlG, rCatG, rOwnB, LamX.tLam3b, rListT, rRepr, tXf, tMtS, cx_K, Value.ref.injEq, HO.xd.injEq, lk0, tSeq, tPar3, tPar, tCons, tNil, tVar, tC, tAsg, gName, gCons, gNil, gTupN, gSub, tOp, rI, rI0, rU, tTest, rNe, rEq, rIxTN, rIxLN, rLenL, rLenT, rIntI, rIntB, rAbs, rSetLN, tTruL, tRaiseX, rIsTy, rIsOw, ixN0, ixN1, tRet, tIf, tIfS, tNext, tBreak, tCont, tDrop, tTupN, tLstN, tUn, tCB, tCall, tNot, tAnd, tOr, tB, tAndV, tOrV, tNotV, tChain, tApp, LamX.tLam, tRevLN, rCatN, rInTN, rInLN, flatV, inV, List.all_cons, List.all_nil, List.any_cons, List.any_nil, Bool.and_self, Bool.and_true, if_true, Bool.false_eq_true, if_false, tMt, tFldN, tSto, HO.ins.injEq, lkh, List.drop_zero, List.drop_succ_cons, List.drop_nil, rListS, wipe, L2.start, List.map_cons, List.map_nil, List.length_cons, List.length_nil, List.replicate, List.cons_append, List.nil_append, List.append_nil, Nat.reduceAdd, Nat.reduceSub, Nat.zero_add, List.replicate_succ, List.replicate_zero, List.getElem?_cons_zero, List.getElem?_cons_succ, List.set_cons_zero, List.set_cons_succ, Option.some.injEq, V.int.injEq, V.bl.injEq, V.ref.injEq, V.str.injEq, V.ty.injEq, List.cons.injEq, HO.tup.injEq, HO.lst.injEq, and_true, true_and, and_assoc, exists_eq_left, exists_eq_left', exists_and_left, exists_eq', atI0, atI1, atI2, atI3, Int.cast_ofNat_Int, Int.reduceToNat, scal_ii, scal_in, scal_ni, scal_nn, scal_bb, scal_ss, scal_sn, scal_ns, scal_bn, scal_nb, ite_iff, decide_eq_true_eq, decide_eq_false_iff_not, Bool.not_eq_true', Classical.not_not, ne_eq, not_false_eq_true, not_true_eq_false, forall_const, true_implies, false_implies, imp_self, sizeLine_eq, Nat.reduceLeDiff, reduceCtorEq, decide_true, decide_false]
  refine st_forL (a := a) (fun R r => ⟨_, rfl, r⟩) hx (fun i σ' H' => ∃ x2 x3, σ' = [some (V.ref a), some (V.int n), x2, x3] ∧ H' = H ∧ has (ps.take i) n = false) ⟨none, none, rfl, rfl, rfl⟩ (fun i σ' H' h => by obtain ⟨_, _, _, rfl, _⟩ := h; exact hx) ?_ ?_
  · rintro i x _ H' hi ⟨x2, x3, rfl, rfl, hf⟩
    obtain ⟨b, q, rfl, hq, hb⟩ := hp.get hi
    have ht : inB q.1 q.2 n = true → has ps n = true := fun h => has_iff.mpr ⟨q, List.mem_of_getElem? hq, h⟩
    have hn : inB q.1 q.2 n = false → has (ps.take (i + 1)) n = false := fun h => by rw [has_take hq, hf, h]; rfl
    obtain ⟨lo, hi'⟩ := q
    cases lo <;> cases hi' <;> simp only [hb, exists_and_left, ov, rMax2, tYes, calmS, tDNew, rInDN, rIxDN, rSetDN, tPop, rTupN, rMax, rMin, rSum, rAny, rSorted, rRepN, tSl, tPart, tNoPart, rSlLN, rSlG, rCatG, rOwnB, LamX.tLam3b, rListT, rRepr, tXf, tMtS, cx_K, Value.ref.injEq, HO.xd.injEq, lk0, tSeq, tPar3, tPar, tCons, tNil, tVar, tC, tAsg, gName, gCons, gNil, gTupN, gSub, tOp, rI, rI0, rU, tTest, rNe, rEq, rIxTN, rIxLN, rLenL, rLenT, rIntI, rIntB, rAbs, rSetLN, tTruL, tRaiseX, rIsTy, rIsOw, ixN0, ixN1, tRet, tIf, tIfS, tNext, tBreak, tCont, tDrop, tTupN, tLstN, tUn, tCB, tCall, tNot, tAnd, tOr, tB, tAndV, tOrV, tNotV, tChain, tApp, LamX.tLam, tRevLN, rCatN, rInTN, rInLN, flatV, inV, List.all_cons, List.all_nil, List.any_cons, List.any_nil, Bool.and_self, Bool.and_true, if_true, Bool.false_eq_true, if_false, tMt, tFldN, tSto, HO.ins.injEq, lkh, List.drop_zero, List.drop_succ_cons, List.drop_nil, rListS, wipe, L2.start, List.map_cons, List.map_nil, List.length_cons, List.length_nil, List.replicate, List.cons_append, List.nil_append, List.append_nil, Nat.reduceAdd, Nat.reduceSub, Nat.zero_add, List.replicate_succ, List.replicate_zero, List.getElem?_cons_zero, List.getElem?_cons_succ, List.set_cons_zero, List.set_cons_succ, Option.some.injEq, V.int.injEq, V.bl.injEq, V.ref.injEq, V.str.injEq, V.ty.injEq, List.cons.injEq, HO.tup.injEq, HO.lst.injEq, and_true, true_and, and_assoc, exists_eq_left, exists_eq_left', exists_and_left, exists_eq', atI0, atI1, atI2, atI3, Int.cast_ofNat_Int, Int.reduceToNat, scal_ii, scal_in, scal_ni, scal_nn, scal_bb, scal_ss, scal_sn, scal_ns, scal_bn, scal_nb, ite_iff, decide_eq_true_eq, decide_eq_false_iff_not, Bool.not_eq_true', Classical.not_not, ne_eq, not_false_eq_true, not_true_eq_false, forall_const, true_implies, false_implies, imp_self, sizeLine_eq, Nat.reduceLeDiff, reduceCtorEq, decide_true, decide_false] <;> simp_all [inB]
    all_goals first
      | (intro h1; rw [ht h1] at k; exact k)
      | (intro h1 h2; rw [ht h1 h2] at k; exact k)
      | (refine ⟨fun h1 h2 => ?_, fun h1 => ?_⟩ <;> first | (rw [ht h1 h2] at k; exact k) | (apply hn; intro h3; omega))
      | trace_state
  · rintro _ H' ⟨x2, x3, rfl, rfl, hf⟩
    rw [hp.length, List.take_length] at hf
    rw [hf] at k
    simp only [exists_and_left, rMax2, tYes, calmS, tDNew, rInDN, rIxDN, rSetDN, tPop, rTupN, rMax, rMin, rSum, rAny, rSorted, rRepN, tSl, tPart, tNoPart, rSlLN, rSlG, rCatG, rOwnB, LamX.tLam3b, rListT, rRepr, tXf, tMtS, cx_K, Value.ref.injEq, HO.xd.injEq, lk0, tSeq, tPar3, tPar, tCons, tNil, tVar, tC, tAsg, gName, gCons, gNil, gTupN, gSub, tOp, rI, rI0, rU, tTest, rNe, rEq, rIxTN, rIxLN, rLenL, rLenT, rIntI, rIntB, rAbs, rSetLN, tTruL, tRaiseX, rIsTy, rIsOw, ixN0, ixN1, tRet, tIf, tIfS, tNext, tBreak, tCont, tDrop, tTupN, tLstN, tUn, tCB, tCall, tNot, tAnd, tOr, tB, tAndV, tOrV, tNotV, tChain, tApp, LamX.tLam, tRevLN, rCatN, rInTN, rInLN, flatV, inV, List.all_cons, List.all_nil, List.any_cons, List.any_nil, Bool.and_self, Bool.and_true, if_true, Bool.false_eq_true, if_false, tMt, tFldN, tSto, HO.ins.injEq, lkh, List.drop_zero, List.drop_succ_cons, List.drop_nil, rListS, wipe, L2.start, List.map_cons, List.map_nil, List.length_cons, List.length_nil, List.replicate, List.cons_append, List.nil_append, List.append_nil, Nat.reduceAdd, Nat.reduceSub, Nat.zero_add, List.replicate_succ, List.replicate_zero, List.getElem?_cons_zero, List.getElem?_cons_succ, List.set_cons_zero, List.set_cons_succ, Option.some.injEq, V.int.injEq, V.bl.injEq, V.ref.injEq, V.str.injEq, V.ty.injEq, List.cons.injEq, HO.tup.injEq, HO.lst.injEq, and_true, true_and, and_assoc, exists_eq_left, exists_eq_left', exists_and_left, exists_eq', atI0, atI1, atI2, atI3, Int.cast_ofNat_Int, Int.reduceToNat, scal_ii, scal_in, scal_ni, scal_nn, scal_bb, scal_ss, scal_sn, scal_ns, scal_bn, scal_nb, ite_iff, decide_eq_true_eq, decide_eq_false_iff_not, Bool.not_eq_true', Classical.not_not, ne_eq, not_false_eq_true, not_true_eq_false, forall_const, true_implies, false_implies, imp_self, sizeLine_eq, Nat.reduceLeDiff, reduceCtorEq, decide_true, decide_false]
    exact k

/-! ### a told row is told by its members -/
theorem inB_iff {lo hi : Option Int} {i : Int} : inB lo hi i = true ↔ (∀ l, lo = some l → l ≤ i) ∧ ∀ h, hi = some h → i < h := by
  cases lo <;> cases hi <;> simp [inB]
section
variable {q q' : PP} {qs qs' : List PP}
theorem Norm.tail (N : Norm (q :: qs)) : Norm qs := ⟨fun p hp => N.ok p (.tail _ hp), (List.pairwise_cons.mp N.gap).2⟩
theorem Norm.after (N : Norm (q :: qs)) : ∀ p ∈ qs, gapP q p := (List.pairwise_cons.mp N.gap).1
theorem Norm.lo (N : Norm (q :: qs)) {i : Int} (h : has (q :: qs) i = true) : ∀ l, q.1 = some l → l ≤ i := by
  intro l e
  obtain ⟨p, hp, hi⟩ := has_iff.mp h
  rcases List.mem_cons.mp hp with rfl | hp
  · exact (inB_iff.mp hi).1 l e
  · obtain ⟨h0, l0, e1, e2, lt⟩ := N.after p hp
    have := (inB_iff.mp hi).1 l0 e2
    have ok := N.ok q (.head _)
    obtain ⟨a, b⟩ := q
    simp only at e e1
    subst e e1
    have ok : l < h0 := ok
    omega
theorem Norm.hi (N : Norm (q :: qs)) {h : Int} (e : q.2 = some h) : has (q :: qs) h = false := by
  cases c : has (q :: qs) h with
  | false => rfl
  | true =>
    obtain ⟨p, hp, hi⟩ := has_iff.mp c
    rcases List.mem_cons.mp hp with rfl | hp
    · have := (inB_iff.mp hi).2 h e; omega
    · obtain ⟨h0, l0, e1, e2, lt⟩ := N.after p hp
      have := (inB_iff.mp hi).1 l0 e2
      rw [e] at e1
      cases e1
      omega
theorem has_cons {i : Int} : has (q :: qs) i = (inB q.1 q.2 i || has qs i) := by simp [has]
theorem Norm.tl (N : Norm (q :: qs)) {i : Int} : has qs i = (has (q :: qs) i && !inB q.1 q.2 i) := by
  rw [has_cons]
  cases c : inB q.1 q.2 i with
  | false => simp
  | true =>
    cases d : has qs i with
    | false => rfl
    | true =>
      obtain ⟨p, hp, hi⟩ := has_iff.mp d
      obtain ⟨h0, l0, e1, e2, lt⟩ := N.after p hp
      have := (inB_iff.mp hi).1 l0 e2
      have := (inB_iff.mp c).2 h0 e1
      omega
theorem okB_in {q : PP} (h : okB q) : ∃ i, inB q.1 q.2 i = true := by
  obtain ⟨a, b⟩ := q
  cases a with
  | none => cases b with
    | none => exact ⟨0, rfl⟩
    | some b => exact ⟨b - 1, inB_iff.mpr ⟨fun _ e => (by cases e), fun _ e => by cases e; omega⟩⟩
  | some a => cases b with
    | none => exact ⟨a, inB_iff.mpr ⟨fun _ e => by cases e; omega, fun _ e => (by cases e)⟩⟩
    | some b => exact ⟨a, inB_iff.mpr ⟨fun _ e => by cases e; omega, fun _ e => by cases e; exact h⟩⟩
theorem low_of (N : Norm (q :: qs)) (N' : Norm (q' :: qs')) (e : ∀ i, has (q :: qs) i = has (q' :: qs') i) {l' : Int} (h : q'.1 = some l') : ∃ l, q.1 = some l ∧ l' ≤ l := by
  have ok := N.ok q (.head _)
  cases c : q.1 with
  | some l =>
    refine ⟨l, rfl, N'.lo (i := l) ?_ l' h⟩
    rw [← e, has_cons]
    have : inB q.1 q.2 l = true := inB_iff.mpr ⟨fun a ha => by rw [c] at ha; cases ha; omega, fun b hb => by
      obtain ⟨x, y⟩ := q
      simp only at c hb
      subst c hb
      exact ok⟩
    rw [this]; rfl
  | none =>
    exfalso
    cases d : q.2 with
    | none =>
      have : inB q.1 q.2 (l' - 1) = true := by rw [c, d]; rfl
      have := N'.lo (i := l' - 1) (by rw [← e, has_cons, this]; rfl) l' h
      omega
    | some y =>
      have hm : min (l' - 1) (y - 1) ≤ l' - 1 ∧ min (l' - 1) (y - 1) ≤ y - 1 := by omega
      generalize min (l' - 1) (y - 1) = m at hm
      have : inB q.1 q.2 m = true := inB_iff.mpr ⟨fun a ha => (by rw [c] at ha; cases ha), fun b hb => by rw [d] at hb; cases hb; omega⟩
      have := N'.lo (i := m) (by rw [← e, has_cons, this]; rfl) l' h
      omega
theorem high_of (N : Norm (q :: qs)) (N' : Norm (q' :: qs')) (e : ∀ i, has (q :: qs) i = has (q' :: qs') i) (el : q.1 = q'.1) {h' : Int} (h : q'.2 = some h') : ∃ x, q.2 = some x ∧ x ≤ h' := by
  have f := N'.hi h
  rw [← e, has_cons, Bool.or_eq_false_iff] at f
  have ok' := N'.ok q' (.head _)
  have lo : ∀ l, q.1 = some l → l ≤ h' := fun l hl => by
    rw [el] at hl
    obtain ⟨x, y⟩ := q'
    simp only at h hl
    subst h hl
    have ok' : l < h' := ok'
    omega
  cases c : q.2 with
  | none =>
    have : inB q.1 q.2 h' = true := inB_iff.mpr ⟨lo, fun b hb => (by rw [c] at hb; cases hb)⟩
    rw [this] at f; exact absurd f.1 (by decide)
  | some x =>
    refine ⟨x, rfl, ?_⟩
    by_cases hx : x ≤ h'
    · exact hx
    · have : inB q.1 q.2 h' = true := inB_iff.mpr ⟨lo, fun b hb => by rw [c] at hb; cases hb; omega⟩
      rw [this] at f; exact absurd f.1 (by decide)
end
theorem norm_uniq : ∀ {rs rs' : List PP}, Norm rs → Norm rs' → (∀ i, has rs i = has rs' i) → rs = rs'
  | [], [], _, _, _ => rfl
  | [], q :: qs, _, N, e => by
    obtain ⟨i, hi⟩ := okB_in (N.ok q (.head _))
    have := e i
    rw [has_cons, hi] at this
    cases this
  | q :: qs, [], N, _, e => by
    obtain ⟨i, hi⟩ := okB_in (N.ok q (.head _))
    have := e i
    rw [has_cons, hi] at this
    cases this
  | q :: qs, q' :: qs', N, N', e => by
    have el : q.1 = q'.1 := by
      cases c : q'.1 with
      | some l' =>
        obtain ⟨l, h1, h2⟩ := low_of N N' e c
        obtain ⟨l2, h3, h4⟩ := low_of N' N (fun i => (e i).symm) h1
        rw [c] at h3; cases h3
        rw [h1]; congr 1; omega
      | none =>
        cases d : q.1 with
        | none => rfl
        | some l => obtain ⟨l2, h3, _⟩ := low_of N' N (fun i => (e i).symm) d; rw [c] at h3; cases h3
    have eh : q.2 = q'.2 := by
      cases c : q'.2 with
      | some l' =>
        obtain ⟨l, h1, h2⟩ := high_of N N' e el c
        obtain ⟨l2, h3, h4⟩ := high_of N' N (fun i => (e i).symm) el.symm h1
        rw [c] at h3; cases h3
        rw [h1]; congr 1; omega
      | none =>
        cases d : q.2 with
        | none => rfl
        | some l => obtain ⟨l2, h3, _⟩ := high_of N' N (fun i => (e i).symm) el.symm d; rw [c] at h3; cases h3
    have eq : q = q' := Prod.ext el eh
    subst eq
    rw [norm_uniq N.tail N'.tail fun i => by rw [N.tl, N'.tl, e]]

end
end Iz
/-! k04_g -/
set_option Elab.async false
set_option linter.all false
set_option maxRecDepth 100000
set_option maxHeartbeats 4000000
namespace Iz
open PySem PySem.Spec PyProof.Rows L2
open He (ga)
local macro_rules | `(tactic| walk_at "wp") => `(tactic| simp only [rMax2, tYes, calmS, tDNew, rInDN, rIxDN, rSetDN, tPop, rTupN, rMax, rMin, rSum, rAny, rSorted, rRepN, tSl, tPart, tNoPart, rSlLN, rSlG, rCatG, rOwnB, LamX.tLam3b, rListT, rRepr, tXf, tMtS, cx_K, Value.ref.injEq, HO.xd.injEq, lk0, tSeq, tPar3, tPar, tCons, tNil, tVar, tC, tAsg, gName, gCons, gNil, gTupN, gSub, tOp, rI, rI0, rU, tTest, rNe, rEq, rIxTN, rIxLN, rLenL, rLenT, rIntI, rIntB, rAbs, rSetLN, tTruL, tRaiseX, rIsTy, rIsOw, ixN0, ixN1, tRet, tIf, tIfS, tNext, tBreak, tCont, tDrop, tTupN, tLstN, tUn, tCB, tCall, tNot, tAnd, tOr, tB, tAndV, tOrV, tNotV, tChain, tApp, LamX.tLam, tRevLN, rCatN, rInTN, rInLN, flatV, inV, List.all_cons, List.all_nil, List.any_cons, List.any_nil, Bool.and_self, Bool.and_true, if_true, Bool.false_eq_true, if_false, tMt, tFldN, tSto, HO.ins.injEq, lkh, List.drop_zero, List.drop_succ_cons, List.drop_nil, rListS, wipe, L2.start, List.map_cons, List.map_nil, List.length_cons, List.length_nil, List.replicate, List.cons_append, List.nil_append, List.append_nil, Nat.reduceAdd, Nat.reduceSub, Nat.zero_add, List.replicate_succ, List.replicate_zero, List.getElem?_cons_zero, List.getElem?_cons_succ, List.set_cons_zero, List.set_cons_succ, Option.some.injEq, V.int.injEq, V.bl.injEq, V.ref.injEq, V.str.injEq, V.ty.injEq, List.cons.injEq, HO.tup.injEq, HO.lst.injEq, and_true, true_and, and_assoc, exists_eq_left, exists_eq_left', exists_and_left, exists_eq', atI0, atI1, atI2, atI3, Int.cast_ofNat_Int, Int.reduceToNat, scal_ii, scal_in, scal_ni, scal_nn, scal_bb, scal_ss, scal_sn, scal_ns, scal_bn, scal_nb, ite_iff, decide_eq_true_eq, decide_eq_false_iff_not, Bool.not_eq_true', Classical.not_not, ne_eq, not_false_eq_true, not_true_eq_false, forall_const, true_implies, false_implies, imp_self, sizeLine_eq, Nat.reduceLeDiff, reduceCtorEq, decide_true, decide_false])
section
variable {P : Program} {w : World} {K : PySem.W.Frag} {mg : Str → Option Value} {base : Heap}
/-! ### the law's told row: marks, spans -/
/-- all ends of a row -/
def endsO (ps : List PP) : List Int := ps.flatMap fun q => [q.1, q.2].filterMap id
theorem mem_endsO {ps : List PP} {x : Int} : x ∈ endsO ps ↔ ∃ q ∈ ps, q.1 = some x ∨ q.2 = some x := by
  simp only [endsO, List.mem_flatMap, List.mem_filterMap, List.mem_cons, List.not_mem_nil, or_false, id]
  constructor
  · rintro ⟨q, hq, a, rfl | rfl, h⟩
    · exact ⟨q, hq, .inl h⟩
    · exact ⟨q, hq, .inr h⟩
  · rintro ⟨q, hq, h | h⟩
    · exact ⟨q, hq, _, .inl rfl, h⟩
    · exact ⟨q, hq, _, .inr rfl, h⟩
/-- the k-th span between marks -/
def spanK (ms : List Int) (k : Nat) : PP := (if k = 0 then none else ms[k - 1]?, ms[k]?)
def spansR (ms : List Int) : List PP := [(none, ms[0]?)] ++ (List.range (ms.length - 1)).map (fun k => (ms[k]?, ms[k + 1]?)) ++ [(ms[ms.length - 1]?, none)]
theorem spans_get {ms : List Int} (h0 : 0 < ms.length) {k : Nat} {q : PP} (h : (spansR ms)[k]? = some q) : q = spanK ms k ∧ k ≤ ms.length := by
  unfold spansR at h
  unfold spanK
  by_cases c : k = 0
  · subst c
    simp at h
    exact ⟨by rw [← h]; rfl, by omega⟩
  · rw [List.append_assoc, List.getElem?_append_right (by simp; omega)] at h
    simp only [List.length_singleton] at h
    by_cases d : k - 1 < ms.length - 1
    · rw [List.getElem?_append_left (by simpa using d), List.getElem?_map, List.getElem?_range d] at h
      simp only [Option.map_some, Option.some.injEq] at h
      rw [if_neg c, ← h, show k - 1 + 1 = k by omega]
      exact ⟨rfl, by omega⟩
    · rw [List.getElem?_append_right (by simp; omega)] at h
      simp only [List.length_map, List.length_range] at h
      have e : k - 1 - (ms.length - 1) = 0 := by
        have := (List.getElem?_eq_some_iff.mp h).1
        simp at this; omega
      have ek : k = ms.length := by omega
      rw [e] at h
      simp at h
      subst ek
      rw [if_neg c, ← h, List.getElem?_eq_none (Nat.le_refl _)]
      refine ⟨Prod.ext ?_ rfl, Nat.le_refl _⟩
      rfl
theorem spans_len {ms : List Int} (h0 : 0 < ms.length) : (spansR ms).length = ms.length + 1 := by simp [spansR]; omega
section
variable {ms : List Int} {k : Nat}
abbrev AscI (ms : List Int) : Prop := ms.Pairwise (· < ·)
theorem asc_lt (A : AscI ms) {i j : Nat} {x y : Int} (hi : ms[i]? = some x) (hj : ms[j]? = some y) (h : i < j) : x < y := by
  obtain ⟨h1, rfl⟩ := List.getElem?_eq_some_iff.mp hi
  obtain ⟨h2, rfl⟩ := List.getElem?_eq_some_iff.mp hj
  exact List.pairwise_iff_getElem.mp A i j h1 h2 h
theorem sep (A : AscI ms) (hk : k ≤ ms.length) {x : Int} (hx : x ∈ ms) : (∃ l, (spanK ms k).1 = some l ∧ x ≤ l) ∨ ∃ h, (spanK ms k).2 = some h ∧ h ≤ x := by
  obtain ⟨i, hi⟩ := List.getElem?_of_mem hx
  have hil := (List.getElem?_eq_some_iff.mp hi).1
  by_cases c : i < k
  · refine .inl ⟨ms[k - 1]'(by omega), by unfold spanK; rw [if_neg (by omega)]; exact List.getElem?_eq_getElem _, ?_⟩
    by_cases d : i = k - 1
    · subst d
      rw [(List.getElem?_eq_some_iff.mp hi).2]; omega
    · have := asc_lt A hi (List.getElem?_eq_getElem (show k - 1 < ms.length by omega)) (by omega)
      omega
  · refine .inr ⟨ms[k]'(by omega), List.getElem?_eq_getElem _, ?_⟩
    by_cases d : i = k
    · subst d
      rw [(List.getElem?_eq_some_iff.mp hi).2]; omega
    · have := asc_lt A (List.getElem?_eq_getElem (show k < ms.length by omega)) hi (by omega)
      omega
theorem has_same {ps : List PP} (A : AscI ms) (hm : ∀ x ∈ endsO ps, x ∈ ms) (hk : k ≤ ms.length) {i j : Int} (hi : inB (spanK ms k).1 (spanK ms k).2 i = true) (hj : inB (spanK ms k).1 (spanK ms k).2 j = true) : has ps i = true → has ps j = true := by
  intro h
  obtain ⟨q, hq, h⟩ := has_iff.mp h
  refine has_iff.mpr ⟨q, hq, inB_iff.mpr ⟨fun l e => ?_, fun u e => ?_⟩⟩
  · have h1 := (inB_iff.mp h).1 l e
    rcases sep A hk (hm l (mem_endsO.mpr ⟨q, hq, .inl e⟩)) with ⟨x, e2, h2⟩ | ⟨x, e2, h2⟩
    · have := (inB_iff.mp hj).1 x e2; omega
    · have := (inB_iff.mp hi).2 x e2; omega
  · have h1 := (inB_iff.mp h).2 u e
    rcases sep A hk (hm u (mem_endsO.mpr ⟨q, hq, .inr e⟩)) with ⟨x, e2, h2⟩ | ⟨x, e2, h2⟩
    · have := (inB_iff.mp hi).1 x e2; omega
    · have := (inB_iff.mp hj).2 x e2; omega
/-- below the k-th mark; all, behind the last -/
def bK (ms : List Int) : Nat → Int → Bool
  | 0, _ => false
  | k + 1, j => match ms[k]? with
    | none => true
    | some m => decide (j < m)
theorem bK_succ (A : AscI ms) (hk : k ≤ ms.length) {j : Int} : bK ms (k + 1) j = (bK ms k j || inB (spanK ms k).1 (spanK ms k).2 j) := by
  cases k with
  | zero =>
    show (match ms[0]? with | none => true | some m => decide (j < m)) = (false || inB none ms[0]? j)
    cases ms[0]? <;> simp [inB]
  | succ k =>
    have e : ms[k]? = some (ms[k]'(by omega)) := List.getElem?_eq_getElem _
    show (match ms[k + 1]? with | none => true | some m => decide (j < m)) = ((match ms[k]? with | none => true | some m => decide (j < m)) || inB (if k + 1 = 0 then none else ms[k]?) ms[k + 1]? j)
    rw [if_neg (by omega), e]
    cases d : ms[k + 1]? with
    | none => simp only [inB, Bool.and_true]; by_cases c : j < ms[k]'(by omega) <;> simp [c]; omega
    | some m =>
      have lt := asc_lt A e d (by omega)
      simp only [inB]
      by_cases c : j < ms[k]'(by omega) <;> by_cases c2 : j < m <;> simp [c, c2] <;> omega
/-- what is told of the first k spans -/
structure Row (ps : List PP) (ms : List Int) (k : Nat) (rw : List PP) : Prop where
  N : Norm rw
  h : ∀ j, has rw j = (has ps j && bK ms k j)
  z : k = 0 → rw = []
  l : ∀ p, rw.getLast? = some p → ∀ m, 0 < k → ms[k - 1]? = some m → ∃ h, p.2 = some h ∧ h ≤ m
  len : rw.length ≤ k
theorem Row.nil {ps : List PP} : Row ps ms 0 [] := ⟨.nil, fun j => by simp [bK, has], fun _ => rfl, fun p e => by simp at e, Nat.le_refl _⟩
theorem okB_span (A : AscI ms) : okB (spanK ms k) := by
  unfold spanK
  cases c : (if k = 0 then none else ms[k - 1]?) with
  | none => cases ms[k]? <;> trivial
  | some x =>
    cases d : ms[k]? with
    | none => trivial
    | some y =>
      split at c
      · cases c
      · exact asc_lt A c d (by omega)
section
variable {ps rw : List PP} (A : AscI ms) (hm : ∀ x ∈ endsO ps, x ∈ ms) (hk : k ≤ ms.length) (R : Row ps ms k rw)
include A hm hk R
theorem Row.skip {i : Int} (hi : inB (spanK ms k).1 (spanK ms k).2 i = true) (hf : has ps i = false) : Row ps ms (k + 1) rw := by
  refine ⟨R.N, fun j => ?_, fun e => (by omega), fun p e m _ hm2 => ?_, by have := R.len; omega⟩
  · rw [R.h, bK_succ A hk]
    cases c : inB (spanK ms k).1 (spanK ms k).2 j with
    | false => simp
    | true =>
      have : has ps j = false := by
        cases d : has ps j with
        | false => rfl
        | true => have := has_same A hm hk c hi d; rw [hf] at this; cases this
      rw [this]; rfl
  · have hm2 : ms[k]? = some m := hm2
    by_cases c : k = 0
    · rw [R.z c] at e; simp at e
    · obtain ⟨h, e1, e2⟩ := R.l p e (ms[k - 1]'(by omega)) (by omega) (List.getElem?_eq_getElem _)
      have := asc_lt A (List.getElem?_eq_getElem (show k - 1 < ms.length by omega)) hm2 (by omega)
      exact ⟨h, e1, by omega⟩
theorem Row.fill {i : Int} (hi : inB (spanK ms k).1 (spanK ms k).2 i = true) (ht : has ps i = true) {j : Int} : ((has ps j && bK ms k j) || inB (spanK ms k).1 (spanK ms k).2 j) = (has ps j && bK ms (k + 1) j) := by
  rw [bK_succ A hk]
  cases c : inB (spanK ms k).1 (spanK ms k).2 j with
  | false => simp
  | true => rw [has_same A hm hk hi c ht]; simp
theorem Row.put {i : Int} (hi : inB (spanK ms k).1 (spanK ms k).2 i = true) (ht : has ps i = true) (hn : ∀ p, rw.getLast? = some p → p.2 ≠ (spanK ms k).1) : Row ps ms (k + 1) (rw ++ [spanK ms k]) := by
  refine ⟨R.N.app (okB_span A) fun p e => ?_, fun j => ?_, fun e => (by omega), fun p e m _ hm2 => ?_, by have := R.len; simp; omega⟩
  · by_cases c : k = 0
    · rw [R.z c] at e; simp at e
    · have e2 : ms[k - 1]? = some (ms[k - 1]'(by omega)) := List.getElem?_eq_getElem _
      obtain ⟨h, e1, h2⟩ := R.l p e _ (by omega) e2
      have e3 : (spanK ms k).1 = some (ms[k - 1]'(by omega)) := by unfold spanK; rw [if_neg c]; exact e2
      refine ⟨h, _, e1, e3, ?_⟩
      have := hn p e
      rw [e1, e3] at this
      have : h ≠ ms[k - 1]'(by omega) := fun z => this (by rw [z])
      omega
  · rw [has_app, has_one, R.h, R.fill A hm hk hi ht]
  · simp only [List.getLast?_append, List.getLast?_singleton, Option.some_or, Option.some.injEq] at e
    subst e
    exact ⟨m, hm2, by omega⟩
theorem Row.merge {r0 : List PP} {b e : Option Int} (er : rw = r0 ++ [(b, e)]) (he : e = (spanK ms k).1) {i : Int} (hi : inB (spanK ms k).1 (spanK ms k).2 i = true) (ht : has ps i = true) : Row ps ms (k + 1) (r0 ++ [(b, (spanK ms k).2)]) := by
  subst er
  have c : k ≠ 0 := fun z => by have := R.z z; simp at this
  have e2 : ms[k - 1]? = some (ms[k - 1]'(by omega)) := List.getElem?_eq_getElem _
  have e3 : (spanK ms k).1 = some (ms[k - 1]'(by omega)) := by unfold spanK; rw [if_neg c]; exact e2
  have oks := okB_span A (k := k)
  rw [e3] at he
  generalize ms[k - 1]'(by omega) = m at *
  subst he
  have eg : ghigh (some m) (spanK ms k).2 = (spanK ms k).2 := by
    cases d : (spanK ms k).2 with
    | none => rfl
    | some y =>
      have : m < y := by
        have h1 : spanK ms k = (some m, some y) := Prod.ext e3 d
        rw [h1] at oks
        exact oks
      simp only [ghigh]
      rw [if_neg (by omega)]
  have ob := R.N.ok (b, some m) (by simp)
  have N2 := R.N.merge (h := (spanK ms k).2)
  have H2 : ∀ {i : Int}, _ := fun {i} => has_merge (r0 := r0) (b := b) (e := some m) (l := some m) (h := (spanK ms k).2) (i := i)
  rw [eg] at N2 H2
  refine ⟨N2, fun j => ?_, fun e => (by omega), fun p e m2 _ hm2 => ?_, by have := R.len; simp at this ⊢; omega⟩
  · rw [H2 (by cases b with | none => trivial | some b => exact Int.le_of_lt ob) (.inr ⟨m, m, rfl, rfl, by omega⟩), R.h, ← e3, R.fill A hm hk hi ht]
  · simp only [List.getLast?_append, List.getLast?_singleton, Option.some_or, Option.some.injEq] at e
    subst e
    exact ⟨m2, hm2, by omega⟩
end
theorem Row.done {ps rw : List PP} (R : Row ps ms (ms.length + 1) rw) : Norm rw ∧ ∀ j, has rw j = has ps j := by
  refine ⟨R.N, fun j => ?_⟩
  rw [R.h]
  have : bK ms (ms.length + 1) j = true := by
    show (match ms[ms.length]? with | none => true | some m => decide (j < m)) = true
    rw [List.getElem?_eq_none (by omega)]
  rw [this, Bool.and_true]
/-- inside a span -/
theorem in_span (A : AscI ms) {m0 : Int} (h0 : ms[0]? = some m0) : inB (spanK ms k).1 (spanK ms k).2 (match (spanK ms k).1 with | none => m0 - 1 | some l => l) = true ∨ ms.length < k := by
  by_cases hk : k ≤ ms.length
  · left
    have ok := okB_span A (k := k)
    cases c : (spanK ms k).1 with
    | some l =>
      refine inB_iff.mpr ⟨fun x e => by cases e; exact Int.le_refl _, fun y e => ?_⟩
      have h1 : spanK ms k = (some l, some y) := Prod.ext c e
      rw [h1] at ok
      exact ok
    | none =>
      refine inB_iff.mpr ⟨fun x e => (by cases e), fun y e => ?_⟩
      have : k = 0 := by
        unfold spanK at c
        by_cases z : k = 0
        · exact z
        · dsimp only at c
          rw [if_neg z, List.getElem?_eq_getElem (show k - 1 < ms.length by omega)] at c
          cases c
      subst this
      have e : ms[0]? = some y := e
      rw [h0] at e
      cases e
      dsimp only
      omega
  · right; omega
end

/-! ### rows put together: the mathematics -/
theorem SAll.app {H : Hp} {xs ys : List V} {ps qs : List PP} (h : SAll K H xs ps) (k : SAll K H ys qs) : SAll K H (xs ++ ys) (ps ++ qs) := by
  induction h with
  | nil => exact k
  | cons e _ ih => exact .cons e ih
/-- the gaps between the stretches of a row -/
def gapsR (rs : List PP) : List PP := List.zipWith (fun a b => (a.2, b.1)) rs rs.tail
theorem gapsR_cons {q q' : PP} {t : List PP} : gapsR (q :: q' :: t) = (q.2, q'.1) :: gapsR (q' :: t) := rfl
theorem gapsR_len {rs : List PP} : (gapsR rs).length = rs.length - 1 := by simp [gapsR]
theorem gapsR_get {rs : List PP} {i : Nat} {a b : PP} (h1 : rs[i]? = some a) (h2 : rs.tail[i]? = some b) : (gapsR rs)[i]? = some (a.2, b.1) := by simp [gapsR, List.getElem?_zipWith, h1, h2]
/-- at or above the end -/
def abv : Option Int → Int → Bool
  | none, _ => false
  | some h, i => decide (h ≤ i)
def lowP : Option Int → List PP
  | none => []
  | some l => [(none, some l)]
def highP : Option Int → List PP
  | none => []
  | some h => [(some h, none)]
theorem has_highP {o : Option Int} {i : Int} : has (highP o) i = abv o i := by cases o <;> simp [highP, has, inB, abv]
def lastH (q : PP) (t : List PP) : Option Int := (t.getLast?.getD q).2
theorem gaps_has : ∀ (t : List PP) (q : PP), Norm (q :: t) → ∀ i, (has (gapsR (q :: t)) i || abv (lastH q t) i) = (abv q.2 i && !has (q :: t) i)
  | [], q, N, i => by
    show (false || abv q.2 i) = _
    rw [has_one, Bool.false_or]
    cases e : q.2 with
    | none => rfl
    | some h =>
      show decide (h ≤ i) = (decide (h ≤ i) && !_)
      by_cases c : h ≤ i
      · have : inB q.1 (some h) i = false := by
          cases d : inB q.1 (some h) i with
          | false => rfl
          | true => have := (inB_iff.mp d).2 h rfl; omega
        rw [this]; simp [c]
      · simp [c]
  | q' :: t, q, N, i => by
    have ih := gaps_has t q' N.tail i
    have el : lastH q (q' :: t) = lastH q' t := by
      unfold lastH
      rw [List.getLast?_cons]
      simp
    obtain ⟨h, l, e1, e2, lt⟩ := N.after q' (.head _)
    rw [gapsR_cons, has_cons (q := (q.2, q'.1)), el, Bool.or_assoc, ih, has_cons (q := q) (qs := q' :: t), e1, e2]
    show (inB (some h) (some l) i || _) = (decide (h ≤ i) && _)
    have hb : inB (some h) (some l) i = (decide (h ≤ i) && decide (i < l)) := rfl
    rw [hb]
    have okq := N.ok q' (.tail _ (.head _))
    by_cases c1 : h ≤ i
    · have f1 : inB q.1 (some h) i = false := by
        cases d : inB q.1 (some h) i with
        | false => rfl
        | true => have := (inB_iff.mp d).2 h rfl; omega
      rw [f1]
      by_cases c2 : i < l
      · have f2 : has (q' :: t) i = false := by
          cases d : has (q' :: t) i with
          | false => rfl
          | true => have := N.tail.lo d l e2; omega
        simp [c1, c2, f2]
      · cases d : has (q' :: t) i with
        | true => simp [c1, c2]
        | false =>
          rw [has_cons, Bool.or_eq_false_iff] at d
          have d1 := d.1
          have : abv q'.2 i = true := by
            cases e : q'.2 with
            | none =>
              have : inB q'.1 q'.2 i = true := inB_iff.mpr ⟨fun x hx => by rw [e2] at hx; cases hx; omega, fun x hx => by rw [e] at hx; cases hx⟩
              rw [this] at d1; cases d1
            | some y =>
              show decide (y ≤ i) = true
              by_cases z : y ≤ i
              · simp [z]
              · have : inB q'.1 q'.2 i = true := inB_iff.mpr ⟨fun x hx => by rw [e2] at hx; cases hx; omega, fun x hx => by rw [e] at hx; cases hx; omega⟩
                rw [this] at d1; cases d1
          simp [c1, c2, this]
    · have f3 : abv q'.2 i = false := by
        cases e : q'.2 with
        | none => rfl
        | some y =>
          have : l < y := by
            obtain ⟨a, b⟩ := q'
            simp only at e e2
            subst e e2
            exact okq
          show decide (y ≤ i) = false
          simp; omega
      simp [c1, f3]
/-- what is not in a row -/
def restR (q : PP) (t : List PP) : List PP := gapsR (q :: t) ++ lowP q.1 ++ highP (lastH q t)
theorem has_rest {q : PP} {t : List PP} (N : Norm (q :: t)) (i : Int) : has (restR q t) i = !has (q :: t) i := by
  unfold restR
  rw [has_app, has_app, has_highP]
  have e : (has (gapsR (q :: t)) i || has (lowP q.1) i || abv (lastH q t) i) = (has (lowP q.1) i || (has (gapsR (q :: t)) i || abv (lastH q t) i)) := by
    cases has (gapsR (q :: t)) i <;> cases has (lowP q.1) i <;> simp
  rw [e, gaps_has t q N i]
  have key : has (lowP q.1) i = true ∨ abv q.2 i = true ∨ has (q :: t) i = true := by
    cases c : inB q.1 q.2 i with
    | true => exact .inr (.inr (by rw [has_cons, c]; rfl))
    | false =>
      cases e1 : q.1 with
      | none =>
        cases e2 : q.2 with
        | none => rw [e1, e2] at c; cases c
        | some h =>
          refine .inr (.inl ?_)
          rw [e1, e2] at c
          show decide (h ≤ i) = true
          simp [inB] at c
          simp; exact c
      | some l =>
        by_cases z : i < l
        · exact .inl (by simp [lowP, has, inB, z])
        · refine .inr (.inl ?_)
          cases e2 : q.2 with
          | none => rw [e1, e2] at c; simp [inB] at c; omega
          | some h =>
            rw [e1, e2] at c
            show decide (h ≤ i) = true
            simp [inB] at c
            simp; exact c (by omega)
  have low : has (lowP q.1) i = true → has (q :: t) i = false := fun h => by
    cases e1 : q.1 with
    | none => rw [e1] at h; cases h
    | some l =>
      rw [e1] at h
      have hl : i < l := by simpa [lowP, has, inB] using h
      cases d : has (q :: t) i with
      | false => rfl
      | true => have := N.lo d l e1; omega
  cases d : has (q :: t) i with
  | true =>
    cases f : has (lowP q.1) i with
    | false => simp
    | true => have := low f; rw [d] at this; cases this
  | false =>
    rcases key with k | k | k
    · rw [k]; rfl
    · rw [k]; simp
    · rw [d] at k; cases k
theorem okB_gaps {q : PP} {t : List PP} (N : Norm (q :: t)) : ∀ p ∈ restR q t, okB p := by
  intro p hp
  unfold restR at hp
  rcases List.mem_append.mp hp with hp | hp
  · rcases List.mem_append.mp hp with hp | hp
    · obtain ⟨i, hi⟩ := List.getElem?_of_mem hp
      have hl := (List.getElem?_eq_some_iff.mp hi).1
      rw [gapsR_len] at hl
      simp only [List.length_cons] at hl
      have g1 : (q :: t)[i]? = some ((q :: t)[i]'(by simp; omega)) := List.getElem?_eq_getElem _
      have g2 : (q :: t)[i + 1]? = some ((q :: t)[i + 1]'(by simp; omega)) := List.getElem?_eq_getElem _
      have g3 : (q :: t).tail[i]? = some ((q :: t)[i + 1]'(by simp; omega)) := by rw [List.getElem?_tail]; exact g2
      have hgap := List.pairwise_iff_getElem.mp N.gap i (i + 1) (by simp; omega) (by simp; omega) (by omega)
      rw [gapsR_get g1 g3] at hi
      obtain ⟨h, l, e1, e2, lt⟩ := hgap
      have := (Option.some.inj hi).symm
      rw [this, e1, e2]
      exact lt
    · cases e : q.1 with
      | none => rw [e] at hp; simp [lowP] at hp
      | some l => rw [e] at hp; simp [lowP] at hp; subst hp; trivial
  · cases e : lastH q t with
    | none => rw [e] at hp; simp [highP] at hp
    | some l => rw [e] at hp; simp [highP] at hp; subst hp; trivial
theorem restR_len {q : PP} {t : List PP} : (restR q t).length ≤ t.length + 2 := by
  unfold restR
  rw [List.length_append, List.length_append, gapsR_len]
  have h1 : (lowP q.1).length ≤ 1 := by cases q.1 <;> simp [lowP]
  have h2 : (highP (lastH q t)).length ≤ 1 := by cases lastH q t <;> simp [highP]
  simp only [List.length_cons]
  omega
/-- the row moved, turned -/
def mvP (n : Int) (q : PP) : PP := (addO q.1 n, addO q.2 n)
def tnP (q : PP) : PP := (turnO q.2, turnO q.1)
theorem has_mv {rs : List PP} {n i : Int} : has (rs.map (mvP n)) i = has rs (i - n) := by
  unfold has
  rw [List.any_map]
  congr 1
  funext q
  obtain ⟨a, b⟩ := q
  show inB (addO a n) (addO b n) i = inB a b (i - n)
  rw [Bool.eq_iff_iff, inB_iff, inB_iff]
  cases a <;> cases b <;> simp [addO] <;> omega
theorem has_tn {rs : List PP} {i : Int} : has (rs.map tnP) i = has rs (-i) := by
  unfold has
  rw [List.any_map]
  congr 1
  funext q
  obtain ⟨a, b⟩ := q
  show inB (turnO b) (turnO a) i = inB a b (-i)
  rw [Bool.eq_iff_iff, inB_iff, inB_iff]
  cases a <;> cases b <;> simp [turnO] <;> omega
theorem okB_mv {q : PP} {n : Int} (h : okB q) : okB (mvP n q) := by obtain ⟨a, b⟩ := q; cases a <;> cases b <;> simp_all [okB, mvP, addO]
theorem okB_tn {q : PP} (h : okB q) : okB (tnP q) := by obtain ⟨a, b⟩ := q; cases a <;> cases b <;> simp_all [okB, tnP, turnO]

end
end Iz
/-! k04_h -/
set_option Elab.async false
set_option linter.all false
set_option maxRecDepth 100000
set_option maxHeartbeats 4000000
namespace Iz
open PySem PySem.Spec PyProof.Rows L2
open He (ga)
local macro_rules | `(tactic| walk_at "wp") => `(tactic| simp only [rMax2, tYes, calmS, tDNew, rInDN, rIxDN, rSetDN, tPop, rTupN, rMax, rMin, rSum, rAny, rSorted, rRepN, tSl, tPart, tNoPart, rSlLN, rSlG, rCatG, rOwnB, LamX.tLam3b, rListT, rRepr, tXf, tMtS, cx_K, Value.ref.injEq, HO.xd.injEq, lk0, tSeq, tPar3, tPar, tCons, tNil, tVar, tC, tAsg, gName, gCons, gNil, gTupN, gSub, tOp, rI, rI0, rU, tTest, rNe, rEq, rIxTN, rIxLN, rLenL, rLenT, rIntI, rIntB, rAbs, rSetLN, tTruL, tRaiseX, rIsTy, rIsOw, ixN0, ixN1, tRet, tIf, tIfS, tNext, tBreak, tCont, tDrop, tTupN, tLstN, tUn, tCB, tCall, tNot, tAnd, tOr, tB, tAndV, tOrV, tNotV, tChain, tApp, LamX.tLam, tRevLN, rCatN, rInTN, rInLN, flatV, inV, List.all_cons, List.all_nil, List.any_cons, List.any_nil, Bool.and_self, Bool.and_true, if_true, Bool.false_eq_true, if_false, tMt, tFldN, tSto, HO.ins.injEq, lkh, List.drop_zero, List.drop_succ_cons, List.drop_nil, rListS, wipe, L2.start, List.map_cons, List.map_nil, List.length_cons, List.length_nil, List.replicate, List.cons_append, List.nil_append, List.append_nil, Nat.reduceAdd, Nat.reduceSub, Nat.zero_add, List.replicate_succ, List.replicate_zero, List.getElem?_cons_zero, List.getElem?_cons_succ, List.set_cons_zero, List.set_cons_succ, Option.some.injEq, V.int.injEq, V.bl.injEq, V.ref.injEq, V.str.injEq, V.ty.injEq, List.cons.injEq, HO.tup.injEq, HO.lst.injEq, and_true, true_and, and_assoc, exists_eq_left, exists_eq_left', exists_and_left, exists_eq', atI0, atI1, atI2, atI3, Int.cast_ofNat_Int, Int.reduceToNat, scal_ii, scal_in, scal_ni, scal_nn, scal_bb, scal_ss, scal_sn, scal_ns, scal_bn, scal_nb, ite_iff, decide_eq_true_eq, decide_eq_false_iff_not, Bool.not_eq_true', Classical.not_not, ne_eq, not_false_eq_true, not_true_eq_false, forall_const, true_implies, false_implies, imp_self, sizeLine_eq, Nat.reduceLeDiff, reduceCtorEq, decide_true, decide_false])
section
variable {P : Program} {w : World} {K : PySem.W.Frag} {mg : Str → Option Value} {base : Heap}
theorem ixN_last {n : Nat} (h : 0 < n) : ixN n (-1) = some (n - 1) := by
  unfold ixN
  rw [if_neg (by decide), if_pos (by omega)]
  congr 1; omega
theorem atI_last {α : Type} {xs : List α} {x : α} : atI (xs ++ [x]) (-1) = some x := by
  unfold atI
  rw [ixN_last (by simp)]
  simp

/-! ### the law's told row -/
theorem scal_ov {a b : Option Int} : scal (ov a) (ov b) = true := by cases a <;> cases b <;> rfl
theorem scal_oi {a : Option Int} {b : Int} : scal (ov a) (.int b) = true := by cases a <;> rfl
theorem ne_nil {K : PySem.W.Frag} {H : Hp} {a b : Addr} {ps : List (Option Int × Option Int)} {R : VK} (h : PairsAt H a ps) (h2 : H b = some (.lst [])) (r : R (.bl !ps.isEmpty) H) : rNeD K (.ref a) (.ref b) H R :=
  ⟨_, _, h.dp, dp_nil h2, sh_dPs.ok, (ShN.list (n := 0) fun _ h => by simp at h).ok, by cases ps <;> simp_all [PyData.eqv, PyData.eqvAll]⟩
theorem any_int {y : Int} {ms : List Int} : ((ms.map V.int).any fun z => eqV z (.int y)) = decide (y ∈ ms) := by
  induction ms with
  | nil => rfl
  | cons m ms ih =>
    have e : (((m :: ms).map V.int).any fun z => eqV z (.int y)) = ((m == y) || ((ms.map V.int).any fun z => eqV z (.int y))) := rfl
    rw [e, ih, Bool.eq_iff_iff, Bool.or_eq_true, beq_iff_eq, decide_eq_true_eq, decide_eq_true_eq, List.mem_cons]
    exact ⟨fun h => h.elim (fun e => .inl e.symm) .inr, fun h => h.elim (fun e => .inl e.symm) .inr⟩
theorem flat_ints {ms : List Int} : (ms.map V.int).all flatV = true := by simp [flatV]
theorem atI_map {ms : List Int} {k : Nat} {m : Int} (h : ms[k]? = some m) : atI (ms.map V.int) (k : Int) = some (.int m) := atI_ok (by omega) (by simp [h])
theorem atI_lastM {ms : List Int} {m : Int} (h : ms[ms.length - 1]? = some m) : atI (ms.map V.int) (-1) = some (.int m) := by
  have h0 : 0 < ms.length := by have := (List.getElem?_eq_some_iff.mp h).1; omega
  unfold atI
  rw [ixN_last (by simpa using h0)]
  simp [h]
theorem two {H : Hp} {a : Addr} {ps : List PP} {ms : List Int} {m0 : Int} {lo hi : Option Int} {X Y : Prop} (hm0 : ms[0]? = some m0) (hps : PairsAt H a ps) (hin : inB lo hi (match lo with | none => m0 - 1 | some l => l) = true) (kx : ∀ ins, inB lo hi ins = true → has ps ins = true → X)
    (ky : ∀ ins, inB lo hi ins = true → has ps ins = false → Y) : (ov lo = .non → ∃ x, atI (ms.map V.int) 0 = some x ∧ ∃ i, x = .int i ∧ ∃ x, PairsAt H a x ∧ (has x (i - 1) = true → X) ∧ (¬ has x (i - 1) = true → Y)) ∧ (¬ ov lo = .non → ∃ x, ov lo = .int x ∧ ∃ x1, PairsAt H a x1 ∧ (has x1 x = true → X) ∧ (¬ has x1 x = true → Y)) := by
  cases lo with
  | none => exact ⟨fun _ => ⟨_, atI_map (k := 0) hm0, _, rfl, ps, hps, kx _ hin, fun h => ky _ hin (by simpa using h)⟩, fun h => absurd rfl h⟩
  | some l => exact ⟨fun h => (by cases h), fun _ => ⟨l, rfl, ps, hps, kx _ hin, fun h => ky _ hin (by simpa using h)⟩⟩
def spTellL : Sp := fun vs H Q _ => ∃ a ps, vs = [.ref a] ∧ PairsAt H a ps ∧ ps.length ≤ 40 ∧ ∀ b rw H', H b = none → Same H H' → PairsAt H' b rw → Norm rw → (∀ j, has rw j = has ps j) → rw.length ≤ 81 → Q (.ref b) H'
theorem o__law_told (T : Txt K mg) : OkF P w K mg base CX0 2 "_law_told" ["_law_pairs"] spTellL := by
  have o__law_has := o__law_has (P := P) (w := w) (base := base) T
  obtain ⟨f, fd, g, F⟩ := T.d__law_told
  refine ⟨f, fd, g, F.kp, F.binds (fun _ _ _ _ _ _ us hl => match us, hl with | [_], _ => rfl), F.ok sc__law_told (fun vs H Q E h => ?_) (fun cdv A outer s H vs Q E hr h => ?_)⟩
  · first | (obtain ⟨_, rfl, _⟩ := h; rfl) | (obtain ⟨_, _, rfl, _⟩ := h; rfl) | (obtain ⟨_, _, _, rfl, _⟩ := h; rfl) | (obtain ⟨_, _, _, _, rfl, _⟩ := h; rfl) | (obtain ⟨_, _, _, _, _, rfl, _⟩ := h; rfl) | (obtain ⟨_, _, _, _, _, _, rfl, _⟩ := h; rfl) | (obtain ⟨_, _, _, _, _, _, _, rfl, _⟩ := h; rfl)
  have hu64 := hr.units
  refine ⟨_, pss_cons (ps_set (i := 1) sc__law_told.nd rfl (Or.inl rfl) (pe_lstN (pa_cons (pe_non) pa_nil)))
      (pss_cons (ps_for PassesOwn.never rfl (pi_list (pv 0)) (pg_tupN (n := 2) (by rfl) (pgs_cons (pg_name (i := 2) sc__law_told.nd rfl (Or.inl rfl)) (pgs_cons (pg_name (i := 3) sc__law_told.nd rfl (Or.inl rfl)) pgs_nil))) (pss_one (ps_set (i := 1) sc__law_told.nd rfl (Or.inl rfl) (pe_op op_catN (pv 1) (pe_lc (own := [("_law_end", 10)]) (g := gName 10) (by rfl) sc__law_told.nd (pi_tup (pe_tupN (pa_cons (pv 2) (pa_cons (pv 3) pa_nil)))) (blkOk_by (N := ["_law_pairs", "_law_ends_here", "_law_low", "_law_high", "_law_cuts", "_law_marks", "_law_cut", "_law_spans", "_law_row", "_law_inside", "_law_end", "_law_k"]) (sc := defScope s__law_told) (own := [("_law_end", 10)]) (by decide +kernel)) (fun _ _ _ _ _ => pg_name (i := 10) sc__law_told.nd rfl (Or.inl rfl)) (fun _ _ _ _ _ => pts_one (pt_cmpR op_notN (pv 10) (pe_non) (nomark _))) (fun _ _ _ _ _ => pv 10))))))
      (pss_cons (ps_set (i := 4) sc__law_told.nd rfl (Or.inl rfl) (pe_callB cr_sortedI (by rfl) T.m_sorted (by decide +kernel) (pa_cons (pe_lc (own := [("_law_end", 10)]) (g := gName 10) (by rfl) sc__law_told.nd (pi_list (pe_slice sl_listN (pv 1) (po_some (pe_int)) (po_none))) (blkOk_by (N := ["_law_pairs", "_law_ends_here", "_law_low", "_law_high", "_law_cuts", "_law_marks", "_law_cut", "_law_spans", "_law_row", "_law_inside", "_law_end", "_law_k"]) (sc := defScope s__law_told) (own := [("_law_end", 10)]) (by decide +kernel)) (fun _ _ _ _ _ => pg_name (i := 10) sc__law_told.nd rfl (Or.inl rfl)) (fun _ _ _ _ _ => pts_nil) (fun _ _ _ _ _ => pe_callTy call_intI (by rfl) T.m_int (by decide +kernel) (pa_cons (pv 10) pa_nil))) pa_nil)))
      (pss_cons (ps_set (i := 5) sc__law_told.nd rfl (Or.inr rfl) (pe_lstN (pa_nil)))
      (pss_cons (ps_for PassesOwn.never rfl (pi_list (pv 4)) (pg_name (i := 6) sc__law_told.nd rfl (Or.inl rfl)) (pss_one (ps_if (pt_cmpR op_notInLN (pv 6) (pv 5) (by rfl)) (pss_one (ps_expr (pe_appN (pv 5) (pa_cons (pv 6) pa_nil)))) (pss_nil))))
      (pss_cons (ps_if (pt_cmpR (op_eqDk (K := K) rfl hu64) (pv 5) (pe_lstN (pa_nil)) (nomark _)) (pss_one (ps_ret (pe_op op_repN (pe_lstN (pa_cons (pe_tupN (pa_cons (pe_non) (pa_cons (pe_non) pa_nil))) pa_nil)) (pe_callTy call_intB (by rfl) T.m_int (by decide +kernel) (pa_cons (pe_cmpR (op_neDk (K := K) rfl hu64) (pv 0) (pe_lstN (pa_nil)) (nomark _)) pa_nil))))) (pss_nil))
      (pss_cons (ps_set (i := 7) sc__law_told.nd rfl (Or.inl rfl) (pe_op op_catN (pe_op op_catN (pe_lstN (pa_cons (pe_tupN (pa_cons (pe_non) (pa_cons (pe_ix ix_listN (pv 5) (pe_int) (fun _ _ => rfl)) pa_nil))) pa_nil)) (pe_lc (own := [("_law_k", 11)]) (g := gName 11) (by rfl) sc__law_told.nd (pi_range1 (by rfl) T.m_range (pa_cons (pe_op op_sub (pe_callB call_lenL (by rfl) T.m_len (by decide +kernel) (pa_cons (pv 5) pa_nil)) (pe_int)) pa_nil)) (blkOk_by (N := ["_law_pairs", "_law_ends_here", "_law_low", "_law_high", "_law_cuts", "_law_marks", "_law_cut", "_law_spans", "_law_row", "_law_inside", "_law_end", "_law_k"]) (sc := defScope s__law_told) (own := [("_law_k", 11)]) (by decide +kernel)) (fun _ _ _ _ _ => pg_name (i := 11) sc__law_told.nd rfl (Or.inl rfl)) (fun _ _ _ _ _ => pts_nil) (fun _ _ _ _ _ => pe_tupN (pa_cons (pe_ix ix_listN (pv 5) (pv 11) (fun _ _ => rfl)) (pa_cons (pe_ix ix_listN (pv 5) (pe_op op_add (pv 11) (pe_int)) (fun _ _ => rfl)) pa_nil))))) (pe_lstN (pa_cons (pe_tupN (pa_cons (pe_ix ix_listN (pv 5) (pe_un un_neg (pe_int)) (fun _ _ => rfl)) (pa_cons (pe_non) pa_nil))) pa_nil))))
      (pss_cons (ps_set (i := 8) sc__law_told.nd rfl (Or.inl rfl) (pe_lstN (pa_nil)))
      (pss_cons (ps_for PassesOwn.never rfl (pi_list (pv 7)) (pg_tupN (n := 2) (by rfl) (pgs_cons (pg_name (i := 2) sc__law_told.nd rfl (Or.inl rfl)) (pgs_cons (pg_name (i := 3) sc__law_told.nd rfl (Or.inl rfl)) pgs_nil))) (pss_cons (ps_set (i := 9) sc__law_told.nd rfl (Or.inl rfl) (pe_ifExp (pt_cmpR op_isN (pv 2) (pe_non) (nomark _)) (pe_op op_sub (pe_ix ix_listN (pv 5) (pe_int) (fun _ _ => rfl)) (pe_int)) (pv 2)))
      (pss_one (ps_if (pt_val (pcl o__law_has (hr.mono (by decide)) pass0 (pa_cons (pv 0) (pa_cons (pv 9) pa_nil)))) (pss_one (ps_if (PW.pt (pw_and (pt_cmpR (op_neDk (K := K) rfl hu64) (pv 8) (pe_lstN (pa_nil)) (nomark _)) (pw_and1 (pt_cmpR op_eq (pe_ix ix_tupN (pe_ix ix_listN (pv 8) (pe_un un_neg (pe_int)) (fun _ _ => rfl)) (pe_int) (fun _ _ => rfl)) (pv 2) (nomark _))))) (pss_one (ps_asg (pe_tupN (pa_cons (pe_ix ix_tupN (pe_ix ix_listN (pv 8) (pe_un un_neg (pe_int)) (fun _ _ => rfl)) (pe_int) (fun _ _ => rfl)) (pa_cons (pv 3) pa_nil))) (pg_sub (pv 8) (pe_un un_neg (pe_int)) set_listN))) (pss_one (ps_expr (pe_appN (pv 8) (pa_cons (pe_tupN (pa_cons (pv 2) (pa_cons (pv 3) pa_nil))) pa_nil)))))) (pss_nil)))))
      (pss_one (ps_ret (pv 8))))))))))), ?_⟩
  obtain ⟨a, ps, rfl, hps, hlen, k⟩ := h
  obtain ⟨xs, hx, hp⟩ := hps
  simp only [exists_and_left, rMax2, tYes, calmS, tDNew, rInDN, rIxDN, rSetDN, tPop, rTupN, rMax, rMin, rSum, rAny, rSorted, rRepN, tSl, tPart, tNoPart, rSlLN, rSlG, rCatG, rOwnB, LamX.tLam3b, rListT, rRepr, tXf, tMtS, cx_K, Value.ref.injEq, HO.xd.injEq, lk0, tSeq, tPar3, tPar, tCons, tNil, tVar, tC, tAsg, gName, gCons, gNil, gTupN, gSub, tOp, rI, rI0, rU, tTest, rNe, rEq, rIxTN, rIxLN, rLenL, rLenT, rIntI, rIntB, rAbs, rSetLN, tTruL, tRaiseX, rIsTy, rIsOw, ixN0, ixN1, tRet, tIf, tIfS, tNext, tBreak, tCont, tDrop, tTupN, tLstN, tUn, tCB, tCall, tNot, tAnd, tOr, tB, tAndV, tOrV, tNotV, tChain, tApp, LamX.tLam, tRevLN, rCatN, rInTN, rInLN, flatV, inV, List.all_cons, List.all_nil, List.any_cons, List.any_nil, Bool.and_self, Bool.and_true, if_true, Bool.false_eq_true, if_false, tMt, tFldN, tSto, HO.ins.injEq, lkh, List.drop_zero, List.drop_succ_cons, List.drop_nil, rListS, wipe, L2.start, List.map_cons, List.map_nil, List.length_cons, List.length_nil, List.replicate, List.cons_append, List.nil_append, List.append_nil, Nat.reduceAdd, Nat.reduceSub, Nat.zero_add, List.replicate_succ, List.replicate_zero, List.getElem?_cons_zero, List.getElem?_cons_succ, List.set_cons_zero, List.set_cons_succ, Option.some.injEq, V.int.injEq, V.bl.injEq, V.ref.injEq, V.str.injEq, V.ty.injEq, List.cons.injEq, HO.tup.injEq, HO.lst.injEq, and_true, true_and, and_assoc, exists_eq_left, exists_eq_left', exists_and_left, exists_eq', atI0, atI1, atI2, atI3, Int.cast_ofNat_Int, Int.reduceToNat, scal_ii, scal_in, scal_ni, scal_nn, scal_bb, scal_ss, scal_sn, scal_ns, scal_bn, scal_nb, ite_iff, decide_eq_true_eq, decide_eq_false_iff_not, Bool.not_eq_true', Classical.not_not, ne_eq, not_false_eq_true, not_true_eq_false, forall_const, true_implies, false_implies, imp_self, sizeLine_eq, Nat.reduceLeDiff, reduceCtorEq, decide_true, decide_false]
  intro D H1 nD s1 h1
  have hz : sizeLine = sizeLine := rfl
  refine st_forL (a := a) (fun R r' => ⟨_, rfl, r'⟩) (s1 _ _ hx) (fun i σ' H' => ∃ b x2 x3, σ' = [some (.ref a), some (.ref b), x2, x3, none, none, none, none, none, none, none, none] ∧ Same H H' ∧ H' b = some (.lst (V.non :: (endsO (ps.take i)).map V.int)) ∧ (endsO (ps.take i)).length ≤ 2 * i) ?_ ?_ ?_ ?_
  · exact ⟨D, none, none, rfl, s1, h1, by simp [endsO]⟩
  · rintro i σ' H' ⟨b, x2, x3, _, s, _⟩
    exact s _ _ hx
  · rintro i x _ H2 hi ⟨b, x2, x3, rfl, s2, h2, hl⟩
    obtain ⟨c, q, rfl, hq, hc⟩ := hp.get hi
    have hc2 := s2 _ _ hc
    have hi2 := (List.getElem?_eq_some_iff.mp hq).1
    have et : endsO (ps.take (i + 1)) = endsO (ps.take i) ++ [q.1, q.2].filterMap id := by rw [List.take_succ, hq]; simp [endsO]
    have e2 : ([q.1, q.2].filterMap id).length ≤ 2 := List.length_filterMap_le _ _
    simp only [hc2, h2, exists_and_left, rMax2, tYes, calmS, tDNew, rInDN, rIxDN, rSetDN, tPop, rTupN, rMax, rMin, rSum, rAny, rSorted, rRepN, tSl, tPart, tNoPart, rSlLN, rSlG, rCatG, rOwnB, LamX.tLam3b, rListT, rRepr, tXf, tMtS, cx_K, Value.ref.injEq, HO.xd.injEq, lk0, tSeq, tPar3, tPar, tCons, tNil, tVar, tC, tAsg, gName, gCons, gNil, gTupN, gSub, tOp, rI, rI0, rU, tTest, rNe, rEq, rIxTN, rIxLN, rLenL, rLenT, rIntI, rIntB, rAbs, rSetLN, tTruL, tRaiseX, rIsTy, rIsOw, ixN0, ixN1, tRet, tIf, tIfS, tNext, tBreak, tCont, tDrop, tTupN, tLstN, tUn, tCB, tCall, tNot, tAnd, tOr, tB, tAndV, tOrV, tNotV, tChain, tApp, LamX.tLam, tRevLN, rCatN, rInTN, rInLN, flatV, inV, List.all_cons, List.all_nil, List.any_cons, List.any_nil, Bool.and_self, Bool.and_true, if_true, Bool.false_eq_true, if_false, tMt, tFldN, tSto, HO.ins.injEq, lkh, List.drop_zero, List.drop_succ_cons, List.drop_nil, rListS, wipe, L2.start, List.map_cons, List.map_nil, List.length_cons, List.length_nil, List.replicate, List.cons_append, List.nil_append, List.append_nil, Nat.reduceAdd, Nat.reduceSub, Nat.zero_add, List.replicate_succ, List.replicate_zero, List.getElem?_cons_zero, List.getElem?_cons_succ, List.set_cons_zero, List.set_cons_succ, Option.some.injEq, V.int.injEq, V.bl.injEq, V.ref.injEq, V.str.injEq, V.ty.injEq, List.cons.injEq, HO.tup.injEq, HO.lst.injEq, and_true, true_and, and_assoc, exists_eq_left, exists_eq_left', exists_and_left, exists_eq', atI0, atI1, atI2, atI3, Int.cast_ofNat_Int, Int.reduceToNat, scal_ii, scal_in, scal_ni, scal_nn, scal_bb, scal_ss, scal_sn, scal_ns, scal_bn, scal_nb, ite_iff, decide_eq_true_eq, decide_eq_false_iff_not, Bool.not_eq_true', Classical.not_not, ne_eq, not_false_eq_true, not_true_eq_false, forall_const, true_implies, false_implies, imp_self, sizeLine_eq, Nat.reduceLeDiff, reduceCtorEq, decide_true, decide_false]
    refine lc_inT ?_
    simp only [exists_and_left, rMax2, tYes, calmS, tDNew, rInDN, rIxDN, rSetDN, tPop, rTupN, rMax, rMin, rSum, rAny, rSorted, rRepN, tSl, tPart, tNoPart, rSlLN, rSlG, rCatG, rOwnB, LamX.tLam3b, rListT, rRepr, tXf, tMtS, cx_K, Value.ref.injEq, HO.xd.injEq, lk0, tSeq, tPar3, tPar, tCons, tNil, tVar, tC, tAsg, gName, gCons, gNil, gTupN, gSub, tOp, rI, rI0, rU, tTest, rNe, rEq, rIxTN, rIxLN, rLenL, rLenT, rIntI, rIntB, rAbs, rSetLN, tTruL, tRaiseX, rIsTy, rIsOw, ixN0, ixN1, tRet, tIf, tIfS, tNext, tBreak, tCont, tDrop, tTupN, tLstN, tUn, tCB, tCall, tNot, tAnd, tOr, tB, tAndV, tOrV, tNotV, tChain, tApp, LamX.tLam, tRevLN, rCatN, rInTN, rInLN, flatV, inV, List.all_cons, List.all_nil, List.any_cons, List.any_nil, Bool.and_self, Bool.and_true, if_true, Bool.false_eq_true, if_false, tMt, tFldN, tSto, HO.ins.injEq, lkh, List.drop_zero, List.drop_succ_cons, List.drop_nil, rListS, wipe, L2.start, List.map_cons, List.map_nil, List.length_cons, List.length_nil, List.replicate, List.cons_append, List.nil_append, List.append_nil, Nat.reduceAdd, Nat.reduceSub, Nat.zero_add, List.replicate_succ, List.replicate_zero, List.getElem?_cons_zero, List.getElem?_cons_succ, List.set_cons_zero, List.set_cons_succ, Option.some.injEq, V.int.injEq, V.bl.injEq, V.ref.injEq, V.str.injEq, V.ty.injEq, List.cons.injEq, HO.tup.injEq, HO.lst.injEq, and_true, true_and, and_assoc, exists_eq_left, exists_eq_left', exists_and_left, exists_eq', atI0, atI1, atI2, atI3, Int.cast_ofNat_Int, Int.reduceToNat, scal_ii, scal_in, scal_ni, scal_nn, scal_bb, scal_ss, scal_sn, scal_ns, scal_bn, scal_nb, ite_iff, decide_eq_true_eq, decide_eq_false_iff_not, Bool.not_eq_true', Classical.not_not, ne_eq, not_false_eq_true, not_true_eq_false, forall_const, true_implies, false_implies, imp_self, sizeLine_eq, Nat.reduceLeDiff, reduceCtorEq, decide_true, decide_false]
    intro u H3 _ s3 h3
    refine st_lcO (os := [q.1, q.2]) (fun R r => r) h3 rfl (show (2 : Nat) ≤ 1000 by decide) (fun i x o H' A B hx ho s hA hB => ?_) (fun L H4 nL s4 h4 => ?_)
    · have e : x = ov o := by
        rcases i with _ | _ | i
        · simp at hx ho; rw [← hx, ← ho]
        · simp at hx ho; rw [← hx, ← ho]
        · simp at hx
      subst e
      cases o <;> simp only [exists_and_left, ov, rMax2, tYes, calmS, tDNew, rInDN, rIxDN, rSetDN, tPop, rTupN, rMax, rMin, rSum, rAny, rSorted, rRepN, tSl, tPart, tNoPart, rSlLN, rSlG, rCatG, rOwnB, LamX.tLam3b, rListT, rRepr, tXf, tMtS, cx_K, Value.ref.injEq, HO.xd.injEq, lk0, tSeq, tPar3, tPar, tCons, tNil, tVar, tC, tAsg, gName, gCons, gNil, gTupN, gSub, tOp, rI, rI0, rU, tTest, rNe, rEq, rIxTN, rIxLN, rLenL, rLenT, rIntI, rIntB, rAbs, rSetLN, tTruL, tRaiseX, rIsTy, rIsOw, ixN0, ixN1, tRet, tIf, tIfS, tNext, tBreak, tCont, tDrop, tTupN, tLstN, tUn, tCB, tCall, tNot, tAnd, tOr, tB, tAndV, tOrV, tNotV, tChain, tApp, LamX.tLam, tRevLN, rCatN, rInTN, rInLN, flatV, inV, List.all_cons, List.all_nil, List.any_cons, List.any_nil, Bool.and_self, Bool.and_true, if_true, Bool.false_eq_true, if_false, tMt, tFldN, tSto, HO.ins.injEq, lkh, List.drop_zero, List.drop_succ_cons, List.drop_nil, rListS, wipe, L2.start, List.map_cons, List.map_nil, List.length_cons, List.length_nil, List.replicate, List.cons_append, List.nil_append, List.append_nil, Nat.reduceAdd, Nat.reduceSub, Nat.zero_add, List.replicate_succ, List.replicate_zero, List.getElem?_cons_zero, List.getElem?_cons_succ, List.set_cons_zero, List.set_cons_succ, Option.some.injEq, V.int.injEq, V.bl.injEq, V.ref.injEq, V.str.injEq, V.ty.injEq, List.cons.injEq, HO.tup.injEq, HO.lst.injEq, and_true, true_and, and_assoc, exists_eq_left, exists_eq_left', exists_and_left, exists_eq', atI0, atI1, atI2, atI3, Int.cast_ofNat_Int, Int.reduceToNat, scal_ii, scal_in, scal_ni, scal_nn, scal_bb, scal_ss, scal_sn, scal_ns, scal_bn, scal_nb, ite_iff, decide_eq_true_eq, decide_eq_false_iff_not, Bool.not_eq_true', Classical.not_not, ne_eq, not_false_eq_true, not_true_eq_false, forall_const, true_implies, false_implies, imp_self, sizeLine_eq, Nat.reduceLeDiff, reduceCtorEq, decide_true, decide_false]
      · exact hA rfl
      · exact hB _ rfl
    · simp only [exists_and_left, rMax2, tYes, calmS, tDNew, rInDN, rIxDN, rSetDN, tPop, rTupN, rMax, rMin, rSum, rAny, rSorted, rRepN, tSl, tPart, tNoPart, rSlLN, rSlG, rCatG, rOwnB, LamX.tLam3b, rListT, rRepr, tXf, tMtS, cx_K, Value.ref.injEq, HO.xd.injEq, lk0, tSeq, tPar3, tPar, tCons, tNil, tVar, tC, tAsg, gName, gCons, gNil, gTupN, gSub, tOp, rI, rI0, rU, tTest, rNe, rEq, rIxTN, rIxLN, rLenL, rLenT, rIntI, rIntB, rAbs, rSetLN, tTruL, tRaiseX, rIsTy, rIsOw, ixN0, ixN1, tRet, tIf, tIfS, tNext, tBreak, tCont, tDrop, tTupN, tLstN, tUn, tCB, tCall, tNot, tAnd, tOr, tB, tAndV, tOrV, tNotV, tChain, tApp, LamX.tLam, tRevLN, rCatN, rInTN, rInLN, flatV, inV, List.all_cons, List.all_nil, List.any_cons, List.any_nil, Bool.and_self, Bool.and_true, if_true, Bool.false_eq_true, if_false, tMt, tFldN, tSto, HO.ins.injEq, lkh, List.drop_zero, List.drop_succ_cons, List.drop_nil, rListS, wipe, L2.start, List.map_cons, List.map_nil, List.length_cons, List.length_nil, List.replicate, List.cons_append, List.nil_append, List.append_nil, Nat.reduceAdd, Nat.reduceSub, Nat.zero_add, List.replicate_succ, List.replicate_zero, List.getElem?_cons_zero, List.getElem?_cons_succ, List.set_cons_zero, List.set_cons_succ, Option.some.injEq, V.int.injEq, V.bl.injEq, V.ref.injEq, V.str.injEq, V.ty.injEq, List.cons.injEq, HO.tup.injEq, HO.lst.injEq, and_true, true_and, and_assoc, exists_eq_left, exists_eq_left', exists_and_left, exists_eq', atI0, atI1, atI2, atI3, Int.cast_ofNat_Int, Int.reduceToNat, scal_ii, scal_in, scal_ni, scal_nn, scal_bb, scal_ss, scal_sn, scal_ns, scal_bn, scal_nb, ite_iff, decide_eq_true_eq, decide_eq_false_iff_not, Bool.not_eq_true', Classical.not_not, ne_eq, not_false_eq_true, not_true_eq_false, forall_const, true_implies, false_implies, imp_self, sizeLine_eq, Nat.reduceLeDiff, reduceCtorEq, decide_true, decide_false]
      have s24 := s3.trans s4
      refine ⟨_, s24 _ _ h2, _, h4, by simp only [List.length_cons, List.length_map]; omega, fun M H5 _ s5 h5 => ?_⟩
      refine ⟨M, rfl, (s2.trans s24).trans s5, ?_, ?_⟩
      · rw [et, h5, List.map_append]; rfl
      · rw [et, List.length_append]; omega
  · rintro _ H2 ⟨b, x2, x3, rfl, s2, h2, hl⟩
    rw [hp.length, List.take_length] at h2 hl
    simp only [exists_and_left, h2, rMax2, tYes, calmS, tDNew, rInDN, rIxDN, rSetDN, tPop, rTupN, rMax, rMin, rSum, rAny, rSorted, rRepN, tSl, tPart, tNoPart, rSlLN, rSlG, rCatG, rOwnB, LamX.tLam3b, rListT, rRepr, tXf, tMtS, cx_K, Value.ref.injEq, HO.xd.injEq, lk0, tSeq, tPar3, tPar, tCons, tNil, tVar, tC, tAsg, gName, gCons, gNil, gTupN, gSub, tOp, rI, rI0, rU, tTest, rNe, rEq, rIxTN, rIxLN, rLenL, rLenT, rIntI, rIntB, rAbs, rSetLN, tTruL, tRaiseX, rIsTy, rIsOw, ixN0, ixN1, tRet, tIf, tIfS, tNext, tBreak, tCont, tDrop, tTupN, tLstN, tUn, tCB, tCall, tNot, tAnd, tOr, tB, tAndV, tOrV, tNotV, tChain, tApp, LamX.tLam, tRevLN, rCatN, rInTN, rInLN, flatV, inV, List.all_cons, List.all_nil, List.any_cons, List.any_nil, Bool.and_self, Bool.and_true, if_true, Bool.false_eq_true, if_false, tMt, tFldN, tSto, HO.ins.injEq, lkh, List.drop_zero, List.drop_succ_cons, List.drop_nil, rListS, wipe, L2.start, List.map_cons, List.map_nil, List.length_cons, List.length_nil, List.replicate, List.cons_append, List.nil_append, List.append_nil, Nat.reduceAdd, Nat.reduceSub, Nat.zero_add, List.replicate_succ, List.replicate_zero, List.getElem?_cons_zero, List.getElem?_cons_succ, List.set_cons_zero, List.set_cons_succ, Option.some.injEq, V.int.injEq, V.bl.injEq, V.ref.injEq, V.str.injEq, V.ty.injEq, List.cons.injEq, HO.tup.injEq, HO.lst.injEq, and_true, true_and, and_assoc, exists_eq_left, exists_eq_left', exists_and_left, exists_eq', atI0, atI1, atI2, atI3, Int.cast_ofNat_Int, Int.reduceToNat, scal_ii, scal_in, scal_ni, scal_nn, scal_bb, scal_ss, scal_sn, scal_ns, scal_bn, scal_nb, ite_iff, decide_eq_true_eq, decide_eq_false_iff_not, Bool.not_eq_true', Classical.not_not, ne_eq, not_false_eq_true, not_true_eq_false, forall_const, true_implies, false_implies, imp_self, sizeLine_eq, Nat.reduceLeDiff, reduceCtorEq, decide_true, decide_false]
    refine lc_inL ?_
    simp only [exists_and_left, rMax2, tYes, calmS, tDNew, rInDN, rIxDN, rSetDN, tPop, rTupN, rMax, rMin, rSum, rAny, rSorted, rRepN, tSl, tPart, tNoPart, rSlLN, rSlG, rCatG, rOwnB, LamX.tLam3b, rListT, rRepr, tXf, tMtS, cx_K, Value.ref.injEq, HO.xd.injEq, lk0, tSeq, tPar3, tPar, tCons, tNil, tVar, tC, tAsg, gName, gCons, gNil, gTupN, gSub, tOp, rI, rI0, rU, tTest, rNe, rEq, rIxTN, rIxLN, rLenL, rLenT, rIntI, rIntB, rAbs, rSetLN, tTruL, tRaiseX, rIsTy, rIsOw, ixN0, ixN1, tRet, tIf, tIfS, tNext, tBreak, tCont, tDrop, tTupN, tLstN, tUn, tCB, tCall, tNot, tAnd, tOr, tB, tAndV, tOrV, tNotV, tChain, tApp, LamX.tLam, tRevLN, rCatN, rInTN, rInLN, flatV, inV, List.all_cons, List.all_nil, List.any_cons, List.any_nil, Bool.and_self, Bool.and_true, if_true, Bool.false_eq_true, if_false, tMt, tFldN, tSto, HO.ins.injEq, lkh, List.drop_zero, List.drop_succ_cons, List.drop_nil, rListS, wipe, L2.start, List.map_cons, List.map_nil, List.length_cons, List.length_nil, List.replicate, List.cons_append, List.nil_append, List.append_nil, Nat.reduceAdd, Nat.reduceSub, Nat.zero_add, List.replicate_succ, List.replicate_zero, List.getElem?_cons_zero, List.getElem?_cons_succ, List.set_cons_zero, List.set_cons_succ, Option.some.injEq, V.int.injEq, V.bl.injEq, V.ref.injEq, V.str.injEq, V.ty.injEq, List.cons.injEq, HO.tup.injEq, HO.lst.injEq, and_true, true_and, and_assoc, exists_eq_left, exists_eq_left', exists_and_left, exists_eq', atI0, atI1, atI2, atI3, Int.cast_ofNat_Int, Int.reduceToNat, scal_ii, scal_in, scal_ni, scal_nn, scal_bb, scal_ss, scal_sn, scal_ns, scal_bn, scal_nb, ite_iff, decide_eq_true_eq, decide_eq_false_iff_not, Bool.not_eq_true', Classical.not_not, ne_eq, not_false_eq_true, not_true_eq_false, forall_const, true_implies, false_implies, imp_self, sizeLine_eq, Nat.reduceLeDiff, reduceCtorEq, decide_true, decide_false]
    refine ⟨_, SqL.of h2, fun S H3 _ s3 h3 => ?_⟩
    have ecut : cutV (V.non :: (endsO ps).map V.int) (some 1) none = (endsO ps).map V.int := by
      simp only [cutV, HT.sIx, List.length_cons]
      rw [if_neg (by omega), show min (Int.toNat 1) (((endsO ps).map V.int).length + 1) = 1 by simp]
      exact List.take_of_length_le (by simp)
    rw [ecut] at h3
    refine st_lcCp (fun R r => r) h3 (by omega) (fun n H' A B hB => ?_) (fun T H4 nT s4 h4 => ?_)
    · simp only [exists_and_left, rMax2, tYes, calmS, tDNew, rInDN, rIxDN, rSetDN, tPop, rTupN, rMax, rMin, rSum, rAny, rSorted, rRepN, tSl, tPart, tNoPart, rSlLN, rSlG, rCatG, rOwnB, LamX.tLam3b, rListT, rRepr, tXf, tMtS, cx_K, Value.ref.injEq, HO.xd.injEq, lk0, tSeq, tPar3, tPar, tCons, tNil, tVar, tC, tAsg, gName, gCons, gNil, gTupN, gSub, tOp, rI, rI0, rU, tTest, rNe, rEq, rIxTN, rIxLN, rLenL, rLenT, rIntI, rIntB, rAbs, rSetLN, tTruL, tRaiseX, rIsTy, rIsOw, ixN0, ixN1, tRet, tIf, tIfS, tNext, tBreak, tCont, tDrop, tTupN, tLstN, tUn, tCB, tCall, tNot, tAnd, tOr, tB, tAndV, tOrV, tNotV, tChain, tApp, LamX.tLam, tRevLN, rCatN, rInTN, rInLN, flatV, inV, List.all_cons, List.all_nil, List.any_cons, List.any_nil, Bool.and_self, Bool.and_true, if_true, Bool.false_eq_true, if_false, tMt, tFldN, tSto, HO.ins.injEq, lkh, List.drop_zero, List.drop_succ_cons, List.drop_nil, rListS, wipe, L2.start, List.map_cons, List.map_nil, List.length_cons, List.length_nil, List.replicate, List.cons_append, List.nil_append, List.append_nil, Nat.reduceAdd, Nat.reduceSub, Nat.zero_add, List.replicate_succ, List.replicate_zero, List.getElem?_cons_zero, List.getElem?_cons_succ, List.set_cons_zero, List.set_cons_succ, Option.some.injEq, V.int.injEq, V.bl.injEq, V.ref.injEq, V.str.injEq, V.ty.injEq, List.cons.injEq, HO.tup.injEq, HO.lst.injEq, and_true, true_and, and_assoc, exists_eq_left, exists_eq_left', exists_and_left, exists_eq', atI0, atI1, atI2, atI3, Int.cast_ofNat_Int, Int.reduceToNat, scal_ii, scal_in, scal_ni, scal_nn, scal_bb, scal_ss, scal_sn, scal_ns, scal_bn, scal_nb, ite_iff, decide_eq_true_eq, decide_eq_false_iff_not, Bool.not_eq_true', Classical.not_not, ne_eq, not_false_eq_true, not_true_eq_false, forall_const, true_implies, false_implies, imp_self, sizeLine_eq, Nat.reduceLeDiff, reduceCtorEq, decide_true, decide_false]
      exact hB
    · refine ⟨T, endsO ps, rfl, SqL.of h4, fun ys C pm so nC => ?_⟩
      have s5 : Same H4 (upd H4 C (.lst (ys.map V.int))) := fun b o hb => by rw [upd_ne (ne_of_none hb nC)]; exact hb
      have h5 : (upd H4 C (.lst (ys.map V.int))) C = some (.lst (ys.map V.int)) := upd_same
      generalize upd H4 C (.lst (ys.map V.int)) = H5 at s5 h5 ⊢
      have s05 := ((s2.trans s3).trans s4).trans s5
      clear s2 s3 s4 s5 h2 h3 h4 nC nT ecut
      have lys : ys.length ≤ 80 := by rw [pm.length_eq]; omega
      intro M H6 nM s6 h6
      have h56 := s6 _ _ h5
      refine st_forL (fun R r => (by simp only [exists_and_left, rMax2, tYes, calmS, tDNew, rInDN, rIxDN, rSetDN, tPop, rTupN, rMax, rMin, rSum, rAny, rSorted, rRepN, tSl, tPart, tNoPart, rSlLN, rSlG, rCatG, rOwnB, LamX.tLam3b, rListT, rRepr, tXf, tMtS, cx_K, Value.ref.injEq, HO.xd.injEq, lk0, tSeq, tPar3, tPar, tCons, tNil, tVar, tC, tAsg, gName, gCons, gNil, gTupN, gSub, tOp, rI, rI0, rU, tTest, rNe, rEq, rIxTN, rIxLN, rLenL, rLenT, rIntI, rIntB, rAbs, rSetLN, tTruL, tRaiseX, rIsTy, rIsOw, ixN0, ixN1, tRet, tIf, tIfS, tNext, tBreak, tCont, tDrop, tTupN, tLstN, tUn, tCB, tCall, tNot, tAnd, tOr, tB, tAndV, tOrV, tNotV, tChain, tApp, LamX.tLam, tRevLN, rCatN, rInTN, rInLN, flatV, inV, List.all_cons, List.all_nil, List.any_cons, List.any_nil, Bool.and_self, Bool.and_true, if_true, Bool.false_eq_true, if_false, tMt, tFldN, tSto, HO.ins.injEq, lkh, List.drop_zero, List.drop_succ_cons, List.drop_nil, rListS, wipe, L2.start, List.map_cons, List.map_nil, List.length_cons, List.length_nil, List.replicate, List.cons_append, List.nil_append, List.append_nil, Nat.reduceAdd, Nat.reduceSub, Nat.zero_add, List.replicate_succ, List.replicate_zero, List.getElem?_cons_zero, List.getElem?_cons_succ, List.set_cons_zero, List.set_cons_succ, Option.some.injEq, V.int.injEq, V.bl.injEq, V.ref.injEq, V.str.injEq, V.ty.injEq, List.cons.injEq, HO.tup.injEq, HO.lst.injEq, and_true, true_and, and_assoc, exists_eq_left, exists_eq_left', exists_and_left, exists_eq', atI0, atI1, atI2, atI3, Int.cast_ofNat_Int, Int.reduceToNat, scal_ii, scal_in, scal_ni, scal_nn, scal_bb, scal_ss, scal_sn, scal_ns, scal_bn, scal_nb, ite_iff, decide_eq_true_eq, decide_eq_false_iff_not, Bool.not_eq_true', Classical.not_not, ne_eq, not_false_eq_true, not_true_eq_false, forall_const, true_implies, false_implies, imp_self, sizeLine_eq, Nat.reduceLeDiff, reduceCtorEq, decide_true, decide_false]; exact r)) h56 (fun i σ' H' => ∃ ms x6, σ' = [some (.ref a), some (.ref b), x2, x3, some (.ref C), some (.ref M), x6, none, none, none, none, none] ∧ Same H5 H' ∧ H' M = some (.lst (ms.map V.int)) ∧ AscI ms ∧ (∀ x, x ∈ ms ↔ x ∈ ys.take i) ∧ ms.length ≤ i) ⟨[], none, rfl, s6, h6, .nil, by simp, Nat.le_refl _⟩ (fun i σ' H' h => by obtain ⟨_, _, _, s, _⟩ := h; exact s _ _ h5) ?_ ?_
      · rintro i x _ H7 hi ⟨ms, x6, rfl, s7, h7, A, hm, lm⟩
        obtain ⟨y, hy, rfl⟩ : ∃ y, ys[i]? = some y ∧ x = .int y := by
          rw [List.getElem?_map] at hi
          obtain ⟨y, h1, h2⟩ := Option.map_eq_some_iff.mp hi
          exact ⟨y, h1, h2.symm⟩
        have hi2 := (List.getElem?_eq_some_iff.mp hy).1
        have et : ∀ x, x ∈ ys.take (i + 1) ↔ x ∈ ys.take i ∨ x = y := fun x => by rw [List.take_succ, hy]; simp
        simp only [h7, exists_and_left, rMax2, tYes, calmS, tDNew, rInDN, rIxDN, rSetDN, tPop, rTupN, rMax, rMin, rSum, rAny, rSorted, rRepN, tSl, tPart, tNoPart, rSlLN, rSlG, rCatG, rOwnB, LamX.tLam3b, rListT, rRepr, tXf, tMtS, cx_K, Value.ref.injEq, HO.xd.injEq, lk0, tSeq, tPar3, tPar, tCons, tNil, tVar, tC, tAsg, gName, gCons, gNil, gTupN, gSub, tOp, rI, rI0, rU, tTest, rNe, rEq, rIxTN, rIxLN, rLenL, rLenT, rIntI, rIntB, rAbs, rSetLN, tTruL, tRaiseX, rIsTy, rIsOw, ixN0, ixN1, tRet, tIf, tIfS, tNext, tBreak, tCont, tDrop, tTupN, tLstN, tUn, tCB, tCall, tNot, tAnd, tOr, tB, tAndV, tOrV, tNotV, tChain, tApp, LamX.tLam, tRevLN, rCatN, rInTN, rInLN, flatV, inV, List.all_cons, List.all_nil, List.any_cons, List.any_nil, Bool.and_self, Bool.and_true, if_true, Bool.false_eq_true, if_false, tMt, tFldN, tSto, HO.ins.injEq, lkh, List.drop_zero, List.drop_succ_cons, List.drop_nil, rListS, wipe, L2.start, List.map_cons, List.map_nil, List.length_cons, List.length_nil, List.replicate, List.cons_append, List.nil_append, List.append_nil, Nat.reduceAdd, Nat.reduceSub, Nat.zero_add, List.replicate_succ, List.replicate_zero, List.getElem?_cons_zero, List.getElem?_cons_succ, List.set_cons_zero, List.set_cons_succ, Option.some.injEq, V.int.injEq, V.bl.injEq, V.ref.injEq, V.str.injEq, V.ty.injEq, List.cons.injEq, HO.tup.injEq, HO.lst.injEq, and_true, true_and, and_assoc, exists_eq_left, exists_eq_left', exists_and_left, exists_eq', atI0, atI1, atI2, atI3, Int.cast_ofNat_Int, Int.reduceToNat, scal_ii, scal_in, scal_ni, scal_nn, scal_bb, scal_ss, scal_sn, scal_ns, scal_bn, scal_nb, ite_iff, decide_eq_true_eq, decide_eq_false_iff_not, Bool.not_eq_true', Classical.not_not, ne_eq, not_false_eq_true, not_true_eq_false, forall_const, true_implies, false_implies, imp_self, sizeLine_eq, Nat.reduceLeDiff, reduceCtorEq, decide_true, decide_false]
        refine ⟨flat_ints, fun h => ?_, fun h => ?_⟩
        · refine ⟨by rw [List.length_map]; omega, fun H8 p8 => ⟨fun c o hc => by rw [p8.2 c (ne_of_none hc nM)]; exact s7 _ _ hc, ms ++ [y], by rw [p8.1, List.map_append]; rfl, ?_, fun x => ?_, by simp; omega⟩⟩
          · rw [any_int] at h
            simp at h
            refine List.pairwise_append.mpr ⟨A, by simp, fun m hm1 z hz => ?_⟩
            rw [List.mem_singleton.mp hz]
            have h1 := (hm m).mp hm1
            obtain ⟨j, hj⟩ := List.getElem?_of_mem h1
            have hji : j < i := by
              have := (List.getElem?_eq_some_iff.mp hj).1
              rw [List.length_take] at this; omega
            rw [List.getElem?_take, if_pos hji] at hj
            obtain ⟨h2, e2⟩ := List.getElem?_eq_some_iff.mp hj
            obtain ⟨h3, e3⟩ := List.getElem?_eq_some_iff.mp hy
            have := List.pairwise_iff_getElem.mp so j i h2 h3 hji
            rw [e2, e3] at this
            have : m ≠ y := fun z => h (z ▸ hm1)
            omega
          · rw [et, List.mem_append, hm, List.mem_singleton]
        · rw [any_int] at h
          simp at h
          refine ⟨s7, ms, rfl, A, fun x => ?_, by omega⟩
          rw [et, hm]
          exact ⟨.inl, fun z => z.elim id fun e => e ▸ (hm y).mp h⟩
      · rintro _ H7 ⟨ms, x6, rfl, s7, h7, A, hm, lm⟩
        rw [List.length_map, List.take_length] at hm
        rw [List.length_map] at lm
        have s07 := s05.trans s7
        have hm2 : ∀ x, x ∈ ms ↔ x ∈ endsO ps := fun x => by rw [hm, pm.mem_iff]
        have hx7 := s07 _ _ hx
        have hp7 := hp.mono s07
        clear hm s05 s6 s7 h5 h56 h6 nM so pm
        simp only [h7, exists_and_left, rMax2, tYes, calmS, tDNew, rInDN, rIxDN, rSetDN, tPop, rTupN, rMax, rMin, rSum, rAny, rSorted, rRepN, tSl, tPart, tNoPart, rSlLN, rSlG, rCatG, rOwnB, LamX.tLam3b, rListT, rRepr, tXf, tMtS, cx_K, Value.ref.injEq, HO.xd.injEq, lk0, tSeq, tPar3, tPar, tCons, tNil, tVar, tC, tAsg, gName, gCons, gNil, gTupN, gSub, tOp, rI, rI0, rU, tTest, rNe, rEq, rIxTN, rIxLN, rLenL, rLenT, rIntI, rIntB, rAbs, rSetLN, tTruL, tRaiseX, rIsTy, rIsOw, ixN0, ixN1, tRet, tIf, tIfS, tNext, tBreak, tCont, tDrop, tTupN, tLstN, tUn, tCB, tCall, tNot, tAnd, tOr, tB, tAndV, tOrV, tNotV, tChain, tApp, LamX.tLam, tRevLN, rCatN, rInTN, rInLN, flatV, inV, List.all_cons, List.all_nil, List.any_cons, List.any_nil, Bool.and_self, Bool.and_true, if_true, Bool.false_eq_true, if_false, tMt, tFldN, tSto, HO.ins.injEq, lkh, List.drop_zero, List.drop_succ_cons, List.drop_nil, rListS, wipe, L2.start, List.map_cons, List.map_nil, List.length_cons, List.length_nil, List.replicate, List.cons_append, List.nil_append, List.append_nil, Nat.reduceAdd, Nat.reduceSub, Nat.zero_add, List.replicate_succ, List.replicate_zero, List.getElem?_cons_zero, List.getElem?_cons_succ, List.set_cons_zero, List.set_cons_succ, Option.some.injEq, V.int.injEq, V.bl.injEq, V.ref.injEq, V.str.injEq, V.ty.injEq, List.cons.injEq, HO.tup.injEq, HO.lst.injEq, and_true, true_and, and_assoc, exists_eq_left, exists_eq_left', exists_and_left, exists_eq', atI0, atI1, atI2, atI3, Int.cast_ofNat_Int, Int.reduceToNat, scal_ii, scal_in, scal_ni, scal_nn, scal_bb, scal_ss, scal_sn, scal_ns, scal_bn, scal_nb, ite_iff, decide_eq_true_eq, decide_eq_false_iff_not, Bool.not_eq_true', Classical.not_not, ne_eq, not_false_eq_true, not_true_eq_false, forall_const, true_implies, false_implies, imp_self, sizeLine_eq, Nat.reduceLeDiff, reduceCtorEq, decide_true, decide_false]
        have hps7 : PairsAt H7 a ps := ⟨xs, hx7, hp7⟩
        intro e1 H8 _ s8 h8
        refine eq_ints (ns := ms) (ms := []) (s8 _ _ h7) h8 ⟨decide (ms = []), rfl, fun h => ?_, fun h => ?_⟩
        · have hms : ms = [] := by simpa using h
          intro t H9 _ s9 h9
          intro L H10 _ s10 h10
          intro e2 H11 _ s11 h11
          have s811 := (s9.trans s10).trans s11
          refine ne_nil ((hps7.mono s8).mono s811) h11 ⟨!ps.isEmpty, rfl, L, rfl, _, s11 _ _ h10, ?_⟩
          have ht : H11 t = some (.tup [ov none, ov none]) := (s10.trans s11) _ _ h9
          have fin : ∀ rw : List PP, PAll H11 (List.replicate (if (!ps.isEmpty) = true then (1 : Int) else 0).toNat [V.ref t]).flatten rw → Norm rw → (∀ j, has rw j = has ps j) → rw.length ≤ 81 → News H11 (.lst (List.replicate (if (!ps.isEmpty) = true then (1 : Int) else 0).toNat [V.ref t]).flatten) Q := fun rw h1 N hh hl2 => by
            intro B H12 nB s12 h12
            exact k B rw H12 (none_of ((s07.trans s8).trans s811) nB) (((s07.trans s8).trans s811).trans s12) ⟨_, h12, h1.mono s12⟩ N hh hl2
          refine ⟨by split <;> decide, by split <;> decide, by split <;> simp, ?_⟩
          cases ps with
          | nil => exact fin [] .nil .nil (fun j => rfl) (by decide)
          | cons q qs =>
            refine fin [(none, none)] (.cons ht .nil) ⟨fun p hp => by rw [List.mem_singleton.mp hp]; trivial, by simp⟩ (fun j => ?_) (by decide)
            have e1 : q.1 = none := by
              cases c : q.1 with
              | none => rfl
              | some x => have := (hm2 x).mpr (mem_endsO.mpr ⟨q, .head _, .inl c⟩); rw [hms] at this; cases this
            have e2 : q.2 = none := by
              cases c : q.2 with
              | none => rfl
              | some x => have := (hm2 x).mpr (mem_endsO.mpr ⟨q, .head _, .inr c⟩); rw [hms] at this; cases this
            rw [has_cons (q := q), e1, e2]; rfl
        · have hms : ms ≠ [] := by simpa using h
          have h0 : 0 < ms.length := List.length_pos_iff.mpr hms
          have hm0 : ms[0]? = some (ms[0]'h0) := List.getElem?_eq_getElem _
          have hml : ms[ms.length - 1]? = some (ms[ms.length - 1]'(by omega)) := List.getElem?_eq_getElem _
          generalize ms[0]'h0 = m0 at hm0
          generalize ms[ms.length - 1]'(by omega) = ml at hml
          refine ⟨_, s8 _ _ h7, _, atI_map (k := 0) hm0, fun t1 H9 _ s9 h9 => fun L1 H10 _ s10 h10 => ?_⟩
          have s710 := (s8.trans s9).trans s10
          refine st_lcR1 ((ms.length : Int) - 1) (by omega) (fun R r => ?_) (fun D i H' => H10 D = none ∧ Same H10 H' ∧ ∃ zs, H' D = some (.lst zs) ∧ PAll H' zs ((List.range i).map fun k => (ms[k]?, ms[k + 1]?))) (fun D H' nD sD hD => ⟨nD, sD, [], hD, .nil⟩) ?_ ?_
          · have h10M := s710 _ _ h7
            simp only [h10M, exists_and_left, rMax2, tYes, calmS, tDNew, rInDN, rIxDN, rSetDN, tPop, rTupN, rMax, rMin, rSum, rAny, rSorted, rRepN, tSl, tPart, tNoPart, rSlLN, rSlG, rCatG, rOwnB, LamX.tLam3b, rListT, rRepr, tXf, tMtS, cx_K, Value.ref.injEq, HO.xd.injEq, lk0, tSeq, tPar3, tPar, tCons, tNil, tVar, tC, tAsg, gName, gCons, gNil, gTupN, gSub, tOp, rI, rI0, rU, tTest, rNe, rEq, rIxTN, rIxLN, rLenL, rLenT, rIntI, rIntB, rAbs, rSetLN, tTruL, tRaiseX, rIsTy, rIsOw, ixN0, ixN1, tRet, tIf, tIfS, tNext, tBreak, tCont, tDrop, tTupN, tLstN, tUn, tCB, tCall, tNot, tAnd, tOr, tB, tAndV, tOrV, tNotV, tChain, tApp, LamX.tLam, tRevLN, rCatN, rInTN, rInLN, flatV, inV, List.all_cons, List.all_nil, List.any_cons, List.any_nil, Bool.and_self, Bool.and_true, if_true, Bool.false_eq_true, if_false, tMt, tFldN, tSto, HO.ins.injEq, lkh, List.drop_zero, List.drop_succ_cons, List.drop_nil, rListS, wipe, L2.start, List.map_cons, List.map_nil, List.length_cons, List.length_nil, List.replicate, List.cons_append, List.nil_append, List.append_nil, Nat.reduceAdd, Nat.reduceSub, Nat.zero_add, List.replicate_succ, List.replicate_zero, List.getElem?_cons_zero, List.getElem?_cons_succ, List.set_cons_zero, List.set_cons_succ, Option.some.injEq, V.int.injEq, V.bl.injEq, V.ref.injEq, V.str.injEq, V.ty.injEq, List.cons.injEq, HO.tup.injEq, HO.lst.injEq, and_true, true_and, and_assoc, exists_eq_left, exists_eq_left', exists_and_left, exists_eq', atI0, atI1, atI2, atI3, Int.cast_ofNat_Int, Int.reduceToNat, scal_ii, scal_in, scal_ni, scal_nn, scal_bb, scal_ss, scal_sn, scal_ns, scal_bn, scal_nb, ite_iff, decide_eq_true_eq, decide_eq_false_iff_not, Bool.not_eq_true', Classical.not_not, ne_eq, not_false_eq_true, not_true_eq_false, forall_const, true_implies, false_implies, imp_self, sizeLine_eq, Nat.reduceLeDiff, reduceCtorEq, decide_true, decide_false]
            rw [List.length_map]
            exact r
          · rintro D i H' hi ⟨nD, sD, zs, hD, hz⟩
            have hM := sD _ _ (s710 _ _ h7)
            have g1 : ms[i]? = some (ms[i]'(by omega)) := List.getElem?_eq_getElem _
            have g2 : ms[i + 1]? = some (ms[i + 1]'(by omega)) := List.getElem?_eq_getElem _
            simp only [hM, exists_and_left, rMax2, tYes, calmS, tDNew, rInDN, rIxDN, rSetDN, tPop, rTupN, rMax, rMin, rSum, rAny, rSorted, rRepN, tSl, tPart, tNoPart, rSlLN, rSlG, rCatG, rOwnB, LamX.tLam3b, rListT, rRepr, tXf, tMtS, cx_K, Value.ref.injEq, HO.xd.injEq, lk0, tSeq, tPar3, tPar, tCons, tNil, tVar, tC, tAsg, gName, gCons, gNil, gTupN, gSub, tOp, rI, rI0, rU, tTest, rNe, rEq, rIxTN, rIxLN, rLenL, rLenT, rIntI, rIntB, rAbs, rSetLN, tTruL, tRaiseX, rIsTy, rIsOw, ixN0, ixN1, tRet, tIf, tIfS, tNext, tBreak, tCont, tDrop, tTupN, tLstN, tUn, tCB, tCall, tNot, tAnd, tOr, tB, tAndV, tOrV, tNotV, tChain, tApp, LamX.tLam, tRevLN, rCatN, rInTN, rInLN, flatV, inV, List.all_cons, List.all_nil, List.any_cons, List.any_nil, Bool.and_self, Bool.and_true, if_true, Bool.false_eq_true, if_false, tMt, tFldN, tSto, HO.ins.injEq, lkh, List.drop_zero, List.drop_succ_cons, List.drop_nil, rListS, wipe, L2.start, List.map_cons, List.map_nil, List.length_cons, List.length_nil, List.replicate, List.cons_append, List.nil_append, List.append_nil, Nat.reduceAdd, Nat.reduceSub, Nat.zero_add, List.replicate_succ, List.replicate_zero, List.getElem?_cons_zero, List.getElem?_cons_succ, List.set_cons_zero, List.set_cons_succ, Option.some.injEq, V.int.injEq, V.bl.injEq, V.ref.injEq, V.str.injEq, V.ty.injEq, List.cons.injEq, HO.tup.injEq, HO.lst.injEq, and_true, true_and, and_assoc, exists_eq_left, exists_eq_left', exists_and_left, exists_eq', atI0, atI1, atI2, atI3, Int.cast_ofNat_Int, Int.reduceToNat, scal_ii, scal_in, scal_ni, scal_nn, scal_bb, scal_ss, scal_sn, scal_ns, scal_bn, scal_nb, ite_iff, decide_eq_true_eq, decide_eq_false_iff_not, Bool.not_eq_true', Classical.not_not, ne_eq, not_false_eq_true, not_true_eq_false, forall_const, true_implies, false_implies, imp_self, sizeLine_eq, Nat.reduceLeDiff, reduceCtorEq, decide_true, decide_false]
            refine ⟨_, atI_map g1, _, atI_map (k := i + 1) g2, fun t H11 nt s11 h11 => ⟨zs, s11 _ _ hD, by have := hz.length; simp at this; omega, nD, fun c o hc => by rw [upd_ne (ne_of_none hc nD)]; exact s11 _ _ (sD _ _ hc), zs ++ [.ref t], upd_same, ?_⟩⟩
            have keep : ∀ c us, H11 c = some (.tup us) → (upd H11 D (.lst (zs ++ [.ref t]))) c = some (.tup us) := fun c us hc => by rw [upd_ne (ne_of hc (s11 _ _ hD) (by intro z; cases z))]; exact hc
            rw [List.range_succ, List.map_append]
            refine ((hz.mono s11).monoT keep).snoc (q := (ms[i]?, ms[i + 1]?)) (keep _ _ ?_)
            rw [h11, g1, g2]; rfl
          · rintro D H11 ⟨nD, s11, zs, hD, hz⟩
            have lz := hz.length
            simp only [List.length_map, List.length_range] at lz
            refine ⟨L1, rfl, D, rfl, _, s11 _ _ h10, _, hD, by simp; omega, fun Lb H12 _ s12 h12 => ⟨_, s12 _ _ (s11 _ _ (s710 _ _ h7)), _, atI_lastM hml, fun t2 H13 _ s13 h13 => fun L3 H14 _ s14 h14 => ?_⟩⟩
            refine ⟨Lb, rfl, L3, rfl, _, s14 _ _ (s13 _ _ h12), _, h14, by simp; omega, fun S H15 _ s15 h15 => ?_⟩
            have s1015 := ((s11.trans s12).trans (s13.trans s14)).trans s15
            have hS : PAll H15 (([V.ref t1] ++ zs) ++ [V.ref t2]) (spansR ms) := by
              have e : (ms.length : Int) - 1 = ((ms.length - 1 : Nat) : Int) := by omega
              rw [e, Int.toNat_natCast] at hz
              refine PAll.app (PAll.app (.cons (q := (none, ms[0]?)) ?_ .nil) (hz.mono (((s12.trans s13).trans s14).trans s15))) (.cons (q := (ms[ms.length - 1]?, none)) ?_ .nil)
              · rw [hm0]; exact s1015 _ _ (s10 _ _ h9)
              · rw [hml]; exact (s14.trans s15) _ _ h13
            have s715 := s710.trans s1015
            have s015 := s07.trans s715
            have hps15 := hps7.mono s715
            have h7' := s715 _ _ h7
            clear h8 s8 h9 h10 h12 h13 h14 hD hz lz nD s1015 s710 s715 s07 s11 s12 s13 s14 s15 s9 s10 hx7 hp7 hps7 h7
            intro R H16 nR s16 h16
            have lS : (spansR ms).length = ms.length + 1 := spans_len h0
            have SR : S ≠ R := ne_of_none h15 nR
            have aR : a ≠ R := ne_of_none (s015 _ _ hx) nR
            have MR : M ≠ R := ne_of_none h7' nR
            have hz : sizeLine = sizeLine := rfl
            refine st_forL (a := S) (fun Q' r => ⟨_, rfl, r⟩) (s16 _ _ h15) (fun i σ' H' => ∃ x2 x3 x9 zs rw, σ' = [some (.ref a), some (.ref b), x2, x3, some (.ref C), some (.ref M), x6, some (.ref S), some (.ref R), x9, none, none] ∧ (∀ c o, H15 c = some o → H' c = some o) ∧ H' R = some (.lst zs) ∧ PAll H' zs rw ∧ Row ps ms i rw) ⟨_, _, _, [], [], rfl, s16, h16, .nil, .nil⟩ (fun i σ' H' h => by obtain ⟨_, _, _, _, _, _, s, _⟩ := h; exact s _ _ h15) ?_ ?_
            · rintro i x _ H17 hi ⟨x2, x3, x9, zs, rw, rfl, s17, hR, hzr, RW⟩
              obtain ⟨c, q, rfl, hq, hc⟩ := hS.get hi
              have hc17 := s17 _ _ hc
              have hM17 := s17 _ _ h7'
              obtain ⟨eq, hk⟩ := spans_get h0 hq
              have hin := (in_span (k := i) A hm0).resolve_right (by omega)
              rw [← eq] at hin
              have hends : ∀ x ∈ endsO ps, x ∈ ms := fun x hx => (hm2 x).mpr hx
              have ok := okB_span A (k := i)
              rw [← eq] at ok
              have hps17 : PairsAt H17 a ps := by obtain ⟨xs', e1, e2⟩ := hps15; exact ⟨xs', s17 _ _ e1, e2.monoT fun b us hb => s17 _ _ hb⟩
              obtain ⟨lo, hi'⟩ := q
              simp only [hc17, hM17, hR, exists_and_left, spHas, rMax2, tYes, calmS, tDNew, rInDN, rIxDN, rSetDN, tPop, rTupN, rMax, rMin, rSum, rAny, rSorted, rRepN, tSl, tPart, tNoPart, rSlLN, rSlG, rCatG, rOwnB, LamX.tLam3b, rListT, rRepr, tXf, tMtS, cx_K, Value.ref.injEq, HO.xd.injEq, lk0, tSeq, tPar3, tPar, tCons, tNil, tVar, tC, tAsg, gName, gCons, gNil, gTupN, gSub, tOp, rI, rI0, rU, tTest, rNe, rEq, rIxTN, rIxLN, rLenL, rLenT, rIntI, rIntB, rAbs, rSetLN, tTruL, tRaiseX, rIsTy, rIsOw, ixN0, ixN1, tRet, tIf, tIfS, tNext, tBreak, tCont, tDrop, tTupN, tLstN, tUn, tCB, tCall, tNot, tAnd, tOr, tB, tAndV, tOrV, tNotV, tChain, tApp, LamX.tLam, tRevLN, rCatN, rInTN, rInLN, flatV, inV, List.all_cons, List.all_nil, List.any_cons, List.any_nil, Bool.and_self, Bool.and_true, if_true, Bool.false_eq_true, if_false, tMt, tFldN, tSto, HO.ins.injEq, lkh, List.drop_zero, List.drop_succ_cons, List.drop_nil, rListS, wipe, L2.start, List.map_cons, List.map_nil, List.length_cons, List.length_nil, List.replicate, List.cons_append, List.nil_append, List.append_nil, Nat.reduceAdd, Nat.reduceSub, Nat.zero_add, List.replicate_succ, List.replicate_zero, List.getElem?_cons_zero, List.getElem?_cons_succ, List.set_cons_zero, List.set_cons_succ, Option.some.injEq, V.int.injEq, V.bl.injEq, V.ref.injEq, V.str.injEq, V.ty.injEq, List.cons.injEq, HO.tup.injEq, HO.lst.injEq, and_true, true_and, and_assoc, exists_eq_left, exists_eq_left', exists_and_left, exists_eq', atI0, atI1, atI2, atI3, Int.cast_ofNat_Int, Int.reduceToNat, scal_ii, scal_in, scal_ni, scal_nn, scal_bb, scal_ss, scal_sn, scal_ns, scal_bn, scal_nb, ite_iff, decide_eq_true_eq, decide_eq_false_iff_not, Bool.not_eq_true', Classical.not_not, ne_eq, not_false_eq_true, not_true_eq_false, forall_const, true_implies, false_implies, imp_self, sizeLine_eq, Nat.reduceLeDiff, reduceCtorEq, decide_true, decide_false]
              refine two hm0 hps17 hin (fun ins hi ht => ?_) (fun ins hi hf => ?_)
              · intro e2 H18 _ s18 h18
                have hR18 := s18 _ _ hR
                have hz18 := hzr.mono s18
                have s1518 : ∀ c o, H15 c = some o → H18 c = some o := fun c o hc => s18 _ _ (s17 _ _ hc)
                refine ne_nil ⟨_, hR18, hz18⟩ h18 ⟨!rw.isEmpty, rfl, ?_⟩
                have lz : zs.length ≤ 90 := by have h1 := hzr.length; have h2 := RW.len; omega
                have putF : (∀ p, rw.getLast? = some p → p.2 ≠ lo) → (∃ xs, H18 R = some (.lst xs)) ∧ News H18 (.tup [ov lo, ov hi']) fun x H1 => ∃ x1, H1 R = some (.lst x1) ∧ x1.length < 16777216 ∧ ∀ H3, Put H1 H3 R (.lst (x1 ++ [x])) → (∀ c o, H15 c = some o → H3 c = some o) ∧ ∃ x, H3 R = some (.lst x) ∧ ∃ x2, PAll H3 x x2 ∧ Row ps ms (i + 1) x2 := fun hn => by
                  refine ⟨⟨_, hR18⟩, fun u H19 nu s19 h19 => ⟨_, s19 _ _ hR18, by omega, fun H20 p20 => ⟨fun c o hc => by rw [p20.2 c (ne_of_none hc nR)]; exact s19 _ _ (s1518 _ _ hc), _, p20.1, rw ++ [(lo, hi')], ?_, ?_⟩⟩⟩
                  · have keep : ∀ b us, H19 b = some (.tup us) → H20 b = some (.tup us) := fun b us hb => by rw [p20.2 b (ne_of hb (s19 _ _ hR18) (by intro z; cases z))]; exact hb
                    exact ((hz18.mono s19).monoT keep).snoc (q := (lo, hi')) (keep _ _ h19)
                  · have := RW.put A hends hk (i := ins) (by rw [← eq]; exact hi) ht (by rw [← eq]; exact hn)
                    rw [← eq] at this
                    exact this
                rcases List.eq_nil_or_concat zs with rfl | ⟨z0, y, rfl⟩
                · obtain rfl : rw = [] := by have := hzr.length; cases rw with | nil => rfl | cons _ _ => simp at this
                  exact ⟨fun h => (by cases h), fun _ => putF (by simp)⟩
                · simp only [List.concat_eq_append] at hR hzr hR18 hz18 putF lz ⊢
                  obtain ⟨t, r0, p, rfl, rfl, hz0, htt⟩ := hz18.last
                  refine ⟨fun _ => ⟨_, hR18, _, atI_end, t, rfl, _, htt, _, atI1, scal_ov, fun e => ?_, fun e => ?_⟩, fun h => (by simp at h)⟩
                  · have e := ov_inj e
                    refine ⟨_, hR18, _, atI_end, t, rfl, _, htt, _, atI0, fun u H19 nu s19 h19 => ⟨_, s19 _ _ hR18, _, ixN_last (by simp), fun H20 p20 => ⟨fun c o hc => by rw [p20.2 c (ne_of_none hc nR)]; exact s19 _ _ (s1518 _ _ hc), _, p20.1, r0 ++ [(p.1, hi')], ?_, ?_⟩⟩⟩
                    · have keep : ∀ b us, H19 b = some (.tup us) → H20 b = some (.tup us) := fun b us hb => by rw [p20.2 b (ne_of hb (s19 _ _ hR18) (by intro z; cases z))]; exact hb
                      have es : (z0 ++ [V.ref t]).set ((z0 ++ [V.ref t]).length - 1) (V.ref u) = z0 ++ [V.ref u] := by
                        rw [List.length_append, List.length_singleton, Nat.add_sub_cancel, List.set_append_right _ _ (Nat.le_refl _), Nat.sub_self]; rfl
                      rw [es]
                      exact ((hz0.mono s19).monoT keep).snoc (q := (p.1, hi')) (keep _ _ h19)
                    · have := RW.merge A hends hk (r0 := r0) (b := p.1) (e := p.2) rfl (by rw [← eq]; exact e) (i := ins) (by rw [← eq]; exact hi) ht
                      rw [← eq] at this
                      exact this
                  · refine putF fun p' hp' => ?_
                    simp at hp'
                    subst hp'
                    exact fun z => e (by rw [z])
              · exact ⟨s17, rw, hzr, RW.skip A hends hk (i := ins) (by rw [← eq]; exact hi) hf⟩
            · rintro _ H17 ⟨x2, x3, x9, zs, rw, rfl, s17, hR, hzr, RW⟩
              rw [hS.length, lS] at RW
              simp only [exists_and_left, rMax2, tYes, calmS, tDNew, rInDN, rIxDN, rSetDN, tPop, rTupN, rMax, rMin, rSum, rAny, rSorted, rRepN, tSl, tPart, tNoPart, rSlLN, rSlG, rCatG, rOwnB, LamX.tLam3b, rListT, rRepr, tXf, tMtS, cx_K, Value.ref.injEq, HO.xd.injEq, lk0, tSeq, tPar3, tPar, tCons, tNil, tVar, tC, tAsg, gName, gCons, gNil, gTupN, gSub, tOp, rI, rI0, rU, tTest, rNe, rEq, rIxTN, rIxLN, rLenL, rLenT, rIntI, rIntB, rAbs, rSetLN, tTruL, tRaiseX, rIsTy, rIsOw, ixN0, ixN1, tRet, tIf, tIfS, tNext, tBreak, tCont, tDrop, tTupN, tLstN, tUn, tCB, tCall, tNot, tAnd, tOr, tB, tAndV, tOrV, tNotV, tChain, tApp, LamX.tLam, tRevLN, rCatN, rInTN, rInLN, flatV, inV, List.all_cons, List.all_nil, List.any_cons, List.any_nil, Bool.and_self, Bool.and_true, if_true, Bool.false_eq_true, if_false, tMt, tFldN, tSto, HO.ins.injEq, lkh, List.drop_zero, List.drop_succ_cons, List.drop_nil, rListS, wipe, L2.start, List.map_cons, List.map_nil, List.length_cons, List.length_nil, List.replicate, List.cons_append, List.nil_append, List.append_nil, Nat.reduceAdd, Nat.reduceSub, Nat.zero_add, List.replicate_succ, List.replicate_zero, List.getElem?_cons_zero, List.getElem?_cons_succ, List.set_cons_zero, List.set_cons_succ, Option.some.injEq, V.int.injEq, V.bl.injEq, V.ref.injEq, V.str.injEq, V.ty.injEq, List.cons.injEq, HO.tup.injEq, HO.lst.injEq, and_true, true_and, and_assoc, exists_eq_left, exists_eq_left', exists_and_left, exists_eq', atI0, atI1, atI2, atI3, Int.cast_ofNat_Int, Int.reduceToNat, scal_ii, scal_in, scal_ni, scal_nn, scal_bb, scal_ss, scal_sn, scal_ns, scal_bn, scal_nb, ite_iff, decide_eq_true_eq, decide_eq_false_iff_not, Bool.not_eq_true', Classical.not_not, ne_eq, not_false_eq_true, not_true_eq_false, forall_const, true_implies, false_implies, imp_self, sizeLine_eq, Nat.reduceLeDiff, reduceCtorEq, decide_true, decide_false]
              obtain ⟨N, hh⟩ := RW.done
              have hps17 : PairsAt H17 a ps := by obtain ⟨xs', e1, e2⟩ := hps15; exact ⟨xs', s17 _ _ e1, e2.monoT fun b us hb => s17 _ _ hb⟩
              exact k R rw H17 (none_of s015 nR) (fun b o hb => s17 _ _ (s015 _ _ hb)) ⟨zs, hR, hzr⟩ N hh (by have := RW.len; omega)

end
end Iz
/-! k04_i -/
set_option Elab.async false
set_option linter.all false
set_option maxRecDepth 100000
set_option maxHeartbeats 4000000
namespace Iz
open PySem PySem.Spec PyProof.Rows L2
open He (ga)
local macro_rules | `(tactic| walk_at "wp") => `(tactic| simp only [rMax2, tYes, calmS, tDNew, rInDN, rIxDN, rSetDN, tPop, rTupN, rMax, rMin, rSum, rAny, rSorted, rRepN, tSl, tPart, tNoPart, rSlLN, rSlG, rCatG, rOwnB, LamX.tLam3b, rListT, rRepr, tXf, tMtS, cx_K, Value.ref.injEq, HO.xd.injEq, lk0, tSeq, tPar3, tPar, tCons, tNil, tVar, tC, tAsg, gName, gCons, gNil, gTupN, gSub, tOp, rI, rI0, rU, tTest, rNe, rEq, rIxTN, rIxLN, rLenL, rLenT, rIntI, rIntB, rAbs, rSetLN, tTruL, tRaiseX, rIsTy, rIsOw, ixN0, ixN1, tRet, tIf, tIfS, tNext, tBreak, tCont, tDrop, tTupN, tLstN, tUn, tCB, tCall, tNot, tAnd, tOr, tB, tAndV, tOrV, tNotV, tChain, tApp, LamX.tLam, tRevLN, rCatN, rInTN, rInLN, flatV, inV, List.all_cons, List.all_nil, List.any_cons, List.any_nil, Bool.and_self, Bool.and_true, if_true, Bool.false_eq_true, if_false, tMt, tFldN, tSto, HO.ins.injEq, lkh, List.drop_zero, List.drop_succ_cons, List.drop_nil, rListS, wipe, L2.start, List.map_cons, List.map_nil, List.length_cons, List.length_nil, List.replicate, List.cons_append, List.nil_append, List.append_nil, Nat.reduceAdd, Nat.reduceSub, Nat.zero_add, List.replicate_succ, List.replicate_zero, List.getElem?_cons_zero, List.getElem?_cons_succ, List.set_cons_zero, List.set_cons_succ, Option.some.injEq, V.int.injEq, V.bl.injEq, V.ref.injEq, V.str.injEq, V.ty.injEq, List.cons.injEq, HO.tup.injEq, HO.lst.injEq, and_true, true_and, and_assoc, exists_eq_left, exists_eq_left', exists_and_left, exists_eq', atI0, atI1, atI2, atI3, Int.cast_ofNat_Int, Int.reduceToNat, scal_ii, scal_in, scal_ni, scal_nn, scal_bb, scal_ss, scal_sn, scal_ns, scal_bn, scal_nb, ite_iff, decide_eq_true_eq, decide_eq_false_iff_not, Bool.not_eq_true', Classical.not_not, ne_eq, not_false_eq_true, not_true_eq_false, forall_const, true_implies, false_implies, imp_self, sizeLine_eq, Nat.reduceLeDiff, reduceCtorEq, decide_true, decide_false])
section
variable {P : Program} {w : World} {K : PySem.W.Frag} {mg : Str → Option Value} {base : Heap}
/-! ### spreads put together -/
def spPOr (K : PySem.W.Frag) : Sp := fun vs H Q _ => ∃ a b, vs = [.ref a, .ref b] ∧ ∃ dx ra rs dy rb qs, SprAt K H a dx ra rs ∧ SprAt K H b dy rb qs ∧ rs.length + qs.length ≤ 1000 ∧
  ∀ p dz rc ts H', Same H H' → SprAt K H' p dz rc ts → (∀ i, has ts i = (has rs i || has qs i)) → ts.length ≤ rs.length + qs.length → Q (.ref p) H'
theorem o_Spread___or__ (T : Txt K mg) : OkM P w K mg base CX0 8 "Spread" "__or__" ["self", "other"] [] (spPOr K) := by
  obtain ⟨t0, e0, o_Spread⟩ := o_Spread (P := P) (w := w) (base := base) (mg := mg) (K := K) T
  obtain ⟨f, fd, M, F⟩ := T.d_Spread___or__
  refine ⟨f, fd, M, b_Spread___or__ F, F.ok (CX := CX0) sc_Spread___or__ (fun vs H Q E h => ?_) (fun cdv A outer s H vs Q E hr h => ?_)⟩
  · first | (obtain ⟨_, rfl, _⟩ := h; rfl) | (obtain ⟨_, _, rfl, _⟩ := h; rfl) | (obtain ⟨_, _, _, rfl, _⟩ := h; rfl) | (obtain ⟨_, _, _, _, rfl, _⟩ := h; rfl) | (obtain ⟨_, _, _, _, _, rfl, _⟩ := h; rfl) | (obtain ⟨_, _, _, _, _, _, rfl, _⟩ := h; rfl) | (obtain ⟨_, _, _, _, _, _, _, rfl, _⟩ := h; rfl)
  have hu64 := hr.units
  refine ⟨_, PSs.nox (pss_cons (ps_if (pt_not (pt_val (pe_callB call_isOw (by rfl) T.m_isinstance (by decide +kernel) (pa_cons (pv 1) (pa_cons ((pe_glob (v := .ref (ga K "Spread")) (by rfl) T.g_Spread rfl)) pa_nil))))) (pss_one (ps_never)) (pss_nil))
      (pss_one (ps_ret (pmk (j := 1) o_Spread.calm (show _ ≤ 1 by decide) (hr.mono (by decide)) pass0 (pa_cons (pe_op op_catG (pe_fldN T.c_Spread T.na_Spread__row (pv 0)) (pe_fldN T.c_Spread T.na_Spread__row (pv 1))) pa_nil))))), ?_⟩
  obtain ⟨a, b, rfl, dx, ra, rs, dy, rb, qs, hS, hS2, hl, k⟩ := h
  obtain ⟨zs, hr, hz⟩ := hS.row
  obtain ⟨ws, hr2, hz2⟩ := hS2.row
  have h0 := hS.at_
  have h2 := hS2.at_
  simp only [exists_and_left, h0, h2, lkRow, calmS, spSpr, rMax2, tYes, calmS, tDNew, rInDN, rIxDN, rSetDN, tPop, rTupN, rMax, rMin, rSum, rAny, rSorted, rRepN, tSl, tPart, tNoPart, rSlLN, rSlG, rCatG, rOwnB, LamX.tLam3b, rListT, rRepr, tXf, tMtS, cx_K, Value.ref.injEq, HO.xd.injEq, lk0, tSeq, tPar3, tPar, tCons, tNil, tVar, tC, tAsg, gName, gCons, gNil, gTupN, gSub, tOp, rI, rI0, rU, tTest, rNe, rEq, rIxTN, rIxLN, rLenL, rLenT, rIntI, rIntB, rAbs, rSetLN, tTruL, tRaiseX, rIsTy, rIsOw, ixN0, ixN1, tRet, tIf, tIfS, tNext, tBreak, tCont, tDrop, tTupN, tLstN, tUn, tCB, tCall, tNot, tAnd, tOr, tB, tAndV, tOrV, tNotV, tChain, tApp, LamX.tLam, tRevLN, rCatN, rInTN, rInLN, flatV, inV, List.all_cons, List.all_nil, List.any_cons, List.any_nil, Bool.and_self, Bool.and_true, if_true, Bool.false_eq_true, if_false, tMt, tFldN, tSto, HO.ins.injEq, lkh, List.drop_zero, List.drop_succ_cons, List.drop_nil, rListS, wipe, L2.start, List.map_cons, List.map_nil, List.length_cons, List.length_nil, List.replicate, List.cons_append, List.nil_append, List.append_nil, Nat.reduceAdd, Nat.reduceSub, Nat.zero_add, List.replicate_succ, List.replicate_zero, List.getElem?_cons_zero, List.getElem?_cons_succ, List.set_cons_zero, List.set_cons_succ, Option.some.injEq, V.int.injEq, V.bl.injEq, V.ref.injEq, V.str.injEq, V.ty.injEq, List.cons.injEq, HO.tup.injEq, HO.lst.injEq, and_true, true_and, and_assoc, exists_eq_left, exists_eq_left', exists_and_left, exists_eq', atI0, atI1, atI2, atI3, Int.cast_ofNat_Int, Int.reduceToNat, scal_ii, scal_in, scal_ni, scal_nn, scal_bb, scal_ss, scal_sn, scal_ns, scal_bn, scal_nb, ite_iff, decide_eq_true_eq, decide_eq_false_iff_not, Bool.not_eq_true', Classical.not_not, ne_eq, not_false_eq_true, not_true_eq_false, forall_const, true_implies, false_implies, imp_self, sizeLine_eq, Nat.reduceLeDiff, reduceCtorEq, decide_true, decide_false]
  refine ⟨_, T.ci_Spread.ty h2, true, kit_self, fun h => (by cases h), fun _ => ⟨zs, SqT.of hr, ws, SqT.of hr2, by have := hz.length; have := hz2.length; omega, fun p H1 s1 h1 => .inr ⟨zs ++ ws, .inr h1, rs ++ qs, (hz.app hz2).mono s1, fun q hq => ?_, by simp; omega, fun p2 d2 r2 ts H2 n2 s2 hS2' hh ll => ?_⟩⟩⟩
  · exact (List.mem_append.mp hq).elim (hS.N.ok q) (hS2.N.ok q)
  · exact k p2 d2 r2 ts H2 (s1.trans s2) hS2' (fun i => by rw [hh, has_app]) (by rw [List.length_append] at ll; exact ll)
theorem cutV_from {ws : List V} {i : Int} (h0 : 0 ≤ i) (h1 : i ≤ ws.length) : cutV ws (some i) none = ws.drop i.toNat := by
  simp only [cutV, HT.sIx]
  rw [if_neg (by omega), Nat.min_eq_left (by omega)]
  exact List.take_of_length_le (by simp)
def spPAll (K : PySem.W.Frag) : Sp := fun vs H Q _ => ∃ a, vs = [.ref a] ∧ ∃ dx ra rs, SprAt K H a dx ra rs ∧ rs.length ≤ 900 ∧
  ∀ p dz rc ts H', Same H H' → SprAt K H' p dz rc ts → (∀ i, has ts i = !has rs i) → ts.length ≤ rs.length + 1 → Q (.ref p) H'
theorem o_Spread_all_but (T : Txt K mg) : OkM P w K mg base CX0 8 "Spread" "all_but" ["self"] [] (spPAll K) := by
  obtain ⟨t0, e0, o_Spread⟩ := o_Spread (P := P) (w := w) (base := base) (mg := mg) (K := K) T
  have o_Stretch := o_Stretch (P := P) (w := w) (base := base) T
  have o_Spread_bounds := o_Spread_bounds (P := P) (w := w) (base := base) T
  obtain ⟨f, fd, M, F⟩ := T.d_Spread_all_but
  refine ⟨f, fd, M, b_Spread_all_but F, F.ok (CX := CX0) sc_Spread_all_but (fun vs H Q E h => ?_) (fun cdv A outer s H vs Q E hr h => ?_)⟩
  · first | (obtain ⟨_, rfl, _⟩ := h; rfl) | (obtain ⟨_, _, rfl, _⟩ := h; rfl) | (obtain ⟨_, _, _, rfl, _⟩ := h; rfl) | (obtain ⟨_, _, _, _, rfl, _⟩ := h; rfl) | (obtain ⟨_, _, _, _, _, rfl, _⟩ := h; rfl) | (obtain ⟨_, _, _, _, _, _, rfl, _⟩ := h; rfl) | (obtain ⟨_, _, _, _, _, _, _, rfl, _⟩ := h; rfl)
  have hu64 := hr.units
  refine ⟨_, PSs.nox (pss_cons (ps_if (pt_not (pt_truth (pe_fldN T.c_Spread T.na_Spread__row (pv 0)) (by intro _; rfl))) (pss_one (ps_ret (pmk (j := 1) o_Spread.calm (show _ ≤ 1 by decide) (hr.mono (by decide)) pass0 (pa_cons (pe_lstN (pa_cons (pmk0 (j := 0) o_Stretch.calm (by decide) (hr.mono (by decide)) pass0) pa_nil)) pa_nil)))) (pss_nil))
      (pss_cons (ps_setLc (i := 1) (own := [("one", 4), ("other", 5)]) (by rfl) sc_Spread_all_but.nd rfl rfl (sw_true rfl rfl rfl (by decide +kernel)) (RZ.pi_zipA (by rfl) T.m_zip (pa_cons (pe_fldN T.c_Spread T.na_Spread__row (pv 0)) (pa_cons (pe_slice sl_tupG (pe_fldN T.c_Spread T.na_Spread__row (pv 0)) (po_some (pe_int)) (po_none)) pa_nil))) (blkOk_by (N := ["self", "gaps", "low", "high", "one", "other"]) (sc := defScope s_Spread_all_but) (own := [("one", 4), ("other", 5)]) (by decide +kernel)) (fun _ _ _ _ _ => pg_tupN (n := 2) (by rfl) (pgs_cons (pg_name (i := 4) sc_Spread_all_but.nd rfl (Or.inl rfl)) (pgs_cons (pg_name (i := 5) sc_Spread_all_but.nd rfl (Or.inl rfl)) pgs_nil))) (fun _ _ _ _ _ => pts_nil) (fun _ _ _ _ _ => pmk (j := 2) o_Stretch.calm (by decide) (hr.mono (by decide)) pass0 (pa_cons (pe_fldNK (K := K) rfl T.c_Stretch T.na_Stretch_high (pv 4)) (pa_cons (pe_fldNK (K := K) rfl T.c_Stretch T.na_Stretch_low (pv 5)) pa_nil))))
      (pss_cons (ps_asg (pmt0 (j := 0) o_Spread_bounds T.c_Spread (pv 0) (by decide) (hr.mono (by decide)) pass0) (pg_tupN (n := 2) (by rfl) (pgs_cons (pg_name (i := 2) sc_Spread_all_but.nd rfl (Or.inl rfl)) (pgs_cons (pg_name (i := 3) sc_Spread_all_but.nd rfl (Or.inl rfl)) pgs_nil))))
      (pss_cons (ps_cut (ps_if (pt_cmpR op_notN (pv 2) (pe_non) (nomark _)) (pss_one (ps_expr (pe_appN (pv 1) (pa_cons (pmk (j := 2) o_Stretch.calm (by decide) (hr.mono (by decide)) pass0 (pa_cons (pe_non) (pa_cons (pv 2) pa_nil))) pa_nil)))) (pss_nil)))
      (pss_cons (ps_cut (ps_if (pt_cmpR op_notN (pv 3) (pe_non) (nomark _)) (pss_one (ps_expr (pe_appN (pv 1) (pa_cons (pmk (j := 2) o_Stretch.calm (by decide) (hr.mono (by decide)) pass0 (pa_cons (pv 3) (pa_cons (pe_non) pa_nil))) pa_nil)))) (pss_nil)))
      (pss_one (ps_ret (pmk (j := 1) o_Spread.calm (show _ ≤ 1 by decide) (hr.mono (by decide)) pass0 (pa_cons (pv 1) pa_nil))))))))), ?_⟩
  obtain ⟨a, rfl, dx, ra, rs, hS, hl, k⟩ := h
  obtain ⟨zs, hr, hz⟩ := hS.row
  have h0 := hS.at_
  simp only [exists_and_left, h0, lkRow, calmS, spSpr, spSt, rMax2, tYes, calmS, tDNew, rInDN, rIxDN, rSetDN, tPop, rTupN, rMax, rMin, rSum, rAny, rSorted, rRepN, tSl, tPart, tNoPart, rSlLN, rSlG, rCatG, rOwnB, LamX.tLam3b, rListT, rRepr, tXf, tMtS, cx_K, Value.ref.injEq, HO.xd.injEq, lk0, tSeq, tPar3, tPar, tCons, tNil, tVar, tC, tAsg, gName, gCons, gNil, gTupN, gSub, tOp, rI, rI0, rU, tTest, rNe, rEq, rIxTN, rIxLN, rLenL, rLenT, rIntI, rIntB, rAbs, rSetLN, tTruL, tRaiseX, rIsTy, rIsOw, ixN0, ixN1, tRet, tIf, tIfS, tNext, tBreak, tCont, tDrop, tTupN, tLstN, tUn, tCB, tCall, tNot, tAnd, tOr, tB, tAndV, tOrV, tNotV, tChain, tApp, LamX.tLam, tRevLN, rCatN, rInTN, rInLN, flatV, inV, List.all_cons, List.all_nil, List.any_cons, List.any_nil, Bool.and_self, Bool.and_true, if_true, Bool.false_eq_true, if_false, tMt, tFldN, tSto, HO.ins.injEq, lkh, List.drop_zero, List.drop_succ_cons, List.drop_nil, rListS, wipe, L2.start, List.map_cons, List.map_nil, List.length_cons, List.length_nil, List.replicate, List.cons_append, List.nil_append, List.append_nil, Nat.reduceAdd, Nat.reduceSub, Nat.zero_add, List.replicate_succ, List.replicate_zero, List.getElem?_cons_zero, List.getElem?_cons_succ, List.set_cons_zero, List.set_cons_succ, Option.some.injEq, V.int.injEq, V.bl.injEq, V.ref.injEq, V.str.injEq, V.ty.injEq, List.cons.injEq, HO.tup.injEq, HO.lst.injEq, and_true, true_and, and_assoc, exists_eq_left, exists_eq_left', exists_and_left, exists_eq', atI0, atI1, atI2, atI3, Int.cast_ofNat_Int, Int.reduceToNat, scal_ii, scal_in, scal_ni, scal_nn, scal_bb, scal_ss, scal_sn, scal_ns, scal_bn, scal_nb, ite_iff, decide_eq_true_eq, decide_eq_false_iff_not, Bool.not_eq_true', Classical.not_not, ne_eq, not_false_eq_true, not_true_eq_false, forall_const, true_implies, false_implies, imp_self, sizeLine_eq, Nat.reduceLeDiff, reduceCtorEq, decide_true, decide_false]
  refine ⟨!zs.isEmpty, .inr (.inl ⟨zs, SqT.of hr, rfl⟩), fun e => ?_, fun e => ?_⟩
  · have ez : zs = [] := by cases zs with | nil => rfl | cons _ _ => cases e
    subst ez
    have er : rs = [] := by cases rs with | nil => rfl | cons _ _ => have := hz.length; simp at this
    subst er
    refine ⟨wh_non, wh_non, fun _ => fun p dx2 H1 n1 s1 h1 => fun L H2 n2 s2 h2 => .inr ⟨L, rfl, [.ref p], .inl h2, [(none, none)], .cons (s2 _ _ h1) .nil, fun q hq => by rw [List.mem_singleton.mp hq]; trivial, by simp, fun p2 d2 r2 ts H3 n3 s3 hS3 hh ll => ?_⟩, fun e => by cases e⟩
    exact k p2 d2 r2 ts H3 ((s1.trans s2).trans s3) hS3 (fun i => by rw [hh]; rfl) ll
  · obtain ⟨q, t, rfl⟩ : ∃ q t, rs = q :: t := by
      cases rs with
      | nil => cases zs with | nil => exact absurd rfl e | cons _ _ => have := hz.length; simp at this
      | cons q t => exact ⟨q, t, rfl⟩
    have lz := hz.length
    simp only [List.length_cons] at lz hl
    refine lc_zip ?_
    simp only [exists_and_left, h0, lkRow, rMax2, tYes, calmS, tDNew, rInDN, rIxDN, rSetDN, tPop, rTupN, rMax, rMin, rSum, rAny, rSorted, rRepN, tSl, tPart, tNoPart, rSlLN, rSlG, rCatG, rOwnB, LamX.tLam3b, rListT, rRepr, tXf, tMtS, cx_K, Value.ref.injEq, HO.xd.injEq, lk0, tSeq, tPar3, tPar, tCons, tNil, tVar, tC, tAsg, gName, gCons, gNil, gTupN, gSub, tOp, rI, rI0, rU, tTest, rNe, rEq, rIxTN, rIxLN, rLenL, rLenT, rIntI, rIntB, rAbs, rSetLN, tTruL, tRaiseX, rIsTy, rIsOw, ixN0, ixN1, tRet, tIf, tIfS, tNext, tBreak, tCont, tDrop, tTupN, tLstN, tUn, tCB, tCall, tNot, tAnd, tOr, tB, tAndV, tOrV, tNotV, tChain, tApp, LamX.tLam, tRevLN, rCatN, rInTN, rInLN, flatV, inV, List.all_cons, List.all_nil, List.any_cons, List.any_nil, Bool.and_self, Bool.and_true, if_true, Bool.false_eq_true, if_false, tMt, tFldN, tSto, HO.ins.injEq, lkh, List.drop_zero, List.drop_succ_cons, List.drop_nil, rListS, wipe, L2.start, List.map_cons, List.map_nil, List.length_cons, List.length_nil, List.replicate, List.cons_append, List.nil_append, List.append_nil, Nat.reduceAdd, Nat.reduceSub, Nat.zero_add, List.replicate_succ, List.replicate_zero, List.getElem?_cons_zero, List.getElem?_cons_succ, List.set_cons_zero, List.set_cons_succ, Option.some.injEq, V.int.injEq, V.bl.injEq, V.ref.injEq, V.str.injEq, V.ty.injEq, List.cons.injEq, HO.tup.injEq, HO.lst.injEq, and_true, true_and, and_assoc, exists_eq_left, exists_eq_left', exists_and_left, exists_eq', atI0, atI1, atI2, atI3, Int.cast_ofNat_Int, Int.reduceToNat, scal_ii, scal_in, scal_ni, scal_nn, scal_bb, scal_ss, scal_sn, scal_ns, scal_bn, scal_nb, ite_iff, decide_eq_true_eq, decide_eq_false_iff_not, Bool.not_eq_true', Classical.not_not, ne_eq, not_false_eq_true, not_true_eq_false, forall_const, true_implies, false_implies, imp_self, sizeLine_eq, Nat.reduceLeDiff, reduceCtorEq, decide_true, decide_false]
    refine ⟨zs, SqT.of hr, fun w => ?_, fun p1 H1 s1 h1 => ⟨zs, _, .inr ⟨SqT.of (s1 _ _ hr), h1, ?_⟩⟩⟩
    · exfalso
      have := w.1
      simp only [HT.sIx] at this
      rw [if_neg (by decide)] at this
      have h1 : (1 : Int).toNat = 1 := rfl
      omega
    rw [cutV_from (by decide) (by omega), show (1 : Int).toNat = 1 from rfl, List.drop_one] at h1
    have hz1 := hz.mono s1
    refine st_zipT rfl (fun D i H' => H1 D = none ∧ Same H1 H' ∧ ∃ ws, H' D = some (.lst ws) ∧ SAll K H' ws ((gapsR (q :: t)).take i)) (fun D H2 n2 s2 h2 => ⟨n2, s2, [], h2, .nil⟩) (fun D i H' h => ⟨SqT.of (h.2.1 _ _ (s1 _ _ hr)), SqT.same h1 h.2.1⟩) ?_ ?_
    · rintro D i x y U H2 H3 hx hy ⟨nD, s2, ws, hD, hw⟩ s3 hU
      rw [List.getElem?_tail] at hy
      obtain ⟨b1, e1, q1, rfl, hq1, hb1⟩ := hz1.get hx
      obtain ⟨b2, e2, q2, rfl, hq2, hb2⟩ := hz1.get hy
      have hb1 := s3 _ _ (s2 _ _ hb1)
      have hb2 := s3 _ _ (s2 _ _ hb2)
      have l2 := (List.getElem?_eq_some_iff.mp hq2).1
      simp only [List.length_cons] at l2
      have gap : gapP q1 q2 := by
        have := List.pairwise_iff_getElem.mp hS.N.gap i (i + 1) (by simp; omega) (by simp; omega) (by omega)
        rwa [(List.getElem?_eq_some_iff.mp hq1).2, (List.getElem?_eq_some_iff.mp hq2).2] at this
      obtain ⟨g1, g2, eg1, eg2, lt⟩ := gap
      have gg : (gapsR (q :: t))[i]? = some (q1.2, q2.1) := gapsR_get hq1 (by rw [List.getElem?_tail]; exact hq2)
      simp only [exists_and_left, hU, hb1, hb2, calmS, spSt, lkLow, lkHigh, lkN_holds, lkN_turned, lkN_common, lkN_count, lkN_first, lkN_final, lkN_nth, lkN_below, lkN_moved, rMax2, tYes, calmS, tDNew, rInDN, rIxDN, rSetDN, tPop, rTupN, rMax, rMin, rSum, rAny, rSorted, rRepN, tSl, tPart, tNoPart, rSlLN, rSlG, rCatG, rOwnB, LamX.tLam3b, rListT, rRepr, tXf, tMtS, cx_K, Value.ref.injEq, HO.xd.injEq, lk0, tSeq, tPar3, tPar, tCons, tNil, tVar, tC, tAsg, gName, gCons, gNil, gTupN, gSub, tOp, rI, rI0, rU, tTest, rNe, rEq, rIxTN, rIxLN, rLenL, rLenT, rIntI, rIntB, rAbs, rSetLN, tTruL, tRaiseX, rIsTy, rIsOw, ixN0, ixN1, tRet, tIf, tIfS, tNext, tBreak, tCont, tDrop, tTupN, tLstN, tUn, tCB, tCall, tNot, tAnd, tOr, tB, tAndV, tOrV, tNotV, tChain, tApp, LamX.tLam, tRevLN, rCatN, rInTN, rInLN, flatV, inV, List.all_cons, List.all_nil, List.any_cons, List.any_nil, Bool.and_self, Bool.and_true, if_true, Bool.false_eq_true, if_false, tMt, tFldN, tSto, HO.ins.injEq, lkh, List.drop_zero, List.drop_succ_cons, List.drop_nil, rListS, wipe, L2.start, List.map_cons, List.map_nil, List.length_cons, List.length_nil, List.replicate, List.cons_append, List.nil_append, List.append_nil, Nat.reduceAdd, Nat.reduceSub, Nat.zero_add, List.replicate_succ, List.replicate_zero, List.getElem?_cons_zero, List.getElem?_cons_succ, List.set_cons_zero, List.set_cons_succ, Option.some.injEq, V.int.injEq, V.bl.injEq, V.ref.injEq, V.str.injEq, V.ty.injEq, List.cons.injEq, HO.tup.injEq, HO.lst.injEq, and_true, true_and, and_assoc, exists_eq_left, exists_eq_left', exists_and_left, exists_eq', atI0, atI1, atI2, atI3, Int.cast_ofNat_Int, Int.reduceToNat, scal_ii, scal_in, scal_ni, scal_nn, scal_bb, scal_ss, scal_sn, scal_ns, scal_bn, scal_nb, ite_iff, decide_eq_true_eq, decide_eq_false_iff_not, Bool.not_eq_true', Classical.not_not, ne_eq, not_false_eq_true, not_true_eq_false, forall_const, true_implies, false_implies, imp_self, sizeLine_eq, Nat.reduceLeDiff, reduceCtorEq, decide_true, decide_false]
      rw [eg1, eg2] at gg ⊢
      have oS : okS (ov (some g1)) (ov (some g2)) = true := okS_ov.mpr lt
      refine ⟨wh_ov, wh_ov, fun _ => fun p dx2 H4 np s4 h4 => ⟨ws, s4 _ _ (s3 _ _ hD), by have := hw.length; have h9 := (gapsR_len (rs := q :: t)); simp at this h9; omega, nD, fun b o hb => by rw [upd_ne (ne_of_none hb nD)]; exact s4 _ _ (s3 _ _ (s2 _ _ hb)), ws ++ [.ref p], upd_same, ?_⟩, fun e => by rw [oS] at e; cases e⟩
      have keep : ∀ b C dx fs, H4 b = some (.ins C dx fs) → (upd H4 D (.lst (ws ++ [.ref p]))) b = some (.ins C dx fs) := fun b C dx fs hb => by rw [upd_ne (ne_of hb (s4 _ _ (s3 _ _ hD)) (by intro z; cases z))]; exact hb
      rw [List.take_succ, gg]
      exact (((hw.mono s3).mono s4).monoI keep).snoc (keep _ _ _ _ h4)
    · rintro D H2 ⟨nD, s2, ws, hD, hw⟩
      have S2 := s1.trans s2
      have hS2 := hS.mono S2
      rw [List.take_of_length_le (by rw [gapsR_len]; simp; omega)] at hw
      simp only [exists_and_left, spBounds, rMax2, tYes, calmS, tDNew, rInDN, rIxDN, rSetDN, tPop, rTupN, rMax, rMin, rSum, rAny, rSorted, rRepN, tSl, tPart, tNoPart, rSlLN, rSlG, rCatG, rOwnB, LamX.tLam3b, rListT, rRepr, tXf, tMtS, cx_K, Value.ref.injEq, HO.xd.injEq, lk0, tSeq, tPar3, tPar, tCons, tNil, tVar, tC, tAsg, gName, gCons, gNil, gTupN, gSub, tOp, rI, rI0, rU, tTest, rNe, rEq, rIxTN, rIxLN, rLenL, rLenT, rIntI, rIntB, rAbs, rSetLN, tTruL, tRaiseX, rIsTy, rIsOw, ixN0, ixN1, tRet, tIf, tIfS, tNext, tBreak, tCont, tDrop, tTupN, tLstN, tUn, tCB, tCall, tNot, tAnd, tOr, tB, tAndV, tOrV, tNotV, tChain, tApp, LamX.tLam, tRevLN, rCatN, rInTN, rInLN, flatV, inV, List.all_cons, List.all_nil, List.any_cons, List.any_nil, Bool.and_self, Bool.and_true, if_true, Bool.false_eq_true, if_false, tMt, tFldN, tSto, HO.ins.injEq, lkh, List.drop_zero, List.drop_succ_cons, List.drop_nil, rListS, wipe, L2.start, List.map_cons, List.map_nil, List.length_cons, List.length_nil, List.replicate, List.cons_append, List.nil_append, List.append_nil, Nat.reduceAdd, Nat.reduceSub, Nat.zero_add, List.replicate_succ, List.replicate_zero, List.getElem?_cons_zero, List.getElem?_cons_succ, List.set_cons_zero, List.set_cons_succ, Option.some.injEq, V.int.injEq, V.bl.injEq, V.ref.injEq, V.str.injEq, V.ty.injEq, List.cons.injEq, HO.tup.injEq, HO.lst.injEq, and_true, true_and, and_assoc, exists_eq_left, exists_eq_left', exists_and_left, exists_eq', atI0, atI1, atI2, atI3, Int.cast_ofNat_Int, Int.reduceToNat, scal_ii, scal_in, scal_ni, scal_nn, scal_bb, scal_ss, scal_sn, scal_ns, scal_bn, scal_nb, ite_iff, decide_eq_true_eq, decide_eq_false_iff_not, Bool.not_eq_true', Classical.not_not, ne_eq, not_false_eq_true, not_true_eq_false, forall_const, true_implies, false_implies, imp_self, sizeLine_eq, Nat.reduceLeDiff, reduceCtorEq, decide_true, decide_false]
      refine ⟨dx, _, hS2.at_, lkRowNo, dx, ra, q :: t, hS2, fun u H3 s3 h3 => ⟨_, h3, rfl, ?_⟩⟩
      have elast : (Option.map (fun x => x.snd) (q :: t).getLast?).getD none = lastH q t := by rw [List.getLast?_cons]; rfl
      rw [elast]
      have S3 := S2.trans s3
      have hD3 := s3 _ _ hD
      have hw3 := hw.mono s3
      have nD0 : H D = none := none_of s1 nD
      have lg : (gapsR (q :: t)).length = t.length := by rw [gapsR_len]; simp
      clear hD hw h3 hS2 s3 s2 hz1 h1
      refine ⟨_, _, rfl, _, _, rfl, rfl, ?_⟩
      show tCut _ _ [some (V.ref a), some (V.ref D), some (ov q.1), some (ov (lastH q t)), none, none] H3
      refine ⟨fun σ' H' => σ' = [some (V.ref a), some (V.ref D), some (ov q.1), some (ov (lastH q t)), none, none] ∧ Same H H' ∧ ∃ ws, H' D = some (.lst ws) ∧ SAll K H' ws (gapsR (q :: t) ++ lowP q.1), ?_, ?_⟩
      · cases e1 : q.1 with
        | none =>
          simp only [exists_and_left, calmS, spSt, ov, rMax2, tYes, calmS, tDNew, rInDN, rIxDN, rSetDN, tPop, rTupN, rMax, rMin, rSum, rAny, rSorted, rRepN, tSl, tPart, tNoPart, rSlLN, rSlG, rCatG, rOwnB, LamX.tLam3b, rListT, rRepr, tXf, tMtS, cx_K, Value.ref.injEq, HO.xd.injEq, lk0, tSeq, tPar3, tPar, tCons, tNil, tVar, tC, tAsg, gName, gCons, gNil, gTupN, gSub, tOp, rI, rI0, rU, tTest, rNe, rEq, rIxTN, rIxLN, rLenL, rLenT, rIntI, rIntB, rAbs, rSetLN, tTruL, tRaiseX, rIsTy, rIsOw, ixN0, ixN1, tRet, tIf, tIfS, tNext, tBreak, tCont, tDrop, tTupN, tLstN, tUn, tCB, tCall, tNot, tAnd, tOr, tB, tAndV, tOrV, tNotV, tChain, tApp, LamX.tLam, tRevLN, rCatN, rInTN, rInLN, flatV, inV, List.all_cons, List.all_nil, List.any_cons, List.any_nil, Bool.and_self, Bool.and_true, if_true, Bool.false_eq_true, if_false, tMt, tFldN, tSto, HO.ins.injEq, lkh, List.drop_zero, List.drop_succ_cons, List.drop_nil, rListS, wipe, L2.start, List.map_cons, List.map_nil, List.length_cons, List.length_nil, List.replicate, List.cons_append, List.nil_append, List.append_nil, Nat.reduceAdd, Nat.reduceSub, Nat.zero_add, List.replicate_succ, List.replicate_zero, List.getElem?_cons_zero, List.getElem?_cons_succ, List.set_cons_zero, List.set_cons_succ, Option.some.injEq, V.int.injEq, V.bl.injEq, V.ref.injEq, V.str.injEq, V.ty.injEq, List.cons.injEq, HO.tup.injEq, HO.lst.injEq, and_true, true_and, and_assoc, exists_eq_left, exists_eq_left', exists_and_left, exists_eq', atI0, atI1, atI2, atI3, Int.cast_ofNat_Int, Int.reduceToNat, scal_ii, scal_in, scal_ni, scal_nn, scal_bb, scal_ss, scal_sn, scal_ns, scal_bn, scal_nb, ite_iff, decide_eq_true_eq, decide_eq_false_iff_not, Bool.not_eq_true', Classical.not_not, ne_eq, not_false_eq_true, not_true_eq_false, forall_const, true_implies, false_implies, imp_self, sizeLine_eq, Nat.reduceLeDiff, reduceCtorEq, decide_true, decide_false]
          exact ⟨S3, ws, hD3, by rw [lowP, List.append_nil]; exact hw3⟩
        | some l =>
          simp only [exists_and_left, calmS, spSt, ov, rMax2, tYes, calmS, tDNew, rInDN, rIxDN, rSetDN, tPop, rTupN, rMax, rMin, rSum, rAny, rSorted, rRepN, tSl, tPart, tNoPart, rSlLN, rSlG, rCatG, rOwnB, LamX.tLam3b, rListT, rRepr, tXf, tMtS, cx_K, Value.ref.injEq, HO.xd.injEq, lk0, tSeq, tPar3, tPar, tCons, tNil, tVar, tC, tAsg, gName, gCons, gNil, gTupN, gSub, tOp, rI, rI0, rU, tTest, rNe, rEq, rIxTN, rIxLN, rLenL, rLenT, rIntI, rIntB, rAbs, rSetLN, tTruL, tRaiseX, rIsTy, rIsOw, ixN0, ixN1, tRet, tIf, tIfS, tNext, tBreak, tCont, tDrop, tTupN, tLstN, tUn, tCB, tCall, tNot, tAnd, tOr, tB, tAndV, tOrV, tNotV, tChain, tApp, LamX.tLam, tRevLN, rCatN, rInTN, rInLN, flatV, inV, List.all_cons, List.all_nil, List.any_cons, List.any_nil, Bool.and_self, Bool.and_true, if_true, Bool.false_eq_true, if_false, tMt, tFldN, tSto, HO.ins.injEq, lkh, List.drop_zero, List.drop_succ_cons, List.drop_nil, rListS, wipe, L2.start, List.map_cons, List.map_nil, List.length_cons, List.length_nil, List.replicate, List.cons_append, List.nil_append, List.append_nil, Nat.reduceAdd, Nat.reduceSub, Nat.zero_add, List.replicate_succ, List.replicate_zero, List.getElem?_cons_zero, List.getElem?_cons_succ, List.set_cons_zero, List.set_cons_succ, Option.some.injEq, V.int.injEq, V.bl.injEq, V.ref.injEq, V.str.injEq, V.ty.injEq, List.cons.injEq, HO.tup.injEq, HO.lst.injEq, and_true, true_and, and_assoc, exists_eq_left, exists_eq_left', exists_and_left, exists_eq', atI0, atI1, atI2, atI3, Int.cast_ofNat_Int, Int.reduceToNat, scal_ii, scal_in, scal_ni, scal_nn, scal_bb, scal_ss, scal_sn, scal_ns, scal_bn, scal_nb, ite_iff, decide_eq_true_eq, decide_eq_false_iff_not, Bool.not_eq_true', Classical.not_not, ne_eq, not_false_eq_true, not_true_eq_false, forall_const, true_implies, false_implies, imp_self, sizeLine_eq, Nat.reduceLeDiff, reduceCtorEq, decide_true, decide_false]
          refine ⟨⟨_, hD3⟩, wh_non, wh_int, fun _ => fun p dx2 H4 np s4 h4 => ⟨ws, s4 _ _ hD3, by have := hw3.length; omega, fun H5 p5 => ⟨fun b o hb => by rw [p5.2 b (ne_of_none hb nD0)]; exact s4 _ _ (S3 _ _ hb), _, p5.1, ?_⟩⟩, fun e => by cases e⟩
          have keep : ∀ b C dx fs, H4 b = some (.ins C dx fs) → H5 b = some (.ins C dx fs) := fun b C dx fs hb => by rw [p5.2 b (ne_of hb (s4 _ _ hD3) (by intro z; cases z))]; exact hb
          exact ((hw3.mono s4).monoI keep).snoc (q := (none, some l)) (keep _ _ _ _ h4)
      · clear hD3 hw3 S3
        rintro _ H4 ⟨rfl, S4, ws4, hD4, hw4⟩
        have l4 : ws4.length ≤ 902 := by
          have h1 := hw4.length
          have h2 : (lowP q.1).length ≤ 1 := by cases q.1 <;> simp [lowP]
          rw [List.length_append] at h1
          omega
        refine ⟨fun σ' H' => σ' = [some (V.ref a), some (V.ref D), some (ov q.1), some (ov (lastH q t)), none, none] ∧ Same H H' ∧ ∃ ws, H' D = some (.lst ws) ∧ SAll K H' ws (restR q t), ?_, ?_⟩
        · unfold restR
          cases e1 : lastH q t with
          | none =>
            simp only [exists_and_left, calmS, spSt, ov, rMax2, tYes, calmS, tDNew, rInDN, rIxDN, rSetDN, tPop, rTupN, rMax, rMin, rSum, rAny, rSorted, rRepN, tSl, tPart, tNoPart, rSlLN, rSlG, rCatG, rOwnB, LamX.tLam3b, rListT, rRepr, tXf, tMtS, cx_K, Value.ref.injEq, HO.xd.injEq, lk0, tSeq, tPar3, tPar, tCons, tNil, tVar, tC, tAsg, gName, gCons, gNil, gTupN, gSub, tOp, rI, rI0, rU, tTest, rNe, rEq, rIxTN, rIxLN, rLenL, rLenT, rIntI, rIntB, rAbs, rSetLN, tTruL, tRaiseX, rIsTy, rIsOw, ixN0, ixN1, tRet, tIf, tIfS, tNext, tBreak, tCont, tDrop, tTupN, tLstN, tUn, tCB, tCall, tNot, tAnd, tOr, tB, tAndV, tOrV, tNotV, tChain, tApp, LamX.tLam, tRevLN, rCatN, rInTN, rInLN, flatV, inV, List.all_cons, List.all_nil, List.any_cons, List.any_nil, Bool.and_self, Bool.and_true, if_true, Bool.false_eq_true, if_false, tMt, tFldN, tSto, HO.ins.injEq, lkh, List.drop_zero, List.drop_succ_cons, List.drop_nil, rListS, wipe, L2.start, List.map_cons, List.map_nil, List.length_cons, List.length_nil, List.replicate, List.cons_append, List.nil_append, List.append_nil, Nat.reduceAdd, Nat.reduceSub, Nat.zero_add, List.replicate_succ, List.replicate_zero, List.getElem?_cons_zero, List.getElem?_cons_succ, List.set_cons_zero, List.set_cons_succ, Option.some.injEq, V.int.injEq, V.bl.injEq, V.ref.injEq, V.str.injEq, V.ty.injEq, List.cons.injEq, HO.tup.injEq, HO.lst.injEq, and_true, true_and, and_assoc, exists_eq_left, exists_eq_left', exists_and_left, exists_eq', atI0, atI1, atI2, atI3, Int.cast_ofNat_Int, Int.reduceToNat, scal_ii, scal_in, scal_ni, scal_nn, scal_bb, scal_ss, scal_sn, scal_ns, scal_bn, scal_nb, ite_iff, decide_eq_true_eq, decide_eq_false_iff_not, Bool.not_eq_true', Classical.not_not, ne_eq, not_false_eq_true, not_true_eq_false, forall_const, true_implies, false_implies, imp_self, sizeLine_eq, Nat.reduceLeDiff, reduceCtorEq, decide_true, decide_false]
            exact ⟨S4, ws4, hD4, by rw [highP, List.append_nil]; exact hw4⟩
          | some l =>
            simp only [exists_and_left, calmS, spSt, ov, rMax2, tYes, calmS, tDNew, rInDN, rIxDN, rSetDN, tPop, rTupN, rMax, rMin, rSum, rAny, rSorted, rRepN, tSl, tPart, tNoPart, rSlLN, rSlG, rCatG, rOwnB, LamX.tLam3b, rListT, rRepr, tXf, tMtS, cx_K, Value.ref.injEq, HO.xd.injEq, lk0, tSeq, tPar3, tPar, tCons, tNil, tVar, tC, tAsg, gName, gCons, gNil, gTupN, gSub, tOp, rI, rI0, rU, tTest, rNe, rEq, rIxTN, rIxLN, rLenL, rLenT, rIntI, rIntB, rAbs, rSetLN, tTruL, tRaiseX, rIsTy, rIsOw, ixN0, ixN1, tRet, tIf, tIfS, tNext, tBreak, tCont, tDrop, tTupN, tLstN, tUn, tCB, tCall, tNot, tAnd, tOr, tB, tAndV, tOrV, tNotV, tChain, tApp, LamX.tLam, tRevLN, rCatN, rInTN, rInLN, flatV, inV, List.all_cons, List.all_nil, List.any_cons, List.any_nil, Bool.and_self, Bool.and_true, if_true, Bool.false_eq_true, if_false, tMt, tFldN, tSto, HO.ins.injEq, lkh, List.drop_zero, List.drop_succ_cons, List.drop_nil, rListS, wipe, L2.start, List.map_cons, List.map_nil, List.length_cons, List.length_nil, List.replicate, List.cons_append, List.nil_append, List.append_nil, Nat.reduceAdd, Nat.reduceSub, Nat.zero_add, List.replicate_succ, List.replicate_zero, List.getElem?_cons_zero, List.getElem?_cons_succ, List.set_cons_zero, List.set_cons_succ, Option.some.injEq, V.int.injEq, V.bl.injEq, V.ref.injEq, V.str.injEq, V.ty.injEq, List.cons.injEq, HO.tup.injEq, HO.lst.injEq, and_true, true_and, and_assoc, exists_eq_left, exists_eq_left', exists_and_left, exists_eq', atI0, atI1, atI2, atI3, Int.cast_ofNat_Int, Int.reduceToNat, scal_ii, scal_in, scal_ni, scal_nn, scal_bb, scal_ss, scal_sn, scal_ns, scal_bn, scal_nb, ite_iff, decide_eq_true_eq, decide_eq_false_iff_not, Bool.not_eq_true', Classical.not_not, ne_eq, not_false_eq_true, not_true_eq_false, forall_const, true_implies, false_implies, imp_self, sizeLine_eq, Nat.reduceLeDiff, reduceCtorEq, decide_true, decide_false]
            refine ⟨⟨_, hD4⟩, wh_int, wh_non, fun _ => fun p dx2 H5 np s5 h5 => ⟨ws4, s5 _ _ hD4, by omega, fun H6 p6 => ⟨fun b o hb => by rw [p6.2 b (ne_of_none hb nD0)]; exact s5 _ _ (S4 _ _ hb), _, p6.1, ?_⟩⟩, fun e => by cases e⟩
            have keep : ∀ b C dx fs, H5 b = some (.ins C dx fs) → H6 b = some (.ins C dx fs) := fun b C dx fs hb => by rw [p6.2 b (ne_of hb (s5 _ _ hD4) (by intro z; cases z))]; exact hb
            exact ((hw4.mono s5).monoI keep).snoc (q := (some l, none)) (keep _ _ _ _ h5)
        · rintro _ H5 ⟨rfl, S5, ws5, hD5, hw5⟩
          have lr := restR_len (q := q) (t := t)
          simp only [exists_and_left, calmS, spSpr, rMax2, tYes, calmS, tDNew, rInDN, rIxDN, rSetDN, tPop, rTupN, rMax, rMin, rSum, rAny, rSorted, rRepN, tSl, tPart, tNoPart, rSlLN, rSlG, rCatG, rOwnB, LamX.tLam3b, rListT, rRepr, tXf, tMtS, cx_K, Value.ref.injEq, HO.xd.injEq, lk0, tSeq, tPar3, tPar, tCons, tNil, tVar, tC, tAsg, gName, gCons, gNil, gTupN, gSub, tOp, rI, rI0, rU, tTest, rNe, rEq, rIxTN, rIxLN, rLenL, rLenT, rIntI, rIntB, rAbs, rSetLN, tTruL, tRaiseX, rIsTy, rIsOw, ixN0, ixN1, tRet, tIf, tIfS, tNext, tBreak, tCont, tDrop, tTupN, tLstN, tUn, tCB, tCall, tNot, tAnd, tOr, tB, tAndV, tOrV, tNotV, tChain, tApp, LamX.tLam, tRevLN, rCatN, rInTN, rInLN, flatV, inV, List.all_cons, List.all_nil, List.any_cons, List.any_nil, Bool.and_self, Bool.and_true, if_true, Bool.false_eq_true, if_false, tMt, tFldN, tSto, HO.ins.injEq, lkh, List.drop_zero, List.drop_succ_cons, List.drop_nil, rListS, wipe, L2.start, List.map_cons, List.map_nil, List.length_cons, List.length_nil, List.replicate, List.cons_append, List.nil_append, List.append_nil, Nat.reduceAdd, Nat.reduceSub, Nat.zero_add, List.replicate_succ, List.replicate_zero, List.getElem?_cons_zero, List.getElem?_cons_succ, List.set_cons_zero, List.set_cons_succ, Option.some.injEq, V.int.injEq, V.bl.injEq, V.ref.injEq, V.str.injEq, V.ty.injEq, List.cons.injEq, HO.tup.injEq, HO.lst.injEq, and_true, true_and, and_assoc, exists_eq_left, exists_eq_left', exists_and_left, exists_eq', atI0, atI1, atI2, atI3, Int.cast_ofNat_Int, Int.reduceToNat, scal_ii, scal_in, scal_ni, scal_nn, scal_bb, scal_ss, scal_sn, scal_ns, scal_bn, scal_nb, ite_iff, decide_eq_true_eq, decide_eq_false_iff_not, Bool.not_eq_true', Classical.not_not, ne_eq, not_false_eq_true, not_true_eq_false, forall_const, true_implies, false_implies, imp_self, sizeLine_eq, Nat.reduceLeDiff, reduceCtorEq, decide_true, decide_false]
          refine .inr ⟨ws5, .inl hD5, restR q t, hw5, okB_gaps hS.N, by omega, fun p2 d2 r2 ts H6 n6 s6 hS6 hh ll => ?_⟩
          exact k p2 d2 r2 ts H6 (S5.trans s6) hS6 (fun i => by rw [hh, has_rest hS.N]) (by simp only [List.length_cons]; omega)
def spPAnd (K : PySem.W.Frag) : Sp := fun vs H Q _ => ∃ a b, vs = [.ref a, .ref b] ∧ ∃ dx ra rs dy rb qs, SprAt K H a dx ra rs ∧ SprAt K H b dy rb qs ∧ rs.length + qs.length ≤ 400 ∧
  ∀ p dz rc ts H', Same H H' → SprAt K H' p dz rc ts → (∀ i, has ts i = (has rs i && has qs i)) → ts.length ≤ rs.length + qs.length + 3 → Q (.ref p) H'
theorem o_Spread___and__ (T : Txt K mg) : OkM P w K mg base CX0 9 "Spread" "__and__" ["self", "other"] [] (spPAnd K) := by
  have o_Spread_all_but := o_Spread_all_but (P := P) (w := w) (base := base) T
  have o_Spread___or__ := o_Spread___or__ (P := P) (w := w) (base := base) T
  obtain ⟨f, fd, M, F⟩ := T.d_Spread___and__
  refine ⟨f, fd, M, b_Spread___and__ F, F.ok (CX := CX0) sc_Spread___and__ (fun vs H Q E h => ?_) (fun cdv A outer s H vs Q E hr h => ?_)⟩
  · first | (obtain ⟨_, rfl, _⟩ := h; rfl) | (obtain ⟨_, _, rfl, _⟩ := h; rfl) | (obtain ⟨_, _, _, rfl, _⟩ := h; rfl) | (obtain ⟨_, _, _, _, rfl, _⟩ := h; rfl) | (obtain ⟨_, _, _, _, _, rfl, _⟩ := h; rfl) | (obtain ⟨_, _, _, _, _, _, rfl, _⟩ := h; rfl) | (obtain ⟨_, _, _, _, _, _, _, rfl, _⟩ := h; rfl)
  have hu64 := hr.units
  refine ⟨_, PSs.nox (pss_cons (ps_if (pt_not (pt_val (pe_callB call_isOw (by rfl) T.m_isinstance (by decide +kernel) (pa_cons (pv 1) (pa_cons ((pe_glob (v := .ref (ga K "Spread")) (by rfl) T.g_Spread rfl)) pa_nil))))) (pss_one (ps_never)) (pss_nil))
      (pss_one (ps_ret (pmt0 (j := 0) o_Spread_all_but T.c_Spread (pe_op (op_ownB o_Spread___or__ rfl T.sf_Spread (hr.mono (by decide)) pass0) (pmt0 (j := 0) o_Spread_all_but T.c_Spread (pv 0) (by decide) (hr.mono (by decide)) pass0) (pmt0 (j := 0) o_Spread_all_but T.c_Spread (pv 1) (by decide) (hr.mono (by decide)) pass0)) (by decide) (hr.mono (by decide)) pass0)))), ?_⟩
  obtain ⟨a, b, rfl, dx, ra, rs, dy, rb, qs, hS, hS2, hl, k⟩ := h
  have h0 := hS.at_
  have h2 := hS2.at_
  simp only [exists_and_left, h0, h2, spPAll, spPOr, rMax2, tYes, calmS, tDNew, rInDN, rIxDN, rSetDN, tPop, rTupN, rMax, rMin, rSum, rAny, rSorted, rRepN, tSl, tPart, tNoPart, rSlLN, rSlG, rCatG, rOwnB, LamX.tLam3b, rListT, rRepr, tXf, tMtS, cx_K, Value.ref.injEq, HO.xd.injEq, lk0, tSeq, tPar3, tPar, tCons, tNil, tVar, tC, tAsg, gName, gCons, gNil, gTupN, gSub, tOp, rI, rI0, rU, tTest, rNe, rEq, rIxTN, rIxLN, rLenL, rLenT, rIntI, rIntB, rAbs, rSetLN, tTruL, tRaiseX, rIsTy, rIsOw, ixN0, ixN1, tRet, tIf, tIfS, tNext, tBreak, tCont, tDrop, tTupN, tLstN, tUn, tCB, tCall, tNot, tAnd, tOr, tB, tAndV, tOrV, tNotV, tChain, tApp, LamX.tLam, tRevLN, rCatN, rInTN, rInLN, flatV, inV, List.all_cons, List.all_nil, List.any_cons, List.any_nil, Bool.and_self, Bool.and_true, if_true, Bool.false_eq_true, if_false, tMt, tFldN, tSto, HO.ins.injEq, lkh, List.drop_zero, List.drop_succ_cons, List.drop_nil, rListS, wipe, L2.start, List.map_cons, List.map_nil, List.length_cons, List.length_nil, List.replicate, List.cons_append, List.nil_append, List.append_nil, Nat.reduceAdd, Nat.reduceSub, Nat.zero_add, List.replicate_succ, List.replicate_zero, List.getElem?_cons_zero, List.getElem?_cons_succ, List.set_cons_zero, List.set_cons_succ, Option.some.injEq, V.int.injEq, V.bl.injEq, V.ref.injEq, V.str.injEq, V.ty.injEq, List.cons.injEq, HO.tup.injEq, HO.lst.injEq, and_true, true_and, and_assoc, exists_eq_left, exists_eq_left', exists_and_left, exists_eq', atI0, atI1, atI2, atI3, Int.cast_ofNat_Int, Int.reduceToNat, scal_ii, scal_in, scal_ni, scal_nn, scal_bb, scal_ss, scal_sn, scal_ns, scal_bn, scal_nb, ite_iff, decide_eq_true_eq, decide_eq_false_iff_not, Bool.not_eq_true', Classical.not_not, ne_eq, not_false_eq_true, not_true_eq_false, forall_const, true_implies, false_implies, imp_self, sizeLine_eq, Nat.reduceLeDiff, reduceCtorEq, decide_true, decide_false]
  refine ⟨_, T.ci_Spread.ty h2, true, kit_self, fun h => (by cases h), fun _ => ⟨lkRowNo, dx, ra, rs, hS, by omega, fun p1 d1 r1 t1 H1 s1 hS1 e1 l1 => ?_⟩⟩
  have hS2 := hS2.mono s1
  refine ⟨_, _, hS2.at_, lkRowNo, dy, rb, qs, hS2, by omega, fun p2 d2 r2 t2 H2 s2 hS3 e2 l2 => ?_⟩
  have hS1 := hS1.mono s2
  refine ⟨_, _, hS1.at_, _, _, hS3.at_, _, _, _, hS1, _, _, _, hS3, by omega, fun p3 d3 r3 t3 H3 s3 hS4 e3 l3 => ?_⟩
  refine ⟨_, _, hS4.at_, lkRowNo, _, _, _, hS4, by omega, fun p4 d4 r4 t4 H4 s4 hS5 e4 l4 => k p4 d4 r4 t4 H4 (((s1.trans s2).trans s3).trans s4) hS5 (fun i => ?_) (by omega)⟩
  rw [e4, e3, e1, e2]
  cases has rs i <;> cases has qs i <;> rfl
def spPSub (K : PySem.W.Frag) : Sp := fun vs H Q _ => ∃ a b, vs = [.ref a, .ref b] ∧ ∃ dx ra rs dy rb qs, SprAt K H a dx ra rs ∧ SprAt K H b dy rb qs ∧ rs.length + qs.length ≤ 400 ∧
  ∀ p dz rc ts H', Same H H' → SprAt K H' p dz rc ts → (∀ i, has ts i = (has rs i && !has qs i)) → ts.length ≤ rs.length + qs.length + 2 → Q (.ref p) H'
theorem o_Spread___sub__ (T : Txt K mg) : OkM P w K mg base CX0 9 "Spread" "__sub__" ["self", "other"] [] (spPSub K) := by
  have o_Spread_all_but := o_Spread_all_but (P := P) (w := w) (base := base) T
  have o_Spread___or__ := o_Spread___or__ (P := P) (w := w) (base := base) T
  obtain ⟨f, fd, M, F⟩ := T.d_Spread___sub__
  refine ⟨f, fd, M, b_Spread___sub__ F, F.ok (CX := CX0) sc_Spread___sub__ (fun vs H Q E h => ?_) (fun cdv A outer s H vs Q E hr h => ?_)⟩
  · first | (obtain ⟨_, rfl, _⟩ := h; rfl) | (obtain ⟨_, _, rfl, _⟩ := h; rfl) | (obtain ⟨_, _, _, rfl, _⟩ := h; rfl) | (obtain ⟨_, _, _, _, rfl, _⟩ := h; rfl) | (obtain ⟨_, _, _, _, _, rfl, _⟩ := h; rfl) | (obtain ⟨_, _, _, _, _, _, rfl, _⟩ := h; rfl) | (obtain ⟨_, _, _, _, _, _, _, rfl, _⟩ := h; rfl)
  have hu64 := hr.units
  refine ⟨_, PSs.nox (pss_one (ps_ret (pmt0 (j := 0) o_Spread_all_but T.c_Spread (pe_op (op_ownB o_Spread___or__ rfl T.sf_Spread (hr.mono (by decide)) pass0) (pmt0 (j := 0) o_Spread_all_but T.c_Spread (pv 0) (by decide) (hr.mono (by decide)) pass0) (pv 1)) (by decide) (hr.mono (by decide)) pass0))), ?_⟩
  obtain ⟨a, b, rfl, dx, ra, rs, dy, rb, qs, hS, hS2, hl, k⟩ := h
  have h0 := hS.at_
  have h2 := hS2.at_
  simp only [exists_and_left, h0, h2, spPAll, spPOr, rMax2, tYes, calmS, tDNew, rInDN, rIxDN, rSetDN, tPop, rTupN, rMax, rMin, rSum, rAny, rSorted, rRepN, tSl, tPart, tNoPart, rSlLN, rSlG, rCatG, rOwnB, LamX.tLam3b, rListT, rRepr, tXf, tMtS, cx_K, Value.ref.injEq, HO.xd.injEq, lk0, tSeq, tPar3, tPar, tCons, tNil, tVar, tC, tAsg, gName, gCons, gNil, gTupN, gSub, tOp, rI, rI0, rU, tTest, rNe, rEq, rIxTN, rIxLN, rLenL, rLenT, rIntI, rIntB, rAbs, rSetLN, tTruL, tRaiseX, rIsTy, rIsOw, ixN0, ixN1, tRet, tIf, tIfS, tNext, tBreak, tCont, tDrop, tTupN, tLstN, tUn, tCB, tCall, tNot, tAnd, tOr, tB, tAndV, tOrV, tNotV, tChain, tApp, LamX.tLam, tRevLN, rCatN, rInTN, rInLN, flatV, inV, List.all_cons, List.all_nil, List.any_cons, List.any_nil, Bool.and_self, Bool.and_true, if_true, Bool.false_eq_true, if_false, tMt, tFldN, tSto, HO.ins.injEq, lkh, List.drop_zero, List.drop_succ_cons, List.drop_nil, rListS, wipe, L2.start, List.map_cons, List.map_nil, List.length_cons, List.length_nil, List.replicate, List.cons_append, List.nil_append, List.append_nil, Nat.reduceAdd, Nat.reduceSub, Nat.zero_add, List.replicate_succ, List.replicate_zero, List.getElem?_cons_zero, List.getElem?_cons_succ, List.set_cons_zero, List.set_cons_succ, Option.some.injEq, V.int.injEq, V.bl.injEq, V.ref.injEq, V.str.injEq, V.ty.injEq, List.cons.injEq, HO.tup.injEq, HO.lst.injEq, and_true, true_and, and_assoc, exists_eq_left, exists_eq_left', exists_and_left, exists_eq', atI0, atI1, atI2, atI3, Int.cast_ofNat_Int, Int.reduceToNat, scal_ii, scal_in, scal_ni, scal_nn, scal_bb, scal_ss, scal_sn, scal_ns, scal_bn, scal_nb, ite_iff, decide_eq_true_eq, decide_eq_false_iff_not, Bool.not_eq_true', Classical.not_not, ne_eq, not_false_eq_true, not_true_eq_false, forall_const, true_implies, false_implies, imp_self, sizeLine_eq, Nat.reduceLeDiff, reduceCtorEq, decide_true, decide_false]
  refine ⟨lkRowNo, dx, ra, rs, hS, by omega, fun p1 d1 r1 t1 H1 s1 hS1 e1 l1 => ?_⟩
  have hS2 := hS2.mono s1
  refine ⟨_, _, hS1.at_, _, _, hS2.at_, _, _, _, hS1, _, _, _, hS2, by omega, fun p3 d3 r3 t3 H3 s3 hS4 e3 l3 => ?_⟩
  refine ⟨_, _, hS4.at_, lkRowNo, _, _, _, hS4, by omega, fun p4 d4 r4 t4 H4 s4 hS5 e4 l4 => k p4 d4 r4 t4 H4 ((s1.trans s3).trans s4) hS5 (fun i => ?_) (by omega)⟩
  rw [e4, e3, e1]
  cases has rs i <;> cases has qs i <;> rfl
def spPLe (K : PySem.W.Frag) : Sp := fun vs H Q _ => ∃ a b, vs = [.ref a, .ref b] ∧ ∃ dx ra rs dy rb qs, SprAt K H a dx ra rs ∧ SprAt K H b dy rb qs ∧ rs.length + qs.length ≤ 400 ∧
  ∀ c H', Same H H' → (c = true ↔ ∀ i, has rs i = true → has qs i = true) → Q (.bl c) H'
theorem o_Spread___le__ (T : Txt K mg) : OkM P w K mg base CX0 9 "Spread" "__le__" ["self", "other"] [] (spPLe K) := by
  have o_Spread___or__ := o_Spread___or__ (P := P) (w := w) (base := base) T
  have o_Spread___eq__ := o_Spread___eq__ (P := P) (w := w) (base := base) T
  obtain ⟨f, fd, M, F⟩ := T.d_Spread___le__
  refine ⟨f, fd, M, b_Spread___le__ F, F.ok (CX := CX0) sc_Spread___le__ (fun vs H Q E h => ?_) (fun cdv A outer s H vs Q E hr h => ?_)⟩
  · first | (obtain ⟨_, rfl, _⟩ := h; rfl) | (obtain ⟨_, _, rfl, _⟩ := h; rfl) | (obtain ⟨_, _, _, rfl, _⟩ := h; rfl) | (obtain ⟨_, _, _, _, rfl, _⟩ := h; rfl) | (obtain ⟨_, _, _, _, _, rfl, _⟩ := h; rfl) | (obtain ⟨_, _, _, _, _, _, rfl, _⟩ := h; rfl) | (obtain ⟨_, _, _, _, _, _, _, rfl, _⟩ := h; rfl)
  have hu64 := hr.units
  refine ⟨_, PSs.nox (pss_one (ps_ret (pe_and (pe_callB call_isOw (by rfl) T.m_isinstance (by decide +kernel) (pa_cons (pv 1) (pa_cons ((pe_glob (v := .ref (ga K "Spread")) (by rfl) T.g_Spread rfl)) pa_nil))) (pe_one (pe_cmpR (op_own (fun _ _ => rfl) o_Spread___eq__ rfl (hr.mono (by decide)) pass0) (pe_op (op_ownB o_Spread___or__ rfl T.sf_Spread (hr.mono (by decide)) pass0) (pv 0) (pv 1)) (pv 1) (nomark _)))))), ?_⟩
  obtain ⟨a, b, rfl, dx, ra, rs, dy, rb, qs, hS, hS2, hl, k⟩ := h
  have h0 := hS.at_
  have h2 := hS2.at_
  simp only [exists_and_left, h0, h2, spPOr, rMax2, tYes, calmS, tDNew, rInDN, rIxDN, rSetDN, tPop, rTupN, rMax, rMin, rSum, rAny, rSorted, rRepN, tSl, tPart, tNoPart, rSlLN, rSlG, rCatG, rOwnB, LamX.tLam3b, rListT, rRepr, tXf, tMtS, cx_K, Value.ref.injEq, HO.xd.injEq, lk0, tSeq, tPar3, tPar, tCons, tNil, tVar, tC, tAsg, gName, gCons, gNil, gTupN, gSub, tOp, rI, rI0, rU, tTest, rNe, rEq, rIxTN, rIxLN, rLenL, rLenT, rIntI, rIntB, rAbs, rSetLN, tTruL, tRaiseX, rIsTy, rIsOw, ixN0, ixN1, tRet, tIf, tIfS, tNext, tBreak, tCont, tDrop, tTupN, tLstN, tUn, tCB, tCall, tNot, tAnd, tOr, tB, tAndV, tOrV, tNotV, tChain, tApp, LamX.tLam, tRevLN, rCatN, rInTN, rInLN, flatV, inV, List.all_cons, List.all_nil, List.any_cons, List.any_nil, Bool.and_self, Bool.and_true, if_true, Bool.false_eq_true, if_false, tMt, tFldN, tSto, HO.ins.injEq, lkh, List.drop_zero, List.drop_succ_cons, List.drop_nil, rListS, wipe, L2.start, List.map_cons, List.map_nil, List.length_cons, List.length_nil, List.replicate, List.cons_append, List.nil_append, List.append_nil, Nat.reduceAdd, Nat.reduceSub, Nat.zero_add, List.replicate_succ, List.replicate_zero, List.getElem?_cons_zero, List.getElem?_cons_succ, List.set_cons_zero, List.set_cons_succ, Option.some.injEq, V.int.injEq, V.bl.injEq, V.ref.injEq, V.str.injEq, V.ty.injEq, List.cons.injEq, HO.tup.injEq, HO.lst.injEq, and_true, true_and, and_assoc, exists_eq_left, exists_eq_left', exists_and_left, exists_eq', atI0, atI1, atI2, atI3, Int.cast_ofNat_Int, Int.reduceToNat, scal_ii, scal_in, scal_ni, scal_nn, scal_bb, scal_ss, scal_sn, scal_ns, scal_bn, scal_nb, ite_iff, decide_eq_true_eq, decide_eq_false_iff_not, Bool.not_eq_true', Classical.not_not, ne_eq, not_false_eq_true, not_true_eq_false, forall_const, true_implies, false_implies, imp_self, sizeLine_eq, Nat.reduceLeDiff, reduceCtorEq, decide_true, decide_false]
  refine ⟨_, T.ci_Spread.ty h2, true, kit_self, fun _ => ⟨dx, ra, rs, hS, dy, rb, qs, hS2, by omega, fun p1 d1 r1 t1 H1 s1 hS1 e1 l1 => ?_⟩, fun h => absurd rfl h⟩
  have hS2 := hS2.mono s1
  refine own_op hS1.at_ (T.ci_Spread.ty hS2.at_) notFirst_self ⟨p1, .ref b, rfl, d1, r1, t1, hS1, .inr ⟨b, dy, rb, qs, rfl, hS2, _, rfl, k _ H1 s1 ?_⟩⟩
  rw [decide_eq_true_eq]
  constructor
  · intro e i hi
    rw [← e, e1, hi]; rfl
  · intro h
    refine norm_uniq hS1.N hS2.N fun i => ?_
    rw [e1]
    cases c : has rs i with
    | false => rfl
    | true => rw [h i c]; rfl
/-- new stretches made of those of a row -/
theorem st_lcM {tl : TE} {g : TG} {tt : TT} {te : TE} {vs : List Nat} {σ : L2.St} {H : Hp} {Q : VK} {a : Addr} {zs : List V} {rs : List PP} (ha : ∀ R : V → Hp → Prop, R (.ref a) H → tl σ H R) (hx : H a = some (.tup zs)) (hz : SAll K H zs rs) (hl : rs.length ≤ 1000) (f : PP → PP)
    (hs : ∀ (b dx : Addr) (q : PP) H' (R : V → Hp → Prop) (R2 : Hp → Prop), q ∈ rs → SAt K H' b dx q.1 q.2 → (∀ p dx2 H'', Same H' H'' → SAt K H'' p dx2 (f q).1 (f q).2 → R (.ref p) H'') → g (.ref b) (wipe σ vs) H' fun σ2 H2 => wipe σ2 vs = wipe σ vs ∧ tt σ2 H2 fun c H3 => if c = true then te σ2 H3 R else R2 H3)
    (hd : ∀ D ws H', Same H H' → H' D = some (.lst ws) → SAll K H' ws (rs.map f) → Q (.ref D) H') : tLc (iTup K tl) g tt te vs σ H Q := by
  refine st_lcT ha hx (fun D i H' => H D = none ∧ Same H H' ∧ ∃ ws, H' D = some (.lst ws) ∧ SAll K H' ws ((rs.take i).map f)) (fun D H1 n1 s1 h1 => ⟨n1, s1, [], h1, .nil⟩) (fun D i H' h => h.2.1 _ _ hx) ?_ ?_
  · rintro D i x H1 hi ⟨n1, s1, ws, h1, hw⟩
    obtain ⟨b, dx, q, rfl, hq, hb⟩ := hz.get hi
    refine hs b dx q H1 _ _ (List.mem_of_getElem? hq) (s1 _ _ hb) fun p dx2 H2 s2 h2 => ⟨ws, s2 _ _ h1, ?_, n1, fun c o hc => by rw [upd_ne (ne_of_none hc n1)]; exact s2 _ _ (s1 _ _ hc), ws ++ [.ref p], upd_same, ?_⟩
    · have h8 := hw.length
      have h9 : (rs.take i).length ≤ rs.length := by rw [List.length_take]; exact Nat.min_le_right _ _
      rw [List.length_map] at h8
      rw [sizeLine_eq]; omega
    · have keep : ∀ b C dx fs, H2 b = some (.ins C dx fs) → (upd H2 D (.lst (ws ++ [.ref p]))) b = some (.ins C dx fs) := fun b C dx fs hb => by rw [upd_ne (ne_of hb (s2 _ _ h1) (by intro z; cases z))]; exact hb
      rw [List.take_succ, hq, List.map_append]
      exact ((hw.mono s2).monoI keep).snoc (q := f q) (keep _ _ _ _ h2)
  · rintro D H1 ⟨n1, s1, ws, h1, hw⟩
    rw [hz.length, List.take_length] at hw
    exact hd D ws H1 s1 h1 hw
def spPMv (K : PySem.W.Frag) : Sp := fun vs H Q E => ∃ a x, vs = [.ref a, x] ∧ ∃ dx ra rs, SprAt K H a dx ra rs ∧ rs.length ≤ 400 ∧ Wh K H x ∧ (isI x = false → Rse K E H "BadNumber" "number" x) ∧
  ∀ n, x = .int n → ∀ p dz rc ts H', Same H H' → SprAt K H' p dz rc ts → (∀ i, has ts i = has rs (i - n)) → ts.length ≤ rs.length → Q (.ref p) H'
theorem o_Spread_moved (T : Txt K mg) : OkM P w K mg base (L2.CX P w) 8 "Spread" "moved" ["self", "by"] [] (spPMv K) := by
  have o_require_whole := o_require_whole (P := P) (w := w) (base := base) T
  obtain ⟨t0, e0, o_Spread⟩ := o_Spread (P := P) (w := w) (base := base) (mg := mg) (K := K) T
  have o_Stretch_moved := o_Stretch_moved (P := P) (w := w) (base := base) T
  obtain ⟨f, fd, M, F⟩ := T.d_Spread_moved
  refine ⟨f, fd, M, b_Spread_moved F, F.ok (CX := (L2.CX P w)) sc_Spread_moved (fun vs H Q E h => ?_) (fun cdv A outer s H vs Q E hr h => ?_)⟩
  · first | (obtain ⟨_, rfl, _⟩ := h; rfl) | (obtain ⟨_, _, rfl, _⟩ := h; rfl) | (obtain ⟨_, _, _, rfl, _⟩ := h; rfl) | (obtain ⟨_, _, _, _, rfl, _⟩ := h; rfl) | (obtain ⟨_, _, _, _, _, rfl, _⟩ := h; rfl) | (obtain ⟨_, _, _, _, _, _, rfl, _⟩ := h; rfl) | (obtain ⟨_, _, _, _, _, _, _, rfl, _⟩ := h; rfl)
  have hu64 := hr.units
  refine ⟨_, (pss_cons (ps_expr (pcl o_require_whole (hr.mono (by decide)) passE (pa_cons (pv 1) pa_nil)))
      (pss_one (ps_ret (pmk (j := 1) o_Spread.calm (show _ ≤ 1 by decide) (hr.mono (by decide)) pass0 (pa_cons (pe_lc (own := [("stretch", 2)]) (g := gName 2) (by rfl) sc_Spread_moved.nd (pi_tup (pe_fldN T.c_Spread T.na_Spread__row (pv 0))) (blkOk_by (N := ["self", "by", "stretch"]) (sc := defScope s_Spread_moved) (own := [("stretch", 2)]) (by decide +kernel)) (fun _ _ _ _ _ => pg_name (i := 2) sc_Spread_moved.nd rfl (Or.inl rfl)) (fun _ _ _ _ _ => pts_nil) (fun _ _ _ _ _ => pmtK (K := K) rfl (j := 0) o_Stretch_moved.calm T.c_Stretch (pv 2) (by decide) (hr.mono (by decide)) pass0 (pa_cons (pv 1) pa_nil))) pa_nil))))), ?_⟩
  obtain ⟨a, x, rfl, dx, ra, rs, hS, hl, W, kE, k⟩ := h
  obtain ⟨zs, hr, hz⟩ := hS.row
  have h0 := hS.at_
  simp only [exists_and_left, h0, lkRow, calmS, spReqW, spSpr, rMax2, tYes, calmS, tDNew, rInDN, rIxDN, rSetDN, tPop, rTupN, rMax, rMin, rSum, rAny, rSorted, rRepN, tSl, tPart, tNoPart, rSlLN, rSlG, rCatG, rOwnB, LamX.tLam3b, rListT, rRepr, tXf, tMtS, cx_K, Value.ref.injEq, HO.xd.injEq, lk0, tSeq, tPar3, tPar, tCons, tNil, tVar, tC, tAsg, gName, gCons, gNil, gTupN, gSub, tOp, rI, rI0, rU, tTest, rNe, rEq, rIxTN, rIxLN, rLenL, rLenT, rIntI, rIntB, rAbs, rSetLN, tTruL, tRaiseX, rIsTy, rIsOw, ixN0, ixN1, tRet, tIf, tIfS, tNext, tBreak, tCont, tDrop, tTupN, tLstN, tUn, tCB, tCall, tNot, tAnd, tOr, tB, tAndV, tOrV, tNotV, tChain, tApp, LamX.tLam, tRevLN, rCatN, rInTN, rInLN, flatV, inV, List.all_cons, List.all_nil, List.any_cons, List.any_nil, Bool.and_self, Bool.and_true, if_true, Bool.false_eq_true, if_false, tMt, tFldN, tSto, HO.ins.injEq, lkh, List.drop_zero, List.drop_succ_cons, List.drop_nil, rListS, wipe, L2.start, List.map_cons, List.map_nil, List.length_cons, List.length_nil, List.replicate, List.cons_append, List.nil_append, List.append_nil, Nat.reduceAdd, Nat.reduceSub, Nat.zero_add, List.replicate_succ, List.replicate_zero, List.getElem?_cons_zero, List.getElem?_cons_succ, List.set_cons_zero, List.set_cons_succ, Option.some.injEq, V.int.injEq, V.bl.injEq, V.ref.injEq, V.str.injEq, V.ty.injEq, List.cons.injEq, HO.tup.injEq, HO.lst.injEq, and_true, true_and, and_assoc, exists_eq_left, exists_eq_left', exists_and_left, exists_eq', atI0, atI1, atI2, atI3, Int.cast_ofNat_Int, Int.reduceToNat, scal_ii, scal_in, scal_ni, scal_nn, scal_bb, scal_ss, scal_sn, scal_ns, scal_bn, scal_nb, ite_iff, decide_eq_true_eq, decide_eq_false_iff_not, Bool.not_eq_true', Classical.not_not, ne_eq, not_false_eq_true, not_true_eq_false, forall_const, true_implies, false_implies, imp_self, sizeLine_eq, Nat.reduceLeDiff, reduceCtorEq, decide_true, decide_false]
  refine ⟨W, fun h1 => ?_, kE⟩
  obtain ⟨n, rfl⟩ := isI_int h1
  refine st_lcM (fun R r => (by simp only [exists_and_left, h0, lkRow, rMax2, tYes, calmS, tDNew, rInDN, rIxDN, rSetDN, tPop, rTupN, rMax, rMin, rSum, rAny, rSorted, rRepN, tSl, tPart, tNoPart, rSlLN, rSlG, rCatG, rOwnB, LamX.tLam3b, rListT, rRepr, tXf, tMtS, cx_K, Value.ref.injEq, HO.xd.injEq, lk0, tSeq, tPar3, tPar, tCons, tNil, tVar, tC, tAsg, gName, gCons, gNil, gTupN, gSub, tOp, rI, rI0, rU, tTest, rNe, rEq, rIxTN, rIxLN, rLenL, rLenT, rIntI, rIntB, rAbs, rSetLN, tTruL, tRaiseX, rIsTy, rIsOw, ixN0, ixN1, tRet, tIf, tIfS, tNext, tBreak, tCont, tDrop, tTupN, tLstN, tUn, tCB, tCall, tNot, tAnd, tOr, tB, tAndV, tOrV, tNotV, tChain, tApp, LamX.tLam, tRevLN, rCatN, rInTN, rInLN, flatV, inV, List.all_cons, List.all_nil, List.any_cons, List.any_nil, Bool.and_self, Bool.and_true, if_true, Bool.false_eq_true, if_false, tMt, tFldN, tSto, HO.ins.injEq, lkh, List.drop_zero, List.drop_succ_cons, List.drop_nil, rListS, wipe, L2.start, List.map_cons, List.map_nil, List.length_cons, List.length_nil, List.replicate, List.cons_append, List.nil_append, List.append_nil, Nat.reduceAdd, Nat.reduceSub, Nat.zero_add, List.replicate_succ, List.replicate_zero, List.getElem?_cons_zero, List.getElem?_cons_succ, List.set_cons_zero, List.set_cons_succ, Option.some.injEq, V.int.injEq, V.bl.injEq, V.ref.injEq, V.str.injEq, V.ty.injEq, List.cons.injEq, HO.tup.injEq, HO.lst.injEq, and_true, true_and, and_assoc, exists_eq_left, exists_eq_left', exists_and_left, exists_eq', atI0, atI1, atI2, atI3, Int.cast_ofNat_Int, Int.reduceToNat, scal_ii, scal_in, scal_ni, scal_nn, scal_bb, scal_ss, scal_sn, scal_ns, scal_bn, scal_nb, ite_iff, decide_eq_true_eq, decide_eq_false_iff_not, Bool.not_eq_true', Classical.not_not, ne_eq, not_false_eq_true, not_true_eq_false, forall_const, true_implies, false_implies, imp_self, sizeLine_eq, Nat.reduceLeDiff, reduceCtorEq, decide_true, decide_false]; exact r)) hr hz (by omega) (mvP n) (fun b d q H' R R2 hq hb n => ?_) (fun D ws H' s1 hD hw => .inr ⟨D, rfl, ws, .inl hD, rs.map (mvP n), hw, fun q hq => ?_, by rw [List.length_map]; omega, fun p2 d2 r2 ts H2 n2 s2 hS2 hh ll => k n rfl p2 d2 r2 ts H2 (s1.trans s2) hS2 (fun i => by rw [hh, has_mv]) (by rw [List.length_map] at ll; exact ll)⟩)
  · simp only [exists_and_left, hb, calmS, spMoved, lkLow, lkHigh, lkN_holds, lkN_turned, lkN_common, lkN_count, lkN_first, lkN_final, lkN_nth, lkN_below, lkN_moved, rMax2, tYes, calmS, tDNew, rInDN, rIxDN, rSetDN, tPop, rTupN, rMax, rMin, rSum, rAny, rSorted, rRepN, tSl, tPart, tNoPart, rSlLN, rSlG, rCatG, rOwnB, LamX.tLam3b, rListT, rRepr, tXf, tMtS, cx_K, Value.ref.injEq, HO.xd.injEq, lk0, tSeq, tPar3, tPar, tCons, tNil, tVar, tC, tAsg, gName, gCons, gNil, gTupN, gSub, tOp, rI, rI0, rU, tTest, rNe, rEq, rIxTN, rIxLN, rLenL, rLenT, rIntI, rIntB, rAbs, rSetLN, tTruL, tRaiseX, rIsTy, rIsOw, ixN0, ixN1, tRet, tIf, tIfS, tNext, tBreak, tCont, tDrop, tTupN, tLstN, tUn, tCB, tCall, tNot, tAnd, tOr, tB, tAndV, tOrV, tNotV, tChain, tApp, LamX.tLam, tRevLN, rCatN, rInTN, rInLN, flatV, inV, List.all_cons, List.all_nil, List.any_cons, List.any_nil, Bool.and_self, Bool.and_true, if_true, Bool.false_eq_true, if_false, tMt, tFldN, tSto, HO.ins.injEq, lkh, List.drop_zero, List.drop_succ_cons, List.drop_nil, rListS, wipe, L2.start, List.map_cons, List.map_nil, List.length_cons, List.length_nil, List.replicate, List.cons_append, List.nil_append, List.append_nil, Nat.reduceAdd, Nat.reduceSub, Nat.zero_add, List.replicate_succ, List.replicate_zero, List.getElem?_cons_zero, List.getElem?_cons_succ, List.set_cons_zero, List.set_cons_succ, Option.some.injEq, V.int.injEq, V.bl.injEq, V.ref.injEq, V.str.injEq, V.ty.injEq, List.cons.injEq, HO.tup.injEq, HO.lst.injEq, and_true, true_and, and_assoc, exists_eq_left, exists_eq_left', exists_and_left, exists_eq', atI0, atI1, atI2, atI3, Int.cast_ofNat_Int, Int.reduceToNat, scal_ii, scal_in, scal_ni, scal_nn, scal_bb, scal_ss, scal_sn, scal_ns, scal_bn, scal_nb, ite_iff, decide_eq_true_eq, decide_eq_false_iff_not, Bool.not_eq_true', Classical.not_not, ne_eq, not_false_eq_true, not_true_eq_false, forall_const, true_implies, false_implies, imp_self, sizeLine_eq, Nat.reduceLeDiff, reduceCtorEq, decide_true, decide_false]
    exact ⟨d, _, _, hb, okB_O (hS.N.ok q hq), wh_int, fun h => (by cases h), fun i ei p dx' H2 _ s2 h2 => by cases ei; exact n p dx' H2 s2 h2⟩
  · obtain ⟨q0, hq0, rfl⟩ := List.mem_map.mp hq
    exact okB_mv (hS.N.ok q0 hq0)
def spPTn (K : PySem.W.Frag) : Sp := fun vs H Q _ => ∃ a, vs = [.ref a] ∧ ∃ dx ra rs, SprAt K H a dx ra rs ∧ rs.length ≤ 400 ∧
  ∀ p dz rc ts H', Same H H' → SprAt K H' p dz rc ts → (∀ i, has ts i = has rs (-i)) → ts.length ≤ rs.length → Q (.ref p) H'
theorem o_Spread_turned (T : Txt K mg) : OkM P w K mg base CX0 8 "Spread" "turned" ["self"] [] (spPTn K) := by
  obtain ⟨t0, e0, o_Spread⟩ := o_Spread (P := P) (w := w) (base := base) (mg := mg) (K := K) T
  have o_Stretch_turned := o_Stretch_turned (P := P) (w := w) (base := base) T
  obtain ⟨f, fd, M, F⟩ := T.d_Spread_turned
  refine ⟨f, fd, M, b_Spread_turned F, F.ok (CX := CX0) sc_Spread_turned (fun vs H Q E h => ?_) (fun cdv A outer s H vs Q E hr h => ?_)⟩
  · first | (obtain ⟨_, rfl, _⟩ := h; rfl) | (obtain ⟨_, _, rfl, _⟩ := h; rfl) | (obtain ⟨_, _, _, rfl, _⟩ := h; rfl) | (obtain ⟨_, _, _, _, rfl, _⟩ := h; rfl) | (obtain ⟨_, _, _, _, _, rfl, _⟩ := h; rfl) | (obtain ⟨_, _, _, _, _, _, rfl, _⟩ := h; rfl) | (obtain ⟨_, _, _, _, _, _, _, rfl, _⟩ := h; rfl)
  have hu64 := hr.units
  refine ⟨_, PSs.nox (pss_one (ps_ret (pmk (j := 1) o_Spread.calm (show _ ≤ 1 by decide) (hr.mono (by decide)) pass0 (pa_cons (pe_lc (own := [("stretch", 1)]) (g := gName 1) (by rfl) sc_Spread_turned.nd (pi_tup (pe_fldN T.c_Spread T.na_Spread__row (pv 0))) (blkOk_by (N := ["self", "stretch"]) (sc := defScope s_Spread_turned) (own := [("stretch", 1)]) (by decide +kernel)) (fun _ _ _ _ _ => pg_name (i := 1) sc_Spread_turned.nd rfl (Or.inl rfl)) (fun _ _ _ _ _ => pts_nil) (fun _ _ _ _ _ => pmt0K (K := K) rfl (j := 0) o_Stretch_turned.calm T.c_Stretch (pv 1) (by decide) (hr.mono (by decide)) pass0)) pa_nil)))), ?_⟩
  obtain ⟨a, rfl, dx, ra, rs, hS, hl, k⟩ := h
  obtain ⟨zs, hr, hz⟩ := hS.row
  have h0 := hS.at_
  simp only [exists_and_left, h0, lkRow, calmS, spSpr, rMax2, tYes, calmS, tDNew, rInDN, rIxDN, rSetDN, tPop, rTupN, rMax, rMin, rSum, rAny, rSorted, rRepN, tSl, tPart, tNoPart, rSlLN, rSlG, rCatG, rOwnB, LamX.tLam3b, rListT, rRepr, tXf, tMtS, cx_K, Value.ref.injEq, HO.xd.injEq, lk0, tSeq, tPar3, tPar, tCons, tNil, tVar, tC, tAsg, gName, gCons, gNil, gTupN, gSub, tOp, rI, rI0, rU, tTest, rNe, rEq, rIxTN, rIxLN, rLenL, rLenT, rIntI, rIntB, rAbs, rSetLN, tTruL, tRaiseX, rIsTy, rIsOw, ixN0, ixN1, tRet, tIf, tIfS, tNext, tBreak, tCont, tDrop, tTupN, tLstN, tUn, tCB, tCall, tNot, tAnd, tOr, tB, tAndV, tOrV, tNotV, tChain, tApp, LamX.tLam, tRevLN, rCatN, rInTN, rInLN, flatV, inV, List.all_cons, List.all_nil, List.any_cons, List.any_nil, Bool.and_self, Bool.and_true, if_true, Bool.false_eq_true, if_false, tMt, tFldN, tSto, HO.ins.injEq, lkh, List.drop_zero, List.drop_succ_cons, List.drop_nil, rListS, wipe, L2.start, List.map_cons, List.map_nil, List.length_cons, List.length_nil, List.replicate, List.cons_append, List.nil_append, List.append_nil, Nat.reduceAdd, Nat.reduceSub, Nat.zero_add, List.replicate_succ, List.replicate_zero, List.getElem?_cons_zero, List.getElem?_cons_succ, List.set_cons_zero, List.set_cons_succ, Option.some.injEq, V.int.injEq, V.bl.injEq, V.ref.injEq, V.str.injEq, V.ty.injEq, List.cons.injEq, HO.tup.injEq, HO.lst.injEq, and_true, true_and, and_assoc, exists_eq_left, exists_eq_left', exists_and_left, exists_eq', atI0, atI1, atI2, atI3, Int.cast_ofNat_Int, Int.reduceToNat, scal_ii, scal_in, scal_ni, scal_nn, scal_bb, scal_ss, scal_sn, scal_ns, scal_bn, scal_nb, ite_iff, decide_eq_true_eq, decide_eq_false_iff_not, Bool.not_eq_true', Classical.not_not, ne_eq, not_false_eq_true, not_true_eq_false, forall_const, true_implies, false_implies, imp_self, sizeLine_eq, Nat.reduceLeDiff, reduceCtorEq, decide_true, decide_false]
  refine st_lcM (fun R r => (by simp only [exists_and_left, h0, lkRow, rMax2, tYes, calmS, tDNew, rInDN, rIxDN, rSetDN, tPop, rTupN, rMax, rMin, rSum, rAny, rSorted, rRepN, tSl, tPart, tNoPart, rSlLN, rSlG, rCatG, rOwnB, LamX.tLam3b, rListT, rRepr, tXf, tMtS, cx_K, Value.ref.injEq, HO.xd.injEq, lk0, tSeq, tPar3, tPar, tCons, tNil, tVar, tC, tAsg, gName, gCons, gNil, gTupN, gSub, tOp, rI, rI0, rU, tTest, rNe, rEq, rIxTN, rIxLN, rLenL, rLenT, rIntI, rIntB, rAbs, rSetLN, tTruL, tRaiseX, rIsTy, rIsOw, ixN0, ixN1, tRet, tIf, tIfS, tNext, tBreak, tCont, tDrop, tTupN, tLstN, tUn, tCB, tCall, tNot, tAnd, tOr, tB, tAndV, tOrV, tNotV, tChain, tApp, LamX.tLam, tRevLN, rCatN, rInTN, rInLN, flatV, inV, List.all_cons, List.all_nil, List.any_cons, List.any_nil, Bool.and_self, Bool.and_true, if_true, Bool.false_eq_true, if_false, tMt, tFldN, tSto, HO.ins.injEq, lkh, List.drop_zero, List.drop_succ_cons, List.drop_nil, rListS, wipe, L2.start, List.map_cons, List.map_nil, List.length_cons, List.length_nil, List.replicate, List.cons_append, List.nil_append, List.append_nil, Nat.reduceAdd, Nat.reduceSub, Nat.zero_add, List.replicate_succ, List.replicate_zero, List.getElem?_cons_zero, List.getElem?_cons_succ, List.set_cons_zero, List.set_cons_succ, Option.some.injEq, V.int.injEq, V.bl.injEq, V.ref.injEq, V.str.injEq, V.ty.injEq, List.cons.injEq, HO.tup.injEq, HO.lst.injEq, and_true, true_and, and_assoc, exists_eq_left, exists_eq_left', exists_and_left, exists_eq', atI0, atI1, atI2, atI3, Int.cast_ofNat_Int, Int.reduceToNat, scal_ii, scal_in, scal_ni, scal_nn, scal_bb, scal_ss, scal_sn, scal_ns, scal_bn, scal_nb, ite_iff, decide_eq_true_eq, decide_eq_false_iff_not, Bool.not_eq_true', Classical.not_not, ne_eq, not_false_eq_true, not_true_eq_false, forall_const, true_implies, false_implies, imp_self, sizeLine_eq, Nat.reduceLeDiff, reduceCtorEq, decide_true, decide_false]; exact r)) hr hz (by omega) tnP (fun b d q H' R R2 hq hb n => ?_) (fun D ws H' s1 hD hw => .inr ⟨D, rfl, ws, .inl hD, rs.map tnP, hw, fun q hq => ?_, by rw [List.length_map]; omega, fun p2 d2 r2 ts H2 n2 s2 hS2 hh ll => k p2 d2 r2 ts H2 (s1.trans s2) hS2 (fun i => by rw [hh, has_tn]) (by rw [List.length_map] at ll; exact ll)⟩)
  · simp only [exists_and_left, hb, calmS, spTurned, lkLow, lkHigh, lkN_holds, lkN_turned, lkN_common, lkN_count, lkN_first, lkN_final, lkN_nth, lkN_below, lkN_moved, rMax2, tYes, calmS, tDNew, rInDN, rIxDN, rSetDN, tPop, rTupN, rMax, rMin, rSum, rAny, rSorted, rRepN, tSl, tPart, tNoPart, rSlLN, rSlG, rCatG, rOwnB, LamX.tLam3b, rListT, rRepr, tXf, tMtS, cx_K, Value.ref.injEq, HO.xd.injEq, lk0, tSeq, tPar3, tPar, tCons, tNil, tVar, tC, tAsg, gName, gCons, gNil, gTupN, gSub, tOp, rI, rI0, rU, tTest, rNe, rEq, rIxTN, rIxLN, rLenL, rLenT, rIntI, rIntB, rAbs, rSetLN, tTruL, tRaiseX, rIsTy, rIsOw, ixN0, ixN1, tRet, tIf, tIfS, tNext, tBreak, tCont, tDrop, tTupN, tLstN, tUn, tCB, tCall, tNot, tAnd, tOr, tB, tAndV, tOrV, tNotV, tChain, tApp, LamX.tLam, tRevLN, rCatN, rInTN, rInLN, flatV, inV, List.all_cons, List.all_nil, List.any_cons, List.any_nil, Bool.and_self, Bool.and_true, if_true, Bool.false_eq_true, if_false, tMt, tFldN, tSto, HO.ins.injEq, lkh, List.drop_zero, List.drop_succ_cons, List.drop_nil, rListS, wipe, L2.start, List.map_cons, List.map_nil, List.length_cons, List.length_nil, List.replicate, List.cons_append, List.nil_append, List.append_nil, Nat.reduceAdd, Nat.reduceSub, Nat.zero_add, List.replicate_succ, List.replicate_zero, List.getElem?_cons_zero, List.getElem?_cons_succ, List.set_cons_zero, List.set_cons_succ, Option.some.injEq, V.int.injEq, V.bl.injEq, V.ref.injEq, V.str.injEq, V.ty.injEq, List.cons.injEq, HO.tup.injEq, HO.lst.injEq, and_true, true_and, and_assoc, exists_eq_left, exists_eq_left', exists_and_left, exists_eq', atI0, atI1, atI2, atI3, Int.cast_ofNat_Int, Int.reduceToNat, scal_ii, scal_in, scal_ni, scal_nn, scal_bb, scal_ss, scal_sn, scal_ns, scal_bn, scal_nb, ite_iff, decide_eq_true_eq, decide_eq_false_iff_not, Bool.not_eq_true', Classical.not_not, ne_eq, not_false_eq_true, not_true_eq_false, forall_const, true_implies, false_implies, imp_self, sizeLine_eq, Nat.reduceLeDiff, reduceCtorEq, decide_true, decide_false]
    exact ⟨d, _, _, hb, okB_O (hS.N.ok q hq), fun p dx' H2 _ s2 h2 => n p dx' H2 s2 h2⟩
  · obtain ⟨q0, hq0, rfl⟩ := List.mem_map.mp hq
    exact okB_tn (hS.N.ok q0 hq0)

end
end Iz
/-! k04_j -/
set_option Elab.async false
set_option linter.all false
set_option maxRecDepth 100000
set_option maxHeartbeats 4000000
namespace Iz
open PySem PySem.Spec PyProof.Rows L2
open He (ga)
local macro_rules | `(tactic| walk_at "wp") => `(tactic| simp only [rMax2, tYes, calmS, tDNew, rInDN, rIxDN, rSetDN, tPop, rTupN, rMax, rMin, rSum, rAny, rSorted, rRepN, tSl, tPart, tNoPart, rSlLN, rSlG, rCatG, rOwnB, LamX.tLam3b, rListT, rRepr, tXf, tMtS, cx_K, Value.ref.injEq, HO.xd.injEq, lk0, tSeq, tPar3, tPar, tCons, tNil, tVar, tC, tAsg, gName, gCons, gNil, gTupN, gSub, tOp, rI, rI0, rU, tTest, rNe, rEq, rIxTN, rIxLN, rLenL, rLenT, rIntI, rIntB, rAbs, rSetLN, tTruL, tRaiseX, rIsTy, rIsOw, ixN0, ixN1, tRet, tIf, tIfS, tNext, tBreak, tCont, tDrop, tTupN, tLstN, tUn, tCB, tCall, tNot, tAnd, tOr, tB, tAndV, tOrV, tNotV, tChain, tApp, LamX.tLam, tRevLN, rCatN, rInTN, rInLN, flatV, inV, List.all_cons, List.all_nil, List.any_cons, List.any_nil, Bool.and_self, Bool.and_true, if_true, Bool.false_eq_true, if_false, tMt, tFldN, tSto, HO.ins.injEq, lkh, List.drop_zero, List.drop_succ_cons, List.drop_nil, rListS, wipe, L2.start, List.map_cons, List.map_nil, List.length_cons, List.length_nil, List.replicate, List.cons_append, List.nil_append, List.append_nil, Nat.reduceAdd, Nat.reduceSub, Nat.zero_add, List.replicate_succ, List.replicate_zero, List.getElem?_cons_zero, List.getElem?_cons_succ, List.set_cons_zero, List.set_cons_succ, Option.some.injEq, V.int.injEq, V.bl.injEq, V.ref.injEq, V.str.injEq, V.ty.injEq, List.cons.injEq, HO.tup.injEq, HO.lst.injEq, and_true, true_and, and_assoc, exists_eq_left, exists_eq_left', exists_and_left, exists_eq', atI0, atI1, atI2, atI3, Int.cast_ofNat_Int, Int.reduceToNat, scal_ii, scal_in, scal_ni, scal_nn, scal_bb, scal_ss, scal_sn, scal_ns, scal_bn, scal_nb, ite_iff, decide_eq_true_eq, decide_eq_false_iff_not, Bool.not_eq_true', Classical.not_not, ne_eq, not_false_eq_true, not_true_eq_false, forall_const, true_implies, false_implies, imp_self, sizeLine_eq, Nat.reduceLeDiff, reduceCtorEq, decide_true, decide_false])
section
variable {P : Program} {w : World} {K : PySem.W.Frag} {mg : Str → Option Value} {base : Heap}
/-! ### drawn rows, their spreads -/
theorem lc_inR {ta : TA} {g : TG} {tt : TT} {te : TE} {vs : List Nat} {σ : L2.St} {H : Hp} {Q : VK} (h : ta σ H fun us H1 => tLc (iRng1 fun _ H R => R us H) g tt te vs σ H1 Q) : tLc (iRng1 ta) g tt te vs σ H Q := h
theorem okO_B {q : PP} (h : okO q.1 q.2) : okB q := by obtain ⟨a, b⟩ := q; cases a <;> cases b <;> simp_all [okB, okO]
theorem putU {H : Hp} {a : Addr} {o : HO} : Put H (upd H a o) a o := ⟨upd_same, fun _ h => upd_ne h⟩
theorem Stp.nl {a c b : Addr} {H H' : Hp} {o : HO} (e : Stp a c H H') (hS : StA H a c) (h : H b = some o) (hn : ∀ xs, o ≠ .lst xs) : H' b = some o := by
  obtain ⟨hac, n, cs, ha, hc, _⟩ := hS
  exact e b o h (fun z => by subst z; rw [ha] at h; exact hn _ (Option.some.inj h).symm) (fun z => by subst z; rw [hc] at h; exact hn _ (Option.some.inj h).symm)
theorem StA.put {a c L : Addr} {H H' : Hp} {o : HO} (x : StA H a c) (p : Put H H' L o) (h : L ≠ a ∧ L ≠ c) : StA H' a c := let ⟨n, m, cs, h1, h2, h3⟩ := x; ⟨n, m, cs, by rw [p.2 a h.1.symm]; exact h1, by rw [p.2 c h.2.symm]; exact h2, h3⟩
theorem PAll.set {H : Hp} {zs : List V} {ps : List PP} {i : Nat} {u : Addr} {q : PP} (h : PAll H zs ps) (e : H u = some (.tup [ov q.1, ov q.2])) : PAll H (zs.set i (.ref u)) (ps.set i q) := by
  induction h generalizing i with
  | nil => exact .nil
  | cons e0 t ih =>
    cases i with
    | zero => exact .cons e t
    | succ i => exact .cons e0 ih
theorem ixN_at {n i : Nat} {j : Int} (e : j = i) (h : i < n) : ixN n j = some i := by
  subst e
  unfold ixN
  rw [if_pos (by omega)]
  simp [h]
def spSome : Sp := fun vs H Q _ => ∃ a c n o qs, vs = [.ref a, .int n, .ref o] ∧ StA H a c ∧ 0 ≤ n ∧ n ≤ 9 ∧ PairsAt H o qs ∧ o ≠ a ∧ o ≠ c ∧ (∀ q ∈ qs, okB q) ∧ qs.length ≤ 9 ∧
  ∀ b ps H', H b = none → StA H' a c → Stp a c H H' → PairsAt H' b ps → (∀ q ∈ ps, okB q) → ps.length ≤ n.toNat + qs.length → Q (.ref b) H'
theorem o__law_some (T : Txt K mg) : OkF P w K mg base CX0 4 "_law_some" ["_law_state", "_law_most", "_law_other"] spSome := by
  have o__law_draw := o__law_draw (P := P) (w := w) (base := base) T
  have o__law_ends := o__law_ends (P := P) (w := w) (base := base) T
  obtain ⟨f, fd, g, F⟩ := T.d__law_some
  refine ⟨f, fd, g, F.kp, F.binds (fun _ _ _ _ _ _ us hl => match us, hl with | [_, _, _], _ => rfl), F.ok sc__law_some (fun vs H Q E h => ?_) (fun cdv A outer s H vs Q E hr h => ?_)⟩
  · first | (obtain ⟨_, rfl, _⟩ := h; rfl) | (obtain ⟨_, _, rfl, _⟩ := h; rfl) | (obtain ⟨_, _, _, rfl, _⟩ := h; rfl) | (obtain ⟨_, _, _, _, rfl, _⟩ := h; rfl) | (obtain ⟨_, _, _, _, _, rfl, _⟩ := h; rfl) | (obtain ⟨_, _, _, _, _, _, rfl, _⟩ := h; rfl) | (obtain ⟨_, _, _, _, _, _, _, rfl, _⟩ := h; rfl)
  have hu64 := hr.units
  refine ⟨_, pss_cons (ps_setLc (i := 3) (own := [("_law_turn", 6)]) (g := gName 6) (by rfl) sc__law_some.nd rfl rfl (sw_true rfl rfl rfl (by decide +kernel)) (pi_range1 (by rfl) T.m_range (pa_cons (pcl o__law_draw (hr.mono (by decide)) pass0 (pa_cons (pv 0) (pa_cons (pe_op op_add (pv 1) (pe_int)) pa_nil))) pa_nil)) (blkOk_by (N := ["_law_state", "_law_most", "_law_other", "_law_pairs", "_law_low", "_law_high", "_law_turn"]) (sc := defScope s__law_some) (own := [("_law_turn", 6)]) (by decide +kernel)) (fun _ _ _ _ _ => pg_name (i := 6) sc__law_some.nd rfl (Or.inl rfl)) (fun _ _ _ _ _ => pts_nil) (fun _ _ _ _ _ => pcl o__law_ends (hr.mono (by decide)) pass0 (pa_cons (pv 0) pa_nil)))
      (pss_cons (ps_for PassesOwn.never rfl (pi_list (pv 2)) (pg_tupN (n := 2) (by rfl) (pgs_cons (pg_name (i := 4) sc__law_some.nd rfl (Or.inl rfl)) (pgs_cons (pg_name (i := 5) sc__law_some.nd rfl (Or.inl rfl)) pgs_nil))) (pss_one (ps_if (pt_cmpR op_eq (pcl o__law_draw (hr.mono (by decide)) pass0 (pa_cons (pv 0) (pa_cons (pe_int) pa_nil))) (pe_int) (nomark _)) (pss_one (ps_expr (pe_appN (pv 3) (pa_cons (pe_tupN (pa_cons (pv 4) (pa_cons (pv 5) pa_nil))) pa_nil)))) (pss_nil))))
      (pss_one (ps_ret (pv 3)))), ?_⟩
  obtain ⟨a, c, n, o, qs, rfl, hS, n0, n9, hO, oa, oc, okq, lq, k⟩ := h
  simp only [exists_and_left, rMax2, tYes, calmS, tDNew, rInDN, rIxDN, rSetDN, tPop, rTupN, rMax, rMin, rSum, rAny, rSorted, rRepN, tSl, tPart, tNoPart, rSlLN, rSlG, rCatG, rOwnB, LamX.tLam3b, rListT, rRepr, tXf, tMtS, cx_K, Value.ref.injEq, HO.xd.injEq, lk0, tSeq, tPar3, tPar, tCons, tNil, tVar, tC, tAsg, gName, gCons, gNil, gTupN, gSub, tOp, rI, rI0, rU, tTest, rNe, rEq, rIxTN, rIxLN, rLenL, rLenT, rIntI, rIntB, rAbs, rSetLN, tTruL, tRaiseX, rIsTy, rIsOw, ixN0, ixN1, tRet, tIf, tIfS, tNext, tBreak, tCont, tDrop, tTupN, tLstN, tUn, tCB, tCall, tNot, tAnd, tOr, tB, tAndV, tOrV, tNotV, tChain, tApp, LamX.tLam, tRevLN, rCatN, rInTN, rInLN, flatV, inV, List.all_cons, List.all_nil, List.any_cons, List.any_nil, Bool.and_self, Bool.and_true, if_true, Bool.false_eq_true, if_false, tMt, tFldN, tSto, HO.ins.injEq, lkh, List.drop_zero, List.drop_succ_cons, List.drop_nil, rListS, wipe, L2.start, List.map_cons, List.map_nil, List.length_cons, List.length_nil, List.replicate, List.cons_append, List.nil_append, List.append_nil, Nat.reduceAdd, Nat.reduceSub, Nat.zero_add, List.replicate_succ, List.replicate_zero, List.getElem?_cons_zero, List.getElem?_cons_succ, List.set_cons_zero, List.set_cons_succ, Option.some.injEq, V.int.injEq, V.bl.injEq, V.ref.injEq, V.str.injEq, V.ty.injEq, List.cons.injEq, HO.tup.injEq, HO.lst.injEq, and_true, true_and, and_assoc, exists_eq_left, exists_eq_left', exists_and_left, exists_eq', atI0, atI1, atI2, atI3, Int.cast_ofNat_Int, Int.reduceToNat, scal_ii, scal_in, scal_ni, scal_nn, scal_bb, scal_ss, scal_sn, scal_ns, scal_bn, scal_nb, ite_iff, decide_eq_true_eq, decide_eq_false_iff_not, Bool.not_eq_true', Classical.not_not, ne_eq, not_false_eq_true, not_true_eq_false, forall_const, true_implies, false_implies, imp_self, sizeLine_eq, Nat.reduceLeDiff, reduceCtorEq, decide_true, decide_false]
  refine lc_inR ?_
  simp only [spDraw, exists_and_left, rMax2, tYes, calmS, tDNew, rInDN, rIxDN, rSetDN, tPop, rTupN, rMax, rMin, rSum, rAny, rSorted, rRepN, tSl, tPart, tNoPart, rSlLN, rSlG, rCatG, rOwnB, LamX.tLam3b, rListT, rRepr, tXf, tMtS, cx_K, Value.ref.injEq, HO.xd.injEq, lk0, tSeq, tPar3, tPar, tCons, tNil, tVar, tC, tAsg, gName, gCons, gNil, gTupN, gSub, tOp, rI, rI0, rU, tTest, rNe, rEq, rIxTN, rIxLN, rLenL, rLenT, rIntI, rIntB, rAbs, rSetLN, tTruL, tRaiseX, rIsTy, rIsOw, ixN0, ixN1, tRet, tIf, tIfS, tNext, tBreak, tCont, tDrop, tTupN, tLstN, tUn, tCB, tCall, tNot, tAnd, tOr, tB, tAndV, tOrV, tNotV, tChain, tApp, LamX.tLam, tRevLN, rCatN, rInTN, rInLN, flatV, inV, List.all_cons, List.all_nil, List.any_cons, List.any_nil, Bool.and_self, Bool.and_true, if_true, Bool.false_eq_true, if_false, tMt, tFldN, tSto, HO.ins.injEq, lkh, List.drop_zero, List.drop_succ_cons, List.drop_nil, rListS, wipe, L2.start, List.map_cons, List.map_nil, List.length_cons, List.length_nil, List.replicate, List.cons_append, List.nil_append, List.append_nil, Nat.reduceAdd, Nat.reduceSub, Nat.zero_add, List.replicate_succ, List.replicate_zero, List.getElem?_cons_zero, List.getElem?_cons_succ, List.set_cons_zero, List.set_cons_succ, Option.some.injEq, V.int.injEq, V.bl.injEq, V.ref.injEq, V.str.injEq, V.ty.injEq, List.cons.injEq, HO.tup.injEq, HO.lst.injEq, and_true, true_and, and_assoc, exists_eq_left, exists_eq_left', exists_and_left, exists_eq', atI0, atI1, atI2, atI3, Int.cast_ofNat_Int, Int.reduceToNat, scal_ii, scal_in, scal_ni, scal_nn, scal_bb, scal_ss, scal_sn, scal_ns, scal_bn, scal_nb, ite_iff, decide_eq_true_eq, decide_eq_false_iff_not, Bool.not_eq_true', Classical.not_not, ne_eq, not_false_eq_true, not_true_eq_false, forall_const, true_implies, false_implies, imp_self, sizeLine_eq, Nat.reduceLeDiff, reduceCtorEq, decide_true, decide_false]
  refine ⟨c, hS, by omega, by omega, fun d H3 d0 d1 hS3 t3 => ?_⟩
  refine st_lcR1 d (by omega) (fun R r => r) (fun D i H' => ∃ zs ps, H' D = some (.lst zs) ∧ PAll H' zs ps ∧ ps.length = i ∧ (∀ q ∈ ps, okB q) ∧ StA H' a c ∧ Stp a c H H' ∧ H3 D = none ∧ D ≠ a ∧ D ≠ c) (fun D H' nD sD hD => ?_) ?_ ?_
  · have hS3' := hS3
    obtain ⟨_, _, _, ha, hc, _⟩ := hS3
    exact ⟨[], [], hD, .nil, rfl, by simp, hS3'.same sD, t3.trans (Stp.of sD), nD, (ne_of_none ha nD).symm, (ne_of_none hc nD).symm⟩
  · rintro D i H4 hi ⟨zs, ps, hD, hz, lp, ok, hS4, t4, nD, Da, Dc⟩
    simp only [exists_and_left, spEnds, rMax2, tYes, calmS, tDNew, rInDN, rIxDN, rSetDN, tPop, rTupN, rMax, rMin, rSum, rAny, rSorted, rRepN, tSl, tPart, tNoPart, rSlLN, rSlG, rCatG, rOwnB, LamX.tLam3b, rListT, rRepr, tXf, tMtS, cx_K, Value.ref.injEq, HO.xd.injEq, lk0, tSeq, tPar3, tPar, tCons, tNil, tVar, tC, tAsg, gName, gCons, gNil, gTupN, gSub, tOp, rI, rI0, rU, tTest, rNe, rEq, rIxTN, rIxLN, rLenL, rLenT, rIntI, rIntB, rAbs, rSetLN, tTruL, tRaiseX, rIsTy, rIsOw, ixN0, ixN1, tRet, tIf, tIfS, tNext, tBreak, tCont, tDrop, tTupN, tLstN, tUn, tCB, tCall, tNot, tAnd, tOr, tB, tAndV, tOrV, tNotV, tChain, tApp, LamX.tLam, tRevLN, rCatN, rInTN, rInLN, flatV, inV, List.all_cons, List.all_nil, List.any_cons, List.any_nil, Bool.and_self, Bool.and_true, if_true, Bool.false_eq_true, if_false, tMt, tFldN, tSto, HO.ins.injEq, lkh, List.drop_zero, List.drop_succ_cons, List.drop_nil, rListS, wipe, L2.start, List.map_cons, List.map_nil, List.length_cons, List.length_nil, List.replicate, List.cons_append, List.nil_append, List.append_nil, Nat.reduceAdd, Nat.reduceSub, Nat.zero_add, List.replicate_succ, List.replicate_zero, List.getElem?_cons_zero, List.getElem?_cons_succ, List.set_cons_zero, List.set_cons_succ, Option.some.injEq, V.int.injEq, V.bl.injEq, V.ref.injEq, V.str.injEq, V.ty.injEq, List.cons.injEq, HO.tup.injEq, HO.lst.injEq, and_true, true_and, and_assoc, exists_eq_left, exists_eq_left', exists_and_left, exists_eq', atI0, atI1, atI2, atI3, Int.cast_ofNat_Int, Int.reduceToNat, scal_ii, scal_in, scal_ni, scal_nn, scal_bb, scal_ss, scal_sn, scal_ns, scal_bn, scal_nb, ite_iff, decide_eq_true_eq, decide_eq_false_iff_not, Bool.not_eq_true', Classical.not_not, ne_eq, not_false_eq_true, not_true_eq_false, forall_const, true_implies, false_implies, imp_self, sizeLine_eq, Nat.reduceLeDiff, reduceCtorEq, decide_true, decide_false]
    refine ⟨c, hS4, fun q lo hi H5 ho blo bhi hS5 t5 h5 => ⟨zs, t5 _ _ hD Da Dc, by have := hz.length; omega, _, upd_same, ps ++ [(lo, hi)], ?_, ?_, ?_, ?_, ?_, nD, Da, Dc⟩⟩
    · have keep : ∀ b us, H5 b = some (.tup us) → (upd H5 D (.lst (zs ++ [.ref q]))) b = some (.tup us) := fun b us hb => by rw [upd_ne (ne_of hb (t5 _ _ hD Da Dc) (by intro z; cases z))]; exact hb
      exact (hz.monoT fun b us hb => keep _ _ (t5.nl hS4 hb (fun _ z => by cases z))).snoc (q := (lo, hi)) (keep _ _ h5)
    · simp [lp]
    · intro x hx
      rcases List.mem_append.mp hx with h | h
      · exact ok x h
      · rw [List.mem_singleton.mp h]; exact okO_B (q := (lo, hi)) ho
    · exact hS5.put putU ⟨Da, Dc⟩
    · exact fun b o hb ha hc => by rw [upd_ne (ne_of_none (t3 b o hb ha hc) nD)]; exact (t4.trans t5) b o hb ha hc
  rintro P H4 ⟨zs, ps, hP, hz, lp, ok, hS4, t4, nP, Pa, Pc⟩
  have lpn : ps.length ≤ n.toNat := by omega
  obtain ⟨us, ho, hu⟩ := hO
  have oP : o ≠ P := ne_of_none (t3 _ _ ho oa oc) nP
  have hz0 : sizeLine = sizeLine := rfl
  refine st_forL (a := o) (fun R r => ⟨_, rfl, r⟩) (t4 _ _ ho oa oc) (fun i σ' H' => ∃ x4 x5 zs ps', σ' = [some (.ref a), some (.int n), some (.ref o), some (.ref P), x4, x5, none] ∧ H' P = some (.lst zs) ∧ PAll H' zs ps' ∧ ps'.length ≤ n.toNat + i ∧ (∀ q ∈ ps', okB q) ∧ StA H' a c ∧ Stp a c H H') ⟨_, _, zs, ps, rfl, hP, hz, by omega, ok, hS4, t4⟩ (fun i σ' H' h => by obtain ⟨_, _, _, _, _, _, _, _, _, _, t⟩ := h; exact t _ _ ho oa oc) ?_ ?_
  · rintro i x _ H5 hi ⟨x4, x5, zs, ps', rfl, hP, hz, lp', ok', hS5, t5⟩
    obtain ⟨b, q, rfl, hq, hb⟩ := hu.get hi
    have hi2 := (List.getElem?_eq_some_iff.mp hq).1
    have hb5 := t5.nl hS hb (fun _ z => by cases z)
    have okb := okq q (List.mem_of_getElem? hq)
    simp only [spDraw, hb5, exists_and_left, rMax2, tYes, calmS, tDNew, rInDN, rIxDN, rSetDN, tPop, rTupN, rMax, rMin, rSum, rAny, rSorted, rRepN, tSl, tPart, tNoPart, rSlLN, rSlG, rCatG, rOwnB, LamX.tLam3b, rListT, rRepr, tXf, tMtS, cx_K, Value.ref.injEq, HO.xd.injEq, lk0, tSeq, tPar3, tPar, tCons, tNil, tVar, tC, tAsg, gName, gCons, gNil, gTupN, gSub, tOp, rI, rI0, rU, tTest, rNe, rEq, rIxTN, rIxLN, rLenL, rLenT, rIntI, rIntB, rAbs, rSetLN, tTruL, tRaiseX, rIsTy, rIsOw, ixN0, ixN1, tRet, tIf, tIfS, tNext, tBreak, tCont, tDrop, tTupN, tLstN, tUn, tCB, tCall, tNot, tAnd, tOr, tB, tAndV, tOrV, tNotV, tChain, tApp, LamX.tLam, tRevLN, rCatN, rInTN, rInLN, flatV, inV, List.all_cons, List.all_nil, List.any_cons, List.any_nil, Bool.and_self, Bool.and_true, if_true, Bool.false_eq_true, if_false, tMt, tFldN, tSto, HO.ins.injEq, lkh, List.drop_zero, List.drop_succ_cons, List.drop_nil, rListS, wipe, L2.start, List.map_cons, List.map_nil, List.length_cons, List.length_nil, List.replicate, List.cons_append, List.nil_append, List.append_nil, Nat.reduceAdd, Nat.reduceSub, Nat.zero_add, List.replicate_succ, List.replicate_zero, List.getElem?_cons_zero, List.getElem?_cons_succ, List.set_cons_zero, List.set_cons_succ, Option.some.injEq, V.int.injEq, V.bl.injEq, V.ref.injEq, V.str.injEq, V.ty.injEq, List.cons.injEq, HO.tup.injEq, HO.lst.injEq, and_true, true_and, and_assoc, exists_eq_left, exists_eq_left', exists_and_left, exists_eq', atI0, atI1, atI2, atI3, Int.cast_ofNat_Int, Int.reduceToNat, scal_ii, scal_in, scal_ni, scal_nn, scal_bb, scal_ss, scal_sn, scal_ns, scal_bn, scal_nb, ite_iff, decide_eq_true_eq, decide_eq_false_iff_not, Bool.not_eq_true', Classical.not_not, ne_eq, not_false_eq_true, not_true_eq_false, forall_const, true_implies, false_implies, imp_self, sizeLine_eq, Nat.reduceLeDiff, reduceCtorEq, decide_true, decide_false]
    refine ⟨c, hS5, by decide, by decide, fun d H6 d0 d1 hS6 t6 => ?_⟩
    have hP6 := t6 _ _ hP Pa Pc
    have hz6 : PAll H6 zs ps' := hz.monoT fun b us hb => t6.nl hS5 hb (fun _ z => by cases z)
    have u6 := t5.trans t6
    refine ⟨fun _ => ⟨⟨_, hP6⟩, fun u H7 nu s7 h7 => ⟨_, s7 _ _ hP6, by have := hz6.length; omega, fun H8 p8 => ⟨_, p8.1, ps' ++ [q], ?_, ?_, ?_, (hS6.same s7).put p8 ⟨Pa, Pc⟩, fun b o hb ha hc => ?_⟩⟩⟩, fun _ => ⟨zs, hP6, ps', hz6, by omega, ok', hS6, u6⟩⟩
    · have keep : ∀ b us, H7 b = some (.tup us) → H8 b = some (.tup us) := fun b us hb => by rw [p8.2 b (ne_of hb (s7 _ _ hP6) (by intro z; cases z))]; exact hb
      exact ((hz6.mono s7).monoT keep).snoc (keep _ _ h7)
    · rw [List.length_append]; simp; omega
    · intro x hx
      rcases List.mem_append.mp hx with h | h
      · exact ok' x h
      · rw [List.mem_singleton.mp h]; exact okb
    · rw [p8.2 b (ne_of_none (t3 b o hb ha hc) nP)]
      exact s7 _ _ (u6 b o hb ha hc)
  · rintro _ H5 ⟨x4, x5, zs, ps', rfl, hP, hz, lp', ok', hS5, t5⟩
    rw [hu.length] at lp'
    simp only [exists_and_left, rMax2, tYes, calmS, tDNew, rInDN, rIxDN, rSetDN, tPop, rTupN, rMax, rMin, rSum, rAny, rSorted, rRepN, tSl, tPart, tNoPart, rSlLN, rSlG, rCatG, rOwnB, LamX.tLam3b, rListT, rRepr, tXf, tMtS, cx_K, Value.ref.injEq, HO.xd.injEq, lk0, tSeq, tPar3, tPar, tCons, tNil, tVar, tC, tAsg, gName, gCons, gNil, gTupN, gSub, tOp, rI, rI0, rU, tTest, rNe, rEq, rIxTN, rIxLN, rLenL, rLenT, rIntI, rIntB, rAbs, rSetLN, tTruL, tRaiseX, rIsTy, rIsOw, ixN0, ixN1, tRet, tIf, tIfS, tNext, tBreak, tCont, tDrop, tTupN, tLstN, tUn, tCB, tCall, tNot, tAnd, tOr, tB, tAndV, tOrV, tNotV, tChain, tApp, LamX.tLam, tRevLN, rCatN, rInTN, rInLN, flatV, inV, List.all_cons, List.all_nil, List.any_cons, List.any_nil, Bool.and_self, Bool.and_true, if_true, Bool.false_eq_true, if_false, tMt, tFldN, tSto, HO.ins.injEq, lkh, List.drop_zero, List.drop_succ_cons, List.drop_nil, rListS, wipe, L2.start, List.map_cons, List.map_nil, List.length_cons, List.length_nil, List.replicate, List.cons_append, List.nil_append, List.append_nil, Nat.reduceAdd, Nat.reduceSub, Nat.zero_add, List.replicate_succ, List.replicate_zero, List.getElem?_cons_zero, List.getElem?_cons_succ, List.set_cons_zero, List.set_cons_succ, Option.some.injEq, V.int.injEq, V.bl.injEq, V.ref.injEq, V.str.injEq, V.ty.injEq, List.cons.injEq, HO.tup.injEq, HO.lst.injEq, and_true, true_and, and_assoc, exists_eq_left, exists_eq_left', exists_and_left, exists_eq', atI0, atI1, atI2, atI3, Int.cast_ofNat_Int, Int.reduceToNat, scal_ii, scal_in, scal_ni, scal_nn, scal_bb, scal_ss, scal_sn, scal_ns, scal_bn, scal_nb, ite_iff, decide_eq_true_eq, decide_eq_false_iff_not, Bool.not_eq_true', Classical.not_not, ne_eq, not_false_eq_true, not_true_eq_false, forall_const, true_implies, false_implies, imp_self, sizeLine_eq, Nat.reduceLeDiff, reduceCtorEq, decide_true, decide_false]
    exact k P ps' H5 (by
      cases e : H P with
      | none => rfl
      | some o => rw [t3 _ _ e Pa Pc] at nP; cases nP) hS5 t5 ⟨zs, hP, hz⟩ ok' lp'
def spSpread (K : PySem.W.Frag) : Sp := fun vs H Q _ => ∃ a ps, vs = [.ref a] ∧ PairsAt H a ps ∧ (∀ q ∈ ps, okB q) ∧ ps.length ≤ 1000 ∧ ∀ p dx row rs H', H p = none → Same H H' → SprAt K H' p dx row rs → (∀ i, has rs i = has ps i) → rs.length ≤ ps.length → Q (.ref p) H'
theorem o__law_spread (T : Txt K mg) : OkF P w K mg base CX0 8 "_law_spread" ["_law_pairs"] (spSpread K) := by
  have o_Stretch := o_Stretch (P := P) (w := w) (base := base) T
  obtain ⟨t0, e0, o_Spread⟩ := o_Spread (P := P) (w := w) (base := base) (mg := mg) (K := K) T
  obtain ⟨f, fd, g, F⟩ := T.d__law_spread
  refine ⟨f, fd, g, F.kp, F.binds (fun _ _ _ _ _ _ us hl => match us, hl with | [_], _ => rfl), F.ok sc__law_spread (fun vs H Q E h => ?_) (fun cdv A outer s H vs Q E hr h => ?_)⟩
  · first | (obtain ⟨_, rfl, _⟩ := h; rfl) | (obtain ⟨_, _, rfl, _⟩ := h; rfl) | (obtain ⟨_, _, _, rfl, _⟩ := h; rfl) | (obtain ⟨_, _, _, _, rfl, _⟩ := h; rfl) | (obtain ⟨_, _, _, _, _, rfl, _⟩ := h; rfl) | (obtain ⟨_, _, _, _, _, _, rfl, _⟩ := h; rfl) | (obtain ⟨_, _, _, _, _, _, _, rfl, _⟩ := h; rfl)
  have hu64 := hr.units
  refine ⟨_, pss_one (ps_ret (pmk (j := 1) o_Spread.calm (show _ ≤ 1 by decide) (hr.mono (by decide)) pass0 (pa_cons (pe_lc (own := [("_law_low", 1), ("_law_high", 2)]) (by rfl) sc__law_spread.nd (pi_list (pv 0)) (blkOk_by (N := ["_law_pairs", "_law_low", "_law_high"]) (sc := defScope s__law_spread) (own := [("_law_low", 1), ("_law_high", 2)]) (by decide +kernel)) (fun _ _ _ _ _ => pg_tupN (n := 2) (by rfl) (pgs_cons (pg_name (i := 1) sc__law_spread.nd rfl (Or.inl rfl)) (pgs_cons (pg_name (i := 2) sc__law_spread.nd rfl (Or.inl rfl)) pgs_nil))) (fun _ _ _ _ _ => pts_nil) (fun _ _ _ _ _ => pmk (j := 2) o_Stretch.calm (by decide) (hr.mono (by decide)) pass0 (pa_cons (pv 1) (pa_cons (pv 2) pa_nil)))) pa_nil))), ?_⟩
  obtain ⟨a, ps, rfl, ⟨xs, hx, hp⟩, ok, hl, k⟩ := h
  simp only [exists_and_left, rMax2, tYes, calmS, tDNew, rInDN, rIxDN, rSetDN, tPop, rTupN, rMax, rMin, rSum, rAny, rSorted, rRepN, tSl, tPart, tNoPart, rSlLN, rSlG, rCatG, rOwnB, LamX.tLam3b, rListT, rRepr, tXf, tMtS, cx_K, Value.ref.injEq, HO.xd.injEq, lk0, tSeq, tPar3, tPar, tCons, tNil, tVar, tC, tAsg, gName, gCons, gNil, gTupN, gSub, tOp, rI, rI0, rU, tTest, rNe, rEq, rIxTN, rIxLN, rLenL, rLenT, rIntI, rIntB, rAbs, rSetLN, tTruL, tRaiseX, rIsTy, rIsOw, ixN0, ixN1, tRet, tIf, tIfS, tNext, tBreak, tCont, tDrop, tTupN, tLstN, tUn, tCB, tCall, tNot, tAnd, tOr, tB, tAndV, tOrV, tNotV, tChain, tApp, LamX.tLam, tRevLN, rCatN, rInTN, rInLN, flatV, inV, List.all_cons, List.all_nil, List.any_cons, List.any_nil, Bool.and_self, Bool.and_true, if_true, Bool.false_eq_true, if_false, tMt, tFldN, tSto, HO.ins.injEq, lkh, List.drop_zero, List.drop_succ_cons, List.drop_nil, rListS, wipe, L2.start, List.map_cons, List.map_nil, List.length_cons, List.length_nil, List.replicate, List.cons_append, List.nil_append, List.append_nil, Nat.reduceAdd, Nat.reduceSub, Nat.zero_add, List.replicate_succ, List.replicate_zero, List.getElem?_cons_zero, List.getElem?_cons_succ, List.set_cons_zero, List.set_cons_succ, Option.some.injEq, V.int.injEq, V.bl.injEq, V.ref.injEq, V.str.injEq, V.ty.injEq, List.cons.injEq, HO.tup.injEq, HO.lst.injEq, and_true, true_and, and_assoc, exists_eq_left, exists_eq_left', exists_and_left, exists_eq', atI0, atI1, atI2, atI3, Int.cast_ofNat_Int, Int.reduceToNat, scal_ii, scal_in, scal_ni, scal_nn, scal_bb, scal_ss, scal_sn, scal_ns, scal_bn, scal_nb, ite_iff, decide_eq_true_eq, decide_eq_false_iff_not, Bool.not_eq_true', Classical.not_not, ne_eq, not_false_eq_true, not_true_eq_false, forall_const, true_implies, false_implies, imp_self, sizeLine_eq, Nat.reduceLeDiff, reduceCtorEq, decide_true, decide_false]
  refine st_lcL (fun R r => ⟨_, rfl, r⟩) hx (fun D i H' => H D = none ∧ Same H H' ∧ ∃ ws, H' D = some (.lst ws) ∧ SAll K H' ws (ps.take i)) (fun D H' nD sD hD => ⟨nD, sD, [], hD, .nil⟩) (fun D i H' q => q.2.1 _ _ hx) ?_ ?_
  · rintro D i x H6 hi ⟨nD, s6, ws, hD, hw⟩
    obtain ⟨b, q, rfl, hq, hb⟩ := hp.get hi
    have hb6 := s6 _ _ hb
    have hi2 := (List.getElem?_eq_some_iff.mp hq).1
    have oS : okS (ov q.1) (ov q.2) = true := okS_ov.mpr (okB_O (ok q (List.mem_of_getElem? hq)))
    simp only [hb6, calmS, spSt, exists_and_left, rMax2, tYes, calmS, tDNew, rInDN, rIxDN, rSetDN, tPop, rTupN, rMax, rMin, rSum, rAny, rSorted, rRepN, tSl, tPart, tNoPart, rSlLN, rSlG, rCatG, rOwnB, LamX.tLam3b, rListT, rRepr, tXf, tMtS, cx_K, Value.ref.injEq, HO.xd.injEq, lk0, tSeq, tPar3, tPar, tCons, tNil, tVar, tC, tAsg, gName, gCons, gNil, gTupN, gSub, tOp, rI, rI0, rU, tTest, rNe, rEq, rIxTN, rIxLN, rLenL, rLenT, rIntI, rIntB, rAbs, rSetLN, tTruL, tRaiseX, rIsTy, rIsOw, ixN0, ixN1, tRet, tIf, tIfS, tNext, tBreak, tCont, tDrop, tTupN, tLstN, tUn, tCB, tCall, tNot, tAnd, tOr, tB, tAndV, tOrV, tNotV, tChain, tApp, LamX.tLam, tRevLN, rCatN, rInTN, rInLN, flatV, inV, List.all_cons, List.all_nil, List.any_cons, List.any_nil, Bool.and_self, Bool.and_true, if_true, Bool.false_eq_true, if_false, tMt, tFldN, tSto, HO.ins.injEq, lkh, List.drop_zero, List.drop_succ_cons, List.drop_nil, rListS, wipe, L2.start, List.map_cons, List.map_nil, List.length_cons, List.length_nil, List.replicate, List.cons_append, List.nil_append, List.append_nil, Nat.reduceAdd, Nat.reduceSub, Nat.zero_add, List.replicate_succ, List.replicate_zero, List.getElem?_cons_zero, List.getElem?_cons_succ, List.set_cons_zero, List.set_cons_succ, Option.some.injEq, V.int.injEq, V.bl.injEq, V.ref.injEq, V.str.injEq, V.ty.injEq, List.cons.injEq, HO.tup.injEq, HO.lst.injEq, and_true, true_and, and_assoc, exists_eq_left, exists_eq_left', exists_and_left, exists_eq', atI0, atI1, atI2, atI3, Int.cast_ofNat_Int, Int.reduceToNat, scal_ii, scal_in, scal_ni, scal_nn, scal_bb, scal_ss, scal_sn, scal_ns, scal_bn, scal_nb, ite_iff, decide_eq_true_eq, decide_eq_false_iff_not, Bool.not_eq_true', Classical.not_not, ne_eq, not_false_eq_true, not_true_eq_false, forall_const, true_implies, false_implies, imp_self, sizeLine_eq, Nat.reduceLeDiff, reduceCtorEq, decide_true, decide_false]
    refine ⟨wh_ov, wh_ov, fun _ => fun p dx H7 np s7 h7 => ⟨ws, s7 _ _ hD, by have := hw.length; simp at this; omega, nD, fun b o hb => by rw [upd_ne (ne_of_none hb nD)]; exact s7 _ _ (s6 _ _ hb), ws ++ [.ref p], upd_same, ?_⟩, fun e => by rw [oS] at e; cases e⟩
    have keep : ∀ b C dx fs, H7 b = some (.ins C dx fs) → (upd H7 D (.lst (ws ++ [.ref p]))) b = some (.ins C dx fs) := fun b C dx fs hb => by rw [upd_ne (ne_of hb (s7 _ _ hD) (by intro z; cases z))]; exact hb
    rw [List.take_succ, hq]
    exact ((hw.mono s7).monoI keep).snoc (keep _ _ _ _ h7)
  · rintro D H6 ⟨nD, s6, ws, hD, hw⟩
    rw [hp.length, List.take_length] at hw
    simp only [spSpr, exists_and_left, rMax2, tYes, calmS, tDNew, rInDN, rIxDN, rSetDN, tPop, rTupN, rMax, rMin, rSum, rAny, rSorted, rRepN, tSl, tPart, tNoPart, rSlLN, rSlG, rCatG, rOwnB, LamX.tLam3b, rListT, rRepr, tXf, tMtS, cx_K, Value.ref.injEq, HO.xd.injEq, lk0, tSeq, tPar3, tPar, tCons, tNil, tVar, tC, tAsg, gName, gCons, gNil, gTupN, gSub, tOp, rI, rI0, rU, tTest, rNe, rEq, rIxTN, rIxLN, rLenL, rLenT, rIntI, rIntB, rAbs, rSetLN, tTruL, tRaiseX, rIsTy, rIsOw, ixN0, ixN1, tRet, tIf, tIfS, tNext, tBreak, tCont, tDrop, tTupN, tLstN, tUn, tCB, tCall, tNot, tAnd, tOr, tB, tAndV, tOrV, tNotV, tChain, tApp, LamX.tLam, tRevLN, rCatN, rInTN, rInLN, flatV, inV, List.all_cons, List.all_nil, List.any_cons, List.any_nil, Bool.and_self, Bool.and_true, if_true, Bool.false_eq_true, if_false, tMt, tFldN, tSto, HO.ins.injEq, lkh, List.drop_zero, List.drop_succ_cons, List.drop_nil, rListS, wipe, L2.start, List.map_cons, List.map_nil, List.length_cons, List.length_nil, List.replicate, List.cons_append, List.nil_append, List.append_nil, Nat.reduceAdd, Nat.reduceSub, Nat.zero_add, List.replicate_succ, List.replicate_zero, List.getElem?_cons_zero, List.getElem?_cons_succ, List.set_cons_zero, List.set_cons_succ, Option.some.injEq, V.int.injEq, V.bl.injEq, V.ref.injEq, V.str.injEq, V.ty.injEq, List.cons.injEq, HO.tup.injEq, HO.lst.injEq, and_true, true_and, and_assoc, exists_eq_left, exists_eq_left', exists_and_left, exists_eq', atI0, atI1, atI2, atI3, Int.cast_ofNat_Int, Int.reduceToNat, scal_ii, scal_in, scal_ni, scal_nn, scal_bb, scal_ss, scal_sn, scal_ns, scal_bn, scal_nb, ite_iff, decide_eq_true_eq, decide_eq_false_iff_not, Bool.not_eq_true', Classical.not_not, ne_eq, not_false_eq_true, not_true_eq_false, forall_const, true_implies, false_implies, imp_self, sizeLine_eq, Nat.reduceLeDiff, reduceCtorEq, decide_true, decide_false]
    exact .inr ⟨ws, .inl hD, ps, hw, ok, hl, fun p dx row rs H7 np s7 hS hh hl2 => k p dx row rs H7 (none_of s6 np) (s6.trans s7) hS hh hl2⟩

end
end Iz
/-! k04_k -/
set_option Elab.async false
set_option linter.all false
set_option maxRecDepth 100000
set_option maxHeartbeats 4000000
namespace Iz
open PySem PySem.Spec PyProof.Rows L2
open He (ga)
local macro_rules | `(tactic| walk_at "wp") => `(tactic| simp only [rMax2, tYes, calmS, tDNew, rInDN, rIxDN, rSetDN, tPop, rTupN, rMax, rMin, rSum, rAny, rSorted, rRepN, tSl, tPart, tNoPart, rSlLN, rSlG, rCatG, rOwnB, LamX.tLam3b, rListT, rRepr, tXf, tMtS, cx_K, Value.ref.injEq, HO.xd.injEq, lk0, tSeq, tPar3, tPar, tCons, tNil, tVar, tC, tAsg, gName, gCons, gNil, gTupN, gSub, tOp, rI, rI0, rU, tTest, rNe, rEq, rIxTN, rIxLN, rLenL, rLenT, rIntI, rIntB, rAbs, rSetLN, tTruL, tRaiseX, rIsTy, rIsOw, ixN0, ixN1, tRet, tIf, tIfS, tNext, tBreak, tCont, tDrop, tTupN, tLstN, tUn, tCB, tCall, tNot, tAnd, tOr, tB, tAndV, tOrV, tNotV, tChain, tApp, LamX.tLam, tRevLN, rCatN, rInTN, rInLN, flatV, inV, List.all_cons, List.all_nil, List.any_cons, List.any_nil, Bool.and_self, Bool.and_true, if_true, Bool.false_eq_true, if_false, tMt, tFldN, tSto, HO.ins.injEq, lkh, List.drop_zero, List.drop_succ_cons, List.drop_nil, rListS, wipe, L2.start, List.map_cons, List.map_nil, List.length_cons, List.length_nil, List.replicate, List.cons_append, List.nil_append, List.append_nil, Nat.reduceAdd, Nat.reduceSub, Nat.zero_add, List.replicate_succ, List.replicate_zero, List.getElem?_cons_zero, List.getElem?_cons_succ, List.set_cons_zero, List.set_cons_succ, Option.some.injEq, V.int.injEq, V.bl.injEq, V.ref.injEq, V.str.injEq, V.ty.injEq, List.cons.injEq, HO.tup.injEq, HO.lst.injEq, and_true, true_and, and_assoc, exists_eq_left, exists_eq_left', exists_and_left, exists_eq', atI0, atI1, atI2, atI3, Int.cast_ofNat_Int, Int.reduceToNat, scal_ii, scal_in, scal_ni, scal_nn, scal_bb, scal_ss, scal_sn, scal_ns, scal_bn, scal_nb, ite_iff, decide_eq_true_eq, decide_eq_false_iff_not, Bool.not_eq_true', Classical.not_not, ne_eq, not_false_eq_true, not_true_eq_false, forall_const, true_implies, false_implies, imp_self, sizeLine_eq, Nat.reduceLeDiff, reduceCtorEq, decide_true, decide_false])
section
variable {P : Program} {w : World} {K : PySem.W.Frag} {mg : Str → Option Value} {base : Heap}
theorem st_lcP2 {tl : TE} {g : TG} {tt : TT} {te : TE} {vs : List Nat} {σ : L2.St} {H : Hp} {Q : VK} {a : Addr} {zs : List V} {rs : List PP} (ha : ∀ R : V → Hp → Prop, R (.ref a) H → tl σ H R) (hx : H a = some (.lst zs)) (hz : SAll K H zs rs) (hl : rs.length ≤ 1000)
    (hs : ∀ (b dx : Addr) (q : PP) H' (R : V → Hp → Prop) (R2 : Hp → Prop), SAt K H' b dx q.1 q.2 → News H' (.tup [ov q.1, ov q.2]) R → g (.ref b) (wipe σ vs) H' fun σ2 H2 => wipe σ2 vs = wipe σ vs ∧ tt σ2 H2 fun c H3 => if c = true then te σ2 H3 R else R2 H3)
    (hd : ∀ D H', H D = none → Same H H' → PairsAt H' D rs → Q (.ref D) H') : tLc (iList K tl) g tt te vs σ H Q := by
  refine st_lcL ha hx (fun D i H' => H D = none ∧ Same H H' ∧ PairsAt H' D (rs.take i)) (fun D H1 n1 s1 h1 => ⟨n1, s1, [], h1, .nil⟩) (fun D i H' h => h.2.1 _ _ hx) ?_ ?_
  · rintro D i x H1 hi ⟨n1, s1, ps, hD, hp⟩
    obtain ⟨b, dx, q, rfl, hq, hb⟩ := hz.get hi
    refine hs b dx q H1 _ _ (s1 _ _ hb) fun p H2 np s2 h2 => ⟨ps, s2 _ _ hD, ?_, n1, fun c o hc => by rw [upd_ne (ne_of_none hc n1)]; exact s2 _ _ (s1 _ _ hc), _, upd_same, ?_⟩
    · have h1 := hp.length
      have h9 : (rs.take i).length ≤ rs.length := by rw [List.length_take]; exact Nat.min_le_right _ _
      rw [sizeLine_eq]; omega
    · have keep : ∀ c us, H2 c = some (.tup us) → (upd H2 D (.lst (ps ++ [.ref p]))) c = some (.tup us) := fun c us hc => by rw [upd_ne (ne_of hc (s2 _ _ hD) (by intro z; cases z))]; exact hc
      rw [List.take_succ, hq]
      exact ((hp.mono s2).monoT keep).snoc (keep _ _ h2)
  · rintro D H1 ⟨n1, s1, hp⟩
    rw [hz.length, List.take_length] at hp
    exact hd D H1 n1 s1 hp

theorem eqv_dPs {ps qs : List PP} : PyData.eqv (.list (ps.map dP)) (.list (qs.map dP)) = decide (ps = qs) := by
  simp only [PyData.eqv]
  induction ps generalizing qs with
  | nil => cases qs <;> simp [PyData.eqvAll]
  | cons p ps ih => cases qs with
    | nil => simp [PyData.eqvAll]
    | cons q qs =>
      have e : PyData.eqv (dP p) (dP q) = decide (p = q) := by
        obtain ⟨x, y⟩ := p
        obtain ⟨u, v⟩ := q
        simp only [dP, PyData.eqv, PyData.eqvAll, eqv_dO, Bool.and_true]
        by_cases h1 : x = u <;> by_cases h2 : y = v <;> simp [h1, h2]
      simp only [List.map_cons, PyData.eqvAll, ih, e]
      by_cases h1 : p = q <;> by_cases h2 : ps = qs <;> simp [h1, h2]
theorem eq_pairs {H : Hp} {a b : Addr} {ps qs : List PP} {R : VK} (ha : PairsAt H a ps) (hb : PairsAt H b qs) (r : R (.bl (decide (ps = qs))) H) : rEqD K (.ref a) (.ref b) H R := ⟨_, _, ha.dp, hb.dp, sh_dPs.ok, sh_dPs.ok, by rw [eqv_dPs]; exact r⟩
theorem ne_pairs {H : Hp} {a b : Addr} {ps qs : List PP} {R : VK} (ha : PairsAt H a ps) (hb : PairsAt H b qs) (r : R (.bl (!decide (ps = qs))) H) : rNeD K (.ref a) (.ref b) H R := ⟨_, _, ha.dp, hb.dp, sh_dPs.ok, sh_dPs.ok, by rw [eqv_dPs]; exact r⟩
theorem ne_spr (T : Txt K mg) {H : Hp} {a b dx dy ra rb : Addr} {rs qs : List PP} {R : VK} (ha : SprAt K H a dx ra rs) (hb : SprAt K H b dy rb qs) (r : R (.bl (!decide (rs = qs))) H) : rOwnNe K (ga K "Spread") (spPEq K) E0 (.ref a) (.ref b) H R :=
  own_ne ha.at_ (T.ci_Spread.ty hb.at_) notFirst_self ⟨a, .ref b, rfl, dx, ra, rs, ha, .inr ⟨b, dy, rb, qs, rfl, hb, _, rfl, r⟩⟩
theorem eq_spr (T : Txt K mg) {H : Hp} {a b dx dy ra rb : Addr} {rs qs : List PP} {R : VK} (ha : SprAt K H a dx ra rs) (hb : SprAt K H b dy rb qs) (r : R (.bl (decide (rs = qs))) H) : rOwn K (ga K "Spread") (spPEq K) E0 (.ref a) (.ref b) H R :=
  own_op ha.at_ (T.ci_Spread.ty hb.at_) notFirst_self ⟨a, .ref b, rfl, dx, ra, rs, ha, .inr ⟨b, dy, rb, qs, rfl, hb, _, rfl, r⟩⟩

/-! ### a spread has just the numbers that it should have -/
open LamX
def qn_law : Str := (("law" : Str) ++ ".<locals>.") ++ "<lambda>"
abbrev TbK (K : PySem.W.Frag) : List (Addr × Str) := [(pOf K "law", qn_law)]
theorem hu_law : ∀ q ∈ TbK K, q.1 = pOf K "law" → q.2 = qn_law := by
  intro q hq _
  rw [List.mem_singleton.mp hq]
def spRowR (K : PySem.W.Frag) : Sp := fun vs H Q _ => ∃ s, vs = [.ref s] ∧ ∃ dx row rs, SprAt K H s dx row rs ∧ rs.length ≤ 40 ∧ ∀ H', Same H H' → Q (.bl true) H'
theorem o__law_row_right (T : Txt K mg) : OkF P w K mg base CX0 3 "_law_row_right" ["_law_spread_here"] (spRowR K) := by
  have o__law_told := o__law_told (P := P) (w := w) (base := base) T
  have o_Spread_told := o_Spread_told (P := P) (w := w) (base := base) T
  obtain ⟨f, fd, g, F⟩ := T.d__law_row_right
  refine ⟨f, fd, g, F.kp, F.binds (fun _ _ _ _ _ _ us hl => match us, hl with | [_], _ => rfl), F.ok sc__law_row_right (fun vs H Q E h => ?_) (fun cdv A outer s H vs Q E hr h => ?_)⟩
  · first | (obtain ⟨_, rfl, _⟩ := h; rfl) | (obtain ⟨_, _, rfl, _⟩ := h; rfl) | (obtain ⟨_, _, _, rfl, _⟩ := h; rfl) | (obtain ⟨_, _, _, _, rfl, _⟩ := h; rfl) | (obtain ⟨_, _, _, _, _, rfl, _⟩ := h; rfl) | (obtain ⟨_, _, _, _, _, _, rfl, _⟩ := h; rfl) | (obtain ⟨_, _, _, _, _, _, _, rfl, _⟩ := h; rfl)
  have hu64 := hr.units
  refine ⟨_, pss_cons (ps_setLc (i := 1) (own := [("_law_one", 2)]) (g := gName 2) (by rfl) sc__law_row_right.nd rfl rfl (sw_true rfl rfl rfl (by decide +kernel)) (pi_list (pmt0 (j := 0) o_Spread_told T.c_Spread (pv 0) (by decide) (hr.mono (by decide)) pass0)) (blkOk_by (N := ["_law_spread_here", "_law_row", "_law_one"]) (sc := defScope s__law_row_right) (own := [("_law_one", 2)]) (by decide +kernel)) (fun _ _ _ _ _ => pg_name (i := 2) sc__law_row_right.nd rfl (Or.inl rfl)) (fun _ _ _ _ _ => pts_nil) (fun _ _ _ _ _ => pe_tupN (pa_cons (pe_fldNK (K := K) rfl T.c_Stretch T.na_Stretch_low (pv 2)) (pa_cons (pe_fldNK (K := K) rfl T.c_Stretch T.na_Stretch_high (pv 2)) pa_nil))))
      (pss_one (ps_ret (pe_cmpR (op_eqDk (K := K) rfl hu64) (pcl o__law_told (hr.mono (by decide)) pass0 (pa_cons (pv 1) pa_nil)) (pv 1) (nomark _)))), ?_⟩
  obtain ⟨s, rfl, dx, row, rs, hS, hl, k⟩ := h
  simp only [exists_and_left, rMax2, tYes, calmS, tDNew, rInDN, rIxDN, rSetDN, tPop, rTupN, rMax, rMin, rSum, rAny, rSorted, rRepN, tSl, tPart, tNoPart, rSlLN, rSlG, rCatG, rOwnB, LamX.tLam3b, rListT, rRepr, tXf, tMtS, cx_K, Value.ref.injEq, HO.xd.injEq, lk0, tSeq, tPar3, tPar, tCons, tNil, tVar, tC, tAsg, gName, gCons, gNil, gTupN, gSub, tOp, rI, rI0, rU, tTest, rNe, rEq, rIxTN, rIxLN, rLenL, rLenT, rIntI, rIntB, rAbs, rSetLN, tTruL, tRaiseX, rIsTy, rIsOw, ixN0, ixN1, tRet, tIf, tIfS, tNext, tBreak, tCont, tDrop, tTupN, tLstN, tUn, tCB, tCall, tNot, tAnd, tOr, tB, tAndV, tOrV, tNotV, tChain, tApp, LamX.tLam, tRevLN, rCatN, rInTN, rInLN, flatV, inV, List.all_cons, List.all_nil, List.any_cons, List.any_nil, Bool.and_self, Bool.and_true, if_true, Bool.false_eq_true, if_false, tMt, tFldN, tSto, HO.ins.injEq, lkh, List.drop_zero, List.drop_succ_cons, List.drop_nil, rListS, wipe, L2.start, List.map_cons, List.map_nil, List.length_cons, List.length_nil, List.replicate, List.cons_append, List.nil_append, List.append_nil, Nat.reduceAdd, Nat.reduceSub, Nat.zero_add, List.replicate_succ, List.replicate_zero, List.getElem?_cons_zero, List.getElem?_cons_succ, List.set_cons_zero, List.set_cons_succ, Option.some.injEq, V.int.injEq, V.bl.injEq, V.ref.injEq, V.str.injEq, V.ty.injEq, List.cons.injEq, HO.tup.injEq, HO.lst.injEq, and_true, true_and, and_assoc, exists_eq_left, exists_eq_left', exists_and_left, exists_eq', atI0, atI1, atI2, atI3, Int.cast_ofNat_Int, Int.reduceToNat, scal_ii, scal_in, scal_ni, scal_nn, scal_bb, scal_ss, scal_sn, scal_ns, scal_bn, scal_nb, ite_iff, decide_eq_true_eq, decide_eq_false_iff_not, Bool.not_eq_true', Classical.not_not, ne_eq, not_false_eq_true, not_true_eq_false, forall_const, true_implies, false_implies, imp_self, sizeLine_eq, Nat.reduceLeDiff, reduceCtorEq, decide_true, decide_false]
  refine lc_inL ?_
  simp only [spTolds, exists_and_left, rMax2, tYes, calmS, tDNew, rInDN, rIxDN, rSetDN, tPop, rTupN, rMax, rMin, rSum, rAny, rSorted, rRepN, tSl, tPart, tNoPart, rSlLN, rSlG, rCatG, rOwnB, LamX.tLam3b, rListT, rRepr, tXf, tMtS, cx_K, Value.ref.injEq, HO.xd.injEq, lk0, tSeq, tPar3, tPar, tCons, tNil, tVar, tC, tAsg, gName, gCons, gNil, gTupN, gSub, tOp, rI, rI0, rU, tTest, rNe, rEq, rIxTN, rIxLN, rLenL, rLenT, rIntI, rIntB, rAbs, rSetLN, tTruL, tRaiseX, rIsTy, rIsOw, ixN0, ixN1, tRet, tIf, tIfS, tNext, tBreak, tCont, tDrop, tTupN, tLstN, tUn, tCB, tCall, tNot, tAnd, tOr, tB, tAndV, tOrV, tNotV, tChain, tApp, LamX.tLam, tRevLN, rCatN, rInTN, rInLN, flatV, inV, List.all_cons, List.all_nil, List.any_cons, List.any_nil, Bool.and_self, Bool.and_true, if_true, Bool.false_eq_true, if_false, tMt, tFldN, tSto, HO.ins.injEq, lkh, List.drop_zero, List.drop_succ_cons, List.drop_nil, rListS, wipe, L2.start, List.map_cons, List.map_nil, List.length_cons, List.length_nil, List.replicate, List.cons_append, List.nil_append, List.append_nil, Nat.reduceAdd, Nat.reduceSub, Nat.zero_add, List.replicate_succ, List.replicate_zero, List.getElem?_cons_zero, List.getElem?_cons_succ, List.set_cons_zero, List.set_cons_succ, Option.some.injEq, V.int.injEq, V.bl.injEq, V.ref.injEq, V.str.injEq, V.ty.injEq, List.cons.injEq, HO.tup.injEq, HO.lst.injEq, and_true, true_and, and_assoc, exists_eq_left, exists_eq_left', exists_and_left, exists_eq', atI0, atI1, atI2, atI3, Int.cast_ofNat_Int, Int.reduceToNat, scal_ii, scal_in, scal_ni, scal_nn, scal_bb, scal_ss, scal_sn, scal_ns, scal_bn, scal_nb, ite_iff, decide_eq_true_eq, decide_eq_false_iff_not, Bool.not_eq_true', Classical.not_not, ne_eq, not_false_eq_true, not_true_eq_false, forall_const, true_implies, false_implies, imp_self, sizeLine_eq, Nat.reduceLeDiff, reduceCtorEq, decide_true, decide_false]
  refine ⟨dx, _, hS.at_, lkRowNo, dx, row, rs, hS, fun t1 zs H1 _ s1 h1 hz1 => ?_⟩
  refine st_lcP2 (fun R r => r) h1 hz1 (by omega) (fun b dx q H' R R2 hb n => ?_) (fun D H2 nD s2 hD => ?_)
  · simp only [exists_and_left, hb, lkLow, lkHigh, lkN_holds, lkN_turned, lkN_common, lkN_count, lkN_first, lkN_final, lkN_nth, lkN_below, lkN_moved, rMax2, tYes, calmS, tDNew, rInDN, rIxDN, rSetDN, tPop, rTupN, rMax, rMin, rSum, rAny, rSorted, rRepN, tSl, tPart, tNoPart, rSlLN, rSlG, rCatG, rOwnB, LamX.tLam3b, rListT, rRepr, tXf, tMtS, cx_K, Value.ref.injEq, HO.xd.injEq, lk0, tSeq, tPar3, tPar, tCons, tNil, tVar, tC, tAsg, gName, gCons, gNil, gTupN, gSub, tOp, rI, rI0, rU, tTest, rNe, rEq, rIxTN, rIxLN, rLenL, rLenT, rIntI, rIntB, rAbs, rSetLN, tTruL, tRaiseX, rIsTy, rIsOw, ixN0, ixN1, tRet, tIf, tIfS, tNext, tBreak, tCont, tDrop, tTupN, tLstN, tUn, tCB, tCall, tNot, tAnd, tOr, tB, tAndV, tOrV, tNotV, tChain, tApp, LamX.tLam, tRevLN, rCatN, rInTN, rInLN, flatV, inV, List.all_cons, List.all_nil, List.any_cons, List.any_nil, Bool.and_self, Bool.and_true, if_true, Bool.false_eq_true, if_false, tMt, tFldN, tSto, HO.ins.injEq, lkh, List.drop_zero, List.drop_succ_cons, List.drop_nil, rListS, wipe, L2.start, List.map_cons, List.map_nil, List.length_cons, List.length_nil, List.replicate, List.cons_append, List.nil_append, List.append_nil, Nat.reduceAdd, Nat.reduceSub, Nat.zero_add, List.replicate_succ, List.replicate_zero, List.getElem?_cons_zero, List.getElem?_cons_succ, List.set_cons_zero, List.set_cons_succ, Option.some.injEq, V.int.injEq, V.bl.injEq, V.ref.injEq, V.str.injEq, V.ty.injEq, List.cons.injEq, HO.tup.injEq, HO.lst.injEq, and_true, true_and, and_assoc, exists_eq_left, exists_eq_left', exists_and_left, exists_eq', atI0, atI1, atI2, atI3, Int.cast_ofNat_Int, Int.reduceToNat, scal_ii, scal_in, scal_ni, scal_nn, scal_bb, scal_ss, scal_sn, scal_ns, scal_bn, scal_nb, ite_iff, decide_eq_true_eq, decide_eq_false_iff_not, Bool.not_eq_true', Classical.not_not, ne_eq, not_false_eq_true, not_true_eq_false, forall_const, true_implies, false_implies, imp_self, sizeLine_eq, Nat.reduceLeDiff, reduceCtorEq, decide_true, decide_false]
    exact n
  · simp only [spTellL, exists_and_left, rMax2, tYes, calmS, tDNew, rInDN, rIxDN, rSetDN, tPop, rTupN, rMax, rMin, rSum, rAny, rSorted, rRepN, tSl, tPart, tNoPart, rSlLN, rSlG, rCatG, rOwnB, LamX.tLam3b, rListT, rRepr, tXf, tMtS, cx_K, Value.ref.injEq, HO.xd.injEq, lk0, tSeq, tPar3, tPar, tCons, tNil, tVar, tC, tAsg, gName, gCons, gNil, gTupN, gSub, tOp, rI, rI0, rU, tTest, rNe, rEq, rIxTN, rIxLN, rLenL, rLenT, rIntI, rIntB, rAbs, rSetLN, tTruL, tRaiseX, rIsTy, rIsOw, ixN0, ixN1, tRet, tIf, tIfS, tNext, tBreak, tCont, tDrop, tTupN, tLstN, tUn, tCB, tCall, tNot, tAnd, tOr, tB, tAndV, tOrV, tNotV, tChain, tApp, LamX.tLam, tRevLN, rCatN, rInTN, rInLN, flatV, inV, List.all_cons, List.all_nil, List.any_cons, List.any_nil, Bool.and_self, Bool.and_true, if_true, Bool.false_eq_true, if_false, tMt, tFldN, tSto, HO.ins.injEq, lkh, List.drop_zero, List.drop_succ_cons, List.drop_nil, rListS, wipe, L2.start, List.map_cons, List.map_nil, List.length_cons, List.length_nil, List.replicate, List.cons_append, List.nil_append, List.append_nil, Nat.reduceAdd, Nat.reduceSub, Nat.zero_add, List.replicate_succ, List.replicate_zero, List.getElem?_cons_zero, List.getElem?_cons_succ, List.set_cons_zero, List.set_cons_succ, Option.some.injEq, V.int.injEq, V.bl.injEq, V.ref.injEq, V.str.injEq, V.ty.injEq, List.cons.injEq, HO.tup.injEq, HO.lst.injEq, and_true, true_and, and_assoc, exists_eq_left, exists_eq_left', exists_and_left, exists_eq', atI0, atI1, atI2, atI3, Int.cast_ofNat_Int, Int.reduceToNat, scal_ii, scal_in, scal_ni, scal_nn, scal_bb, scal_ss, scal_sn, scal_ns, scal_bn, scal_nb, ite_iff, decide_eq_true_eq, decide_eq_false_iff_not, Bool.not_eq_true', Classical.not_not, ne_eq, not_false_eq_true, not_true_eq_false, forall_const, true_implies, false_implies, imp_self, sizeLine_eq, Nat.reduceLeDiff, reduceCtorEq, decide_true, decide_false]
    refine ⟨rs, hD, hl, fun b rw' H3 nb s3 hb N hh _ => ?_⟩
    obtain rfl : rw' = rs := norm_uniq N hS.N hh
    exact eq_pairs hb (hD.mono s3) (by rw [decide_eq_true rfl]; exact k H3 ((s1.trans s2).trans s3))
def TTs (K : PySem.W.Frag) : (V → Hp → VK → Prop) → V → V → Hp → VK → Prop := fun tl v1 v2 H Q => ∃ s dx row rs b ns, v1 = .ref s ∧ v2 = .ref b ∧ SprAt K H s dx row rs ∧ rs.length ≤ 40 ∧ IntsAt H b ns ∧
  (∀ (n : Int) H1 (Q1 : VK), Same H H1 → (∀ H2, Same H1 H2 → Q1 (.bl (has rs n)) H2) → tl (.int n) H1 Q1) ∧ ∀ H2, Same H H2 → Q (.bl true) H2
theorem same_gives {X : Cx} {g : Addr} {cdg : Value} {q : Str} (T : Txt X.K X.mg) : GivesP2 X N__law_same "_law_same" (defScope s__law_same) g cdg (defBody s__law_same) "_law_wanted" q (TTs X.K) := by
  intro f c' s H v1 v2 Q tl act hc hr h
  have o_Spread_holds := o_Spread_holds (P := X.prog) (w := X.w) (base := X.base) T
  have o__law_row_right := o__law_row_right (P := X.prog) (w := X.w) (base := X.base) T
  refine ⟨_, pss_cons (ps_for PassesOwn.never rfl (pi_list (pv 1)) (pg_name (i := 3) sc__law_same.nd rfl (Or.inl rfl)) (pss_one (ps_if (pt_cmpR op_ne (pmt (j := 0) o_Spread_holds T.c_Spread (pv 0) (by decide) (hr.mono (by decide)) pass0 (pa_cons (pv 3) pa_nil)) ((act _ _ _ _ (pa_cons (pv 3) pa_nil) rfl)) (nomark _)) (pss_one (ps_ret (pe_bl))) (pss_nil))))
      (pss_one (ps_ret (pcl o__law_row_right (hr.mono (by decide)) pass0 (pa_cons (pv 0) pa_nil)))), ?_⟩
  obtain ⟨s, dx, row, rs, b, ns, rfl, rfl, hS, hl, hb, hw, k⟩ := h
  simp only [exists_and_left, rMax2, tYes, calmS, tDNew, rInDN, rIxDN, rSetDN, tPop, rTupN, rMax, rMin, rSum, rAny, rSorted, rRepN, tSl, tPart, tNoPart, rSlLN, rSlG, rCatG, rOwnB, LamX.tLam3b, rListT, rRepr, tXf, tMtS, cx_K, Value.ref.injEq, HO.xd.injEq, lk0, tSeq, tPar3, tPar, tCons, tNil, tVar, tC, tAsg, gName, gCons, gNil, gTupN, gSub, tOp, rI, rI0, rU, tTest, rNe, rEq, rIxTN, rIxLN, rLenL, rLenT, rIntI, rIntB, rAbs, rSetLN, tTruL, tRaiseX, rIsTy, rIsOw, ixN0, ixN1, tRet, tIf, tIfS, tNext, tBreak, tCont, tDrop, tTupN, tLstN, tUn, tCB, tCall, tNot, tAnd, tOr, tB, tAndV, tOrV, tNotV, tChain, tApp, LamX.tLam, tRevLN, rCatN, rInTN, rInLN, flatV, inV, List.all_cons, List.all_nil, List.any_cons, List.any_nil, Bool.and_self, Bool.and_true, if_true, Bool.false_eq_true, if_false, tMt, tFldN, tSto, HO.ins.injEq, lkh, List.drop_zero, List.drop_succ_cons, List.drop_nil, rListS, wipe, L2.start, List.map_cons, List.map_nil, List.length_cons, List.length_nil, List.replicate, List.cons_append, List.nil_append, List.append_nil, Nat.reduceAdd, Nat.reduceSub, Nat.zero_add, List.replicate_succ, List.replicate_zero, List.getElem?_cons_zero, List.getElem?_cons_succ, List.set_cons_zero, List.set_cons_succ, Option.some.injEq, V.int.injEq, V.bl.injEq, V.ref.injEq, V.str.injEq, V.ty.injEq, List.cons.injEq, HO.tup.injEq, HO.lst.injEq, and_true, true_and, and_assoc, exists_eq_left, exists_eq_left', exists_and_left, exists_eq', atI0, atI1, atI2, atI3, Int.cast_ofNat_Int, Int.reduceToNat, scal_ii, scal_in, scal_ni, scal_nn, scal_bb, scal_ss, scal_sn, scal_ns, scal_bn, scal_nb, ite_iff, decide_eq_true_eq, decide_eq_false_iff_not, Bool.not_eq_true', Classical.not_not, ne_eq, not_false_eq_true, not_true_eq_false, forall_const, true_implies, false_implies, imp_self, sizeLine_eq, Nat.reduceLeDiff, reduceCtorEq, decide_true, decide_false]
  refine st_forL (fun R r => ⟨_, rfl, r⟩) hb (fun j σ' H' => ∃ x3, σ' = [some (.ref s), some (.ref b), some (.ref f), x3] ∧ Same H H') ⟨none, rfl, fun _ _ h => h⟩ (fun _ _ _ h => by obtain ⟨_, _, h⟩ := h; exact h _ _ hb) ?_ ?_
  · rintro j z _ H1 hj ⟨x3, rfl, s1⟩
    obtain ⟨n, hn, rfl⟩ := List.mem_map.mp (List.mem_of_getElem? hj)
    have hS1 := hS.mono s1
    simp only [exists_and_left, spPHolds, rMax2, tYes, calmS, tDNew, rInDN, rIxDN, rSetDN, tPop, rTupN, rMax, rMin, rSum, rAny, rSorted, rRepN, tSl, tPart, tNoPart, rSlLN, rSlG, rCatG, rOwnB, LamX.tLam3b, rListT, rRepr, tXf, tMtS, cx_K, Value.ref.injEq, HO.xd.injEq, lk0, tSeq, tPar3, tPar, tCons, tNil, tVar, tC, tAsg, gName, gCons, gNil, gTupN, gSub, tOp, rI, rI0, rU, tTest, rNe, rEq, rIxTN, rIxLN, rLenL, rLenT, rIntI, rIntB, rAbs, rSetLN, tTruL, tRaiseX, rIsTy, rIsOw, ixN0, ixN1, tRet, tIf, tIfS, tNext, tBreak, tCont, tDrop, tTupN, tLstN, tUn, tCB, tCall, tNot, tAnd, tOr, tB, tAndV, tOrV, tNotV, tChain, tApp, LamX.tLam, tRevLN, rCatN, rInTN, rInLN, flatV, inV, List.all_cons, List.all_nil, List.any_cons, List.any_nil, Bool.and_self, Bool.and_true, if_true, Bool.false_eq_true, if_false, tMt, tFldN, tSto, HO.ins.injEq, lkh, List.drop_zero, List.drop_succ_cons, List.drop_nil, rListS, wipe, L2.start, List.map_cons, List.map_nil, List.length_cons, List.length_nil, List.replicate, List.cons_append, List.nil_append, List.append_nil, Nat.reduceAdd, Nat.reduceSub, Nat.zero_add, List.replicate_succ, List.replicate_zero, List.getElem?_cons_zero, List.getElem?_cons_succ, List.set_cons_zero, List.set_cons_succ, Option.some.injEq, V.int.injEq, V.bl.injEq, V.ref.injEq, V.str.injEq, V.ty.injEq, List.cons.injEq, HO.tup.injEq, HO.lst.injEq, and_true, true_and, and_assoc, exists_eq_left, exists_eq_left', exists_and_left, exists_eq', atI0, atI1, atI2, atI3, Int.cast_ofNat_Int, Int.reduceToNat, scal_ii, scal_in, scal_ni, scal_nn, scal_bb, scal_ss, scal_sn, scal_ns, scal_bn, scal_nb, ite_iff, decide_eq_true_eq, decide_eq_false_iff_not, Bool.not_eq_true', Classical.not_not, ne_eq, not_false_eq_true, not_true_eq_false, forall_const, true_implies, false_implies, imp_self, sizeLine_eq, Nat.reduceLeDiff, reduceCtorEq, decide_true, decide_false]
    refine ⟨dx, _, hS1.at_, lkRowNo, dx, row, rs, hS1, by omega, fun _ _ => wh_int, fun H2 s2 => ?_⟩
    exact ⟨(s1.trans s2) _ _ hc, hw n H2 _ (s1.trans s2) fun H3 s3 => ⟨rfl, fun e => absurd rfl e, fun _ => (s1.trans s2).trans s3⟩⟩
  · rintro _ H1 ⟨x3, rfl, s1⟩
    simp only [exists_and_left, spRowR, rMax2, tYes, calmS, tDNew, rInDN, rIxDN, rSetDN, tPop, rTupN, rMax, rMin, rSum, rAny, rSorted, rRepN, tSl, tPart, tNoPart, rSlLN, rSlG, rCatG, rOwnB, LamX.tLam3b, rListT, rRepr, tXf, tMtS, cx_K, Value.ref.injEq, HO.xd.injEq, lk0, tSeq, tPar3, tPar, tCons, tNil, tVar, tC, tAsg, gName, gCons, gNil, gTupN, gSub, tOp, rI, rI0, rU, tTest, rNe, rEq, rIxTN, rIxLN, rLenL, rLenT, rIntI, rIntB, rAbs, rSetLN, tTruL, tRaiseX, rIsTy, rIsOw, ixN0, ixN1, tRet, tIf, tIfS, tNext, tBreak, tCont, tDrop, tTupN, tLstN, tUn, tCB, tCall, tNot, tAnd, tOr, tB, tAndV, tOrV, tNotV, tChain, tApp, LamX.tLam, tRevLN, rCatN, rInTN, rInLN, flatV, inV, List.all_cons, List.all_nil, List.any_cons, List.any_nil, Bool.and_self, Bool.and_true, if_true, Bool.false_eq_true, if_false, tMt, tFldN, tSto, HO.ins.injEq, lkh, List.drop_zero, List.drop_succ_cons, List.drop_nil, rListS, wipe, L2.start, List.map_cons, List.map_nil, List.length_cons, List.length_nil, List.replicate, List.cons_append, List.nil_append, List.append_nil, Nat.reduceAdd, Nat.reduceSub, Nat.zero_add, List.replicate_succ, List.replicate_zero, List.getElem?_cons_zero, List.getElem?_cons_succ, List.set_cons_zero, List.set_cons_succ, Option.some.injEq, V.int.injEq, V.bl.injEq, V.ref.injEq, V.str.injEq, V.ty.injEq, List.cons.injEq, HO.tup.injEq, HO.lst.injEq, and_true, true_and, and_assoc, exists_eq_left, exists_eq_left', exists_and_left, exists_eq', atI0, atI1, atI2, atI3, Int.cast_ofNat_Int, Int.reduceToNat, scal_ii, scal_in, scal_ni, scal_nn, scal_bb, scal_ss, scal_sn, scal_ns, scal_bn, scal_nb, ite_iff, decide_eq_true_eq, decide_eq_false_iff_not, Bool.not_eq_true', Classical.not_not, ne_eq, not_false_eq_true, not_true_eq_false, forall_const, true_implies, false_implies, imp_self, sizeLine_eq, Nat.reduceLeDiff, reduceCtorEq, decide_true, decide_false]
    exact ⟨dx, row, rs, hS.mono s1, hl, fun H2 s2 => k H2 (s1.trans s2)⟩

end
end Iz
/-! k04_l -/
set_option Elab.async false
set_option linter.all false
set_option maxRecDepth 100000
set_option maxHeartbeats 4000000
namespace Iz
open PySem PySem.Spec PyProof.Rows L2
open He (ga)
local macro_rules | `(tactic| walk_at "wp") => `(tactic| simp only [rMax2, tYes, calmS, tDNew, rInDN, rIxDN, rSetDN, tPop, rTupN, rMax, rMin, rSum, rAny, rSorted, rRepN, tSl, tPart, tNoPart, rSlLN, rSlG, rCatG, rOwnB, LamX.tLam3b, rListT, rRepr, tXf, tMtS, cx_K, Value.ref.injEq, HO.xd.injEq, lk0, tSeq, tPar3, tPar, tCons, tNil, tVar, tC, tAsg, gName, gCons, gNil, gTupN, gSub, tOp, rI, rI0, rU, tTest, rNe, rEq, rIxTN, rIxLN, rLenL, rLenT, rIntI, rIntB, rAbs, rSetLN, tTruL, tRaiseX, rIsTy, rIsOw, ixN0, ixN1, tRet, tIf, tIfS, tNext, tBreak, tCont, tDrop, tTupN, tLstN, tUn, tCB, tCall, tNot, tAnd, tOr, tB, tAndV, tOrV, tNotV, tChain, tApp, LamX.tLam, tRevLN, rCatN, rInTN, rInLN, flatV, inV, List.all_cons, List.all_nil, List.any_cons, List.any_nil, Bool.and_self, Bool.and_true, if_true, Bool.false_eq_true, if_false, tMt, tFldN, tSto, HO.ins.injEq, lkh, List.drop_zero, List.drop_succ_cons, List.drop_nil, rListS, wipe, L2.start, List.map_cons, List.map_nil, List.length_cons, List.length_nil, List.replicate, List.cons_append, List.nil_append, List.append_nil, Nat.reduceAdd, Nat.reduceSub, Nat.zero_add, List.replicate_succ, List.replicate_zero, List.getElem?_cons_zero, List.getElem?_cons_succ, List.set_cons_zero, List.set_cons_succ, Option.some.injEq, V.int.injEq, V.bl.injEq, V.ref.injEq, V.str.injEq, V.ty.injEq, List.cons.injEq, HO.tup.injEq, HO.lst.injEq, and_true, true_and, and_assoc, exists_eq_left, exists_eq_left', exists_and_left, exists_eq', atI0, atI1, atI2, atI3, Int.cast_ofNat_Int, Int.reduceToNat, scal_ii, scal_in, scal_ni, scal_nn, scal_bb, scal_ss, scal_sn, scal_ns, scal_bn, scal_nb, ite_iff, decide_eq_true_eq, decide_eq_false_iff_not, Bool.not_eq_true', Classical.not_not, ne_eq, not_false_eq_true, not_true_eq_false, forall_const, true_implies, false_implies, imp_self, sizeLine_eq, Nat.reduceLeDiff, reduceCtorEq, decide_true, decide_false])
section
variable {P : Program} {w : World} {K : PySem.W.Frag} {mg : Str → Option Value} {base : Heap}
/-! ### odd values -/
def spOddS (K : PySem.W.Frag) : Sp := fun vs H Q _ => ∃ s, vs = [.ref s] ∧ ∃ dx row rs, SprAt K H s dx row rs ∧ rs.length ≤ 400 ∧ ∀ H', Q (.bl true) H'
theorem o__law_odd_right (T : Txt K mg) : OkF P w K mg base CX0 10 "_law_odd_right" ["_law_spread_here"] (spOddS K) := by
  have o_Spread_moved := o_Spread_moved (P := P) (w := w) (base := base) T
  obtain ⟨f, fd, g, F⟩ := T.d__law_odd_right
  refine ⟨f, fd, g, F.kp, F.binds (fun _ _ _ _ _ _ us hl => match us, hl with | [_], _ => rfl), F.ok sc__law_odd_right (fun vs H Q E h => ?_) (fun cdv A outer s H vs Q E hr h => ?_)⟩
  · first | (obtain ⟨_, rfl, _⟩ := h; rfl) | (obtain ⟨_, _, rfl, _⟩ := h; rfl) | (obtain ⟨_, _, _, rfl, _⟩ := h; rfl) | (obtain ⟨_, _, _, _, rfl, _⟩ := h; rfl) | (obtain ⟨_, _, _, _, _, rfl, _⟩ := h; rfl) | (obtain ⟨_, _, _, _, _, _, rfl, _⟩ := h; rfl) | (obtain ⟨_, _, _, _, _, _, _, rfl, _⟩ := h; rfl)
  have hu64 := hr.units
  refine ⟨_, pss_cons (ps_for PassesOwn.never rfl (pi_tup (pe_tupN (pa_cons (pe_non) (pa_cons (pe_bl) (pa_cons (pe_str) pa_nil))))) (pg_name (i := 1) sc__law_odd_right.nd rfl (Or.inl rfl)) (pss_one (ps_try_as (i := 2) (c := .ref (ga K "BadNumber")) (tb := fun W D σ H => tSeq (tDrop (tMtS (ga K "Spread") "moved" (spPMv K) [] (WE W) (tVar 0) (tCons (tVar 1) tNil))) (tRet (tC (.bl false))) D σ H) rfl rfl sc__law_odd_right.nd rfl rfl ⟨rfl, by decide, .inl T.x_BadNumber.g⟩ L2.takes0 (fun W pn xe tk _ => pss_cons (ps_expr (pmtS (j := 0) o_Spread_moved T.c_Spread (pv 0) (by decide) (hr.mono (by decide)) (fun σ => passAt tk σ) (pa_cons (pv 1) pa_nil))) (pss_one (ps_ret pe_bl))) (fun a oe cls d pn hz hf => pss_len (n := 3) (pss_one (ps_if (pt_cmpR op_ne (pe_callB call_reprN (by rfl) T.m_repr (by decide +kernel) (pa_cons (pe_xf T.x_BadNumber.xf T.x_BadNumber.no hz hf (pv 2)) pa_nil)) (pe_callB call_reprN (by rfl) T.m_repr (by decide +kernel) (pa_cons (pv 1) pa_nil)) (nomark _)) (pss_one (ps_ret pe_bl)) pss_nil)) rfl))))
      (pss_one (ps_ret (pe_bl))), ?_⟩
  obtain ⟨s, rfl, dx, row, rs, hS, hl, k⟩ := h
  simp only [exists_and_left, rMax2, tYes, calmS, tDNew, rInDN, rIxDN, rSetDN, tPop, rTupN, rMax, rMin, rSum, rAny, rSorted, rRepN, tSl, tPart, tNoPart, rSlLN, rSlG, rCatG, rOwnB, LamX.tLam3b, rListT, rRepr, tXf, tMtS, cx_K, Value.ref.injEq, HO.xd.injEq, lk0, tSeq, tPar3, tPar, tCons, tNil, tVar, tC, tAsg, gName, gCons, gNil, gTupN, gSub, tOp, rI, rI0, rU, tTest, rNe, rEq, rIxTN, rIxLN, rLenL, rLenT, rIntI, rIntB, rAbs, rSetLN, tTruL, tRaiseX, rIsTy, rIsOw, ixN0, ixN1, tRet, tIf, tIfS, tNext, tBreak, tCont, tDrop, tTupN, tLstN, tUn, tCB, tCall, tNot, tAnd, tOr, tB, tAndV, tOrV, tNotV, tChain, tApp, LamX.tLam, tRevLN, rCatN, rInTN, rInLN, flatV, inV, List.all_cons, List.all_nil, List.any_cons, List.any_nil, Bool.and_self, Bool.and_true, if_true, Bool.false_eq_true, if_false, tMt, tFldN, tSto, HO.ins.injEq, lkh, List.drop_zero, List.drop_succ_cons, List.drop_nil, rListS, wipe, L2.start, List.map_cons, List.map_nil, List.length_cons, List.length_nil, List.replicate, List.cons_append, List.nil_append, List.append_nil, Nat.reduceAdd, Nat.reduceSub, Nat.zero_add, List.replicate_succ, List.replicate_zero, List.getElem?_cons_zero, List.getElem?_cons_succ, List.set_cons_zero, List.set_cons_succ, Option.some.injEq, V.int.injEq, V.bl.injEq, V.ref.injEq, V.str.injEq, V.ty.injEq, List.cons.injEq, HO.tup.injEq, HO.lst.injEq, and_true, true_and, and_assoc, exists_eq_left, exists_eq_left', exists_and_left, exists_eq', atI0, atI1, atI2, atI3, Int.cast_ofNat_Int, Int.reduceToNat, scal_ii, scal_in, scal_ni, scal_nn, scal_bb, scal_ss, scal_sn, scal_ns, scal_bn, scal_nb, ite_iff, decide_eq_true_eq, decide_eq_false_iff_not, Bool.not_eq_true', Classical.not_not, ne_eq, not_false_eq_true, not_true_eq_false, forall_const, true_implies, false_implies, imp_self, sizeLine_eq, Nat.reduceLeDiff, reduceCtorEq, decide_true, decide_false]
  refine for_inT ?_
  simp only [exists_and_left, rMax2, tYes, calmS, tDNew, rInDN, rIxDN, rSetDN, tPop, rTupN, rMax, rMin, rSum, rAny, rSorted, rRepN, tSl, tPart, tNoPart, rSlLN, rSlG, rCatG, rOwnB, LamX.tLam3b, rListT, rRepr, tXf, tMtS, cx_K, Value.ref.injEq, HO.xd.injEq, lk0, tSeq, tPar3, tPar, tCons, tNil, tVar, tC, tAsg, gName, gCons, gNil, gTupN, gSub, tOp, rI, rI0, rU, tTest, rNe, rEq, rIxTN, rIxLN, rLenL, rLenT, rIntI, rIntB, rAbs, rSetLN, tTruL, tRaiseX, rIsTy, rIsOw, ixN0, ixN1, tRet, tIf, tIfS, tNext, tBreak, tCont, tDrop, tTupN, tLstN, tUn, tCB, tCall, tNot, tAnd, tOr, tB, tAndV, tOrV, tNotV, tChain, tApp, LamX.tLam, tRevLN, rCatN, rInTN, rInLN, flatV, inV, List.all_cons, List.all_nil, List.any_cons, List.any_nil, Bool.and_self, Bool.and_true, if_true, Bool.false_eq_true, if_false, tMt, tFldN, tSto, HO.ins.injEq, lkh, List.drop_zero, List.drop_succ_cons, List.drop_nil, rListS, wipe, L2.start, List.map_cons, List.map_nil, List.length_cons, List.length_nil, List.replicate, List.cons_append, List.nil_append, List.append_nil, Nat.reduceAdd, Nat.reduceSub, Nat.zero_add, List.replicate_succ, List.replicate_zero, List.getElem?_cons_zero, List.getElem?_cons_succ, List.set_cons_zero, List.set_cons_succ, Option.some.injEq, V.int.injEq, V.bl.injEq, V.ref.injEq, V.str.injEq, V.ty.injEq, List.cons.injEq, HO.tup.injEq, HO.lst.injEq, and_true, true_and, and_assoc, exists_eq_left, exists_eq_left', exists_and_left, exists_eq', atI0, atI1, atI2, atI3, Int.cast_ofNat_Int, Int.reduceToNat, scal_ii, scal_in, scal_ni, scal_nn, scal_bb, scal_ss, scal_sn, scal_ns, scal_bn, scal_nb, ite_iff, decide_eq_true_eq, decide_eq_false_iff_not, Bool.not_eq_true', Classical.not_not, ne_eq, not_false_eq_true, not_true_eq_false, forall_const, true_implies, false_implies, imp_self, sizeLine_eq, Nat.reduceLeDiff, reduceCtorEq, decide_true, decide_false]
  intro tu H1 _ s1 h1
  refine st_forT (fun R r => r) h1 (fun j σ' H' => ∃ x1, σ' = [some (V.ref s), x1, none] ∧ Same H1 H') ⟨none, rfl, fun _ _ h => h⟩ (fun _ _ _ h => by obtain ⟨_, _, h⟩ := h; exact h _ _ h1) ?_ ?_
  · rintro j z _ H2 hj ⟨x1, rfl, s2⟩
    have hz : ∃ t, ReprV z t ∧ (∀ H', Wh K H' z) ∧ isI z = false := by
      have := List.mem_of_getElem? hj
      simp only [List.mem_cons, List.not_mem_nil, or_false] at this
      rcases this with rfl | rfl | rfl
      · exact ⟨_, rfl, fun _ => wh_non, rfl⟩
      · exact ⟨_, rfl, fun _ => wh_bl, rfl⟩
      · exact ⟨_, ⟨by decide +kernel, rfl⟩, fun _ => wh_str, rfl⟩
    obtain ⟨t, ht, hW, hI⟩ := hz
    clear hj
    have hS2 := hS.mono (s1.trans s2)
    simp only [exists_and_left, rMax2, tYes, calmS, tDNew, rInDN, rIxDN, rSetDN, tPop, rTupN, rMax, rMin, rSum, rAny, rSorted, rRepN, tSl, tPart, tNoPart, rSlLN, rSlG, rCatG, rOwnB, LamX.tLam3b, rListT, rRepr, tXf, tMtS, cx_K, Value.ref.injEq, HO.xd.injEq, lk0, tSeq, tPar3, tPar, tCons, tNil, tVar, tC, tAsg, gName, gCons, gNil, gTupN, gSub, tOp, rI, rI0, rU, tTest, rNe, rEq, rIxTN, rIxLN, rLenL, rLenT, rIntI, rIntB, rAbs, rSetLN, tTruL, tRaiseX, rIsTy, rIsOw, ixN0, ixN1, tRet, tIf, tIfS, tNext, tBreak, tCont, tDrop, tTupN, tLstN, tUn, tCB, tCall, tNot, tAnd, tOr, tB, tAndV, tOrV, tNotV, tChain, tApp, LamX.tLam, tRevLN, rCatN, rInTN, rInLN, flatV, inV, List.all_cons, List.all_nil, List.any_cons, List.any_nil, Bool.and_self, Bool.and_true, if_true, Bool.false_eq_true, if_false, tMt, tFldN, tSto, HO.ins.injEq, lkh, List.drop_zero, List.drop_succ_cons, List.drop_nil, rListS, wipe, L2.start, List.map_cons, List.map_nil, List.length_cons, List.length_nil, List.replicate, List.cons_append, List.nil_append, List.append_nil, Nat.reduceAdd, Nat.reduceSub, Nat.zero_add, List.replicate_succ, List.replicate_zero, List.getElem?_cons_zero, List.getElem?_cons_succ, List.set_cons_zero, List.set_cons_succ, Option.some.injEq, V.int.injEq, V.bl.injEq, V.ref.injEq, V.str.injEq, V.ty.injEq, List.cons.injEq, HO.tup.injEq, HO.lst.injEq, and_true, true_and, and_assoc, exists_eq_left, exists_eq_left', exists_and_left, exists_eq', atI0, atI1, atI2, atI3, Int.cast_ofNat_Int, Int.reduceToNat, scal_ii, scal_in, scal_ni, scal_nn, scal_bb, scal_ss, scal_sn, scal_ns, scal_bn, scal_nb, ite_iff, decide_eq_true_eq, decide_eq_false_iff_not, Bool.not_eq_true', Classical.not_not, ne_eq, not_false_eq_true, not_true_eq_false, forall_const, true_implies, false_implies, imp_self, sizeLine_eq, Nat.reduceLeDiff, reduceCtorEq, decide_true, decide_false]
    refine ⟨dx, _, hS2.at_, lkRowNo, s, z, rfl, dx, row, rs, hS2, hl, hW _, fun _ => ?_, fun n e => by rw [e] at hI; cases hI⟩
    intro dd H3 nd s3 hd
    refine ⟨true, T.mN, fun _ a ha hlen => ?_, fun z => nomatch z⟩
    simp only [rRepr, tXf, hd, exists_and_left, rMax2, tYes, calmS, tDNew, rInDN, rIxDN, rSetDN, tPop, rTupN, rMax, rMin, rSum, rAny, rSorted, rRepN, tSl, tPart, tNoPart, rSlLN, rSlG, rCatG, rOwnB, LamX.tLam3b, rListT, rRepr, tXf, tMtS, cx_K, Value.ref.injEq, HO.xd.injEq, lk0, tSeq, tPar3, tPar, tCons, tNil, tVar, tC, tAsg, gName, gCons, gNil, gTupN, gSub, tOp, rI, rI0, rU, tTest, rNe, rEq, rIxTN, rIxLN, rLenL, rLenT, rIntI, rIntB, rAbs, rSetLN, tTruL, tRaiseX, rIsTy, rIsOw, ixN0, ixN1, tRet, tIf, tIfS, tNext, tBreak, tCont, tDrop, tTupN, tLstN, tUn, tCB, tCall, tNot, tAnd, tOr, tB, tAndV, tOrV, tNotV, tChain, tApp, LamX.tLam, tRevLN, rCatN, rInTN, rInLN, flatV, inV, List.all_cons, List.all_nil, List.any_cons, List.any_nil, Bool.and_self, Bool.and_true, if_true, Bool.false_eq_true, if_false, tMt, tFldN, tSto, HO.ins.injEq, lkh, List.drop_zero, List.drop_succ_cons, List.drop_nil, rListS, wipe, L2.start, List.map_cons, List.map_nil, List.length_cons, List.length_nil, List.replicate, List.cons_append, List.nil_append, List.append_nil, Nat.reduceAdd, Nat.reduceSub, Nat.zero_add, List.replicate_succ, List.replicate_zero, List.getElem?_cons_zero, List.getElem?_cons_succ, List.set_cons_zero, List.set_cons_succ, Option.some.injEq, V.int.injEq, V.bl.injEq, V.ref.injEq, V.str.injEq, V.ty.injEq, List.cons.injEq, HO.tup.injEq, HO.lst.injEq, and_true, true_and, and_assoc, exists_eq_left, exists_eq_left', exists_and_left, exists_eq', atI0, atI1, atI2, atI3, Int.cast_ofNat_Int, Int.reduceToNat, scal_ii, scal_in, scal_ni, scal_nn, scal_bb, scal_ss, scal_sn, scal_ns, scal_bn, scal_nb, ite_iff, decide_eq_true_eq, decide_eq_false_iff_not, Bool.not_eq_true', Classical.not_not, ne_eq, not_false_eq_true, not_true_eq_false, forall_const, true_implies, false_implies, imp_self, sizeLine_eq, Nat.reduceLeDiff, reduceCtorEq, decide_true, decide_false]
    exact ⟨t, ht, t, ht, fun e => absurd rfl e, fun _ => s2.trans s3⟩
  · rintro _ H2 ⟨x1, rfl, s2⟩
    simp only [exists_and_left, rMax2, tYes, calmS, tDNew, rInDN, rIxDN, rSetDN, tPop, rTupN, rMax, rMin, rSum, rAny, rSorted, rRepN, tSl, tPart, tNoPart, rSlLN, rSlG, rCatG, rOwnB, LamX.tLam3b, rListT, rRepr, tXf, tMtS, cx_K, Value.ref.injEq, HO.xd.injEq, lk0, tSeq, tPar3, tPar, tCons, tNil, tVar, tC, tAsg, gName, gCons, gNil, gTupN, gSub, tOp, rI, rI0, rU, tTest, rNe, rEq, rIxTN, rIxLN, rLenL, rLenT, rIntI, rIntB, rAbs, rSetLN, tTruL, tRaiseX, rIsTy, rIsOw, ixN0, ixN1, tRet, tIf, tIfS, tNext, tBreak, tCont, tDrop, tTupN, tLstN, tUn, tCB, tCall, tNot, tAnd, tOr, tB, tAndV, tOrV, tNotV, tChain, tApp, LamX.tLam, tRevLN, rCatN, rInTN, rInLN, flatV, inV, List.all_cons, List.all_nil, List.any_cons, List.any_nil, Bool.and_self, Bool.and_true, if_true, Bool.false_eq_true, if_false, tMt, tFldN, tSto, HO.ins.injEq, lkh, List.drop_zero, List.drop_succ_cons, List.drop_nil, rListS, wipe, L2.start, List.map_cons, List.map_nil, List.length_cons, List.length_nil, List.replicate, List.cons_append, List.nil_append, List.append_nil, Nat.reduceAdd, Nat.reduceSub, Nat.zero_add, List.replicate_succ, List.replicate_zero, List.getElem?_cons_zero, List.getElem?_cons_succ, List.set_cons_zero, List.set_cons_succ, Option.some.injEq, V.int.injEq, V.bl.injEq, V.ref.injEq, V.str.injEq, V.ty.injEq, List.cons.injEq, HO.tup.injEq, HO.lst.injEq, and_true, true_and, and_assoc, exists_eq_left, exists_eq_left', exists_and_left, exists_eq', atI0, atI1, atI2, atI3, Int.cast_ofNat_Int, Int.reduceToNat, scal_ii, scal_in, scal_ni, scal_nn, scal_bb, scal_ss, scal_sn, scal_ns, scal_bn, scal_nb, ite_iff, decide_eq_true_eq, decide_eq_false_iff_not, Bool.not_eq_true', Classical.not_not, ne_eq, not_false_eq_true, not_true_eq_false, forall_const, true_implies, false_implies, imp_self, sizeLine_eq, Nat.reduceLeDiff, reduceCtorEq, decide_true, decide_false]
    exact k H2

end
end Iz
/-! k04_m -/
set_option Elab.async false
set_option linter.all false
set_option maxRecDepth 100000
set_option maxHeartbeats 4000000
namespace Iz
open PySem PySem.Spec PyProof.Rows L2
open He (ga)
local macro_rules | `(tactic| walk_at "wp") => `(tactic| simp only [rMax2, tYes, calmS, tDNew, rInDN, rIxDN, rSetDN, tPop, rTupN, rMax, rMin, rSum, rAny, rSorted, rRepN, tSl, tPart, tNoPart, rSlLN, rSlG, rCatG, rOwnB, LamX.tLam3b, rListT, rRepr, tXf, tMtS, cx_K, Value.ref.injEq, HO.xd.injEq, lk0, tSeq, tPar3, tPar, tCons, tNil, tVar, tC, tAsg, gName, gCons, gNil, gTupN, gSub, tOp, rI, rI0, rU, tTest, rNe, rEq, rIxTN, rIxLN, rLenL, rLenT, rIntI, rIntB, rAbs, rSetLN, tTruL, tRaiseX, rIsTy, rIsOw, ixN0, ixN1, tRet, tIf, tIfS, tNext, tBreak, tCont, tDrop, tTupN, tLstN, tUn, tCB, tCall, tNot, tAnd, tOr, tB, tAndV, tOrV, tNotV, tChain, tApp, LamX.tLam, tRevLN, rCatN, rInTN, rInLN, flatV, inV, List.all_cons, List.all_nil, List.any_cons, List.any_nil, Bool.and_self, Bool.and_true, if_true, Bool.false_eq_true, if_false, tMt, tFldN, tSto, HO.ins.injEq, lkh, List.drop_zero, List.drop_succ_cons, List.drop_nil, rListS, wipe, L2.start, List.map_cons, List.map_nil, List.length_cons, List.length_nil, List.replicate, List.cons_append, List.nil_append, List.append_nil, Nat.reduceAdd, Nat.reduceSub, Nat.zero_add, List.replicate_succ, List.replicate_zero, List.getElem?_cons_zero, List.getElem?_cons_succ, List.set_cons_zero, List.set_cons_succ, Option.some.injEq, V.int.injEq, V.bl.injEq, V.ref.injEq, V.str.injEq, V.ty.injEq, List.cons.injEq, HO.tup.injEq, HO.lst.injEq, and_true, true_and, and_assoc, exists_eq_left, exists_eq_left', exists_and_left, exists_eq', atI0, atI1, atI2, atI3, Int.cast_ofNat_Int, Int.reduceToNat, scal_ii, scal_in, scal_ni, scal_nn, scal_bb, scal_ss, scal_sn, scal_ns, scal_bn, scal_nb, ite_iff, decide_eq_true_eq, decide_eq_false_iff_not, Bool.not_eq_true', Classical.not_not, ne_eq, not_false_eq_true, not_true_eq_false, forall_const, true_implies, false_implies, imp_self, sizeLine_eq, Nat.reduceLeDiff, reduceCtorEq, decide_true, decide_false])
section
variable {P : Program} {w : World} {K : PySem.W.Frag} {mg : Str → Option Value} {base : Heap}
/-! ### the law -/
open LamX
theorem PairsAt.ext {H H' : Hp} {a : Addr} {ps : List PP} (h : PairsAt H a ps) (e : ExtN H H') : PairsAt H' a ps := let ⟨xs, h1, h2⟩ := h; ⟨xs, extL e h1, h2.monoT fun _ _ hb => extT e hb⟩
theorem SprAt.ext {H H' : Hp} {s dx row : Addr} {rs : List PP} (h : SprAt K H s dx row rs) (e : ExtN H H') : SprAt K H' s dx row rs := ⟨extI e h.at_, let ⟨zs, h1, h2⟩ := h.row; ⟨zs, extT e h1, h2.monoI fun _ _ _ _ hb => extI e hb⟩, h.N⟩
theorem Tabs.stpK {a c : Addr} {T : List (Addr × Str)} {H H' : Hp} (hT : Tabs T H) (hS : StA H a c) (e : Stp a c H H') : Tabs T H' := by
  obtain ⟨hac, n, cs, ha, hc, _⟩ := hS
  have key : ∀ b o, H b = some o → (∀ xs, o ≠ .lst xs) → H' b = some o := fun b o h hn => e b o h (fun z => by subst z; rw [ha] at h; exact hn _ (Option.some.inj h).symm) (fun z => by subst z; rw [hc] at h; exact hn _ (Option.some.inj h).symm)
  intro p hp
  obtain ⟨ps, h1, h2, h3⟩ := hT p hp
  refine ⟨ps, key _ _ h1 (fun xs z => by cases z), h2, fun pos cv hcv => ?_⟩
  obtain ⟨c0, e1, e2⟩ := h3 pos cv hcv
  exact ⟨c0, e1, key _ _ e2 (fun xs z => by unfold CodeO at z; cases z)⟩
structure L4 (K : PySem.W.Frag) (H : Hp) (P P2 S O dx row dy row2 pb : Addr) (ps qs rw rw2 : List PP) (ns : List Int) : Prop where
  hP : PairsAt H P ps
  hP2 : PairsAt H P2 qs
  hO1 : SprAt K H S dx row rw
  hO2 : SprAt K H O dy row2 rw2
  hb : IntsAt H pb ns
  hT : Tabs (TbK K) H
section
variable {H H' : Hp} {P P2 S O dx row dy row2 pb : Addr} {ps qs rw rw2 : List PP} {ns : List Int}
theorem L4.ext (x : L4 K H P P2 S O dx row dy row2 pb ps qs rw rw2 ns) (hT : Tabs (TbK K) H') (e : ExtN H H') : L4 K H' P P2 S O dx row dy row2 pb ps qs rw rw2 ns := ⟨x.hP.ext e, x.hP2.ext e, x.hO1.ext e, x.hO2.ext e, extL e x.hb, hT⟩
theorem L4.same (x : L4 K H P P2 S O dx row dy row2 pb ps qs rw rw2 ns) (e : Same H H') : L4 K H' P P2 S O dx row dy row2 pb ps qs rw rw2 ns := x.ext (Tabs.ext x.hT e) (extS e)
end
theorem same_of {H : Hp} {tl : V → Hp → VK → Prop} {s b dx row : Addr} {rs : List PP} {ns : List Int} {R : VK} (hb : IntsAt H b ns) (hS : SprAt K H s dx row rs) (hl : rs.length ≤ 40) (hw : ∀ (n : Int) H1 (Q1 : VK), Same H H1 → (∀ H2, Same H1 H2 → Q1 (.bl (has rs n)) H2) → tl (.int n) H1 Q1) (k : ∀ H2, Same H H2 → R (.bl true) H2) : TTs K tl (.ref s) (.ref b) H R :=
  ⟨s, dx, row, rs, b, ns, rfl, rfl, hS, hl, hb, hw, k⟩
/-- [f(n) for n in ns] -/
theorem st_lcFn {tl : TE} {g : TG} {tt : TT} {te : TE} {vs : List Nat} {σ : L2.St} {H : Hp} {Q : VK} {a : Addr} {ns : List Int} (F : Int → Int) (ha : ∀ R : V → Hp → Prop, R (.ref a) H → tl σ H R) (hx : H a = some (.lst (ns.map V.int))) (hz : ns.length ≤ 1000)
    (hs : ∀ (n : Int) (H' : Hp) (A : Hp → Prop) (B : VK), B (.int (F n)) H' → g (.int n) (wipe σ vs) H' fun σ2 H2 => wipe σ2 vs = wipe σ vs ∧ tt σ2 H2 fun b H3 => if b = true then te σ2 H3 B else A H3)
    (hd : ∀ D H', H D = none → Same H H' → H' D = some (.lst ((ns.map F).map V.int)) → Q (.ref D) H') : tLc (iList K tl) g tt te vs σ H Q := by
  refine st_lcLF ha hx (by rw [List.length_map, sizeLine_eq]; omega) (fun _ => true) (fun v => match v with | .int i => .int (F i) | v => v) (fun x H' A B hx s hA hB => ?_) (fun D H' nD s h' => hd D H' nD s (by rw [h', List.filter_eq_self.mpr (fun _ _ => rfl), List.map_map, List.map_map]; rfl))
  obtain ⟨n, _, rfl⟩ := List.mem_map.mp hx
  exact hs n H' A B (hB rfl H' (fun _ _ h => h))
def spLaw (K : PySem.W.Frag) : Sp := fun vs H Q _ => ∃ sc, vs = [.ref sc] ∧ ∃ ns : List Int, SqL K H sc (ns.map V.int) ∧ ns.length ≤ 63 ∧ Tabs (TbK K) H ∧ ∀ H', Q (.bl true) H'
theorem o_law (T : Txt K mg) (TB : TabB base mg (cOf K "law") (pOf K "law")) (f : Addr) (A : Around) (outer : List Env) (s : Shared) (H : Hp) (vs : List V) (Q : VK) (E : XK) (hr : Room 16 (A.deeper (envOfC "law" (defScope s_law) s.heap.objs.size f (.ref (cOf K "law"))))) (h : (spLaw K) vs H Q E) : ∃ t, PSs (cxOf (L2.CX P w) P w K mg base ["_law_script", "_law_state", "_law_one", "_law_other", "_law_numbers", "_law_by", "_law_others", "_law_pairs", "_law_number_here"] "law" (defScope s_law) f (.ref (cOf K "law")) A outer s H E) (defBody s_law) t ∧ t { nx := fun _ H' => Q .non H', rt := Q } (L2.start ["_law_script", "_law_state", "_law_one", "_law_other", "_law_numbers", "_law_by", "_law_others", "_law_pairs", "_law_number_here"] vs) H := by
  have o__law_number := o__law_number (P := P) (w := w) (base := base) T
  have o__law_some := o__law_some (P := P) (w := w) (base := base) T
  have o__law_spread := o__law_spread (P := P) (w := w) (base := base) T
  have o__law_points := o__law_points (P := P) (w := w) (base := base) T
  have o__law_has := o__law_has (P := P) (w := w) (base := base) T
  have o__law_odd_right := o__law_odd_right (P := P) (w := w) (base := base) T
  obtain ⟨t0, e0, o_Spread⟩ := o_Spread (P := P) (w := w) (base := base) (mg := mg) (K := K) T
  have o_Spread___or__ := o_Spread___or__ (P := P) (w := w) (base := base) T
  have o_Spread___and__ := o_Spread___and__ (P := P) (w := w) (base := base) T
  have o_Spread___sub__ := o_Spread___sub__ (P := P) (w := w) (base := base) T
  have o_Spread___le__ := o_Spread___le__ (P := P) (w := w) (base := base) T
  have o_Spread___eq__ := o_Spread___eq__ (P := P) (w := w) (base := base) T
  have o_Spread_all_but := o_Spread_all_but (P := P) (w := w) (base := base) T
  have o_Spread_moved := o_Spread_moved (P := P) (w := w) (base := base) T
  have o_Spread_turned := o_Spread_turned (P := P) (w := w) (base := base) T
  have hu64 := hr.units
  refine ⟨_, pss_cons (ps_set (i := 1) sc_law.nd rfl (Or.inl rfl) (pe_lstN (pa_cons (pe_callTy call_listS (by rfl) T.m_list (by decide +kernel) (pa_cons (pv 0) pa_nil)) (pa_cons (pe_int) pa_nil))))
      (pss_cons (ps_set (i := 7) sc_law.nd rfl (Or.inr rfl) (pcl o__law_some (hr.mono (by decide)) pass0 (pa_cons (pv 1) (pa_cons (pe_int) (pa_cons (pe_lstN (pa_nil)) pa_nil)))))
      (pss_cons (ps_set (i := 6) sc_law.nd rfl (Or.inr rfl) (pcl o__law_some (hr.mono (by decide)) pass0 (pa_cons (pv 1) (pa_cons (pe_int) (pa_cons (pv 7) pa_nil)))))
      (pss_cons (ps_par (i := 2) (j := 3) (by rfl) sc_law.nd rfl rfl (by decide) rfl rfl (pa_cons (pcl o__law_spread (hr.mono (by decide)) pass0 (pa_cons (pv 7) pa_nil)) (pa_cons (pcl o__law_spread (hr.mono (by decide)) pass0 (pa_cons (pv 6) pa_nil)) pa_nil)) (by rfl))
      (pss_cons (ps_asg (pe_tupN (pa_cons (pcl o__law_points (hr.mono (by decide)) pass0 (pa_cons (pe_op op_catN (pv 7) (pv 6)) pa_nil)) (pa_cons (pcl o__law_number (hr.mono (by decide)) pass0 (pa_cons (pv 1) (pa_cons (pe_int) pa_nil))) pa_nil))) (pg_tupN (n := 2) (by rfl) (pgs_cons (pg_name (i := 4) sc_law.nd rfl (Or.inl rfl)) (pgs_cons (pg_name (i := 5) sc_law.nd rfl (Or.inr rfl)) pgs_nil))))
      (pss_cons (ps_cut (ps_if (pt_not (pt_val (plam3b (p0 := "_law_number_here") (qn := qn_law) (TS := (TbK K)) T.d__law_same sc__law_same (fun _ _ _ _ _ _ us hl => match us, hl with | [_, _, _], _ => rfl) (fun g cdg => (same_gives T)) (.head _) hu_law TB rfl rfl (hr.mono (by decide)) (by show lamPB (defScope s_law) _ _ = true; decide +kernel) (pe_op (op_ownB o_Spread___or__ rfl T.sf_Spread (hr.mono (by decide)) pass0) (pv 2) (pv 3)) (pv 4) (fun A outer s H f c hr2 => by exact (pcl o__law_has (hr2.mono (by decide)) pass0 (pa_cons (pe_op op_catN (pv 7) (pv 6)) (pa_cons (pv 9) pa_nil))))))) (pss_one (ps_ret (pe_bl))) (pss_nil)))
      (pss_cons (ps_cut (ps_if (pt_not (pt_val (plam3b (p0 := "_law_number_here") (qn := qn_law) (TS := (TbK K)) T.d__law_same sc__law_same (fun _ _ _ _ _ _ us hl => match us, hl with | [_, _, _], _ => rfl) (fun g cdg => (same_gives T)) (.head _) hu_law TB rfl rfl (hr.mono (by decide)) (by show lamPB (defScope s_law) _ _ = true; decide +kernel) (pe_op (op_ownB o_Spread___and__ rfl T.sf_Spread (hr.mono (by decide)) pass0) (pv 2) (pv 3)) (pv 4) (fun A outer s H f c hr2 => by exact (pe_and (pcl o__law_has (hr2.mono (by decide)) pass0 (pa_cons (pv 7) (pa_cons (pv 9) pa_nil))) (pe_one (pcl o__law_has (hr2.mono (by decide)) pass0 (pa_cons (pv 6) (pa_cons (pv 9) pa_nil))))))))) (pss_one (ps_ret (pe_bl))) (pss_nil)))
      (pss_cons (ps_cut (ps_if (pt_not (pt_val (plam3b (p0 := "_law_number_here") (qn := qn_law) (TS := (TbK K)) T.d__law_same sc__law_same (fun _ _ _ _ _ _ us hl => match us, hl with | [_, _, _], _ => rfl) (fun g cdg => (same_gives T)) (.head _) hu_law TB rfl rfl (hr.mono (by decide)) (by show lamPB (defScope s_law) _ _ = true; decide +kernel) (pe_op (op_ownB o_Spread___sub__ rfl T.sf_Spread (hr.mono (by decide)) pass0) (pv 2) (pv 3)) (pv 4) (fun A outer s H f c hr2 => by exact (pe_and (pcl o__law_has (hr2.mono (by decide)) pass0 (pa_cons (pv 7) (pa_cons (pv 9) pa_nil))) (pe_one (pe_not (pcl o__law_has (hr2.mono (by decide)) pass0 (pa_cons (pv 6) (pa_cons (pv 9) pa_nil)))))))))) (pss_one (ps_ret (pe_bl))) (pss_nil)))
      (pss_cons (ps_cut (ps_if (pt_not (pt_val (plam3b (p0 := "_law_number_here") (qn := qn_law) (TS := (TbK K)) T.d__law_same sc__law_same (fun _ _ _ _ _ _ us hl => match us, hl with | [_, _, _], _ => rfl) (fun g cdg => (same_gives T)) (.head _) hu_law TB rfl rfl (hr.mono (by decide)) (by show lamPB (defScope s_law) _ _ = true; decide +kernel) (pmt0 (j := 0) o_Spread_all_but T.c_Spread (pv 2) (by decide) (hr.mono (by decide)) pass0) (pv 4) (fun A outer s H f c hr2 => by exact (pe_not (pcl o__law_has (hr2.mono (by decide)) pass0 (pa_cons (pv 7) (pa_cons (pv 9) pa_nil)))))))) (pss_one (ps_ret (pe_bl))) (pss_nil)))
      (pss_cons (ps_cut (ps_if (pt_not (pt_val (plam3b (p0 := "_law_number_here") (qn := qn_law) (TS := (TbK K)) T.d__law_same sc__law_same (fun _ _ _ _ _ _ us hl => match us, hl with | [_, _, _], _ => rfl) (fun g cdg => (same_gives T)) (.head _) hu_law TB rfl rfl (hr.mono (by decide)) (by show lamPB (defScope s_law) _ _ = true; decide +kernel) (pmt (j := 0) o_Spread_moved.calm T.c_Spread (pv 2) (by decide) (hr.mono (by decide)) pass0 (pa_cons (pv 5) pa_nil)) (pe_lc (own := [("_law_number_here", 8)]) (g := gName 8) (by rfl) sc_law.nd (pi_list (pv 4)) (blkOk_by (N := ["_law_script", "_law_state", "_law_one", "_law_other", "_law_numbers", "_law_by", "_law_others", "_law_pairs", "_law_number_here"]) (sc := defScope s_law) (own := [("_law_number_here", 8)]) (by decide +kernel)) (fun _ _ _ _ _ => pg_name (i := 8) sc_law.nd rfl (Or.inl rfl)) (fun _ _ _ _ _ => pts_nil) (fun _ _ _ _ _ => pe_op op_add (pv 8) (pv 5))) (fun A outer s H f c hr2 => by exact (pcl o__law_has (hr2.mono (by decide)) pass0 (pa_cons (pv 7) (pa_cons (pe_op op_sub (pv 9) (pv 5)) pa_nil))))))) (pss_one (ps_ret (pe_bl))) (pss_nil)))
      (pss_cons (ps_cut (ps_if (pt_not (pt_val (plam3b (p0 := "_law_number_here") (qn := qn_law) (TS := (TbK K)) T.d__law_same sc__law_same (fun _ _ _ _ _ _ us hl => match us, hl with | [_, _, _], _ => rfl) (fun g cdg => (same_gives T)) (.head _) hu_law TB rfl rfl (hr.mono (by decide)) (by show lamPB (defScope s_law) _ _ = true; decide +kernel) (pmt0 (j := 0) o_Spread_turned T.c_Spread (pv 2) (by decide) (hr.mono (by decide)) pass0) (pe_lc (own := [("_law_number_here", 8)]) (g := gName 8) (by rfl) sc_law.nd (pi_list (pv 4)) (blkOk_by (N := ["_law_script", "_law_state", "_law_one", "_law_other", "_law_numbers", "_law_by", "_law_others", "_law_pairs", "_law_number_here"]) (sc := defScope s_law) (own := [("_law_number_here", 8)]) (by decide +kernel)) (fun _ _ _ _ _ => pg_name (i := 8) sc_law.nd rfl (Or.inl rfl)) (fun _ _ _ _ _ => pts_nil) (fun _ _ _ _ _ => pe_un un_neg (pv 8))) (fun A outer s H f c hr2 => by exact (pcl o__law_has (hr2.mono (by decide)) pass0 (pa_cons (pv 7) (pa_cons (pe_un un_neg (pv 9)) pa_nil))))))) (pss_one (ps_ret (pe_bl))) (pss_nil)))
      (pss_cons (ps_cut (ps_if (PW.pt (pw_or (pt_cmpR op_ne (pe_cmpR (op_own (fun _ _ => rfl) o_Spread___le__ rfl (hr.mono (by decide)) pass0) (pv 2) (pv 3) (nomark _)) (pe_cmpR (op_own (fun _ _ => rfl) o_Spread___eq__ rfl (hr.mono (by decide)) pass0) (pe_op (op_ownB o_Spread___sub__ rfl T.sf_Spread (hr.mono (by decide)) pass0) (pv 2) (pv 3)) (pmk0 (j := 0) o_Spread.calm (show _ ≤ 1 by decide) (hr.mono (by decide)) pass0) (nomark _)) (nomark _)) (pw_or1 (pt_cmpR op_notBl (pe_cmpR (op_own (fun _ _ => rfl) o_Spread___le__ rfl (hr.mono (by decide)) pass0) (pe_op (op_ownB o_Spread___and__ rfl T.sf_Spread (hr.mono (by decide)) pass0) (pv 2) (pv 3)) (pv 2) (nomark _)) (pe_bl) (nomark _))))) (pss_one (ps_ret (pe_bl))) (pss_nil)))
      (pss_cons (ps_cut (ps_if (PW.pt (pw_or (pt_cmpR op_notBl (pe_cmpR (op_own (fun _ _ => rfl) o_Spread___le__ rfl (hr.mono (by decide)) pass0) (pv 2) (pe_op (op_ownB o_Spread___or__ rfl T.sf_Spread (hr.mono (by decide)) pass0) (pv 2) (pv 3)) (nomark _)) (pe_bl) (nomark _)) (pw_or (pt_cmpR (op_ownNe o_Spread___eq__ T.ci_Spread.hm T.ne_Spread (hr.mono (by decide)) pass0) (pmt0 (j := 0) o_Spread_all_but T.c_Spread (pmt0 (j := 0) o_Spread_all_but T.c_Spread (pv 2) (by decide) (hr.mono (by decide)) pass0) (by decide) (hr.mono (by decide)) pass0) (pv 2) (nomark _)) (pw_or1 (pt_cmpR (op_ownNe o_Spread___eq__ T.ci_Spread.hm T.ne_Spread (hr.mono (by decide)) pass0) (pe_op (op_ownB o_Spread___or__ rfl T.sf_Spread (hr.mono (by decide)) pass0) (pe_op (op_ownB o_Spread___sub__ rfl T.sf_Spread (hr.mono (by decide)) pass0) (pv 2) (pv 3)) (pe_op (op_ownB o_Spread___and__ rfl T.sf_Spread (hr.mono (by decide)) pass0) (pv 2) (pv 3))) (pv 2) (nomark _)))))) (pss_one (ps_ret (pe_bl))) (pss_nil)))
      (pss_one (ps_ret (pcl o__law_odd_right (hr.mono (by decide)) pass0 (pa_cons (pv 2) pa_nil)))))))))))))))), ?_⟩
  obtain ⟨sc, rfl, ns, hsc, hns, hT, k⟩ := h
  simp only [exists_and_left, rMax2, tYes, calmS, tDNew, rInDN, rIxDN, rSetDN, tPop, rTupN, rMax, rMin, rSum, rAny, rSorted, rRepN, tSl, tPart, tNoPart, rSlLN, rSlG, rCatG, rOwnB, LamX.tLam3b, rListT, rRepr, tXf, tMtS, cx_K, Value.ref.injEq, HO.xd.injEq, lk0, tSeq, tPar3, tPar, tCons, tNil, tVar, tC, tAsg, gName, gCons, gNil, gTupN, gSub, tOp, rI, rI0, rU, tTest, rNe, rEq, rIxTN, rIxLN, rLenL, rLenT, rIntI, rIntB, rAbs, rSetLN, tTruL, tRaiseX, rIsTy, rIsOw, ixN0, ixN1, tRet, tIf, tIfS, tNext, tBreak, tCont, tDrop, tTupN, tLstN, tUn, tCB, tCall, tNot, tAnd, tOr, tB, tAndV, tOrV, tNotV, tChain, tApp, LamX.tLam, tRevLN, rCatN, rInTN, rInLN, flatV, inV, List.all_cons, List.all_nil, List.any_cons, List.any_nil, Bool.and_self, Bool.and_true, if_true, Bool.false_eq_true, if_false, tMt, tFldN, tSto, HO.ins.injEq, lkh, List.drop_zero, List.drop_succ_cons, List.drop_nil, rListS, wipe, L2.start, List.map_cons, List.map_nil, List.length_cons, List.length_nil, List.replicate, List.cons_append, List.nil_append, List.append_nil, Nat.reduceAdd, Nat.reduceSub, Nat.zero_add, List.replicate_succ, List.replicate_zero, List.getElem?_cons_zero, List.getElem?_cons_succ, List.set_cons_zero, List.set_cons_succ, Option.some.injEq, V.int.injEq, V.bl.injEq, V.ref.injEq, V.str.injEq, V.ty.injEq, List.cons.injEq, HO.tup.injEq, HO.lst.injEq, and_true, true_and, and_assoc, exists_eq_left, exists_eq_left', exists_and_left, exists_eq', atI0, atI1, atI2, atI3, Int.cast_ofNat_Int, Int.reduceToNat, scal_ii, scal_in, scal_ni, scal_nn, scal_bb, scal_ss, scal_sn, scal_ns, scal_bn, scal_nb, ite_iff, decide_eq_true_eq, decide_eq_false_iff_not, Bool.not_eq_true', Classical.not_not, ne_eq, not_false_eq_true, not_true_eq_false, forall_const, true_implies, false_implies, imp_self, sizeLine_eq, Nat.reduceLeDiff, reduceCtorEq, decide_true, decide_false]
  refine ⟨_, hsc, fun c H1 n1 s1 h1 => fun a H2 n2 s2 h2 => ?_⟩
  have hS : StA H2 a c := ⟨ne_of_none (show H1 c = _ from h1) n2 |>.symm, 0, ns, h2, s2 _ _ h1, hns⟩
  have hT2 := Tabs.ext (Tabs.ext hT s1) s2
  clear h1 h2 s1 s2 n1 n2 hsc hT
  simp only [exists_and_left, spSome, rMax2, tYes, calmS, tDNew, rInDN, rIxDN, rSetDN, tPop, rTupN, rMax, rMin, rSum, rAny, rSorted, rRepN, tSl, tPart, tNoPart, rSlLN, rSlG, rCatG, rOwnB, LamX.tLam3b, rListT, rRepr, tXf, tMtS, cx_K, Value.ref.injEq, HO.xd.injEq, lk0, tSeq, tPar3, tPar, tCons, tNil, tVar, tC, tAsg, gName, gCons, gNil, gTupN, gSub, tOp, rI, rI0, rU, tTest, rNe, rEq, rIxTN, rIxLN, rLenL, rLenT, rIntI, rIntB, rAbs, rSetLN, tTruL, tRaiseX, rIsTy, rIsOw, ixN0, ixN1, tRet, tIf, tIfS, tNext, tBreak, tCont, tDrop, tTupN, tLstN, tUn, tCB, tCall, tNot, tAnd, tOr, tB, tAndV, tOrV, tNotV, tChain, tApp, LamX.tLam, tRevLN, rCatN, rInTN, rInLN, flatV, inV, List.all_cons, List.all_nil, List.any_cons, List.any_nil, Bool.and_self, Bool.and_true, if_true, Bool.false_eq_true, if_false, tMt, tFldN, tSto, HO.ins.injEq, lkh, List.drop_zero, List.drop_succ_cons, List.drop_nil, rListS, wipe, L2.start, List.map_cons, List.map_nil, List.length_cons, List.length_nil, List.replicate, List.cons_append, List.nil_append, List.append_nil, Nat.reduceAdd, Nat.reduceSub, Nat.zero_add, List.replicate_succ, List.replicate_zero, List.getElem?_cons_zero, List.getElem?_cons_succ, List.set_cons_zero, List.set_cons_succ, Option.some.injEq, V.int.injEq, V.bl.injEq, V.ref.injEq, V.str.injEq, V.ty.injEq, List.cons.injEq, HO.tup.injEq, HO.lst.injEq, and_true, true_and, and_assoc, exists_eq_left, exists_eq_left', exists_and_left, exists_eq', atI0, atI1, atI2, atI3, Int.cast_ofNat_Int, Int.reduceToNat, scal_ii, scal_in, scal_ni, scal_nn, scal_bb, scal_ss, scal_sn, scal_ns, scal_bn, scal_nb, ite_iff, decide_eq_true_eq, decide_eq_false_iff_not, Bool.not_eq_true', Classical.not_not, ne_eq, not_false_eq_true, not_true_eq_false, forall_const, true_implies, false_implies, imp_self, sizeLine_eq, Nat.reduceLeDiff, reduceCtorEq, decide_true, decide_false]
  intro eL H3 n3 s3 h3
  have hS3 := hS.same s3
  have hT3 := Tabs.ext hT2 s3
  have e0n : eL ≠ a ∧ eL ≠ c := by obtain ⟨_, _, _, ha, hc, _⟩ := hS; exact ⟨(ne_of_none ha n3).symm, (ne_of_none hc n3).symm⟩
  refine ⟨c, eL, rfl, hS3, by decide, by decide, [], ⟨[], h3, .nil⟩, e0n.1, e0n.2, by simp, by simp, fun P ps H4 nP hS4 t4 hP okP lP => ?_⟩
  have hT4 := Tabs.stpK hT3 hS3 t4
  have Pn : P ≠ a ∧ P ≠ c := by obtain ⟨_, _, _, ha, hc, _⟩ := hS3; exact ⟨(ne_of_none ha nP).symm, (ne_of_none hc nP).symm⟩
  refine ⟨c, hS4, by decide, by decide, ps, hP, Pn.1, Pn.2, okP, by have : ps.length ≤ 4 := lP; omega, fun P2 qs H5 nP2 hS5 t5 hP2 okQ lQ => ?_⟩
  have hT5 := Tabs.stpK hT4 hS4 t5
  have P2n : P2 ≠ a ∧ P2 ≠ c := by obtain ⟨_, _, _, ha, hc, _⟩ := hS4; exact ⟨(ne_of_none ha nP2).symm, (ne_of_none hc nP2).symm⟩
  have hP5 : PairsAt H5 P ps := let ⟨zs, e, p⟩ := hP; ⟨zs, t5 _ _ e Pn.1 Pn.2, p.monoT fun d us hd => t5.nl hS4 hd (fun _ z => by cases z)⟩
  have l4 : ps.length ≤ 4 := lP
  have l7 : qs.length ≤ 7 := by have : qs.length ≤ 3 + ps.length := lQ; omega
  clear hS3 hT3 hT4 hS4 t4 hP t5 nP nP2 n3 s3 h3 e0n hT2 hS lP lQ
  refine ⟨P, ps, rfl, hP5, okP, by omega, fun S dx row rs H6 _ s6 hO1 hh1 lr1 => ?_⟩
  refine ⟨P2, qs, rfl, hP2.mono s6, okQ, by omega, fun O dy row2 rs2 H7 _ s7 hO2 hh2 lr2 => ?_⟩
  have s57 := s6.trans s7
  have hO1 := hO1.mono s7
  have hP5 := hP5.mono s57
  have hP2 := hP2.mono s57
  have hS7 := hS5.same s57
  have hT7 := Tabs.ext hT5 s57
  clear s6 s7 s57 hS5 hT5
  simp only [exists_and_left, spPts, spNum, rMax2, tYes, calmS, tDNew, rInDN, rIxDN, rSetDN, tPop, rTupN, rMax, rMin, rSum, rAny, rSorted, rRepN, tSl, tPart, tNoPart, rSlLN, rSlG, rCatG, rOwnB, LamX.tLam3b, rListT, rRepr, tXf, tMtS, cx_K, Value.ref.injEq, HO.xd.injEq, lk0, tSeq, tPar3, tPar, tCons, tNil, tVar, tC, tAsg, gName, gCons, gNil, gTupN, gSub, tOp, rI, rI0, rU, tTest, rNe, rEq, rIxTN, rIxLN, rLenL, rLenT, rIntI, rIntB, rAbs, rSetLN, tTruL, tRaiseX, rIsTy, rIsOw, ixN0, ixN1, tRet, tIf, tIfS, tNext, tBreak, tCont, tDrop, tTupN, tLstN, tUn, tCB, tCall, tNot, tAnd, tOr, tB, tAndV, tOrV, tNotV, tChain, tApp, LamX.tLam, tRevLN, rCatN, rInTN, rInLN, flatV, inV, List.all_cons, List.all_nil, List.any_cons, List.any_nil, Bool.and_self, Bool.and_true, if_true, Bool.false_eq_true, if_false, tMt, tFldN, tSto, HO.ins.injEq, lkh, List.drop_zero, List.drop_succ_cons, List.drop_nil, rListS, wipe, L2.start, List.map_cons, List.map_nil, List.length_cons, List.length_nil, List.replicate, List.cons_append, List.nil_append, List.append_nil, Nat.reduceAdd, Nat.reduceSub, Nat.zero_add, List.replicate_succ, List.replicate_zero, List.getElem?_cons_zero, List.getElem?_cons_succ, List.set_cons_zero, List.set_cons_succ, Option.some.injEq, V.int.injEq, V.bl.injEq, V.ref.injEq, V.str.injEq, V.ty.injEq, List.cons.injEq, HO.tup.injEq, HO.lst.injEq, and_true, true_and, and_assoc, exists_eq_left, exists_eq_left', exists_and_left, exists_eq', atI0, atI1, atI2, atI3, Int.cast_ofNat_Int, Int.reduceToNat, scal_ii, scal_in, scal_ni, scal_nn, scal_bb, scal_ss, scal_sn, scal_ns, scal_bn, scal_nb, ite_iff, decide_eq_true_eq, decide_eq_false_iff_not, Bool.not_eq_true', Classical.not_not, ne_eq, not_false_eq_true, not_true_eq_false, forall_const, true_implies, false_implies, imp_self, sizeLine_eq, Nat.reduceLeDiff, reduceCtorEq, decide_true, decide_false]
  obtain ⟨xs, hx, hpx⟩ := hP5
  obtain ⟨ys, hy, hpy⟩ := hP2
  have lx := hpx.length
  have ly := hpy.length
  refine ⟨xs, hx, ys, hy, by omega, fun C H8 _ s8 h8 => ?_⟩
  refine ⟨C, rfl, ps ++ qs, ⟨_, h8, (hpx.app hpy).mono s8⟩, by simp; omega, fun pb ns2 H9 nb s9 hb lb => ?_⟩
  refine ⟨c, (hS7.same s8).same s9, by decide, by decide, fun d H10 bd hS10 t10 => ?_⟩
  have S79 := s8.trans s9
  have hS9 := (hS7.same s8).same s9
  have bn : pb ≠ a ∧ pb ≠ c := by obtain ⟨_, _, _, ha, hc, _⟩ := hS7.same s8; exact ⟨(ne_of_none ha nb).symm, (ne_of_none hc nb).symm⟩
  have S79 := s8.trans s9
  have L9 : L4 K H9 P P2 S O dx row dy row2 pb ps qs rs rs2 ns2 := ⟨⟨xs, S79 _ _ hx, hpx.mono S79⟩, ⟨ys, S79 _ _ hy, hpy.mono S79⟩, hO1.mono S79, hO2.mono S79, hb, Tabs.ext hT7 S79⟩
  have L10 : L4 K H10 P P2 S O dx row dy row2 pb ps qs rs rs2 ns2 := by
    have ki : ∀ b C dx fs, H9 b = some (.ins C dx fs) → H10 b = some (.ins C dx fs) := fun b C dx fs hb => t10.nl hS9 hb (fun _ z => by cases z)
    have kt : ∀ b us, H9 b = some (.tup us) → H10 b = some (.tup us) := fun b us hb => t10.nl hS9 hb (fun _ z => by cases z)
    have kp : ∀ {A ps}, A ≠ a ∧ A ≠ c → PairsAt H9 A ps → PairsAt H10 A ps := fun n h => let ⟨zs, e, p⟩ := h; ⟨zs, t10 _ _ e n.1 n.2, p.monoT kt⟩
    have ks : ∀ {S dx row rs}, SprAt K H9 S dx row rs → SprAt K H10 S dx row rs := fun h => ⟨ki _ _ _ _ h.at_, let ⟨zs, e, p⟩ := h.row; ⟨zs, kt _ _ e, p.monoI ki⟩, h.N⟩
    exact ⟨kp Pn L9.hP, kp P2n L9.hP2, ks L9.hO1, ks L9.hO2, t10 _ _ hb bn.1 bn.2, Tabs.stpK L9.hT hS9 t10⟩
  clear hx hy hpx hpy h8 s8 s9 hb hS7 hT7 hS10 t10 S79 hO1 hO2 L9 hS9 bn nb Pn P2n
  intro u H11 _ s11 h11
  have L11 := L10.same s11
  clear L10
  refine ⟨u, rfl, _, h11, rfl, _, _, rfl, _, _, rfl, rfl, ?_⟩
  clear h11 s11
  refine ⟨fun σ' H' => σ' = [some (V.ref sc), some (V.ref a), some (V.ref S), some (V.ref O), some (V.ref pb), some (V.int d), some (V.ref P2), some (V.ref P), none] ∧ L4 K H' P P2 S O dx row dy row2 pb ps qs rs rs2 ns2, ?_, ?_⟩
  · simp only [exists_and_left, rMax2, tYes, calmS, tDNew, rInDN, rIxDN, rSetDN, tPop, rTupN, rMax, rMin, rSum, rAny, rSorted, rRepN, tSl, tPart, tNoPart, rSlLN, rSlG, rCatG, rOwnB, LamX.tLam3b, rListT, rRepr, tXf, tMtS, cx_K, Value.ref.injEq, HO.xd.injEq, lk0, tSeq, tPar3, tPar, tCons, tNil, tVar, tC, tAsg, gName, gCons, gNil, gTupN, gSub, tOp, rI, rI0, rU, tTest, rNe, rEq, rIxTN, rIxLN, rLenL, rLenT, rIntI, rIntB, rAbs, rSetLN, tTruL, tRaiseX, rIsTy, rIsOw, ixN0, ixN1, tRet, tIf, tIfS, tNext, tBreak, tCont, tDrop, tTupN, tLstN, tUn, tCB, tCall, tNot, tAnd, tOr, tB, tAndV, tOrV, tNotV, tChain, tApp, LamX.tLam, tRevLN, rCatN, rInTN, rInLN, flatV, inV, List.all_cons, List.all_nil, List.any_cons, List.any_nil, Bool.and_self, Bool.and_true, if_true, Bool.false_eq_true, if_false, tMt, tFldN, tSto, HO.ins.injEq, lkh, List.drop_zero, List.drop_succ_cons, List.drop_nil, rListS, wipe, L2.start, List.map_cons, List.map_nil, List.length_cons, List.length_nil, List.replicate, List.cons_append, List.nil_append, List.append_nil, Nat.reduceAdd, Nat.reduceSub, Nat.zero_add, List.replicate_succ, List.replicate_zero, List.getElem?_cons_zero, List.getElem?_cons_succ, List.set_cons_zero, List.set_cons_succ, Option.some.injEq, V.int.injEq, V.bl.injEq, V.ref.injEq, V.str.injEq, V.ty.injEq, List.cons.injEq, HO.tup.injEq, HO.lst.injEq, and_true, true_and, and_assoc, exists_eq_left, exists_eq_left', exists_and_left, exists_eq', atI0, atI1, atI2, atI3, Int.cast_ofNat_Int, Int.reduceToNat, scal_ii, scal_in, scal_ni, scal_nn, scal_bb, scal_ss, scal_sn, scal_ns, scal_bn, scal_nb, ite_iff, decide_eq_true_eq, decide_eq_false_iff_not, Bool.not_eq_true', Classical.not_not, ne_eq, not_false_eq_true, not_true_eq_false, forall_const, true_implies, false_implies, imp_self, sizeLine_eq, Nat.reduceLeDiff, reduceCtorEq, decide_true, decide_false]
    refine ⟨rfl, _, _, L11.hO1.at_, _, _, L11.hO2.at_, S, O, rfl, _, _, _, _, _, _, L11.hO1, L11.hO2, by omega, fun p dz rc ts H13 s13 hTs hh ll => ⟨(L11.same s13).hT, fun H14 c' e14 hT14 hc' => ?_⟩⟩
    have L14 := (L11.same s13).ext hT14 e14
    refine same_of L14.hb (hTs.ext e14) (by omega) (fun n H15 Q1 s15 hq => ?_) (fun H15 s15 => ⟨true, rfl, fun h => (by cases h), fun _ => L14.same s15⟩)
    obtain ⟨xs, hx, hpx⟩ := (L14.same s15).hP
    obtain ⟨ys, hy, hpy⟩ := (L14.same s15).hP2
    refine ⟨xs, hx, ys, hy, by have := hpx.length; have := hpy.length; omega, fun C H16 _ s16 h16 => ⟨C, n, ps ++ qs, rfl, ⟨_, h16, (hpx.app hpy).mono s16⟩, ?_⟩⟩
    have := hq H16 s16
    rw [hh, hh1, hh2, ← has_app] at this
    exact this
  clear L11
  rintro _ H12 ⟨rfl, L⟩
  refine ⟨fun σ' H' => σ' = [some (V.ref sc), some (V.ref a), some (V.ref S), some (V.ref O), some (V.ref pb), some (V.int d), some (V.ref P2), some (V.ref P), none] ∧ L4 K H' P P2 S O dx row dy row2 pb ps qs rs rs2 ns2, ?_, ?_⟩
  · simp only [exists_and_left, rMax2, tYes, calmS, tDNew, rInDN, rIxDN, rSetDN, tPop, rTupN, rMax, rMin, rSum, rAny, rSorted, rRepN, tSl, tPart, tNoPart, rSlLN, rSlG, rCatG, rOwnB, LamX.tLam3b, rListT, rRepr, tXf, tMtS, cx_K, Value.ref.injEq, HO.xd.injEq, lk0, tSeq, tPar3, tPar, tCons, tNil, tVar, tC, tAsg, gName, gCons, gNil, gTupN, gSub, tOp, rI, rI0, rU, tTest, rNe, rEq, rIxTN, rIxLN, rLenL, rLenT, rIntI, rIntB, rAbs, rSetLN, tTruL, tRaiseX, rIsTy, rIsOw, ixN0, ixN1, tRet, tIf, tIfS, tNext, tBreak, tCont, tDrop, tTupN, tLstN, tUn, tCB, tCall, tNot, tAnd, tOr, tB, tAndV, tOrV, tNotV, tChain, tApp, LamX.tLam, tRevLN, rCatN, rInTN, rInLN, flatV, inV, List.all_cons, List.all_nil, List.any_cons, List.any_nil, Bool.and_self, Bool.and_true, if_true, Bool.false_eq_true, if_false, tMt, tFldN, tSto, HO.ins.injEq, lkh, List.drop_zero, List.drop_succ_cons, List.drop_nil, rListS, wipe, L2.start, List.map_cons, List.map_nil, List.length_cons, List.length_nil, List.replicate, List.cons_append, List.nil_append, List.append_nil, Nat.reduceAdd, Nat.reduceSub, Nat.zero_add, List.replicate_succ, List.replicate_zero, List.getElem?_cons_zero, List.getElem?_cons_succ, List.set_cons_zero, List.set_cons_succ, Option.some.injEq, V.int.injEq, V.bl.injEq, V.ref.injEq, V.str.injEq, V.ty.injEq, List.cons.injEq, HO.tup.injEq, HO.lst.injEq, and_true, true_and, and_assoc, exists_eq_left, exists_eq_left', exists_and_left, exists_eq', atI0, atI1, atI2, atI3, Int.cast_ofNat_Int, Int.reduceToNat, scal_ii, scal_in, scal_ni, scal_nn, scal_bb, scal_ss, scal_sn, scal_ns, scal_bn, scal_nb, ite_iff, decide_eq_true_eq, decide_eq_false_iff_not, Bool.not_eq_true', Classical.not_not, ne_eq, not_false_eq_true, not_true_eq_false, forall_const, true_implies, false_implies, imp_self, sizeLine_eq, Nat.reduceLeDiff, reduceCtorEq, decide_true, decide_false]
    refine ⟨rfl, _, _, L.hO1.at_, _, _, L.hO2.at_, S, O, rfl, _, _, _, _, _, _, L.hO1, L.hO2, by omega, fun p dz rc ts H13 s13 hTs hh ll => ⟨(L.same s13).hT, fun H14 c' e14 hT14 hc' => ?_⟩⟩
    have L14 := (L.same s13).ext hT14 e14
    refine same_of L14.hb (hTs.ext e14) (by omega) (fun n H15 Q1 s15 hq => ?_) (fun H15 s15 => ⟨true, rfl, fun h => (by cases h), fun _ => L14.same s15⟩)
    have L15 := L14.same s15
    have := hq H15 (fun _ _ h => h)
    rw [hh, hh1, hh2] at this
    refine ⟨P, n, ps, rfl, L15.hP, _, rfl, fun h => ⟨P2, n, qs, rfl, L15.hP2, ?_⟩, fun h => ?_⟩
    · rw [h, Bool.true_and] at this; exact this
    · rw [Bool.eq_false_iff.mpr h, Bool.false_and] at this; exact this
  clear L
  rintro _ H13 ⟨rfl, L⟩
  refine ⟨fun σ' H' => σ' = [some (V.ref sc), some (V.ref a), some (V.ref S), some (V.ref O), some (V.ref pb), some (V.int d), some (V.ref P2), some (V.ref P), none] ∧ L4 K H' P P2 S O dx row dy row2 pb ps qs rs rs2 ns2, ?_, ?_⟩
  · simp only [exists_and_left, rMax2, tYes, calmS, tDNew, rInDN, rIxDN, rSetDN, tPop, rTupN, rMax, rMin, rSum, rAny, rSorted, rRepN, tSl, tPart, tNoPart, rSlLN, rSlG, rCatG, rOwnB, LamX.tLam3b, rListT, rRepr, tXf, tMtS, cx_K, Value.ref.injEq, HO.xd.injEq, lk0, tSeq, tPar3, tPar, tCons, tNil, tVar, tC, tAsg, gName, gCons, gNil, gTupN, gSub, tOp, rI, rI0, rU, tTest, rNe, rEq, rIxTN, rIxLN, rLenL, rLenT, rIntI, rIntB, rAbs, rSetLN, tTruL, tRaiseX, rIsTy, rIsOw, ixN0, ixN1, tRet, tIf, tIfS, tNext, tBreak, tCont, tDrop, tTupN, tLstN, tUn, tCB, tCall, tNot, tAnd, tOr, tB, tAndV, tOrV, tNotV, tChain, tApp, LamX.tLam, tRevLN, rCatN, rInTN, rInLN, flatV, inV, List.all_cons, List.all_nil, List.any_cons, List.any_nil, Bool.and_self, Bool.and_true, if_true, Bool.false_eq_true, if_false, tMt, tFldN, tSto, HO.ins.injEq, lkh, List.drop_zero, List.drop_succ_cons, List.drop_nil, rListS, wipe, L2.start, List.map_cons, List.map_nil, List.length_cons, List.length_nil, List.replicate, List.cons_append, List.nil_append, List.append_nil, Nat.reduceAdd, Nat.reduceSub, Nat.zero_add, List.replicate_succ, List.replicate_zero, List.getElem?_cons_zero, List.getElem?_cons_succ, List.set_cons_zero, List.set_cons_succ, Option.some.injEq, V.int.injEq, V.bl.injEq, V.ref.injEq, V.str.injEq, V.ty.injEq, List.cons.injEq, HO.tup.injEq, HO.lst.injEq, and_true, true_and, and_assoc, exists_eq_left, exists_eq_left', exists_and_left, exists_eq', atI0, atI1, atI2, atI3, Int.cast_ofNat_Int, Int.reduceToNat, scal_ii, scal_in, scal_ni, scal_nn, scal_bb, scal_ss, scal_sn, scal_ns, scal_bn, scal_nb, ite_iff, decide_eq_true_eq, decide_eq_false_iff_not, Bool.not_eq_true', Classical.not_not, ne_eq, not_false_eq_true, not_true_eq_false, forall_const, true_implies, false_implies, imp_self, sizeLine_eq, Nat.reduceLeDiff, reduceCtorEq, decide_true, decide_false]
    refine ⟨rfl, _, _, L.hO1.at_, _, _, L.hO2.at_, S, O, rfl, _, _, _, _, _, _, L.hO1, L.hO2, by omega, fun p dz rc ts H13 s13 hTs hh ll => ⟨(L.same s13).hT, fun H14 c' e14 hT14 hc' => ?_⟩⟩
    have L14 := (L.same s13).ext hT14 e14
    refine same_of L14.hb (hTs.ext e14) (by omega) (fun n H15 Q1 s15 hq => ?_) (fun H15 s15 => ⟨true, rfl, fun h => (by cases h), fun _ => L14.same s15⟩)
    have L15 := L14.same s15
    have := hq H15 (fun _ _ h => h)
    rw [hh, hh1, hh2] at this
    exact ⟨P, n, ps, rfl, L15.hP, _, rfl, fun h => ⟨P2, n, qs, rfl, L15.hP2, _, rfl, by rw [h, Bool.true_and] at this; exact this⟩, fun h => by rw [Bool.eq_false_iff.mpr h, Bool.false_and] at this; exact this⟩
  clear L
  rintro _ H14 ⟨rfl, L⟩
  refine ⟨fun σ' H' => σ' = [some (V.ref sc), some (V.ref a), some (V.ref S), some (V.ref O), some (V.ref pb), some (V.int d), some (V.ref P2), some (V.ref P), none] ∧ L4 K H' P P2 S O dx row dy row2 pb ps qs rs rs2 ns2, ?_, ?_⟩
  · simp only [exists_and_left, rMax2, tYes, calmS, tDNew, rInDN, rIxDN, rSetDN, tPop, rTupN, rMax, rMin, rSum, rAny, rSorted, rRepN, tSl, tPart, tNoPart, rSlLN, rSlG, rCatG, rOwnB, LamX.tLam3b, rListT, rRepr, tXf, tMtS, cx_K, Value.ref.injEq, HO.xd.injEq, lk0, tSeq, tPar3, tPar, tCons, tNil, tVar, tC, tAsg, gName, gCons, gNil, gTupN, gSub, tOp, rI, rI0, rU, tTest, rNe, rEq, rIxTN, rIxLN, rLenL, rLenT, rIntI, rIntB, rAbs, rSetLN, tTruL, tRaiseX, rIsTy, rIsOw, ixN0, ixN1, tRet, tIf, tIfS, tNext, tBreak, tCont, tDrop, tTupN, tLstN, tUn, tCB, tCall, tNot, tAnd, tOr, tB, tAndV, tOrV, tNotV, tChain, tApp, LamX.tLam, tRevLN, rCatN, rInTN, rInLN, flatV, inV, List.all_cons, List.all_nil, List.any_cons, List.any_nil, Bool.and_self, Bool.and_true, if_true, Bool.false_eq_true, if_false, tMt, tFldN, tSto, HO.ins.injEq, lkh, List.drop_zero, List.drop_succ_cons, List.drop_nil, rListS, wipe, L2.start, List.map_cons, List.map_nil, List.length_cons, List.length_nil, List.replicate, List.cons_append, List.nil_append, List.append_nil, Nat.reduceAdd, Nat.reduceSub, Nat.zero_add, List.replicate_succ, List.replicate_zero, List.getElem?_cons_zero, List.getElem?_cons_succ, List.set_cons_zero, List.set_cons_succ, Option.some.injEq, V.int.injEq, V.bl.injEq, V.ref.injEq, V.str.injEq, V.ty.injEq, List.cons.injEq, HO.tup.injEq, HO.lst.injEq, and_true, true_and, and_assoc, exists_eq_left, exists_eq_left', exists_and_left, exists_eq', atI0, atI1, atI2, atI3, Int.cast_ofNat_Int, Int.reduceToNat, scal_ii, scal_in, scal_ni, scal_nn, scal_bb, scal_ss, scal_sn, scal_ns, scal_bn, scal_nb, ite_iff, decide_eq_true_eq, decide_eq_false_iff_not, Bool.not_eq_true', Classical.not_not, ne_eq, not_false_eq_true, not_true_eq_false, forall_const, true_implies, false_implies, imp_self, sizeLine_eq, Nat.reduceLeDiff, reduceCtorEq, decide_true, decide_false]
    refine ⟨rfl, _, _, L.hO1.at_, lkRowNo, S, rfl, _, _, _, L.hO1, by omega, fun p dz rc ts H15 s15 hTs hh ll => ⟨(L.same s15).hT, fun H16 c' e16 hT16 hc' => ?_⟩⟩
    have L16 := (L.same s15).ext hT16 e16
    refine same_of L16.hb (hTs.ext e16) (by omega) (fun n H17 Q1 s17 hq => ?_) (fun H17 s17 => ⟨true, rfl, fun h => (by cases h), fun _ => L16.same s17⟩)
    have := hq H17 (fun _ _ h => h)
    rw [hh, hh1] at this
    exact ⟨P, n, ps, rfl, (L16.same s17).hP, _, rfl, this⟩
  clear L
  rintro _ H15 ⟨rfl, L⟩
  refine ⟨fun σ' H' => σ' = [some (V.ref sc), some (V.ref a), some (V.ref S), some (V.ref O), some (V.ref pb), some (V.int d), some (V.ref P2), some (V.ref P), none] ∧ L4 K H' P P2 S O dx row dy row2 pb ps qs rs rs2 ns2, ?_, ?_⟩
  · simp only [exists_and_left, rMax2, tYes, calmS, tDNew, rInDN, rIxDN, rSetDN, tPop, rTupN, rMax, rMin, rSum, rAny, rSorted, rRepN, tSl, tPart, tNoPart, rSlLN, rSlG, rCatG, rOwnB, LamX.tLam3b, rListT, rRepr, tXf, tMtS, cx_K, Value.ref.injEq, HO.xd.injEq, lk0, tSeq, tPar3, tPar, tCons, tNil, tVar, tC, tAsg, gName, gCons, gNil, gTupN, gSub, tOp, rI, rI0, rU, tTest, rNe, rEq, rIxTN, rIxLN, rLenL, rLenT, rIntI, rIntB, rAbs, rSetLN, tTruL, tRaiseX, rIsTy, rIsOw, ixN0, ixN1, tRet, tIf, tIfS, tNext, tBreak, tCont, tDrop, tTupN, tLstN, tUn, tCB, tCall, tNot, tAnd, tOr, tB, tAndV, tOrV, tNotV, tChain, tApp, LamX.tLam, tRevLN, rCatN, rInTN, rInLN, flatV, inV, List.all_cons, List.all_nil, List.any_cons, List.any_nil, Bool.and_self, Bool.and_true, if_true, Bool.false_eq_true, if_false, tMt, tFldN, tSto, HO.ins.injEq, lkh, List.drop_zero, List.drop_succ_cons, List.drop_nil, rListS, wipe, L2.start, List.map_cons, List.map_nil, List.length_cons, List.length_nil, List.replicate, List.cons_append, List.nil_append, List.append_nil, Nat.reduceAdd, Nat.reduceSub, Nat.zero_add, List.replicate_succ, List.replicate_zero, List.getElem?_cons_zero, List.getElem?_cons_succ, List.set_cons_zero, List.set_cons_succ, Option.some.injEq, V.int.injEq, V.bl.injEq, V.ref.injEq, V.str.injEq, V.ty.injEq, List.cons.injEq, HO.tup.injEq, HO.lst.injEq, and_true, true_and, and_assoc, exists_eq_left, exists_eq_left', exists_and_left, exists_eq', atI0, atI1, atI2, atI3, Int.cast_ofNat_Int, Int.reduceToNat, scal_ii, scal_in, scal_ni, scal_nn, scal_bb, scal_ss, scal_sn, scal_ns, scal_bn, scal_nb, ite_iff, decide_eq_true_eq, decide_eq_false_iff_not, Bool.not_eq_true', Classical.not_not, ne_eq, not_false_eq_true, not_true_eq_false, forall_const, true_implies, false_implies, imp_self, sizeLine_eq, Nat.reduceLeDiff, reduceCtorEq, decide_true, decide_false]
    refine ⟨rfl, _, _, L.hO1.at_, lkRowNo, S, _, rfl, _, _, _, L.hO1, by omega, wh_int, fun e => (by cases e), fun n en p dz rc ts H16 s16 hTs hh ll => ?_⟩
    cases en
    refine st_lcFn (fun n => n + d) (fun R r => (by simp only [exists_and_left, rMax2, tYes, calmS, tDNew, rInDN, rIxDN, rSetDN, tPop, rTupN, rMax, rMin, rSum, rAny, rSorted, rRepN, tSl, tPart, tNoPart, rSlLN, rSlG, rCatG, rOwnB, LamX.tLam3b, rListT, rRepr, tXf, tMtS, cx_K, Value.ref.injEq, HO.xd.injEq, lk0, tSeq, tPar3, tPar, tCons, tNil, tVar, tC, tAsg, gName, gCons, gNil, gTupN, gSub, tOp, rI, rI0, rU, tTest, rNe, rEq, rIxTN, rIxLN, rLenL, rLenT, rIntI, rIntB, rAbs, rSetLN, tTruL, tRaiseX, rIsTy, rIsOw, ixN0, ixN1, tRet, tIf, tIfS, tNext, tBreak, tCont, tDrop, tTupN, tLstN, tUn, tCB, tCall, tNot, tAnd, tOr, tB, tAndV, tOrV, tNotV, tChain, tApp, LamX.tLam, tRevLN, rCatN, rInTN, rInLN, flatV, inV, List.all_cons, List.all_nil, List.any_cons, List.any_nil, Bool.and_self, Bool.and_true, if_true, Bool.false_eq_true, if_false, tMt, tFldN, tSto, HO.ins.injEq, lkh, List.drop_zero, List.drop_succ_cons, List.drop_nil, rListS, wipe, L2.start, List.map_cons, List.map_nil, List.length_cons, List.length_nil, List.replicate, List.cons_append, List.nil_append, List.append_nil, Nat.reduceAdd, Nat.reduceSub, Nat.zero_add, List.replicate_succ, List.replicate_zero, List.getElem?_cons_zero, List.getElem?_cons_succ, List.set_cons_zero, List.set_cons_succ, Option.some.injEq, V.int.injEq, V.bl.injEq, V.ref.injEq, V.str.injEq, V.ty.injEq, List.cons.injEq, HO.tup.injEq, HO.lst.injEq, and_true, true_and, and_assoc, exists_eq_left, exists_eq_left', exists_and_left, exists_eq', atI0, atI1, atI2, atI3, Int.cast_ofNat_Int, Int.reduceToNat, scal_ii, scal_in, scal_ni, scal_nn, scal_bb, scal_ss, scal_sn, scal_ns, scal_bn, scal_nb, ite_iff, decide_eq_true_eq, decide_eq_false_iff_not, Bool.not_eq_true', Classical.not_not, ne_eq, not_false_eq_true, not_true_eq_false, forall_const, true_implies, false_implies, imp_self, sizeLine_eq, Nat.reduceLeDiff, reduceCtorEq, decide_true, decide_false]; exact r)) (L.same s16).hb (by have := lb; simp at this; omega) (fun n H' A B hB => ?_) (fun D H17 nD s17 hD => ⟨((L.same s16).same s17).hT, fun H18 c' e18 hT18 hc' => ?_⟩)
    · simp only [exists_and_left, rMax2, tYes, calmS, tDNew, rInDN, rIxDN, rSetDN, tPop, rTupN, rMax, rMin, rSum, rAny, rSorted, rRepN, tSl, tPart, tNoPart, rSlLN, rSlG, rCatG, rOwnB, LamX.tLam3b, rListT, rRepr, tXf, tMtS, cx_K, Value.ref.injEq, HO.xd.injEq, lk0, tSeq, tPar3, tPar, tCons, tNil, tVar, tC, tAsg, gName, gCons, gNil, gTupN, gSub, tOp, rI, rI0, rU, tTest, rNe, rEq, rIxTN, rIxLN, rLenL, rLenT, rIntI, rIntB, rAbs, rSetLN, tTruL, tRaiseX, rIsTy, rIsOw, ixN0, ixN1, tRet, tIf, tIfS, tNext, tBreak, tCont, tDrop, tTupN, tLstN, tUn, tCB, tCall, tNot, tAnd, tOr, tB, tAndV, tOrV, tNotV, tChain, tApp, LamX.tLam, tRevLN, rCatN, rInTN, rInLN, flatV, inV, List.all_cons, List.all_nil, List.any_cons, List.any_nil, Bool.and_self, Bool.and_true, if_true, Bool.false_eq_true, if_false, tMt, tFldN, tSto, HO.ins.injEq, lkh, List.drop_zero, List.drop_succ_cons, List.drop_nil, rListS, wipe, L2.start, List.map_cons, List.map_nil, List.length_cons, List.length_nil, List.replicate, List.cons_append, List.nil_append, List.append_nil, Nat.reduceAdd, Nat.reduceSub, Nat.zero_add, List.replicate_succ, List.replicate_zero, List.getElem?_cons_zero, List.getElem?_cons_succ, List.set_cons_zero, List.set_cons_succ, Option.some.injEq, V.int.injEq, V.bl.injEq, V.ref.injEq, V.str.injEq, V.ty.injEq, List.cons.injEq, HO.tup.injEq, HO.lst.injEq, and_true, true_and, and_assoc, exists_eq_left, exists_eq_left', exists_and_left, exists_eq', atI0, atI1, atI2, atI3, Int.cast_ofNat_Int, Int.reduceToNat, scal_ii, scal_in, scal_ni, scal_nn, scal_bb, scal_ss, scal_sn, scal_ns, scal_bn, scal_nb, ite_iff, decide_eq_true_eq, decide_eq_false_iff_not, Bool.not_eq_true', Classical.not_not, ne_eq, not_false_eq_true, not_true_eq_false, forall_const, true_implies, false_implies, imp_self, sizeLine_eq, Nat.reduceLeDiff, reduceCtorEq, decide_true, decide_false]
      exact hB
    have L18 := ((L.same s16).same s17).ext hT18 e18
    refine same_of (extL e18 hD) ((hTs.mono s17).ext e18) (by omega) (fun n H19 Q1 s19 hq => ?_) (fun H19 s19 => ⟨true, rfl, fun h => (by cases h), fun _ => L18.same s19⟩)
    have := hq H19 (fun _ _ h => h)
    rw [hh, hh1] at this
    exact ⟨n, rfl, P, _, ps, rfl, (L18.same s19).hP, this⟩
  clear L
  rintro _ H16 ⟨rfl, L⟩
  refine ⟨fun σ' H' => σ' = [some (V.ref sc), some (V.ref a), some (V.ref S), some (V.ref O), some (V.ref pb), some (V.int d), some (V.ref P2), some (V.ref P), none] ∧ L4 K H' P P2 S O dx row dy row2 pb ps qs rs rs2 ns2, ?_, ?_⟩
  · simp only [exists_and_left, rMax2, tYes, calmS, tDNew, rInDN, rIxDN, rSetDN, tPop, rTupN, rMax, rMin, rSum, rAny, rSorted, rRepN, tSl, tPart, tNoPart, rSlLN, rSlG, rCatG, rOwnB, LamX.tLam3b, rListT, rRepr, tXf, tMtS, cx_K, Value.ref.injEq, HO.xd.injEq, lk0, tSeq, tPar3, tPar, tCons, tNil, tVar, tC, tAsg, gName, gCons, gNil, gTupN, gSub, tOp, rI, rI0, rU, tTest, rNe, rEq, rIxTN, rIxLN, rLenL, rLenT, rIntI, rIntB, rAbs, rSetLN, tTruL, tRaiseX, rIsTy, rIsOw, ixN0, ixN1, tRet, tIf, tIfS, tNext, tBreak, tCont, tDrop, tTupN, tLstN, tUn, tCB, tCall, tNot, tAnd, tOr, tB, tAndV, tOrV, tNotV, tChain, tApp, LamX.tLam, tRevLN, rCatN, rInTN, rInLN, flatV, inV, List.all_cons, List.all_nil, List.any_cons, List.any_nil, Bool.and_self, Bool.and_true, if_true, Bool.false_eq_true, if_false, tMt, tFldN, tSto, HO.ins.injEq, lkh, List.drop_zero, List.drop_succ_cons, List.drop_nil, rListS, wipe, L2.start, List.map_cons, List.map_nil, List.length_cons, List.length_nil, List.replicate, List.cons_append, List.nil_append, List.append_nil, Nat.reduceAdd, Nat.reduceSub, Nat.zero_add, List.replicate_succ, List.replicate_zero, List.getElem?_cons_zero, List.getElem?_cons_succ, List.set_cons_zero, List.set_cons_succ, Option.some.injEq, V.int.injEq, V.bl.injEq, V.ref.injEq, V.str.injEq, V.ty.injEq, List.cons.injEq, HO.tup.injEq, HO.lst.injEq, and_true, true_and, and_assoc, exists_eq_left, exists_eq_left', exists_and_left, exists_eq', atI0, atI1, atI2, atI3, Int.cast_ofNat_Int, Int.reduceToNat, scal_ii, scal_in, scal_ni, scal_nn, scal_bb, scal_ss, scal_sn, scal_ns, scal_bn, scal_nb, ite_iff, decide_eq_true_eq, decide_eq_false_iff_not, Bool.not_eq_true', Classical.not_not, ne_eq, not_false_eq_true, not_true_eq_false, forall_const, true_implies, false_implies, imp_self, sizeLine_eq, Nat.reduceLeDiff, reduceCtorEq, decide_true, decide_false]
    refine ⟨rfl, _, _, L.hO1.at_, lkRowNo, S, rfl, _, _, _, L.hO1, by omega, fun p dz rc ts H17 s17 hTs hh ll => ?_⟩
    refine st_lcFn (fun n => -n) (fun R r => (by simp only [exists_and_left, rMax2, tYes, calmS, tDNew, rInDN, rIxDN, rSetDN, tPop, rTupN, rMax, rMin, rSum, rAny, rSorted, rRepN, tSl, tPart, tNoPart, rSlLN, rSlG, rCatG, rOwnB, LamX.tLam3b, rListT, rRepr, tXf, tMtS, cx_K, Value.ref.injEq, HO.xd.injEq, lk0, tSeq, tPar3, tPar, tCons, tNil, tVar, tC, tAsg, gName, gCons, gNil, gTupN, gSub, tOp, rI, rI0, rU, tTest, rNe, rEq, rIxTN, rIxLN, rLenL, rLenT, rIntI, rIntB, rAbs, rSetLN, tTruL, tRaiseX, rIsTy, rIsOw, ixN0, ixN1, tRet, tIf, tIfS, tNext, tBreak, tCont, tDrop, tTupN, tLstN, tUn, tCB, tCall, tNot, tAnd, tOr, tB, tAndV, tOrV, tNotV, tChain, tApp, LamX.tLam, tRevLN, rCatN, rInTN, rInLN, flatV, inV, List.all_cons, List.all_nil, List.any_cons, List.any_nil, Bool.and_self, Bool.and_true, if_true, Bool.false_eq_true, if_false, tMt, tFldN, tSto, HO.ins.injEq, lkh, List.drop_zero, List.drop_succ_cons, List.drop_nil, rListS, wipe, L2.start, List.map_cons, List.map_nil, List.length_cons, List.length_nil, List.replicate, List.cons_append, List.nil_append, List.append_nil, Nat.reduceAdd, Nat.reduceSub, Nat.zero_add, List.replicate_succ, List.replicate_zero, List.getElem?_cons_zero, List.getElem?_cons_succ, List.set_cons_zero, List.set_cons_succ, Option.some.injEq, V.int.injEq, V.bl.injEq, V.ref.injEq, V.str.injEq, V.ty.injEq, List.cons.injEq, HO.tup.injEq, HO.lst.injEq, and_true, true_and, and_assoc, exists_eq_left, exists_eq_left', exists_and_left, exists_eq', atI0, atI1, atI2, atI3, Int.cast_ofNat_Int, Int.reduceToNat, scal_ii, scal_in, scal_ni, scal_nn, scal_bb, scal_ss, scal_sn, scal_ns, scal_bn, scal_nb, ite_iff, decide_eq_true_eq, decide_eq_false_iff_not, Bool.not_eq_true', Classical.not_not, ne_eq, not_false_eq_true, not_true_eq_false, forall_const, true_implies, false_implies, imp_self, sizeLine_eq, Nat.reduceLeDiff, reduceCtorEq, decide_true, decide_false]; exact r)) (L.same s17).hb (by have := lb; simp at this; omega) (fun n H' A B hB => ?_) (fun D H18 nD s18 hD => ⟨((L.same s17).same s18).hT, fun H19 c' e19 hT19 hc' => ?_⟩)
    · simp only [exists_and_left, rMax2, tYes, calmS, tDNew, rInDN, rIxDN, rSetDN, tPop, rTupN, rMax, rMin, rSum, rAny, rSorted, rRepN, tSl, tPart, tNoPart, rSlLN, rSlG, rCatG, rOwnB, LamX.tLam3b, rListT, rRepr, tXf, tMtS, cx_K, Value.ref.injEq, HO.xd.injEq, lk0, tSeq, tPar3, tPar, tCons, tNil, tVar, tC, tAsg, gName, gCons, gNil, gTupN, gSub, tOp, rI, rI0, rU, tTest, rNe, rEq, rIxTN, rIxLN, rLenL, rLenT, rIntI, rIntB, rAbs, rSetLN, tTruL, tRaiseX, rIsTy, rIsOw, ixN0, ixN1, tRet, tIf, tIfS, tNext, tBreak, tCont, tDrop, tTupN, tLstN, tUn, tCB, tCall, tNot, tAnd, tOr, tB, tAndV, tOrV, tNotV, tChain, tApp, LamX.tLam, tRevLN, rCatN, rInTN, rInLN, flatV, inV, List.all_cons, List.all_nil, List.any_cons, List.any_nil, Bool.and_self, Bool.and_true, if_true, Bool.false_eq_true, if_false, tMt, tFldN, tSto, HO.ins.injEq, lkh, List.drop_zero, List.drop_succ_cons, List.drop_nil, rListS, wipe, L2.start, List.map_cons, List.map_nil, List.length_cons, List.length_nil, List.replicate, List.cons_append, List.nil_append, List.append_nil, Nat.reduceAdd, Nat.reduceSub, Nat.zero_add, List.replicate_succ, List.replicate_zero, List.getElem?_cons_zero, List.getElem?_cons_succ, List.set_cons_zero, List.set_cons_succ, Option.some.injEq, V.int.injEq, V.bl.injEq, V.ref.injEq, V.str.injEq, V.ty.injEq, List.cons.injEq, HO.tup.injEq, HO.lst.injEq, and_true, true_and, and_assoc, exists_eq_left, exists_eq_left', exists_and_left, exists_eq', atI0, atI1, atI2, atI3, Int.cast_ofNat_Int, Int.reduceToNat, scal_ii, scal_in, scal_ni, scal_nn, scal_bb, scal_ss, scal_sn, scal_ns, scal_bn, scal_nb, ite_iff, decide_eq_true_eq, decide_eq_false_iff_not, Bool.not_eq_true', Classical.not_not, ne_eq, not_false_eq_true, not_true_eq_false, forall_const, true_implies, false_implies, imp_self, sizeLine_eq, Nat.reduceLeDiff, reduceCtorEq, decide_true, decide_false]
      exact hB
    have L19 := ((L.same s17).same s18).ext hT19 e19
    refine same_of (extL e19 hD) ((hTs.mono s18).ext e19) (by omega) (fun n H20 Q1 s20 hq => ?_) (fun H20 s20 => ⟨true, rfl, fun h => (by cases h), fun _ => L19.same s20⟩)
    have := hq H20 (fun _ _ h => h)
    rw [hh, hh1] at this
    exact ⟨n, rfl, P, _, ps, rfl, (L19.same s20).hP, this⟩
  clear L
  rintro _ H17 ⟨rfl, L⟩
  refine ⟨fun σ' H' => σ' = [some (V.ref sc), some (V.ref a), some (V.ref S), some (V.ref O), some (V.ref pb), some (V.int d), some (V.ref P2), some (V.ref P), none] ∧ L4 K H' P P2 S O dx row dy row2 pb ps qs rs rs2 ns2, ?_, ?_⟩
  · simp only [exists_and_left, spSpr, calmS, rMax2, tYes, calmS, tDNew, rInDN, rIxDN, rSetDN, tPop, rTupN, rMax, rMin, rSum, rAny, rSorted, rRepN, tSl, tPart, tNoPart, rSlLN, rSlG, rCatG, rOwnB, LamX.tLam3b, rListT, rRepr, tXf, tMtS, cx_K, Value.ref.injEq, HO.xd.injEq, lk0, tSeq, tPar3, tPar, tCons, tNil, tVar, tC, tAsg, gName, gCons, gNil, gTupN, gSub, tOp, rI, rI0, rU, tTest, rNe, rEq, rIxTN, rIxLN, rLenL, rLenT, rIntI, rIntB, rAbs, rSetLN, tTruL, tRaiseX, rIsTy, rIsOw, ixN0, ixN1, tRet, tIf, tIfS, tNext, tBreak, tCont, tDrop, tTupN, tLstN, tUn, tCB, tCall, tNot, tAnd, tOr, tB, tAndV, tOrV, tNotV, tChain, tApp, LamX.tLam, tRevLN, rCatN, rInTN, rInLN, flatV, inV, List.all_cons, List.all_nil, List.any_cons, List.any_nil, Bool.and_self, Bool.and_true, if_true, Bool.false_eq_true, if_false, tMt, tFldN, tSto, HO.ins.injEq, lkh, List.drop_zero, List.drop_succ_cons, List.drop_nil, rListS, wipe, L2.start, List.map_cons, List.map_nil, List.length_cons, List.length_nil, List.replicate, List.cons_append, List.nil_append, List.append_nil, Nat.reduceAdd, Nat.reduceSub, Nat.zero_add, List.replicate_succ, List.replicate_zero, List.getElem?_cons_zero, List.getElem?_cons_succ, List.set_cons_zero, List.set_cons_succ, Option.some.injEq, V.int.injEq, V.bl.injEq, V.ref.injEq, V.str.injEq, V.ty.injEq, List.cons.injEq, HO.tup.injEq, HO.lst.injEq, and_true, true_and, and_assoc, exists_eq_left, exists_eq_left', exists_and_left, exists_eq', atI0, atI1, atI2, atI3, Int.cast_ofNat_Int, Int.reduceToNat, scal_ii, scal_in, scal_ni, scal_nn, scal_bb, scal_ss, scal_sn, scal_ns, scal_bn, scal_nb, ite_iff, decide_eq_true_eq, decide_eq_false_iff_not, Bool.not_eq_true', Classical.not_not, ne_eq, not_false_eq_true, not_true_eq_false, forall_const, true_implies, false_implies, imp_self, sizeLine_eq, Nat.reduceLeDiff, reduceCtorEq, decide_true, decide_false]
    refine own_op L.hO1.at_ (T.ci_Spread.ty L.hO2.at_) notFirst_self ⟨S, O, rfl, _, _, _, _, _, _, L.hO1, L.hO2, by omega, fun cle H18 s18 hle => ⟨_, rfl, ?_⟩⟩
    have L18 := L.same s18
    refine ⟨_, _, L18.hO1.at_, _, _, L18.hO2.at_, S, O, rfl, _, _, _, _, _, _, L18.hO1, L18.hO2, by omega, fun p dz rc ts H19 s19 hTs hh ll => .inr ⟨[], .inr e0.sq, [], .nil, by simp, by simp, fun p2 d2 r2 re H20 _ s20 hE hhE llE => ?_⟩⟩
    obtain rfl : re = [] := List.eq_nil_of_length_eq_zero (by simpa using llE)
    have ecle : cle = decide (ts = []) := by
      rw [Bool.eq_iff_iff, hle, decide_eq_true_eq]
      constructor
      · intro h
        refine norm_uniq hTs.N Norm.nil fun i => ?_
        rw [hh, has_nil]
        cases e : has rs i with
        | false => rfl
        | true => rw [h i e]; rfl
      · intro h i e
        have := hh i
        rw [h, has_nil, e] at this
        cases e2 : has rs2 i with
        | true => rfl
        | false => rw [e2] at this; cases this
    have L20 := (L18.same s19).same s20
    refine eq_spr T (hTs.mono s20) hE ⟨rfl, fun h => absurd (by rw [ecle]) h, fun _ => ?_⟩
    refine ⟨_, _, L20.hO1.at_, _, _, L20.hO2.at_, S, O, rfl, _, _, _, _, _, _, L20.hO1, L20.hO2, by omega, fun p dz rc ts H21 s21 hTs hh ll => ?_⟩
    have L21 := L20.same s21
    refine own_op hTs.at_ (T.ci_Spread.ty L21.hO1.at_) notFirst_self ⟨p, S, rfl, _, _, _, _, _, _, hTs, L21.hO1, by omega, fun cle2 H22 s22 hle2 => ⟨_, rfl, ?_⟩⟩
    obtain rfl : cle2 = true := hle2.mpr fun i e => by
      rw [hh, Bool.and_eq_true] at e; exact e.1
    exact ⟨true, true, rfl, rfl, _, rfl, fun h => absurd h (by decide), fun _ => L21.same s22⟩
  clear L
  rintro _ H18 ⟨rfl, L⟩
  refine ⟨fun σ' H' => σ' = [some (V.ref sc), some (V.ref a), some (V.ref S), some (V.ref O), some (V.ref pb), some (V.int d), some (V.ref P2), some (V.ref P), none] ∧ L4 K H' P P2 S O dx row dy row2 pb ps qs rs rs2 ns2, ?_, ?_⟩
  · simp only [exists_and_left, rMax2, tYes, calmS, tDNew, rInDN, rIxDN, rSetDN, tPop, rTupN, rMax, rMin, rSum, rAny, rSorted, rRepN, tSl, tPart, tNoPart, rSlLN, rSlG, rCatG, rOwnB, LamX.tLam3b, rListT, rRepr, tXf, tMtS, cx_K, Value.ref.injEq, HO.xd.injEq, lk0, tSeq, tPar3, tPar, tCons, tNil, tVar, tC, tAsg, gName, gCons, gNil, gTupN, gSub, tOp, rI, rI0, rU, tTest, rNe, rEq, rIxTN, rIxLN, rLenL, rLenT, rIntI, rIntB, rAbs, rSetLN, tTruL, tRaiseX, rIsTy, rIsOw, ixN0, ixN1, tRet, tIf, tIfS, tNext, tBreak, tCont, tDrop, tTupN, tLstN, tUn, tCB, tCall, tNot, tAnd, tOr, tB, tAndV, tOrV, tNotV, tChain, tApp, LamX.tLam, tRevLN, rCatN, rInTN, rInLN, flatV, inV, List.all_cons, List.all_nil, List.any_cons, List.any_nil, Bool.and_self, Bool.and_true, if_true, Bool.false_eq_true, if_false, tMt, tFldN, tSto, HO.ins.injEq, lkh, List.drop_zero, List.drop_succ_cons, List.drop_nil, rListS, wipe, L2.start, List.map_cons, List.map_nil, List.length_cons, List.length_nil, List.replicate, List.cons_append, List.nil_append, List.append_nil, Nat.reduceAdd, Nat.reduceSub, Nat.zero_add, List.replicate_succ, List.replicate_zero, List.getElem?_cons_zero, List.getElem?_cons_succ, List.set_cons_zero, List.set_cons_succ, Option.some.injEq, V.int.injEq, V.bl.injEq, V.ref.injEq, V.str.injEq, V.ty.injEq, List.cons.injEq, HO.tup.injEq, HO.lst.injEq, and_true, true_and, and_assoc, exists_eq_left, exists_eq_left', exists_and_left, exists_eq', atI0, atI1, atI2, atI3, Int.cast_ofNat_Int, Int.reduceToNat, scal_ii, scal_in, scal_ni, scal_nn, scal_bb, scal_ss, scal_sn, scal_ns, scal_bn, scal_nb, ite_iff, decide_eq_true_eq, decide_eq_false_iff_not, Bool.not_eq_true', Classical.not_not, ne_eq, not_false_eq_true, not_true_eq_false, forall_const, true_implies, false_implies, imp_self, sizeLine_eq, Nat.reduceLeDiff, reduceCtorEq, decide_true, decide_false]
    refine ⟨_, _, L.hO1.at_, _, _, L.hO2.at_, S, O, rfl, _, _, _, _, _, _, L.hO1, L.hO2, by omega, fun p dz rc ts H19 s19 hTs hh ll => ?_⟩
    have L19 := L.same s19
    refine own_op L19.hO1.at_ (T.ci_Spread.ty hTs.at_) notFirst_self ⟨S, p, rfl, _, _, _, _, _, _, L19.hO1, hTs, by omega, fun cle2 H20 s20 hle2 => ⟨_, rfl, ?_⟩⟩
    obtain rfl : cle2 = true := hle2.mpr fun i e => by
      rw [hh, e]; rfl
    have L20 := L19.same s20
    refine ⟨true, true, rfl, rfl, _, rfl, fun h => absurd h (by decide), fun _ => ?_⟩
    refine ⟨_, _, L20.hO1.at_, lkRowNo, S, rfl, _, _, _, L20.hO1, by omega, fun p1 d1 r1 t1 H21 s21 hT1 hh1' l1 => ⟨p1, rfl, _, _, hT1.at_, lkRowNo, p1, rfl, _, _, _, hT1, by omega, fun p2 d2 r2 t2 H22 s22 hT2 hh2' l2 => ?_⟩⟩
    have L22 := (L20.same s21).same s22
    obtain rfl : t2 = rs := norm_uniq hT2.N L22.hO1.N fun i => by rw [hh2', hh1', Bool.not_not]
    refine ne_spr T hT2 L22.hO1 ⟨_, rfl, fun h => by simp at h, fun _ => ?_⟩
    clear hT2 hT1 hTs L20 L19 L hle2
    refine ⟨_, _, L22.hO1.at_, _, _, L22.hO2.at_, S, O, rfl, _, _, _, _, _, _, L22.hO1, L22.hO2, by omega, fun p3 d3 r3 t3 H23 s23 hT3 hh3 l3 => ?_⟩
    have L23 := L22.same s23
    refine ⟨_, _, L23.hO1.at_, _, _, L23.hO2.at_, S, O, rfl, _, _, _, _, _, _, L23.hO1, L23.hO2, by omega, fun p4 d4 r4 t4 H24 s24 hT4 hh4 l4 => ?_⟩
    have L24 := L23.same s24
    have hT3 := hT3.mono s24
    refine ⟨p3, rfl, p4, rfl, _, _, hT3.at_, _, _, hT4.at_, p3, p4, rfl, _, _, _, _, _, _, hT3, hT4, by omega, fun p5 d5 r5 t5 H25 s25 hT5 hh5 l5 => ?_⟩
    have L25 := L24.same s25
    obtain rfl : t5 = t2 := norm_uniq hT5.N L25.hO1.N fun i => by rw [hh5, hh3, hh4]; cases has t2 i <;> cases has rs2 i <;> rfl
    exact ne_spr T hT5 L25.hO1 ⟨_, rfl, fun h => by simp at h, fun _ => L25⟩
  clear L
  rintro _ H19 ⟨rfl, L⟩
  simp only [exists_and_left, spOddS, rMax2, tYes, calmS, tDNew, rInDN, rIxDN, rSetDN, tPop, rTupN, rMax, rMin, rSum, rAny, rSorted, rRepN, tSl, tPart, tNoPart, rSlLN, rSlG, rCatG, rOwnB, LamX.tLam3b, rListT, rRepr, tXf, tMtS, cx_K, Value.ref.injEq, HO.xd.injEq, lk0, tSeq, tPar3, tPar, tCons, tNil, tVar, tC, tAsg, gName, gCons, gNil, gTupN, gSub, tOp, rI, rI0, rU, tTest, rNe, rEq, rIxTN, rIxLN, rLenL, rLenT, rIntI, rIntB, rAbs, rSetLN, tTruL, tRaiseX, rIsTy, rIsOw, ixN0, ixN1, tRet, tIf, tIfS, tNext, tBreak, tCont, tDrop, tTupN, tLstN, tUn, tCB, tCall, tNot, tAnd, tOr, tB, tAndV, tOrV, tNotV, tChain, tApp, LamX.tLam, tRevLN, rCatN, rInTN, rInLN, flatV, inV, List.all_cons, List.all_nil, List.any_cons, List.any_nil, Bool.and_self, Bool.and_true, if_true, Bool.false_eq_true, if_false, tMt, tFldN, tSto, HO.ins.injEq, lkh, List.drop_zero, List.drop_succ_cons, List.drop_nil, rListS, wipe, L2.start, List.map_cons, List.map_nil, List.length_cons, List.length_nil, List.replicate, List.cons_append, List.nil_append, List.append_nil, Nat.reduceAdd, Nat.reduceSub, Nat.zero_add, List.replicate_succ, List.replicate_zero, List.getElem?_cons_zero, List.getElem?_cons_succ, List.set_cons_zero, List.set_cons_succ, Option.some.injEq, V.int.injEq, V.bl.injEq, V.ref.injEq, V.str.injEq, V.ty.injEq, List.cons.injEq, HO.tup.injEq, HO.lst.injEq, and_true, true_and, and_assoc, exists_eq_left, exists_eq_left', exists_and_left, exists_eq', atI0, atI1, atI2, atI3, Int.cast_ofNat_Int, Int.reduceToNat, scal_ii, scal_in, scal_ni, scal_nn, scal_bb, scal_ss, scal_sn, scal_ns, scal_bn, scal_nb, ite_iff, decide_eq_true_eq, decide_eq_false_iff_not, Bool.not_eq_true', Classical.not_not, ne_eq, not_false_eq_true, not_true_eq_false, forall_const, true_implies, false_implies, imp_self, sizeLine_eq, Nat.reduceLeDiff, reduceCtorEq, decide_true, decide_false]
  exact ⟨_, _, _, L.hO1, by omega, k⟩

end
end Iz
/-! k04_n -/
set_option Elab.async false
set_option linter.all false
set_option maxRecDepth 100000
set_option maxHeartbeats 4000000
namespace Iz
open PySem PySem.Spec PyProof.Rows L2
open He (ga)
local macro_rules | `(tactic| walk_at "wp") => `(tactic| simp only [rMax2, tYes, calmS, tDNew, rInDN, rIxDN, rSetDN, tPop, rTupN, rMax, rMin, rSum, rAny, rSorted, rRepN, tSl, tPart, tNoPart, rSlLN, rSlG, rCatG, rOwnB, LamX.tLam3b, rListT, rRepr, tXf, tMtS, cx_K, Value.ref.injEq, HO.xd.injEq, lk0, tSeq, tPar3, tPar, tCons, tNil, tVar, tC, tAsg, gName, gCons, gNil, gTupN, gSub, tOp, rI, rI0, rU, tTest, rNe, rEq, rIxTN, rIxLN, rLenL, rLenT, rIntI, rIntB, rAbs, rSetLN, tTruL, tRaiseX, rIsTy, rIsOw, ixN0, ixN1, tRet, tIf, tIfS, tNext, tBreak, tCont, tDrop, tTupN, tLstN, tUn, tCB, tCall, tNot, tAnd, tOr, tB, tAndV, tOrV, tNotV, tChain, tApp, LamX.tLam, tRevLN, rCatN, rInTN, rInLN, flatV, inV, List.all_cons, List.all_nil, List.any_cons, List.any_nil, Bool.and_self, Bool.and_true, if_true, Bool.false_eq_true, if_false, tMt, tFldN, tSto, HO.ins.injEq, lkh, List.drop_zero, List.drop_succ_cons, List.drop_nil, rListS, wipe, L2.start, List.map_cons, List.map_nil, List.length_cons, List.length_nil, List.replicate, List.cons_append, List.nil_append, List.append_nil, Nat.reduceAdd, Nat.reduceSub, Nat.zero_add, List.replicate_succ, List.replicate_zero, List.getElem?_cons_zero, List.getElem?_cons_succ, List.set_cons_zero, List.set_cons_succ, Option.some.injEq, V.int.injEq, V.bl.injEq, V.ref.injEq, V.str.injEq, V.ty.injEq, List.cons.injEq, HO.tup.injEq, HO.lst.injEq, and_true, true_and, and_assoc, exists_eq_left, exists_eq_left', exists_and_left, exists_eq', atI0, atI1, atI2, atI3, Int.cast_ofNat_Int, Int.reduceToNat, scal_ii, scal_in, scal_ni, scal_nn, scal_bb, scal_ss, scal_sn, scal_ns, scal_bn, scal_nb, ite_iff, decide_eq_true_eq, decide_eq_false_iff_not, Bool.not_eq_true', Classical.not_not, ne_eq, not_false_eq_true, not_true_eq_false, forall_const, true_implies, false_implies, imp_self, sizeLine_eq, Nat.reduceLeDiff, reduceCtorEq, decide_true, decide_false])
section
variable {P : Program} {w : World} {K : PySem.W.Frag} {mg : Str → Option Value} {base : Heap}
theorem txt_mk {h : Heap} (X : K.In h) (G : h.Ns mainGlobals mg) {f_is_whole f_is_from f_is_row f_is_span f_require_whole f_require_from f_Stretch___init__ f_Stretch___eq__ f_Stretch_holds f_Stretch_moved f_Stretch_turned f_Spread___init__ f_Spread___eq__ f_Spread___le__ f_Spread___or__ f_Spread___and__ f_Spread___sub__ f_Spread_told f_Spread_all_but f_Spread_holds f_Spread_is_endless f_Spread_moved f_Spread_turned f_Spread_bounds f__greater_high f__told_row f__pairs_by_low f__law_draw f__law_number f__law_ends f__law_has f__law_points f__law_told f__law_some f__law_spread f__law_row_right f__law_same f__law_odd_right f_law c_law P_law C_BadNumber N_BadNumber fi_BadNumber C_BadPart N_BadPart fi_BadPart C_BadIndex N_BadIndex fi_BadIndex  : Addr} {od_is_whole an_is_whole od_is_from an_is_from od_is_row an_is_row od_is_span an_is_span od_require_whole an_require_whole od_require_from an_require_from od_Stretch___init__ an_Stretch___init__ od_Stretch___eq__ an_Stretch___eq__ od_Stretch_holds an_Stretch_holds od_Stretch_moved an_Stretch_moved od_Stretch_turned an_Stretch_turned od_Spread___init__ an_Spread___init__ od_Spread___eq__ an_Spread___eq__ od_Spread___le__ an_Spread___le__ od_Spread___or__ an_Spread___or__ od_Spread___and__ an_Spread___and__ od_Spread___sub__ an_Spread___sub__ od_Spread_told an_Spread_told od_Spread_all_but an_Spread_all_but od_Spread_holds an_Spread_holds od_Spread_is_endless an_Spread_is_endless od_Spread_moved an_Spread_moved od_Spread_turned an_Spread_turned od_Spread_bounds an_Spread_bounds od__greater_high an__greater_high od__told_row an__told_row od__pairs_by_low an__pairs_by_low od__law_draw an__law_draw od__law_number an__law_number od__law_ends an__law_ends od__law_has an__law_has od__law_points an__law_points od__law_told an__law_told od__law_some an__law_some od__law_spread an__law_spread od__law_row_right an__law_row_right od__law_same an__law_same od__law_odd_right an__law_odd_right od_law an_law : Option Addr} {sl_is_whole sl_is_from sl_is_row sl_is_span sl_require_whole sl_require_from sl_Stretch___init__ sl_Stretch___eq__ sl_Stretch_holds sl_Stretch_moved sl_Stretch_turned sl_Spread___init__ sl_Spread___eq__ sl_Spread___le__ sl_Spread___or__ sl_Spread___and__ sl_Spread___sub__ sl_Spread_told sl_Spread_all_but sl_Spread_holds sl_Spread_is_endless sl_Spread_moved sl_Spread_turned sl_Spread_bounds sl__greater_high sl__told_row sl__pairs_by_low sl__law_draw sl__law_number sl__law_ends sl__law_has sl__law_points sl__law_told sl__law_some sl__law_spread sl__law_row_right sl__law_same sl__law_odd_right sl_law : Array (Option Value)} {oc_is_whole kV_is_whole dc_is_whole pm_is_whole ct_is_whole oc_is_from kV_is_from dc_is_from pm_is_from ct_is_from oc_is_row kV_is_row dc_is_row pm_is_row ct_is_row oc_is_span kV_is_span dc_is_span pm_is_span ct_is_span oc_require_whole kV_require_whole dc_require_whole pm_require_whole ct_require_whole oc_require_from kV_require_from dc_require_from pm_require_from ct_require_from oc_Stretch___init__ kV_Stretch___init__ dc_Stretch___init__ pm_Stretch___init__ ct_Stretch___init__ oc_Stretch___eq__ kV_Stretch___eq__ dc_Stretch___eq__ pm_Stretch___eq__ ct_Stretch___eq__ oc_Stretch_holds kV_Stretch_holds dc_Stretch_holds pm_Stretch_holds ct_Stretch_holds oc_Stretch_moved kV_Stretch_moved dc_Stretch_moved pm_Stretch_moved ct_Stretch_moved oc_Stretch_turned kV_Stretch_turned dc_Stretch_turned pm_Stretch_turned ct_Stretch_turned oc_Spread___init__ kV_Spread___init__ dc_Spread___init__ pm_Spread___init__ ct_Spread___init__ oc_Spread___eq__ kV_Spread___eq__ dc_Spread___eq__ pm_Spread___eq__ ct_Spread___eq__ oc_Spread___le__ kV_Spread___le__ dc_Spread___le__ pm_Spread___le__ ct_Spread___le__ oc_Spread___or__ kV_Spread___or__ dc_Spread___or__ pm_Spread___or__ ct_Spread___or__ oc_Spread___and__ kV_Spread___and__ dc_Spread___and__ pm_Spread___and__ ct_Spread___and__ oc_Spread___sub__ kV_Spread___sub__ dc_Spread___sub__ pm_Spread___sub__ ct_Spread___sub__ oc_Spread_told kV_Spread_told dc_Spread_told pm_Spread_told ct_Spread_told oc_Spread_all_but kV_Spread_all_but dc_Spread_all_but pm_Spread_all_but ct_Spread_all_but oc_Spread_holds kV_Spread_holds dc_Spread_holds pm_Spread_holds ct_Spread_holds oc_Spread_is_endless kV_Spread_is_endless dc_Spread_is_endless pm_Spread_is_endless ct_Spread_is_endless oc_Spread_moved kV_Spread_moved dc_Spread_moved pm_Spread_moved ct_Spread_moved oc_Spread_turned kV_Spread_turned dc_Spread_turned pm_Spread_turned ct_Spread_turned oc_Spread_bounds kV_Spread_bounds dc_Spread_bounds pm_Spread_bounds ct_Spread_bounds oc__greater_high kV__greater_high dc__greater_high pm__greater_high ct__greater_high oc__told_row kV__told_row dc__told_row pm__told_row ct__told_row oc__pairs_by_low kV__pairs_by_low dc__pairs_by_low pm__pairs_by_low ct__pairs_by_low oc__law_draw kV__law_draw dc__law_draw pm__law_draw ct__law_draw oc__law_number kV__law_number dc__law_number pm__law_number ct__law_number oc__law_ends kV__law_ends dc__law_ends pm__law_ends ct__law_ends oc__law_has kV__law_has dc__law_has pm__law_has ct__law_has oc__law_points kV__law_points dc__law_points pm__law_points ct__law_points oc__law_told kV__law_told dc__law_told pm__law_told ct__law_told oc__law_some kV__law_some dc__law_some pm__law_some ct__law_some oc__law_spread kV__law_spread dc__law_spread pm__law_spread ct__law_spread oc__law_row_right kV__law_row_right dc__law_row_right pm__law_row_right ct__law_row_right oc__law_same kV__law_same dc__law_same pm__law_same ct__law_same oc__law_odd_right kV__law_odd_right dc__law_odd_right pm__law_odd_right ct__law_odd_right oc_law kV_law dc_law pm_law ct_law cd_is_whole cd_is_from cd_is_row cd_is_span cd_require_whole cd_require_from cd_Stretch___init__ cd_Stretch___eq__ cd_Stretch_holds cd_Stretch_moved cd_Stretch_turned cd_Spread___init__ cd_Spread___eq__ cd_Spread___le__ cd_Spread___or__ cd_Spread___and__ cd_Spread___sub__ cd_Spread_told cd_Spread_all_but cd_Spread_holds cd_Spread_is_endless cd_Spread_moved cd_Spread_turned cd_Spread_bounds cd__greater_high cd__told_row cd__pairs_by_low cd__law_draw cd__law_number cd__law_ends cd__law_has cd__law_points cd__law_told cd__law_some cd__law_spread cd__law_row_right cd__law_same cd__law_odd_right : Value} {C_Stretch C_Spread : Addr} {T_Stretch___init__ T_Spread___init__ : Addr} {ocT_Stretch___init__ ocT_Spread___init__ : Value} {odT_Stretch___init__ odT_Spread___init__ : Option Addr} {nT_Stretch___init__ nT_Spread___init__ : Nat} {slT_Stretch___init__ slT_Spread___init__ : Array (Option Value)} {tk_Spread___init___0 : Addr} {od0_Spread___init__ : Option Addr} {n0_Spread___init__ : Nat} {sl0_Spread___init__ : Array (Option Value)} {dd_BadNumber odx_BadNumber anx_BadNumber dd_BadPart odx_BadPart anx_BadPart dd_BadIndex odx_BadIndex anx_BadIndex : Option Addr} {nm_BadNumber q_BadNumber nm_BadPart q_BadPart nm_BadIndex q_BadIndex : Str} {bs_BadNumber bm_BadNumber sub_BadNumber bs_BadPart bm_BadPart sub_BadPart bs_BadIndex bm_BadIndex sub_BadIndex : List Value} {sn_BadNumber sn_BadPart sn_BadIndex : List Str} {ab_BadNumber ab_BadPart ab_BadIndex : Bool} {col_BadNumber col_BadPart col_BadIndex : Option Bool} {m0_BadNumber m1_BadNumber m2_BadNumber m3_BadNumber m5_BadNumber m0_BadPart m1_BadPart m2_BadPart m3_BadPart m5_BadPart m0_BadIndex m1_BadIndex m2_BadIndex m3_BadIndex m5_BadIndex : Option Value} {ocx_BadNumber kVx_BadNumber dcx_BadNumber pmx_BadNumber cdx_BadNumber ctx_BadNumber ocx_BadPart kVx_BadPart dcx_BadPart pmx_BadPart cdx_BadPart ctx_BadPart ocx_BadIndex kVx_BadIndex dcx_BadIndex pmx_BadIndex cdx_BadIndex ctx_BadIndex : Value} {slx_BadNumber slx_BadPart slx_BadIndex : Array (Option Value)}
    (a_is_whole : PySem.W.nsIn K mainGlobals "is_whole" = some (some (.ref f_is_whole)))
    (l_is_whole : K.lookup f_is_whole = some ⟨oc_is_whole, od_is_whole, .func (PySem.W.fnOf "is_whole" "is_whole" (defArgs s_is_whole) (defBody s_is_whole) (defScope s_is_whole) .none kV_is_whole dc_is_whole pm_is_whole an_is_whole cd_is_whole ct_is_whole), sl_is_whole⟩)
    (d_is_whole : PySem.W.codeIn K cd_is_whole "is_whole" = true)
    (k_is_whole : PySem.W.keepIn K (.ref f_is_whole) = true)
    (a_is_from : PySem.W.nsIn K mainGlobals "is_from" = some (some (.ref f_is_from)))
    (l_is_from : K.lookup f_is_from = some ⟨oc_is_from, od_is_from, .func (PySem.W.fnOf "is_from" "is_from" (defArgs s_is_from) (defBody s_is_from) (defScope s_is_from) .none kV_is_from dc_is_from pm_is_from an_is_from cd_is_from ct_is_from), sl_is_from⟩)
    (d_is_from : PySem.W.codeIn K cd_is_from "is_from" = true)
    (k_is_from : PySem.W.keepIn K (.ref f_is_from) = true)
    (a_is_row : PySem.W.nsIn K mainGlobals "is_row" = some (some (.ref f_is_row)))
    (l_is_row : K.lookup f_is_row = some ⟨oc_is_row, od_is_row, .func (PySem.W.fnOf "is_row" "is_row" (defArgs s_is_row) (defBody s_is_row) (defScope s_is_row) .none kV_is_row dc_is_row pm_is_row an_is_row cd_is_row ct_is_row), sl_is_row⟩)
    (d_is_row : PySem.W.codeIn K cd_is_row "is_row" = true)
    (k_is_row : PySem.W.keepIn K (.ref f_is_row) = true)
    (a_is_span : PySem.W.nsIn K mainGlobals "is_span" = some (some (.ref f_is_span)))
    (l_is_span : K.lookup f_is_span = some ⟨oc_is_span, od_is_span, .func (PySem.W.fnOf "is_span" "is_span" (defArgs s_is_span) (defBody s_is_span) (defScope s_is_span) .none kV_is_span dc_is_span pm_is_span an_is_span cd_is_span ct_is_span), sl_is_span⟩)
    (d_is_span : PySem.W.codeIn K cd_is_span "is_span" = true)
    (k_is_span : PySem.W.keepIn K (.ref f_is_span) = true)
    (a_require_whole : PySem.W.nsIn K mainGlobals "require_whole" = some (some (.ref f_require_whole)))
    (l_require_whole : K.lookup f_require_whole = some ⟨oc_require_whole, od_require_whole, .func (PySem.W.fnOf "require_whole" "require_whole" (defArgs s_require_whole) (defBody s_require_whole) (defScope s_require_whole) .none kV_require_whole dc_require_whole pm_require_whole an_require_whole cd_require_whole ct_require_whole), sl_require_whole⟩)
    (d_require_whole : PySem.W.codeIn K cd_require_whole "require_whole" = true)
    (k_require_whole : PySem.W.keepIn K (.ref f_require_whole) = true)
    (a_require_from : PySem.W.nsIn K mainGlobals "require_from" = some (some (.ref f_require_from)))
    (l_require_from : K.lookup f_require_from = some ⟨oc_require_from, od_require_from, .func (PySem.W.fnOf "require_from" "require_from" (defArgs s_require_from) (defBody s_require_from) (defScope s_require_from) .none kV_require_from dc_require_from pm_require_from an_require_from cd_require_from ct_require_from), sl_require_from⟩)
    (d_require_from : PySem.W.codeIn K cd_require_from "require_from" = true)
    (k_require_from : PySem.W.keepIn K (.ref f_require_from) = true)
    (a__greater_high : PySem.W.nsIn K mainGlobals "_greater_high" = some (some (.ref f__greater_high)))
    (l__greater_high : K.lookup f__greater_high = some ⟨oc__greater_high, od__greater_high, .func (PySem.W.fnOf "_greater_high" "_greater_high" (defArgs s__greater_high) (defBody s__greater_high) (defScope s__greater_high) .none kV__greater_high dc__greater_high pm__greater_high an__greater_high cd__greater_high ct__greater_high), sl__greater_high⟩)
    (d__greater_high : PySem.W.codeIn K cd__greater_high "_greater_high" = true)
    (k__greater_high : PySem.W.keepIn K (.ref f__greater_high) = true)
    (a__told_row : PySem.W.nsIn K mainGlobals "_told_row" = some (some (.ref f__told_row)))
    (l__told_row : K.lookup f__told_row = some ⟨oc__told_row, od__told_row, .func (PySem.W.fnOf "_told_row" "_told_row" (defArgs s__told_row) (defBody s__told_row) (defScope s__told_row) .none kV__told_row dc__told_row pm__told_row an__told_row cd__told_row ct__told_row), sl__told_row⟩)
    (d__told_row : PySem.W.codeIn K cd__told_row "_told_row" = true)
    (k__told_row : PySem.W.keepIn K (.ref f__told_row) = true)
    (a__pairs_by_low : PySem.W.nsIn K mainGlobals "_pairs_by_low" = some (some (.ref f__pairs_by_low)))
    (l__pairs_by_low : K.lookup f__pairs_by_low = some ⟨oc__pairs_by_low, od__pairs_by_low, .func (PySem.W.fnOf "_pairs_by_low" "_pairs_by_low" (defArgs s__pairs_by_low) (defBody s__pairs_by_low) (defScope s__pairs_by_low) .none kV__pairs_by_low dc__pairs_by_low pm__pairs_by_low an__pairs_by_low cd__pairs_by_low ct__pairs_by_low), sl__pairs_by_low⟩)
    (d__pairs_by_low : PySem.W.codeIn K cd__pairs_by_low "_pairs_by_low" = true)
    (k__pairs_by_low : PySem.W.keepIn K (.ref f__pairs_by_low) = true)
    (a__law_draw : PySem.W.nsIn K mainGlobals "_law_draw" = some (some (.ref f__law_draw)))
    (l__law_draw : K.lookup f__law_draw = some ⟨oc__law_draw, od__law_draw, .func (PySem.W.fnOf "_law_draw" "_law_draw" (defArgs s__law_draw) (defBody s__law_draw) (defScope s__law_draw) .none kV__law_draw dc__law_draw pm__law_draw an__law_draw cd__law_draw ct__law_draw), sl__law_draw⟩)
    (d__law_draw : PySem.W.codeIn K cd__law_draw "_law_draw" = true)
    (k__law_draw : PySem.W.keepIn K (.ref f__law_draw) = true)
    (a__law_number : PySem.W.nsIn K mainGlobals "_law_number" = some (some (.ref f__law_number)))
    (l__law_number : K.lookup f__law_number = some ⟨oc__law_number, od__law_number, .func (PySem.W.fnOf "_law_number" "_law_number" (defArgs s__law_number) (defBody s__law_number) (defScope s__law_number) .none kV__law_number dc__law_number pm__law_number an__law_number cd__law_number ct__law_number), sl__law_number⟩)
    (d__law_number : PySem.W.codeIn K cd__law_number "_law_number" = true)
    (k__law_number : PySem.W.keepIn K (.ref f__law_number) = true)
    (a__law_ends : PySem.W.nsIn K mainGlobals "_law_ends" = some (some (.ref f__law_ends)))
    (l__law_ends : K.lookup f__law_ends = some ⟨oc__law_ends, od__law_ends, .func (PySem.W.fnOf "_law_ends" "_law_ends" (defArgs s__law_ends) (defBody s__law_ends) (defScope s__law_ends) .none kV__law_ends dc__law_ends pm__law_ends an__law_ends cd__law_ends ct__law_ends), sl__law_ends⟩)
    (d__law_ends : PySem.W.codeIn K cd__law_ends "_law_ends" = true)
    (k__law_ends : PySem.W.keepIn K (.ref f__law_ends) = true)
    (a__law_has : PySem.W.nsIn K mainGlobals "_law_has" = some (some (.ref f__law_has)))
    (l__law_has : K.lookup f__law_has = some ⟨oc__law_has, od__law_has, .func (PySem.W.fnOf "_law_has" "_law_has" (defArgs s__law_has) (defBody s__law_has) (defScope s__law_has) .none kV__law_has dc__law_has pm__law_has an__law_has cd__law_has ct__law_has), sl__law_has⟩)
    (d__law_has : PySem.W.codeIn K cd__law_has "_law_has" = true)
    (k__law_has : PySem.W.keepIn K (.ref f__law_has) = true)
    (a__law_points : PySem.W.nsIn K mainGlobals "_law_points" = some (some (.ref f__law_points)))
    (l__law_points : K.lookup f__law_points = some ⟨oc__law_points, od__law_points, .func (PySem.W.fnOf "_law_points" "_law_points" (defArgs s__law_points) (defBody s__law_points) (defScope s__law_points) .none kV__law_points dc__law_points pm__law_points an__law_points cd__law_points ct__law_points), sl__law_points⟩)
    (d__law_points : PySem.W.codeIn K cd__law_points "_law_points" = true)
    (k__law_points : PySem.W.keepIn K (.ref f__law_points) = true)
    (a__law_told : PySem.W.nsIn K mainGlobals "_law_told" = some (some (.ref f__law_told)))
    (l__law_told : K.lookup f__law_told = some ⟨oc__law_told, od__law_told, .func (PySem.W.fnOf "_law_told" "_law_told" (defArgs s__law_told) (defBody s__law_told) (defScope s__law_told) .none kV__law_told dc__law_told pm__law_told an__law_told cd__law_told ct__law_told), sl__law_told⟩)
    (d__law_told : PySem.W.codeIn K cd__law_told "_law_told" = true)
    (k__law_told : PySem.W.keepIn K (.ref f__law_told) = true)
    (a__law_some : PySem.W.nsIn K mainGlobals "_law_some" = some (some (.ref f__law_some)))
    (l__law_some : K.lookup f__law_some = some ⟨oc__law_some, od__law_some, .func (PySem.W.fnOf "_law_some" "_law_some" (defArgs s__law_some) (defBody s__law_some) (defScope s__law_some) .none kV__law_some dc__law_some pm__law_some an__law_some cd__law_some ct__law_some), sl__law_some⟩)
    (d__law_some : PySem.W.codeIn K cd__law_some "_law_some" = true)
    (k__law_some : PySem.W.keepIn K (.ref f__law_some) = true)
    (a__law_spread : PySem.W.nsIn K mainGlobals "_law_spread" = some (some (.ref f__law_spread)))
    (l__law_spread : K.lookup f__law_spread = some ⟨oc__law_spread, od__law_spread, .func (PySem.W.fnOf "_law_spread" "_law_spread" (defArgs s__law_spread) (defBody s__law_spread) (defScope s__law_spread) .none kV__law_spread dc__law_spread pm__law_spread an__law_spread cd__law_spread ct__law_spread), sl__law_spread⟩)
    (d__law_spread : PySem.W.codeIn K cd__law_spread "_law_spread" = true)
    (k__law_spread : PySem.W.keepIn K (.ref f__law_spread) = true)
    (a__law_row_right : PySem.W.nsIn K mainGlobals "_law_row_right" = some (some (.ref f__law_row_right)))
    (l__law_row_right : K.lookup f__law_row_right = some ⟨oc__law_row_right, od__law_row_right, .func (PySem.W.fnOf "_law_row_right" "_law_row_right" (defArgs s__law_row_right) (defBody s__law_row_right) (defScope s__law_row_right) .none kV__law_row_right dc__law_row_right pm__law_row_right an__law_row_right cd__law_row_right ct__law_row_right), sl__law_row_right⟩)
    (d__law_row_right : PySem.W.codeIn K cd__law_row_right "_law_row_right" = true)
    (k__law_row_right : PySem.W.keepIn K (.ref f__law_row_right) = true)
    (a__law_same : PySem.W.nsIn K mainGlobals "_law_same" = some (some (.ref f__law_same)))
    (l__law_same : K.lookup f__law_same = some ⟨oc__law_same, od__law_same, .func (PySem.W.fnOf "_law_same" "_law_same" (defArgs s__law_same) (defBody s__law_same) (defScope s__law_same) .none kV__law_same dc__law_same pm__law_same an__law_same cd__law_same ct__law_same), sl__law_same⟩)
    (d__law_same : PySem.W.codeIn K cd__law_same "_law_same" = true)
    (k__law_same : PySem.W.keepIn K (.ref f__law_same) = true)
    (a__law_odd_right : PySem.W.nsIn K mainGlobals "_law_odd_right" = some (some (.ref f__law_odd_right)))
    (l__law_odd_right : K.lookup f__law_odd_right = some ⟨oc__law_odd_right, od__law_odd_right, .func (PySem.W.fnOf "_law_odd_right" "_law_odd_right" (defArgs s__law_odd_right) (defBody s__law_odd_right) (defScope s__law_odd_right) .none kV__law_odd_right dc__law_odd_right pm__law_odd_right an__law_odd_right cd__law_odd_right ct__law_odd_right), sl__law_odd_right⟩)
    (d__law_odd_right : PySem.W.codeIn K cd__law_odd_right "_law_odd_right" = true)
    (k__law_odd_right : PySem.W.keepIn K (.ref f__law_odd_right) = true)
    (a_law : PySem.W.nsIn K mainGlobals "law" = some (some (.ref f_law)))
    (l_law : K.lookup f_law = some ⟨oc_law, od_law, .func (PySem.W.fnOf "law" "law" (defArgs s_law) (defBody s_law) (defScope s_law) .none kV_law dc_law pm_law an_law (.ref c_law) ct_law), sl_law⟩)
    (d_law : PySem.W.codeIn K (.ref c_law) "law" = true)
    (k_law : PySem.W.keepIn K (.ref f_law) = true)
    (t_law : PySem.W.tabIn K "law" = some (c_law, P_law))
    (xa_Stretch : PySem.W.nsIn K mainGlobals "Stretch" = some (some (.ref C_Stretch)))
    (pg_Stretch : PySem.W.plainGet K C_Stretch Str.empty = true)
    (hd_Stretch : PySem.W.hasDictIn K C_Stretch = true)
    (po_Stretch : PySem.W.plainOver K C_Stretch = true)
    (sa_Stretch : PySem.W.findIn K (.ref C_Stretch) "__setattr__" = some (some (.builtin "object.__setattr__")))
    (mm_Stretch : PySem.W.makesIn K C_Stretch = true)
    (kc_Stretch : PySem.W.keepIn K (.ref C_Stretch) = true)
    (ya_Stretch : PySem.W.findIn K (.ref C_Stretch) "__class__" = some (some (.builtin "object.__class__")))
    (ym_Stretch : PySem.W.mroIn K C_Stretch (.type "object") = some true)
    (na_Stretch_low : PySem.W.findIn K (.ref C_Stretch) "low" = some none)
    (na_Stretch_high : PySem.W.findIn K (.ref C_Stretch) "high" = some none)
    (xa_Spread : PySem.W.nsIn K mainGlobals "Spread" = some (some (.ref C_Spread)))
    (pg_Spread : PySem.W.plainGet K C_Spread Str.empty = true)
    (hd_Spread : PySem.W.hasDictIn K C_Spread = true)
    (po_Spread : PySem.W.plainOver K C_Spread = true)
    (sa_Spread : PySem.W.findIn K (.ref C_Spread) "__setattr__" = some (some (.builtin "object.__setattr__")))
    (mm_Spread : PySem.W.makesIn K C_Spread = true)
    (kc_Spread : PySem.W.keepIn K (.ref C_Spread) = true)
    (ya_Spread : PySem.W.findIn K (.ref C_Spread) "__class__" = some (some (.builtin "object.__class__")))
    (ym_Spread : PySem.W.mroIn K C_Spread (.type "object") = some true)
    (na_Spread__row : PySem.W.findIn K (.ref C_Spread) "_row" = some none)
    (ma_Stretch___init__ : PySem.W.findIn K (.ref C_Stretch) "__init__" = some (some (.ref f_Stretch___init__)))
    (mi_Stretch___init__ : PySem.W.isFn K (.ref f_Stretch___init__) = true)
    (mk_Stretch___init__ : PySem.W.keepIn K (.ref f_Stretch___init__) = true)
    (l_Stretch___init__ : K.lookup f_Stretch___init__ = some ⟨oc_Stretch___init__, od_Stretch___init__, .func (PySem.W.fnOf "__init__" "Stretch.__init__" (defArgs s_Stretch___init__) (defBody s_Stretch___init__) (defScope s_Stretch___init__) (.ref T_Stretch___init__) kV_Stretch___init__ dc_Stretch___init__ pm_Stretch___init__ an_Stretch___init__ cd_Stretch___init__ ct_Stretch___init__), sl_Stretch___init__⟩)
    (d_Stretch___init__ : PySem.W.codeIn K cd_Stretch___init__ "Stretch.__init__" = true)
    (t_Stretch___init__ : K.lookup T_Stretch___init__ = some ⟨ocT_Stretch___init__, odT_Stretch___init__, .seq [Value.none, Value.none].toArray nT_Stretch___init__, slT_Stretch___init__⟩)
    (ma_Stretch___eq__ : PySem.W.findIn K (.ref C_Stretch) "__eq__" = some (some (.ref f_Stretch___eq__)))
    (mi_Stretch___eq__ : PySem.W.isFn K (.ref f_Stretch___eq__) = true)
    (mk_Stretch___eq__ : PySem.W.keepIn K (.ref f_Stretch___eq__) = true)
    (l_Stretch___eq__ : K.lookup f_Stretch___eq__ = some ⟨oc_Stretch___eq__, od_Stretch___eq__, .func (PySem.W.fnOf "__eq__" "Stretch.__eq__" (defArgs s_Stretch___eq__) (defBody s_Stretch___eq__) (defScope s_Stretch___eq__) .none kV_Stretch___eq__ dc_Stretch___eq__ pm_Stretch___eq__ an_Stretch___eq__ cd_Stretch___eq__ ct_Stretch___eq__), sl_Stretch___eq__⟩)
    (d_Stretch___eq__ : PySem.W.codeIn K cd_Stretch___eq__ "Stretch.__eq__" = true)
    (ma_Stretch_holds : PySem.W.findIn K (.ref C_Stretch) "holds" = some (some (.ref f_Stretch_holds)))
    (mi_Stretch_holds : PySem.W.isFn K (.ref f_Stretch_holds) = true)
    (mk_Stretch_holds : PySem.W.keepIn K (.ref f_Stretch_holds) = true)
    (l_Stretch_holds : K.lookup f_Stretch_holds = some ⟨oc_Stretch_holds, od_Stretch_holds, .func (PySem.W.fnOf "holds" "Stretch.holds" (defArgs s_Stretch_holds) (defBody s_Stretch_holds) (defScope s_Stretch_holds) .none kV_Stretch_holds dc_Stretch_holds pm_Stretch_holds an_Stretch_holds cd_Stretch_holds ct_Stretch_holds), sl_Stretch_holds⟩)
    (d_Stretch_holds : PySem.W.codeIn K cd_Stretch_holds "Stretch.holds" = true)
    (ma_Stretch_moved : PySem.W.findIn K (.ref C_Stretch) "moved" = some (some (.ref f_Stretch_moved)))
    (mi_Stretch_moved : PySem.W.isFn K (.ref f_Stretch_moved) = true)
    (mk_Stretch_moved : PySem.W.keepIn K (.ref f_Stretch_moved) = true)
    (l_Stretch_moved : K.lookup f_Stretch_moved = some ⟨oc_Stretch_moved, od_Stretch_moved, .func (PySem.W.fnOf "moved" "Stretch.moved" (defArgs s_Stretch_moved) (defBody s_Stretch_moved) (defScope s_Stretch_moved) .none kV_Stretch_moved dc_Stretch_moved pm_Stretch_moved an_Stretch_moved cd_Stretch_moved ct_Stretch_moved), sl_Stretch_moved⟩)
    (d_Stretch_moved : PySem.W.codeIn K cd_Stretch_moved "Stretch.moved" = true)
    (ma_Stretch_turned : PySem.W.findIn K (.ref C_Stretch) "turned" = some (some (.ref f_Stretch_turned)))
    (mi_Stretch_turned : PySem.W.isFn K (.ref f_Stretch_turned) = true)
    (mk_Stretch_turned : PySem.W.keepIn K (.ref f_Stretch_turned) = true)
    (l_Stretch_turned : K.lookup f_Stretch_turned = some ⟨oc_Stretch_turned, od_Stretch_turned, .func (PySem.W.fnOf "turned" "Stretch.turned" (defArgs s_Stretch_turned) (defBody s_Stretch_turned) (defScope s_Stretch_turned) .none kV_Stretch_turned dc_Stretch_turned pm_Stretch_turned an_Stretch_turned cd_Stretch_turned ct_Stretch_turned), sl_Stretch_turned⟩)
    (d_Stretch_turned : PySem.W.codeIn K cd_Stretch_turned "Stretch.turned" = true)
    (ma_Spread___init__ : PySem.W.findIn K (.ref C_Spread) "__init__" = some (some (.ref f_Spread___init__)))
    (mi_Spread___init__ : PySem.W.isFn K (.ref f_Spread___init__) = true)
    (mk_Spread___init__ : PySem.W.keepIn K (.ref f_Spread___init__) = true)
    (l_Spread___init__ : K.lookup f_Spread___init__ = some ⟨oc_Spread___init__, od_Spread___init__, .func (PySem.W.fnOf "__init__" "Spread.__init__" (defArgs s_Spread___init__) (defBody s_Spread___init__) (defScope s_Spread___init__) (.ref T_Spread___init__) kV_Spread___init__ dc_Spread___init__ pm_Spread___init__ an_Spread___init__ cd_Spread___init__ ct_Spread___init__), sl_Spread___init__⟩)
    (d_Spread___init__ : PySem.W.codeIn K cd_Spread___init__ "Spread.__init__" = true)
    (t_Spread___init__ : K.lookup T_Spread___init__ = some ⟨ocT_Spread___init__, odT_Spread___init__, .seq [Value.ref tk_Spread___init___0].toArray nT_Spread___init__, slT_Spread___init__⟩)
    (e0_Spread___init__ : K.lookup tk_Spread___init___0 = some ⟨.type "tuple", od0_Spread___init__, .seq #[] n0_Spread___init__, sl0_Spread___init__⟩)
    (ma_Spread___eq__ : PySem.W.findIn K (.ref C_Spread) "__eq__" = some (some (.ref f_Spread___eq__)))
    (mi_Spread___eq__ : PySem.W.isFn K (.ref f_Spread___eq__) = true)
    (mk_Spread___eq__ : PySem.W.keepIn K (.ref f_Spread___eq__) = true)
    (l_Spread___eq__ : K.lookup f_Spread___eq__ = some ⟨oc_Spread___eq__, od_Spread___eq__, .func (PySem.W.fnOf "__eq__" "Spread.__eq__" (defArgs s_Spread___eq__) (defBody s_Spread___eq__) (defScope s_Spread___eq__) .none kV_Spread___eq__ dc_Spread___eq__ pm_Spread___eq__ an_Spread___eq__ cd_Spread___eq__ ct_Spread___eq__), sl_Spread___eq__⟩)
    (d_Spread___eq__ : PySem.W.codeIn K cd_Spread___eq__ "Spread.__eq__" = true)
    (ma_Spread___le__ : PySem.W.findIn K (.ref C_Spread) "__le__" = some (some (.ref f_Spread___le__)))
    (mi_Spread___le__ : PySem.W.isFn K (.ref f_Spread___le__) = true)
    (mk_Spread___le__ : PySem.W.keepIn K (.ref f_Spread___le__) = true)
    (l_Spread___le__ : K.lookup f_Spread___le__ = some ⟨oc_Spread___le__, od_Spread___le__, .func (PySem.W.fnOf "__le__" "Spread.__le__" (defArgs s_Spread___le__) (defBody s_Spread___le__) (defScope s_Spread___le__) .none kV_Spread___le__ dc_Spread___le__ pm_Spread___le__ an_Spread___le__ cd_Spread___le__ ct_Spread___le__), sl_Spread___le__⟩)
    (d_Spread___le__ : PySem.W.codeIn K cd_Spread___le__ "Spread.__le__" = true)
    (ma_Spread___or__ : PySem.W.findIn K (.ref C_Spread) "__or__" = some (some (.ref f_Spread___or__)))
    (mi_Spread___or__ : PySem.W.isFn K (.ref f_Spread___or__) = true)
    (mk_Spread___or__ : PySem.W.keepIn K (.ref f_Spread___or__) = true)
    (l_Spread___or__ : K.lookup f_Spread___or__ = some ⟨oc_Spread___or__, od_Spread___or__, .func (PySem.W.fnOf "__or__" "Spread.__or__" (defArgs s_Spread___or__) (defBody s_Spread___or__) (defScope s_Spread___or__) .none kV_Spread___or__ dc_Spread___or__ pm_Spread___or__ an_Spread___or__ cd_Spread___or__ ct_Spread___or__), sl_Spread___or__⟩)
    (d_Spread___or__ : PySem.W.codeIn K cd_Spread___or__ "Spread.__or__" = true)
    (ma_Spread___and__ : PySem.W.findIn K (.ref C_Spread) "__and__" = some (some (.ref f_Spread___and__)))
    (mi_Spread___and__ : PySem.W.isFn K (.ref f_Spread___and__) = true)
    (mk_Spread___and__ : PySem.W.keepIn K (.ref f_Spread___and__) = true)
    (l_Spread___and__ : K.lookup f_Spread___and__ = some ⟨oc_Spread___and__, od_Spread___and__, .func (PySem.W.fnOf "__and__" "Spread.__and__" (defArgs s_Spread___and__) (defBody s_Spread___and__) (defScope s_Spread___and__) .none kV_Spread___and__ dc_Spread___and__ pm_Spread___and__ an_Spread___and__ cd_Spread___and__ ct_Spread___and__), sl_Spread___and__⟩)
    (d_Spread___and__ : PySem.W.codeIn K cd_Spread___and__ "Spread.__and__" = true)
    (ma_Spread___sub__ : PySem.W.findIn K (.ref C_Spread) "__sub__" = some (some (.ref f_Spread___sub__)))
    (mi_Spread___sub__ : PySem.W.isFn K (.ref f_Spread___sub__) = true)
    (mk_Spread___sub__ : PySem.W.keepIn K (.ref f_Spread___sub__) = true)
    (l_Spread___sub__ : K.lookup f_Spread___sub__ = some ⟨oc_Spread___sub__, od_Spread___sub__, .func (PySem.W.fnOf "__sub__" "Spread.__sub__" (defArgs s_Spread___sub__) (defBody s_Spread___sub__) (defScope s_Spread___sub__) .none kV_Spread___sub__ dc_Spread___sub__ pm_Spread___sub__ an_Spread___sub__ cd_Spread___sub__ ct_Spread___sub__), sl_Spread___sub__⟩)
    (d_Spread___sub__ : PySem.W.codeIn K cd_Spread___sub__ "Spread.__sub__" = true)
    (ma_Spread_told : PySem.W.findIn K (.ref C_Spread) "told" = some (some (.ref f_Spread_told)))
    (mi_Spread_told : PySem.W.isFn K (.ref f_Spread_told) = true)
    (mk_Spread_told : PySem.W.keepIn K (.ref f_Spread_told) = true)
    (l_Spread_told : K.lookup f_Spread_told = some ⟨oc_Spread_told, od_Spread_told, .func (PySem.W.fnOf "told" "Spread.told" (defArgs s_Spread_told) (defBody s_Spread_told) (defScope s_Spread_told) .none kV_Spread_told dc_Spread_told pm_Spread_told an_Spread_told cd_Spread_told ct_Spread_told), sl_Spread_told⟩)
    (d_Spread_told : PySem.W.codeIn K cd_Spread_told "Spread.told" = true)
    (ma_Spread_all_but : PySem.W.findIn K (.ref C_Spread) "all_but" = some (some (.ref f_Spread_all_but)))
    (mi_Spread_all_but : PySem.W.isFn K (.ref f_Spread_all_but) = true)
    (mk_Spread_all_but : PySem.W.keepIn K (.ref f_Spread_all_but) = true)
    (l_Spread_all_but : K.lookup f_Spread_all_but = some ⟨oc_Spread_all_but, od_Spread_all_but, .func (PySem.W.fnOf "all_but" "Spread.all_but" (defArgs s_Spread_all_but) (defBody s_Spread_all_but) (defScope s_Spread_all_but) .none kV_Spread_all_but dc_Spread_all_but pm_Spread_all_but an_Spread_all_but cd_Spread_all_but ct_Spread_all_but), sl_Spread_all_but⟩)
    (d_Spread_all_but : PySem.W.codeIn K cd_Spread_all_but "Spread.all_but" = true)
    (ma_Spread_holds : PySem.W.findIn K (.ref C_Spread) "holds" = some (some (.ref f_Spread_holds)))
    (mi_Spread_holds : PySem.W.isFn K (.ref f_Spread_holds) = true)
    (mk_Spread_holds : PySem.W.keepIn K (.ref f_Spread_holds) = true)
    (l_Spread_holds : K.lookup f_Spread_holds = some ⟨oc_Spread_holds, od_Spread_holds, .func (PySem.W.fnOf "holds" "Spread.holds" (defArgs s_Spread_holds) (defBody s_Spread_holds) (defScope s_Spread_holds) .none kV_Spread_holds dc_Spread_holds pm_Spread_holds an_Spread_holds cd_Spread_holds ct_Spread_holds), sl_Spread_holds⟩)
    (d_Spread_holds : PySem.W.codeIn K cd_Spread_holds "Spread.holds" = true)
    (ma_Spread_is_endless : PySem.W.findIn K (.ref C_Spread) "is_endless" = some (some (.ref f_Spread_is_endless)))
    (mi_Spread_is_endless : PySem.W.isFn K (.ref f_Spread_is_endless) = true)
    (mk_Spread_is_endless : PySem.W.keepIn K (.ref f_Spread_is_endless) = true)
    (l_Spread_is_endless : K.lookup f_Spread_is_endless = some ⟨oc_Spread_is_endless, od_Spread_is_endless, .func (PySem.W.fnOf "is_endless" "Spread.is_endless" (defArgs s_Spread_is_endless) (defBody s_Spread_is_endless) (defScope s_Spread_is_endless) .none kV_Spread_is_endless dc_Spread_is_endless pm_Spread_is_endless an_Spread_is_endless cd_Spread_is_endless ct_Spread_is_endless), sl_Spread_is_endless⟩)
    (d_Spread_is_endless : PySem.W.codeIn K cd_Spread_is_endless "Spread.is_endless" = true)
    (ma_Spread_moved : PySem.W.findIn K (.ref C_Spread) "moved" = some (some (.ref f_Spread_moved)))
    (mi_Spread_moved : PySem.W.isFn K (.ref f_Spread_moved) = true)
    (mk_Spread_moved : PySem.W.keepIn K (.ref f_Spread_moved) = true)
    (l_Spread_moved : K.lookup f_Spread_moved = some ⟨oc_Spread_moved, od_Spread_moved, .func (PySem.W.fnOf "moved" "Spread.moved" (defArgs s_Spread_moved) (defBody s_Spread_moved) (defScope s_Spread_moved) .none kV_Spread_moved dc_Spread_moved pm_Spread_moved an_Spread_moved cd_Spread_moved ct_Spread_moved), sl_Spread_moved⟩)
    (d_Spread_moved : PySem.W.codeIn K cd_Spread_moved "Spread.moved" = true)
    (ma_Spread_turned : PySem.W.findIn K (.ref C_Spread) "turned" = some (some (.ref f_Spread_turned)))
    (mi_Spread_turned : PySem.W.isFn K (.ref f_Spread_turned) = true)
    (mk_Spread_turned : PySem.W.keepIn K (.ref f_Spread_turned) = true)
    (l_Spread_turned : K.lookup f_Spread_turned = some ⟨oc_Spread_turned, od_Spread_turned, .func (PySem.W.fnOf "turned" "Spread.turned" (defArgs s_Spread_turned) (defBody s_Spread_turned) (defScope s_Spread_turned) .none kV_Spread_turned dc_Spread_turned pm_Spread_turned an_Spread_turned cd_Spread_turned ct_Spread_turned), sl_Spread_turned⟩)
    (d_Spread_turned : PySem.W.codeIn K cd_Spread_turned "Spread.turned" = true)
    (ma_Spread_bounds : PySem.W.findIn K (.ref C_Spread) "bounds" = some (some (.ref f_Spread_bounds)))
    (mi_Spread_bounds : PySem.W.isFn K (.ref f_Spread_bounds) = true)
    (mk_Spread_bounds : PySem.W.keepIn K (.ref f_Spread_bounds) = true)
    (l_Spread_bounds : K.lookup f_Spread_bounds = some ⟨oc_Spread_bounds, od_Spread_bounds, .func (PySem.W.fnOf "bounds" "Spread.bounds" (defArgs s_Spread_bounds) (defBody s_Spread_bounds) (defScope s_Spread_bounds) .none kV_Spread_bounds dc_Spread_bounds pm_Spread_bounds an_Spread_bounds cd_Spread_bounds ct_Spread_bounds), sl_Spread_bounds⟩)
    (d_Spread_bounds : PySem.W.codeIn K cd_Spread_bounds "Spread.bounds" = true)
    (xa_BadNumber : PySem.W.nsIn K mainGlobals "BadNumber" = some (some (.ref C_BadNumber)))
    (xl_BadNumber : K.lookup C_BadNumber = some (excClassObj nm_BadNumber q_BadNumber C_BadNumber N_BadNumber bs_BadNumber bm_BadNumber true sn_BadNumber sub_BadNumber ab_BadNumber col_BadNumber dd_BadNumber m0_BadNumber m1_BadNumber m2_BadNumber m3_BadNumber m5_BadNumber "ValueError.__new__"))
    (xr_BadNumber : PySem.HandSPX.refsVE bm_BadNumber = true)
    (xs_BadNumber : PySem.W.findIn K (.ref C_BadNumber) "__setattr__" = some (some (.builtin "object.__setattr__")))
    (xe_BadNumber : PySem.W.subIn K (.ref C_BadNumber) (.type "BaseException") = some true)
    (xt_BadNumber : PySem.W.typeIn K (.ref C_BadNumber) = some (.type "type"))
    (xk_BadNumber : PySem.W.keepIn K (.ref C_BadNumber) = true)
    (xg_BadNumber : PySem.W.findIn K (.ref C_BadNumber) "__getattribute__" = some (some (.builtin "BaseException.__getattribute__")))
    (xG_BadNumber : PySem.W.findIn K (.ref C_BadNumber) "__getattr__" = some none)
    (xd_BadNumber : PySem.W.hasDictIn K C_BadNumber = true)
    (xn_BadNumber : PySem.W.findIn K (.ref C_BadNumber) "number" = some none)
    (xi_BadNumber : PySem.W.findIn K (.ref C_BadNumber) "__init__" = some (some (.ref fi_BadNumber)))
    (xf_BadNumber : PySem.W.typeIn K (.ref fi_BadNumber) = some (.type "function"))
    (xL_BadNumber : K.lookup fi_BadNumber = some ⟨ocx_BadNumber, odx_BadNumber, .func (PySem.W.fnOf "__init__" "BadNumber.__init__" (defArgs s_BadNumber___init__) (defBody s_BadNumber___init__) (defScope s_BadNumber___init__) .none kVx_BadNumber dcx_BadNumber pmx_BadNumber anx_BadNumber cdx_BadNumber ctx_BadNumber), slx_BadNumber⟩)
    (xc_BadNumber : PySem.W.codeIn K cdx_BadNumber "BadNumber.__init__" = true)
    (xK_BadNumber : PySem.W.keepIn K (.ref fi_BadNumber) = true)
    (yc_BadNumber : (PySem.W.clsIn K C_BadNumber).isSome = true)
    (ya_BadNumber : PySem.W.findIn K (.ref C_BadNumber) "__class__" = some (some (.builtin "object.__class__")))
    (ym_BadNumber : PySem.W.mroIn K C_BadNumber (.type "object") = some true)
    (xa_BadPart : PySem.W.nsIn K mainGlobals "BadPart" = some (some (.ref C_BadPart)))
    (xl_BadPart : K.lookup C_BadPart = some (excClassObj nm_BadPart q_BadPart C_BadPart N_BadPart bs_BadPart bm_BadPart true sn_BadPart sub_BadPart ab_BadPart col_BadPart dd_BadPart m0_BadPart m1_BadPart m2_BadPart m3_BadPart m5_BadPart "ValueError.__new__"))
    (xr_BadPart : PySem.HandSPX.refsVE bm_BadPart = true)
    (xs_BadPart : PySem.W.findIn K (.ref C_BadPart) "__setattr__" = some (some (.builtin "object.__setattr__")))
    (xe_BadPart : PySem.W.subIn K (.ref C_BadPart) (.type "BaseException") = some true)
    (xt_BadPart : PySem.W.typeIn K (.ref C_BadPart) = some (.type "type"))
    (xk_BadPart : PySem.W.keepIn K (.ref C_BadPart) = true)
    (xg_BadPart : PySem.W.findIn K (.ref C_BadPart) "__getattribute__" = some (some (.builtin "BaseException.__getattribute__")))
    (xG_BadPart : PySem.W.findIn K (.ref C_BadPart) "__getattr__" = some none)
    (xd_BadPart : PySem.W.hasDictIn K C_BadPart = true)
    (xn_BadPart : PySem.W.findIn K (.ref C_BadPart) "part" = some none)
    (xi_BadPart : PySem.W.findIn K (.ref C_BadPart) "__init__" = some (some (.ref fi_BadPart)))
    (xf_BadPart : PySem.W.typeIn K (.ref fi_BadPart) = some (.type "function"))
    (xL_BadPart : K.lookup fi_BadPart = some ⟨ocx_BadPart, odx_BadPart, .func (PySem.W.fnOf "__init__" "BadPart.__init__" (defArgs s_BadPart___init__) (defBody s_BadPart___init__) (defScope s_BadPart___init__) .none kVx_BadPart dcx_BadPart pmx_BadPart anx_BadPart cdx_BadPart ctx_BadPart), slx_BadPart⟩)
    (xc_BadPart : PySem.W.codeIn K cdx_BadPart "BadPart.__init__" = true)
    (xK_BadPart : PySem.W.keepIn K (.ref fi_BadPart) = true)
    (yc_BadPart : (PySem.W.clsIn K C_BadPart).isSome = true)
    (ya_BadPart : PySem.W.findIn K (.ref C_BadPart) "__class__" = some (some (.builtin "object.__class__")))
    (ym_BadPart : PySem.W.mroIn K C_BadPart (.type "object") = some true)
    (xa_BadIndex : PySem.W.nsIn K mainGlobals "BadIndex" = some (some (.ref C_BadIndex)))
    (xl_BadIndex : K.lookup C_BadIndex = some (excClassObj nm_BadIndex q_BadIndex C_BadIndex N_BadIndex bs_BadIndex bm_BadIndex true sn_BadIndex sub_BadIndex ab_BadIndex col_BadIndex dd_BadIndex m0_BadIndex m1_BadIndex m2_BadIndex m3_BadIndex m5_BadIndex "ValueError.__new__"))
    (xr_BadIndex : PySem.HandSPX.refsVE bm_BadIndex = true)
    (xs_BadIndex : PySem.W.findIn K (.ref C_BadIndex) "__setattr__" = some (some (.builtin "object.__setattr__")))
    (xe_BadIndex : PySem.W.subIn K (.ref C_BadIndex) (.type "BaseException") = some true)
    (xt_BadIndex : PySem.W.typeIn K (.ref C_BadIndex) = some (.type "type"))
    (xk_BadIndex : PySem.W.keepIn K (.ref C_BadIndex) = true)
    (xg_BadIndex : PySem.W.findIn K (.ref C_BadIndex) "__getattribute__" = some (some (.builtin "BaseException.__getattribute__")))
    (xG_BadIndex : PySem.W.findIn K (.ref C_BadIndex) "__getattr__" = some none)
    (xd_BadIndex : PySem.W.hasDictIn K C_BadIndex = true)
    (xn_BadIndex : PySem.W.findIn K (.ref C_BadIndex) "index" = some none)
    (xi_BadIndex : PySem.W.findIn K (.ref C_BadIndex) "__init__" = some (some (.ref fi_BadIndex)))
    (xf_BadIndex : PySem.W.typeIn K (.ref fi_BadIndex) = some (.type "function"))
    (xL_BadIndex : K.lookup fi_BadIndex = some ⟨ocx_BadIndex, odx_BadIndex, .func (PySem.W.fnOf "__init__" "BadIndex.__init__" (defArgs s_BadIndex___init__) (defBody s_BadIndex___init__) (defScope s_BadIndex___init__) .none kVx_BadIndex dcx_BadIndex pmx_BadIndex anx_BadIndex cdx_BadIndex ctx_BadIndex), slx_BadIndex⟩)
    (xc_BadIndex : PySem.W.codeIn K cdx_BadIndex "BadIndex.__init__" = true)
    (xK_BadIndex : PySem.W.keepIn K (.ref fi_BadIndex) = true)
    (yc_BadIndex : (PySem.W.clsIn K C_BadIndex).isSome = true)
    (ya_BadIndex : PySem.W.findIn K (.ref C_BadIndex) "__class__" = some (some (.builtin "object.__class__")))
    (ym_BadIndex : PySem.W.mroIn K C_BadIndex (.type "object") = some true)
    (yn : PySem.W.specialIn K (.builtin "object.__class__") "__get__" = some (some (.builtin "getset_descriptor.__get__")))
    (yt : PySem.W.takesIn K (.builtin "object.__class__") = some true)
    (eN : PySem.W.exmOne K (.ref C_BadNumber) (.ref C_BadNumber) = some true)
    (sf_Spread : PySem.W.selfFirst K C_Spread = true)
    (ne_Spread : PySem.W.findIn K (.ref C_Spread) "__ne__" = some (some (.builtin "object.__ne__")))
    (z_isinstance : PySem.W.nsIn K mainGlobals "isinstance" = some none)
    (z_int : PySem.W.nsIn K mainGlobals "int" = some none)
    (z_bool : PySem.W.nsIn K mainGlobals "bool" = some none)
    (z_tuple : PySem.W.nsIn K mainGlobals "tuple" = some none)
    (z_len : PySem.W.nsIn K mainGlobals "len" = some none)
    (z_abs : PySem.W.nsIn K mainGlobals "abs" = some none)
    (z_list : PySem.W.nsIn K mainGlobals "list" = some none)
    (z_range : PySem.W.nsIn K mainGlobals "range" = some none)
    (z_repr : PySem.W.nsIn K mainGlobals "repr" = some none)
    (z_max : PySem.W.nsIn K mainGlobals "max" = some none)
    (z_min : PySem.W.nsIn K mainGlobals "min" = some none)
    (z_sorted : PySem.W.nsIn K mainGlobals "sorted" = some none)
    (z_enumerate : PySem.W.nsIn K mainGlobals "enumerate" = some none)
    (z_any : PySem.W.nsIn K mainGlobals "any" = some none)
    (z_sum : PySem.W.nsIn K mainGlobals "sum" = some none)
    (z_zip : PySem.W.nsIn K mainGlobals "zip" = some none) : Txt K mg :=
  { d_is_whole := ⟨_, _, PySem.W.mg_of X G a_is_whole, fun_mk (st := s_is_whole) l_is_whole d_is_whole k_is_whole⟩,
    d_is_from := ⟨_, _, PySem.W.mg_of X G a_is_from, fun_mk (st := s_is_from) l_is_from d_is_from k_is_from⟩,
    d_is_row := ⟨_, _, PySem.W.mg_of X G a_is_row, fun_mk (st := s_is_row) l_is_row d_is_row k_is_row⟩,
    d_is_span := ⟨_, _, PySem.W.mg_of X G a_is_span, fun_mk (st := s_is_span) l_is_span d_is_span k_is_span⟩,
    d_require_whole := ⟨_, _, PySem.W.mg_of X G a_require_whole, fun_mk (st := s_require_whole) l_require_whole d_require_whole k_require_whole⟩,
    d_require_from := ⟨_, _, PySem.W.mg_of X G a_require_from, fun_mk (st := s_require_from) l_require_from d_require_from k_require_from⟩,
    d__greater_high := ⟨_, _, PySem.W.mg_of X G a__greater_high, fun_mk (st := s__greater_high) l__greater_high d__greater_high k__greater_high⟩,
    d__told_row := ⟨_, _, PySem.W.mg_of X G a__told_row, fun_mk (st := s__told_row) l__told_row d__told_row k__told_row⟩,
    d__pairs_by_low := ⟨_, _, PySem.W.mg_of X G a__pairs_by_low, fun_mk (st := s__pairs_by_low) l__pairs_by_low d__pairs_by_low k__pairs_by_low⟩,
    d__law_draw := ⟨_, _, PySem.W.mg_of X G a__law_draw, fun_mk (st := s__law_draw) l__law_draw d__law_draw k__law_draw⟩,
    d__law_number := ⟨_, _, PySem.W.mg_of X G a__law_number, fun_mk (st := s__law_number) l__law_number d__law_number k__law_number⟩,
    d__law_ends := ⟨_, _, PySem.W.mg_of X G a__law_ends, fun_mk (st := s__law_ends) l__law_ends d__law_ends k__law_ends⟩,
    d__law_has := ⟨_, _, PySem.W.mg_of X G a__law_has, fun_mk (st := s__law_has) l__law_has d__law_has k__law_has⟩,
    d__law_points := ⟨_, _, PySem.W.mg_of X G a__law_points, fun_mk (st := s__law_points) l__law_points d__law_points k__law_points⟩,
    d__law_told := ⟨_, _, PySem.W.mg_of X G a__law_told, fun_mk (st := s__law_told) l__law_told d__law_told k__law_told⟩,
    d__law_some := ⟨_, _, PySem.W.mg_of X G a__law_some, fun_mk (st := s__law_some) l__law_some d__law_some k__law_some⟩,
    d__law_spread := ⟨_, _, PySem.W.mg_of X G a__law_spread, fun_mk (st := s__law_spread) l__law_spread d__law_spread k__law_spread⟩,
    d__law_row_right := ⟨_, _, PySem.W.mg_of X G a__law_row_right, fun_mk (st := s__law_row_right) l__law_row_right d__law_row_right k__law_row_right⟩,
    d__law_same := ⟨_, _, PySem.W.mg_of X G a__law_same, fun_mk (st := s__law_same) l__law_same d__law_same k__law_same⟩,
    d__law_odd_right := ⟨_, _, PySem.W.mg_of X G a__law_odd_right, fun_mk (st := s__law_odd_right) l__law_odd_right d__law_odd_right k__law_odd_right⟩,
    lam_law := lamf_mk X G a_law l_law d_law k_law t_law,
    ci_Stretch := by rw [ga_of xa_Stretch]; exact ⟨⟨pg_Stretch, hd_Stretch, po_Stretch, sa_Stretch⟩, ya_Stretch, yn, yt, ym_Stretch⟩,
    c_Stretch := by rw [ga_of xa_Stretch]; exact ⟨pg_Stretch, hd_Stretch, po_Stretch, sa_Stretch⟩,
    g_Stretch := by rw [ga_of xa_Stretch]; exact PySem.W.mg_of X G xa_Stretch,
    na_Stretch_low := by rw [ga_of xa_Stretch]; exact na_Stretch_low,
    na_Stretch_high := by rw [ga_of xa_Stretch]; exact na_Stretch_high,
    ci_Spread := by rw [ga_of xa_Spread]; exact ⟨⟨pg_Spread, hd_Spread, po_Spread, sa_Spread⟩, ya_Spread, yn, yt, ym_Spread⟩,
    c_Spread := by rw [ga_of xa_Spread]; exact ⟨pg_Spread, hd_Spread, po_Spread, sa_Spread⟩,
    g_Spread := by rw [ga_of xa_Spread]; exact PySem.W.mg_of X G xa_Spread,
    na_Spread__row := by rw [ga_of xa_Spread]; exact na_Spread__row,
    d_Stretch___init__ := by rw [ga_of xa_Stretch]; exact ⟨_, _, ⟨mm_Stretch, ma_Stretch___init__, mi_Stretch___init__, kc_Stretch⟩, ⟨⟨_, _, _, _, _, _, _, _, _, _, rfl, l_Stretch___init__, d_Stretch___init__, .inr ⟨by simp, _, _, _, _, rfl, t_Stretch___init__, rfl, .cons (rfl) (.cons (rfl) (.nil))⟩, .inl rfl⟩, mk_Stretch___init__⟩⟩,
    d_Stretch___eq__ := by rw [ga_of xa_Stretch]; exact ⟨_, _, ⟨ma_Stretch___eq__, mi_Stretch___eq__, mk_Stretch___eq__⟩, ⟨⟨_, _, _, _, _, _, _, _, _, _, rfl, l_Stretch___eq__, d_Stretch___eq__, .inl ⟨rfl, rfl⟩, .inl rfl⟩, mk_Stretch___eq__⟩⟩,
    d_Stretch_holds := by rw [ga_of xa_Stretch]; exact ⟨_, _, ⟨ma_Stretch_holds, mi_Stretch_holds, mk_Stretch_holds⟩, ⟨⟨_, _, _, _, _, _, _, _, _, _, rfl, l_Stretch_holds, d_Stretch_holds, .inl ⟨rfl, rfl⟩, .inl rfl⟩, mk_Stretch_holds⟩⟩,
    d_Stretch_moved := by rw [ga_of xa_Stretch]; exact ⟨_, _, ⟨ma_Stretch_moved, mi_Stretch_moved, mk_Stretch_moved⟩, ⟨⟨_, _, _, _, _, _, _, _, _, _, rfl, l_Stretch_moved, d_Stretch_moved, .inl ⟨rfl, rfl⟩, .inl rfl⟩, mk_Stretch_moved⟩⟩,
    d_Stretch_turned := by rw [ga_of xa_Stretch]; exact ⟨_, _, ⟨ma_Stretch_turned, mi_Stretch_turned, mk_Stretch_turned⟩, ⟨⟨_, _, _, _, _, _, _, _, _, _, rfl, l_Stretch_turned, d_Stretch_turned, .inl ⟨rfl, rfl⟩, .inl rfl⟩, mk_Stretch_turned⟩⟩,
    d_Spread___init__ := by rw [ga_of xa_Spread]; exact ⟨_, _, _, ⟨mm_Spread, ma_Spread___init__, mi_Spread___init__, kc_Spread⟩, ⟨⟨_, _, _, _, _, _, _, _, _, _, rfl, l_Spread___init__, d_Spread___init__, .inr ⟨by simp, _, _, _, _, rfl, t_Spread___init__, rfl, .cons (rfl) (.nil)⟩, .inl rfl⟩, mk_Spread___init__⟩, ⟨_, _, e0_Spread___init__, rfl, rfl⟩⟩,
    d_Spread___eq__ := by rw [ga_of xa_Spread]; exact ⟨_, _, ⟨ma_Spread___eq__, mi_Spread___eq__, mk_Spread___eq__⟩, ⟨⟨_, _, _, _, _, _, _, _, _, _, rfl, l_Spread___eq__, d_Spread___eq__, .inl ⟨rfl, rfl⟩, .inl rfl⟩, mk_Spread___eq__⟩⟩,
    d_Spread___le__ := by rw [ga_of xa_Spread]; exact ⟨_, _, ⟨ma_Spread___le__, mi_Spread___le__, mk_Spread___le__⟩, ⟨⟨_, _, _, _, _, _, _, _, _, _, rfl, l_Spread___le__, d_Spread___le__, .inl ⟨rfl, rfl⟩, .inl rfl⟩, mk_Spread___le__⟩⟩,
    d_Spread___or__ := by rw [ga_of xa_Spread]; exact ⟨_, _, ⟨ma_Spread___or__, mi_Spread___or__, mk_Spread___or__⟩, ⟨⟨_, _, _, _, _, _, _, _, _, _, rfl, l_Spread___or__, d_Spread___or__, .inl ⟨rfl, rfl⟩, .inl rfl⟩, mk_Spread___or__⟩⟩,
    d_Spread___and__ := by rw [ga_of xa_Spread]; exact ⟨_, _, ⟨ma_Spread___and__, mi_Spread___and__, mk_Spread___and__⟩, ⟨⟨_, _, _, _, _, _, _, _, _, _, rfl, l_Spread___and__, d_Spread___and__, .inl ⟨rfl, rfl⟩, .inl rfl⟩, mk_Spread___and__⟩⟩,
    d_Spread___sub__ := by rw [ga_of xa_Spread]; exact ⟨_, _, ⟨ma_Spread___sub__, mi_Spread___sub__, mk_Spread___sub__⟩, ⟨⟨_, _, _, _, _, _, _, _, _, _, rfl, l_Spread___sub__, d_Spread___sub__, .inl ⟨rfl, rfl⟩, .inl rfl⟩, mk_Spread___sub__⟩⟩,
    d_Spread_told := by rw [ga_of xa_Spread]; exact ⟨_, _, ⟨ma_Spread_told, mi_Spread_told, mk_Spread_told⟩, ⟨⟨_, _, _, _, _, _, _, _, _, _, rfl, l_Spread_told, d_Spread_told, .inl ⟨rfl, rfl⟩, .inl rfl⟩, mk_Spread_told⟩⟩,
    d_Spread_all_but := by rw [ga_of xa_Spread]; exact ⟨_, _, ⟨ma_Spread_all_but, mi_Spread_all_but, mk_Spread_all_but⟩, ⟨⟨_, _, _, _, _, _, _, _, _, _, rfl, l_Spread_all_but, d_Spread_all_but, .inl ⟨rfl, rfl⟩, .inl rfl⟩, mk_Spread_all_but⟩⟩,
    d_Spread_holds := by rw [ga_of xa_Spread]; exact ⟨_, _, ⟨ma_Spread_holds, mi_Spread_holds, mk_Spread_holds⟩, ⟨⟨_, _, _, _, _, _, _, _, _, _, rfl, l_Spread_holds, d_Spread_holds, .inl ⟨rfl, rfl⟩, .inl rfl⟩, mk_Spread_holds⟩⟩,
    d_Spread_is_endless := by rw [ga_of xa_Spread]; exact ⟨_, _, ⟨ma_Spread_is_endless, mi_Spread_is_endless, mk_Spread_is_endless⟩, ⟨⟨_, _, _, _, _, _, _, _, _, _, rfl, l_Spread_is_endless, d_Spread_is_endless, .inl ⟨rfl, rfl⟩, .inl rfl⟩, mk_Spread_is_endless⟩⟩,
    d_Spread_moved := by rw [ga_of xa_Spread]; exact ⟨_, _, ⟨ma_Spread_moved, mi_Spread_moved, mk_Spread_moved⟩, ⟨⟨_, _, _, _, _, _, _, _, _, _, rfl, l_Spread_moved, d_Spread_moved, .inl ⟨rfl, rfl⟩, .inl rfl⟩, mk_Spread_moved⟩⟩,
    d_Spread_turned := by rw [ga_of xa_Spread]; exact ⟨_, _, ⟨ma_Spread_turned, mi_Spread_turned, mk_Spread_turned⟩, ⟨⟨_, _, _, _, _, _, _, _, _, _, rfl, l_Spread_turned, d_Spread_turned, .inl ⟨rfl, rfl⟩, .inl rfl⟩, mk_Spread_turned⟩⟩,
    d_Spread_bounds := by rw [ga_of xa_Spread]; exact ⟨_, _, ⟨ma_Spread_bounds, mi_Spread_bounds, mk_Spread_bounds⟩, ⟨⟨_, _, _, _, _, _, _, _, _, _, rfl, l_Spread_bounds, d_Spread_bounds, .inl ⟨rfl, rfl⟩, .inl rfl⟩, mk_Spread_bounds⟩⟩,
    x_BadNumber := ext_mk (st := s_BadNumber___init__) X G xa_BadNumber xl_BadNumber xr_BadNumber xs_BadNumber xe_BadNumber xt_BadNumber xk_BadNumber xg_BadNumber xG_BadNumber xd_BadNumber xn_BadNumber xi_BadNumber xf_BadNumber xL_BadNumber xc_BadNumber xK_BadNumber sc_BadNumber___init__ rfl (fun _ _ _ _ _ _ us hl => match us, hl with | [_, _], _ => rfl),
    x_BadPart := ext_mk (st := s_BadPart___init__) X G xa_BadPart xl_BadPart xr_BadPart xs_BadPart xe_BadPart xt_BadPart xk_BadPart xg_BadPart xG_BadPart xd_BadPart xn_BadPart xi_BadPart xf_BadPart xL_BadPart xc_BadPart xK_BadPart sc_BadPart___init__ rfl (fun _ _ _ _ _ _ us hl => match us, hl with | [_, _], _ => rfl),
    x_BadIndex := ext_mk (st := s_BadIndex___init__) X G xa_BadIndex xl_BadIndex xr_BadIndex xs_BadIndex xe_BadIndex xt_BadIndex xk_BadIndex xg_BadIndex xG_BadIndex xd_BadIndex xn_BadIndex xi_BadIndex xf_BadIndex xL_BadIndex xc_BadIndex xK_BadIndex sc_BadIndex___init__ rfl (fun _ _ _ _ _ _ us hl => match us, hl with | [_, _], _ => rfl),
    sf_Spread := by rw [ga_of xa_Spread]; exact sf_Spread,
    ne_Spread := by rw [ga_of xa_Spread]; exact ne_Spread,
    mN := by rw [ga_of xa_BadNumber]; exact eN,
    m_isinstance := PySem.W.mg_none_of X G z_isinstance,
    m_int := PySem.W.mg_none_of X G z_int,
    m_bool := PySem.W.mg_none_of X G z_bool,
    m_tuple := PySem.W.mg_none_of X G z_tuple,
    m_len := PySem.W.mg_none_of X G z_len,
    m_abs := PySem.W.mg_none_of X G z_abs,
    m_list := PySem.W.mg_none_of X G z_list,
    m_range := PySem.W.mg_none_of X G z_range,
    m_repr := PySem.W.mg_none_of X G z_repr,
    m_max := PySem.W.mg_none_of X G z_max,
    m_min := PySem.W.mg_none_of X G z_min,
    m_sorted := PySem.W.mg_none_of X G z_sorted,
    m_enumerate := PySem.W.mg_none_of X G z_enumerate,
    m_any := PySem.W.mg_none_of X G z_any,
    m_sum := PySem.W.mg_none_of X G z_sum,
    m_zip := PySem.W.mg_none_of X G z_zip }
open LamX
theorem law_at {l : PySem.W.OpenLaw} {h : Heap} {fa c P0 : Addr} (X : K.In h) (hmg : mg "law" = some (.ref fa)) (T : Txt K mg) (ht : PySem.W.tabIn K "law" = some (c, P0)) (hc : PySem.W.codeHdIn K c P0 = true) (hP : h.get? P0 = some (PySem.W.tabObj #[])) (hn : K.lookup P0 = none) :
    LawAtS l w K (L2.CX l.prog w) 17 63 "_law_script" mg fa h := by
  obtain ⟨f, oc, od, kV, doc, pm, an, ct, osl, g, kp, lk, hcd⟩ := T.lam_law.ex
  have e : f = fa := by
    have h1 : some (Value.ref f) = some (Value.ref fa) := g.symm.trans hmg
    injection h1 with h2
    injection h2
  subst e
  have e1 : cOf K "law" = c := by unfold cOf; rw [ht]; rfl
  have e2 : pOf K "law" = P0 := by unfold pOf; rw [ht]; rfl
  have one : ∀ {R : Addr × Addr → Prop}, R (c, P0) → ∀ p ∈ [(c, P0)], R p := fun r0 p hp => by rw [List.mem_singleton.mp hp]; exact r0
  refine ⟨PySem.W.fnOf "law" "law" (defArgs s_law) (defBody s_law) (defScope s_law) .none kV doc pm an (.ref (cOf K "law")) ct, [(c, P0)], spLaw K, one hP, one hn, one (PySem.W.codeHd_of_K X hc), fun s u => .of_eq rfl, ?_, ?_⟩
  · intro H a ns hl _ hT hS
    refine ⟨a, rfl, ns, hS, hl, ?_, fun _ => rfl⟩
    intro p hp
    rw [List.mem_singleton.mp hp, e2]
    exact TabS.nil (hT _ (List.mem_singleton.mpr rfl))
  · intro base kb nb hTB
    refine fn_of lk hcd sc_law (fun vs H Q E h => by obtain ⟨_, rfl, _⟩ := h; rfl) fun A outer s H vs Q E hr hsp => o_law T ?_ f A outer s H vs Q E hr hsp
    rw [e1, e2]; exact hTB _ (List.mem_singleton.mpr rfl)
end
end Iz
/-! k04_end -/
set_option Elab.async false
set_option linter.all false
open PySem PySem.W PyProof.Rows
set_option maxRecDepth 100000 in
set_option maxHeartbeats 0 in
theorem PySem.Challenge.cw_endlessplane_k04_whole_spreads_put_toget_holds : PySem.Challenge.rw_endlessplane_k04_whole_spreads_put_toget.Holds := by
  w_on; o_law; k_head; (case hw => w_witness2)
  k_fill
  refine LamX.walk_ofTs (l := PySem.Challenge.rw_endlessplane_k04_whole_spreads_put_toget) (n := 63) (k := 17) (x := "_law_script") (CX := fun w => L2.CX PySem.Challenge.rw_endlessplane_k04_whole_spreads_put_toget.prog w) rfl (by decide) rfl ⟨rfl, by decide, by decide⟩ (fun w h Y => PySem.W.km_in_of Y) ?F ?X
  case X =>
    intro w H s e s' hx
    obtain ⟨_, _, _, _, _, _, _, _, _, _, _, _, z⟩ := hx
    exact z.elim
  case F =>
    intro w mg fa h Y KX G hmg
    refine' Iz.law_at KX hmg (Iz.txt_mk KX G ?a_is_whole ?l_is_whole ?d_is_whole ?k_is_whole ?a_is_from ?l_is_from ?d_is_from ?k_is_from ?a_is_row ?l_is_row ?d_is_row ?k_is_row ?a_is_span ?l_is_span ?d_is_span ?k_is_span ?a_require_whole ?l_require_whole ?d_require_whole ?k_require_whole ?a_require_from ?l_require_from ?d_require_from ?k_require_from ?a__greater_high ?l__greater_high ?d__greater_high ?k__greater_high ?a__told_row ?l__told_row ?d__told_row ?k__told_row ?a__pairs_by_low ?l__pairs_by_low ?d__pairs_by_low ?k__pairs_by_low ?a__law_draw ?l__law_draw ?d__law_draw ?k__law_draw ?a__law_number ?l__law_number ?d__law_number ?k__law_number ?a__law_ends ?l__law_ends ?d__law_ends ?k__law_ends ?a__law_has ?l__law_has ?d__law_has ?k__law_has ?a__law_points ?l__law_points ?d__law_points ?k__law_points ?a__law_told ?l__law_told ?d__law_told ?k__law_told ?a__law_some ?l__law_some ?d__law_some ?k__law_some ?a__law_spread ?l__law_spread ?d__law_spread ?k__law_spread ?a__law_row_right ?l__law_row_right ?d__law_row_right ?k__law_row_right ?a__law_same ?l__law_same ?d__law_same ?k__law_same ?a__law_odd_right ?l__law_odd_right ?d__law_odd_right ?k__law_odd_right ?a_law ?l_law ?d_law ?k_law ?t_law ?xa_Stretch ?pg_Stretch ?hd_Stretch ?po_Stretch ?sa_Stretch ?mm_Stretch ?kc_Stretch ?ya_Stretch ?ym_Stretch ?na_Stretch_low ?na_Stretch_high ?xa_Spread ?pg_Spread ?hd_Spread ?po_Spread ?sa_Spread ?mm_Spread ?kc_Spread ?ya_Spread ?ym_Spread ?na_Spread__row ?ma_Stretch___init__ ?mi_Stretch___init__ ?mk_Stretch___init__ ?l_Stretch___init__ ?d_Stretch___init__ ?t_Stretch___init__ ?ma_Stretch___eq__ ?mi_Stretch___eq__ ?mk_Stretch___eq__ ?l_Stretch___eq__ ?d_Stretch___eq__ ?ma_Stretch_holds ?mi_Stretch_holds ?mk_Stretch_holds ?l_Stretch_holds ?d_Stretch_holds ?ma_Stretch_moved ?mi_Stretch_moved ?mk_Stretch_moved ?l_Stretch_moved ?d_Stretch_moved ?ma_Stretch_turned ?mi_Stretch_turned ?mk_Stretch_turned ?l_Stretch_turned ?d_Stretch_turned ?ma_Spread___init__ ?mi_Spread___init__ ?mk_Spread___init__ ?l_Spread___init__ ?d_Spread___init__ ?t_Spread___init__ ?e0_Spread___init__ ?ma_Spread___eq__ ?mi_Spread___eq__ ?mk_Spread___eq__ ?l_Spread___eq__ ?d_Spread___eq__ ?ma_Spread___le__ ?mi_Spread___le__ ?mk_Spread___le__ ?l_Spread___le__ ?d_Spread___le__ ?ma_Spread___or__ ?mi_Spread___or__ ?mk_Spread___or__ ?l_Spread___or__ ?d_Spread___or__ ?ma_Spread___and__ ?mi_Spread___and__ ?mk_Spread___and__ ?l_Spread___and__ ?d_Spread___and__ ?ma_Spread___sub__ ?mi_Spread___sub__ ?mk_Spread___sub__ ?l_Spread___sub__ ?d_Spread___sub__ ?ma_Spread_told ?mi_Spread_told ?mk_Spread_told ?l_Spread_told ?d_Spread_told ?ma_Spread_all_but ?mi_Spread_all_but ?mk_Spread_all_but ?l_Spread_all_but ?d_Spread_all_but ?ma_Spread_holds ?mi_Spread_holds ?mk_Spread_holds ?l_Spread_holds ?d_Spread_holds ?ma_Spread_is_endless ?mi_Spread_is_endless ?mk_Spread_is_endless ?l_Spread_is_endless ?d_Spread_is_endless ?ma_Spread_moved ?mi_Spread_moved ?mk_Spread_moved ?l_Spread_moved ?d_Spread_moved ?ma_Spread_turned ?mi_Spread_turned ?mk_Spread_turned ?l_Spread_turned ?d_Spread_turned ?ma_Spread_bounds ?mi_Spread_bounds ?mk_Spread_bounds ?l_Spread_bounds ?d_Spread_bounds ?xa_BadNumber ?xl_BadNumber ?xr_BadNumber ?xs_BadNumber ?xe_BadNumber ?xt_BadNumber ?xk_BadNumber ?xg_BadNumber ?xG_BadNumber ?xd_BadNumber ?xn_BadNumber ?xi_BadNumber ?xf_BadNumber ?xL_BadNumber ?xc_BadNumber ?xK_BadNumber ?yc_BadNumber ?ya_BadNumber ?ym_BadNumber ?xa_BadPart ?xl_BadPart ?xr_BadPart ?xs_BadPart ?xe_BadPart ?xt_BadPart ?xk_BadPart ?xg_BadPart ?xG_BadPart ?xd_BadPart ?xn_BadPart ?xi_BadPart ?xf_BadPart ?xL_BadPart ?xc_BadPart ?xK_BadPart ?yc_BadPart ?ya_BadPart ?ym_BadPart ?xa_BadIndex ?xl_BadIndex ?xr_BadIndex ?xs_BadIndex ?xe_BadIndex ?xt_BadIndex ?xk_BadIndex ?xg_BadIndex ?xG_BadIndex ?xd_BadIndex ?xn_BadIndex ?xi_BadIndex ?xf_BadIndex ?xL_BadIndex ?xc_BadIndex ?xK_BadIndex ?yc_BadIndex ?ya_BadIndex ?ym_BadIndex ?yn ?yt ?eN ?sf_Spread ?ne_Spread ?z_isinstance ?z_int ?z_bool ?z_tuple ?z_len ?z_abs ?z_list ?z_range ?z_repr ?z_max ?z_min ?z_sorted ?z_enumerate ?z_any ?z_sum ?z_zip) ?T1 ?T2 (PySem.W.km_tabs_of Y _ ?T3) ?T4
    (case a_is_whole => k_is)
    (case l_is_whole => k_is)
    (case d_is_whole => k_is)
    (case k_is_whole => k_is)
    (case a_is_from => k_is)
    (case l_is_from => k_is)
    (case d_is_from => k_is)
    (case k_is_from => k_is)
    (case a_is_row => k_is)
    (case l_is_row => k_is)
    (case d_is_row => k_is)
    (case k_is_row => k_is)
    (case a_is_span => k_is)
    (case l_is_span => k_is)
    (case d_is_span => k_is)
    (case k_is_span => k_is)
    (case a_require_whole => k_is)
    (case l_require_whole => k_is)
    (case d_require_whole => k_is)
    (case k_require_whole => k_is)
    (case a_require_from => k_is)
    (case l_require_from => k_is)
    (case d_require_from => k_is)
    (case k_require_from => k_is)
    (case a__greater_high => k_is)
    (case l__greater_high => k_is)
    (case d__greater_high => k_is)
    (case k__greater_high => k_is)
    (case a__told_row => k_is)
    (case l__told_row => k_is)
    (case d__told_row => k_is)
    (case k__told_row => k_is)
    (case a__pairs_by_low => k_is)
    (case l__pairs_by_low => k_is)
    (case d__pairs_by_low => k_is)
    (case k__pairs_by_low => k_is)
    (case a__law_draw => k_is)
    (case l__law_draw => k_is)
    (case d__law_draw => k_is)
    (case k__law_draw => k_is)
    (case a__law_number => k_is)
    (case l__law_number => k_is)
    (case d__law_number => k_is)
    (case k__law_number => k_is)
    (case a__law_ends => k_is)
    (case l__law_ends => k_is)
    (case d__law_ends => k_is)
    (case k__law_ends => k_is)
    (case a__law_has => k_is)
    (case l__law_has => k_is)
    (case d__law_has => k_is)
    (case k__law_has => k_is)
    (case a__law_points => k_is)
    (case l__law_points => k_is)
    (case d__law_points => k_is)
    (case k__law_points => k_is)
    (case a__law_told => k_is)
    (case l__law_told => k_is)
    (case d__law_told => k_is)
    (case k__law_told => k_is)
    (case a__law_some => k_is)
    (case l__law_some => k_is)
    (case d__law_some => k_is)
    (case k__law_some => k_is)
    (case a__law_spread => k_is)
    (case l__law_spread => k_is)
    (case d__law_spread => k_is)
    (case k__law_spread => k_is)
    (case a__law_row_right => k_is)
    (case l__law_row_right => k_is)
    (case d__law_row_right => k_is)
    (case k__law_row_right => k_is)
    (case a__law_same => k_is)
    (case l__law_same => k_is)
    (case d__law_same => k_is)
    (case k__law_same => k_is)
    (case a__law_odd_right => k_is)
    (case l__law_odd_right => k_is)
    (case d__law_odd_right => k_is)
    (case k__law_odd_right => k_is)
    (case a_law => k_is)
    (case l_law => k_is)
    (case d_law => k_is)
    (case k_law => k_is)
    (case t_law => first | rfl | (with_unfolding_all rfl) | kernel_rfl | decide | k_is)
    (case xa_Stretch => k_is)
    (case pg_Stretch => k_is)
    (case hd_Stretch => k_is)
    (case po_Stretch => k_is)
    (case sa_Stretch => k_is)
    (case mm_Stretch => k_is)
    (case kc_Stretch => k_is)
    (case ya_Stretch => k_is)
    (case ym_Stretch => k_is)
    (case na_Stretch_low => k_is)
    (case na_Stretch_high => k_is)
    (case xa_Spread => k_is)
    (case pg_Spread => k_is)
    (case hd_Spread => k_is)
    (case po_Spread => k_is)
    (case sa_Spread => k_is)
    (case mm_Spread => k_is)
    (case kc_Spread => k_is)
    (case ya_Spread => k_is)
    (case ym_Spread => k_is)
    (case na_Spread__row => k_is)
    (case ma_Stretch___init__ => k_is)
    (case mi_Stretch___init__ => k_is)
    (case mk_Stretch___init__ => k_is)
    (case l_Stretch___init__ => k_is)
    (case d_Stretch___init__ => k_is)
    (case t_Stretch___init__ => k_is)
    (case ma_Stretch___eq__ => k_is)
    (case mi_Stretch___eq__ => k_is)
    (case mk_Stretch___eq__ => k_is)
    (case l_Stretch___eq__ => k_is)
    (case d_Stretch___eq__ => k_is)
    (case ma_Stretch_holds => k_is)
    (case mi_Stretch_holds => k_is)
    (case mk_Stretch_holds => k_is)
    (case l_Stretch_holds => k_is)
    (case d_Stretch_holds => k_is)
    (case ma_Stretch_moved => k_is)
    (case mi_Stretch_moved => k_is)
    (case mk_Stretch_moved => k_is)
    (case l_Stretch_moved => k_is)
    (case d_Stretch_moved => k_is)
    (case ma_Stretch_turned => k_is)
    (case mi_Stretch_turned => k_is)
    (case mk_Stretch_turned => k_is)
    (case l_Stretch_turned => k_is)
    (case d_Stretch_turned => k_is)
    (case ma_Spread___init__ => k_is)
    (case mi_Spread___init__ => k_is)
    (case mk_Spread___init__ => k_is)
    (case l_Spread___init__ => k_is)
    (case d_Spread___init__ => k_is)
    (case t_Spread___init__ => k_is)
    (case e0_Spread___init__ => k_is)
    (case ma_Spread___eq__ => k_is)
    (case mi_Spread___eq__ => k_is)
    (case mk_Spread___eq__ => k_is)
    (case l_Spread___eq__ => k_is)
    (case d_Spread___eq__ => k_is)
    (case ma_Spread___le__ => k_is)
    (case mi_Spread___le__ => k_is)
    (case mk_Spread___le__ => k_is)
    (case l_Spread___le__ => k_is)
    (case d_Spread___le__ => k_is)
    (case ma_Spread___or__ => k_is)
    (case mi_Spread___or__ => k_is)
    (case mk_Spread___or__ => k_is)
    (case l_Spread___or__ => k_is)
    (case d_Spread___or__ => k_is)
    (case ma_Spread___and__ => k_is)
    (case mi_Spread___and__ => k_is)
    (case mk_Spread___and__ => k_is)
    (case l_Spread___and__ => k_is)
    (case d_Spread___and__ => k_is)
    (case ma_Spread___sub__ => k_is)
    (case mi_Spread___sub__ => k_is)
    (case mk_Spread___sub__ => k_is)
    (case l_Spread___sub__ => k_is)
    (case d_Spread___sub__ => k_is)
    (case ma_Spread_told => k_is)
    (case mi_Spread_told => k_is)
    (case mk_Spread_told => k_is)
    (case l_Spread_told => k_is)
    (case d_Spread_told => k_is)
    (case ma_Spread_all_but => k_is)
    (case mi_Spread_all_but => k_is)
    (case mk_Spread_all_but => k_is)
    (case l_Spread_all_but => k_is)
    (case d_Spread_all_but => k_is)
    (case ma_Spread_holds => k_is)
    (case mi_Spread_holds => k_is)
    (case mk_Spread_holds => k_is)
    (case l_Spread_holds => k_is)
    (case d_Spread_holds => k_is)
    (case ma_Spread_is_endless => k_is)
    (case mi_Spread_is_endless => k_is)
    (case mk_Spread_is_endless => k_is)
    (case l_Spread_is_endless => k_is)
    (case d_Spread_is_endless => k_is)
    (case ma_Spread_moved => k_is)
    (case mi_Spread_moved => k_is)
    (case mk_Spread_moved => k_is)
    (case l_Spread_moved => k_is)
    (case d_Spread_moved => k_is)
    (case ma_Spread_turned => k_is)
    (case mi_Spread_turned => k_is)
    (case mk_Spread_turned => k_is)
    (case l_Spread_turned => k_is)
    (case d_Spread_turned => k_is)
    (case ma_Spread_bounds => k_is)
    (case mi_Spread_bounds => k_is)
    (case mk_Spread_bounds => k_is)
    (case l_Spread_bounds => k_is)
    (case d_Spread_bounds => k_is)
    (case xa_BadNumber => k_is)
    (case xl_BadNumber => k_is)
    (case xr_BadNumber => first | rfl | (with_unfolding_all rfl) | kernel_rfl | decide | k_is)
    (case xs_BadNumber => k_is)
    (case xe_BadNumber => k_is)
    (case xt_BadNumber => k_is)
    (case xk_BadNumber => k_is)
    (case xg_BadNumber => k_is)
    (case xG_BadNumber => k_is)
    (case xd_BadNumber => k_is)
    (case xn_BadNumber => k_is)
    (case xi_BadNumber => k_is)
    (case xf_BadNumber => k_is)
    (case xL_BadNumber => k_is)
    (case xc_BadNumber => k_is)
    (case xK_BadNumber => k_is)
    (case yc_BadNumber => first | rfl | (with_unfolding_all rfl) | kernel_rfl | decide | k_is)
    (case ya_BadNumber => k_is)
    (case ym_BadNumber => k_is)
    (case xa_BadPart => k_is)
    (case xl_BadPart => k_is)
    (case xr_BadPart => first | rfl | (with_unfolding_all rfl) | kernel_rfl | decide | k_is)
    (case xs_BadPart => k_is)
    (case xe_BadPart => k_is)
    (case xt_BadPart => k_is)
    (case xk_BadPart => k_is)
    (case xg_BadPart => k_is)
    (case xG_BadPart => k_is)
    (case xd_BadPart => k_is)
    (case xn_BadPart => k_is)
    (case xi_BadPart => k_is)
    (case xf_BadPart => k_is)
    (case xL_BadPart => k_is)
    (case xc_BadPart => k_is)
    (case xK_BadPart => k_is)
    (case yc_BadPart => first | rfl | (with_unfolding_all rfl) | kernel_rfl | decide | k_is)
    (case ya_BadPart => k_is)
    (case ym_BadPart => k_is)
    (case xa_BadIndex => k_is)
    (case xl_BadIndex => k_is)
    (case xr_BadIndex => first | rfl | (with_unfolding_all rfl) | kernel_rfl | decide | k_is)
    (case xs_BadIndex => k_is)
    (case xe_BadIndex => k_is)
    (case xt_BadIndex => k_is)
    (case xk_BadIndex => k_is)
    (case xg_BadIndex => k_is)
    (case xG_BadIndex => k_is)
    (case xd_BadIndex => k_is)
    (case xn_BadIndex => k_is)
    (case xi_BadIndex => k_is)
    (case xf_BadIndex => k_is)
    (case xL_BadIndex => k_is)
    (case xc_BadIndex => k_is)
    (case xK_BadIndex => k_is)
    (case yc_BadIndex => first | rfl | (with_unfolding_all rfl) | kernel_rfl | decide | k_is)
    (case ya_BadIndex => k_is)
    (case ym_BadIndex => k_is)
    (case yn => k_is)
    (case yt => k_is)
    (case eN => first | rfl | (with_unfolding_all rfl) | kernel_rfl | decide | k_is)
    (case sf_Spread => first | rfl | (with_unfolding_all rfl) | kernel_rfl | decide | k_is)
    (case ne_Spread => first | rfl | (with_unfolding_all rfl) | kernel_rfl | decide | k_is)
    (case z_isinstance => k_is)
    (case z_int => k_is)
    (case z_bool => k_is)
    (case z_tuple => k_is)
    (case z_len => k_is)
    (case z_abs => k_is)
    (case z_list => k_is)
    (case z_range => k_is)
    (case z_repr => k_is)
    (case z_max => k_is)
    (case z_min => k_is)
    (case z_sorted => k_is)
    (case z_enumerate => k_is)
    (case z_any => k_is)
    (case z_sum => k_is)
    (case z_zip => k_is)
    (case T1 => first | rfl | with_unfolding_all rfl); (case T2 => first | rfl | with_unfolding_all rfl); (case T3 => decide); (case T4 => first | k_is | rfl | with_unfolding_all rfl)
