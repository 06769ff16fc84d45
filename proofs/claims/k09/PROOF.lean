import PyProof.Rows.All
import Wide.All
import OpenK.AllK
import Wide.FinOn
import HandS.ForMost
import HandS.ForExc
import HandS.ExcInit
import HandS.ExcField
import HandS.ExcIs
import HandS.IsInst
import HandS.Lambda
import HandS.EndTab
import HandS.Wide
import HandS.Style
import HandS.RaiseMore
import HandS.Flow
import HandS.HeadHook1
import KE.KExcIs
import PyProof.CallFns
import HandS.Defaults
import PyProof.WalksMore
import PyProof.FactsAll.range
import HandS.TryMany
import HandS.NoneIn
import KE.KFmtOwn
import PySem.Challenge.RW_endlessplane_k09_whole_lattices_put_toge
/-! Bs -/
set_option Elab.async false
set_option linter.all false
set_option maxRecDepth 100000
set_option maxHeartbeats 4000000
namespace Iz
open PySem PySem.Spec PyProof.Rows L2
theorem cx_K {CX : CXT} {P : Program} {w : World} {K : PySem.W.Frag} {mg : Str → Option Value} {base : Heap} {N : List Str} {q : Str} {sc : Scope} {f : Addr} {cd : Value} {A : Around} {outer : List Env} {s : Shared} {H : Hp} {E : XK} : (cxOf CX P w K mg base N q sc f cd A outer s H E).K = K := rfl
/-! ### defs by name, calls -/
/-- the global x is a def that keeps sp -/
structure OkF (P : Program) (w : World) (K : PySem.W.Frag) (mg : Str → Option Value) (base : Heap) (CX : CXT) (k : Nat) (x : Str) (ps : List Str) (sp : Sp) : Prop where
  ex : ∃ (f : Addr) (fd : FuncData), mg x = some (.ref f) ∧ PySem.W.keepIn K (.ref f) = true ∧ Binds K fd ps [] ∧ FnOk P w K mg base CX k f fd ps sp
theorem OkF.imp {P : Program} {w : World} {K : PySem.W.Frag} {mg : Str → Option Value} {base : Heap} {CX : CXT} {k : Nat} {x : Str} {ps : List Str} {sp sp' : Sp} (F : OkF P w K mg base CX k x ps sp) (h : ∀ vs H Q E, sp' vs H Q E → sp vs H Q E) : OkF P w K mg base CX k x ps sp' :=
  let ⟨f, fd, g, kp, b, G⟩ := F.ex
  ⟨f, fd, g, kp, b, G.imp h⟩
/-- inside a def that may raise: what is raised goes on out -/
theorem passE {P : Program} {w : World} {K : PySem.W.Frag} {mg : Str → Option Value} {base : Heap} {N : List Str} {q : Str} {sc : Scope} {f : Addr} {cd : Value} {A : Around} {outer : List Env} {s : Shared} {H : Hp} {E : XK} :
    Passes (L2.CX P w) (cxOf (L2.CX P w) P w K mg base N q sc f cd A outer s H E) E := passes_call (W := fun cls d _ H => E cls d H) (takes_of rfl rfl rfl rfl) fun _ _ _ _ h => h
theorem takesE {P : Program} {w : World} {K : PySem.W.Frag} {mg : Str → Option Value} {base : Heap} {N : List Str} {q : Str} {sc : Scope} {f : Addr} {cd : Value} {A : Around} {outer : List Env} {s : Shared} {H : Hp} {E : XK} :
    Takes (cxOf (L2.CX P w) P w K mg base N q sc f cd A outer s H E) (fun cls d _ H => E cls d H) := takes_of rfl rfl rfl rfl
section
variable {X : Cx} {k : Nat} {x : Str} {ps : List Str} {sp : Sp} {E : XK} {e : Expr} {es : List Expr} {t : TA} {p pos : Pos}
/-- f(e, ..) -/
theorem pcl {CX : CXT} (O : OkF X.prog X.w X.K X.mg X.base CX k x ps sp) (hr : Room k X.A) (hx : Passes CX X E) (ha : PA X (e :: es) t) (hg : Gl X x := by rfl) (hdb : (x == ("__debug__" : Str)) = false := by decide)
    (he : starEach (e :: es) X.env = (false, eval e X.env) :: starEach es X.env := by rfl) (hpl : (backTo pos (starEach es X.env)).any (·.1) = false := by rfl) : PE X (.Call (.Name x p) (e :: es) [] pos) (tCall sp [] E t) := by
  obtain ⟨f, fd, g, kp, b, G⟩ := O.ex
  exact pe_call G hr hg g kp b .nil hx ha hdb he hpl
end
theorem op_fdivF {X : Cx} : OpR X (binaryOp .FloorDiv) (rI (fun _ j => j ≠ 0 ∧ j.natAbs.log2 < 9000) fun i j => .int (i.fdiv j)) := opI fun i j _ _ _ _ _ hc q => floordiv_int hc.1 q (.inl (PyProof.noPylong_of_log2 hc.2))
theorem log_lt {x : Int} {n m : Nat} (h : x.natAbs < 2 ^ n) (hm : n ≤ m) (h0 : 0 < m) : x.natAbs.log2 < m := PySem.Flt.log2_lt_of h0 (Nat.lt_of_lt_of_le h (Nat.pow_le_pow_right (by decide) hm))
/-! ### readings in a form that simp reads: an object is named by what stands at it -/
section
variable {X : Cx} {e a b : Expr} {es : List Expr} {t t' ta tb : TE}
theorem PE.imp (h : PE X e t) (k : ∀ σ H Q, t' σ H Q → t σ H Q) : PE X e t' := ⟨fun pins s σ H Q I q => h.run pins s σ H Q I (k σ H Q q)⟩
theorem PS.imp {st : Stmt} {t t' : TS} (h : PS X st t) (k : ∀ D σ H, t' D σ H → t D σ H) : PS X st t' := ⟨fun pins s σ H D I q => h.run pins s σ H D I (k D σ H q)⟩
theorem PG.imp {tg : Expr} {t t' : TG} (h : PG X tg t) (k : ∀ v σ H Q, t' v σ H Q → t v σ H Q) : PG X tg t' := ⟨fun pins s σ H v u Q I r q => h.run pins s σ H v u Q I r (k v σ H Q q)⟩
theorem CallR.imp {f : Value} {r r' : List V → Hp → VK → Prop} (h : CallR X f r) (k : ∀ xs H Q, r' xs H Q → r xs H Q) : CallR X f r' := fun pins s σ H xs us Q I rv q => h pins s σ H xs us Q I rv (k xs H Q q)
theorem Same.upd {H : Hp} {p : Addr} {o : HO} (h : H p = none) : Same H (L2.upd H p o) := fun b u e => by rw [upd_ne (ne_of_none e h)]; exact e
/-- a new object: from then on some heap that has it and all else -/
def News (H : Hp) (o : HO) (Q : V → Hp → Prop) : Prop := ∀ p H2, H p = none → Same H H2 → H2 p = some o → Q (.ref p) H2
theorem News.all {H : Hp} {o : HO} {Q : V → Hp → Prop} (n : News H o Q) : ∀ p, H p = none → Q (.ref p) (upd H p o) := fun p hp => n p _ hp (Same.upd hp) upd_same
def tTupN (t : TA) : TE := fun σ H Q => t σ H fun xs H1 => xs.length ≤ sizeLine ∧ News H1 (.tup xs) Q
def tLstN (t : TA) : TE := fun σ H Q => t σ H fun xs H1 => xs.length ≤ sizeLine ∧ News H1 (.lst xs) Q
/-- what a reading gives, weakened -/
def mcl {α : Type} (t : L2.St → Hp → (α → Hp → Prop) → Prop) : L2.St → Hp → (α → Hp → Prop) → Prop := fun σ H Q => ∃ Q0, t σ H Q0 ∧ ∀ v H1, Q0 v H1 → Q v H1
theorem PA.mcl {t : TA} (h : PA X es t) : PA X es (mcl t) := ⟨fun pos pins s σ H Q I ⟨Q0, q, k⟩ => thn (h.run pos pins s σ H Q0 I q) fun us s1 ⟨vs, H1, I1, r, q1⟩ => ⟨vs, H1, I1, r, k vs H1 q1⟩⟩
theorem PE.mcl {t : TE} (h : PE X e t) : PE X e (mcl t) := ⟨fun pins s σ H Q I ⟨Q0, q, k⟩ => thn (h.run pins s σ H Q0 I q) fun u s1 ⟨v, H1, I1, r, q1⟩ => ⟨v, H1, I1, r, k v H1 q1⟩⟩
theorem pe_tupN {t : TA} {x1 : Nat} {pos : Pos} (h : PA X es t) : PE X (.Tuple es x1 pos) (tTupN t) := PE.imp (pe_tup (PA.mcl h)) fun σ H Q q => ⟨_, q, fun vs H1 ⟨z, n⟩ => ⟨z, n.all⟩⟩
theorem pe_lstN {t : TA} {pos : Pos} (h : PA X es t) : PE X (.List es pos) (tLstN t) := PE.imp (pe_lst (PA.mcl h)) fun σ H Q q => ⟨_, q, fun vs H1 ⟨z, n⟩ => ⟨z, n.all⟩⟩
def rIxTN : R2 := fun x y H Q => ∃ p xs i v, x = .ref p ∧ y = .int i ∧ H p = some (.tup xs) ∧ atI xs i = some v ∧ Q v H
theorem ix_tupN : IxR X rIxTN := fun v0 sl pins s σ H x y v u Q I rx ry q hs => ix_tup v0 sl pins s σ H x y v u Q I rx ry (let ⟨p, xs, i, z, a, b, c, d, q⟩ := q; ⟨p, xs, i, z, a, b, SqT.of c, d, q⟩) hs
def rIxLN : R2 := fun x y H Q => ∃ p xs i v, x = .ref p ∧ y = .int i ∧ H p = some (.lst xs) ∧ atI xs i = some v ∧ Q v H
theorem ix_listN : IxR X rIxLN := fun v0 sl pins s σ H x y v u Q I rx ry q hs => ix_list v0 sl pins s σ H x y v u Q I rx ry (let ⟨p, xs, i, z, a, b, c, d, q⟩ := q; ⟨p, xs, i, z, a, b, SqL.of c, d, q⟩) hs
def gTupN (n : Nat) (t : TGs) : TG := fun v σ H Q => ∃ a xs, v = .ref a ∧ H a = some (.tup xs) ∧ xs.length = n ∧ t xs σ H Q
theorem pg_tupN {k : Nat} {pos : Pos} {t : TGs} {n : Nat} (hc : X.calm = true) (h : PGs X es t) (hn : (assignEach es X.env).length = n := by rfl) (hst : (assignEach es X.env).findIdx? (·.1) = none := by rfl) : PG X (.Tuple es k pos) (gTupN n t) :=
  PG.imp (pg_tup hc h hn hst) fun v σ H Q ⟨p, xs, a, c, d, q⟩ => ⟨p, xs, a, SqT.of c, d, q⟩
def rLenL : List V → Hp → VK → Prop := fun xs H Q => ∃ p ys, xs = [.ref p] ∧ H p = some (.lst ys) ∧ Q (.int ys.length) H
theorem call_lenL : CallR X (.builtin "len") rLenL := CallR.imp call_len_seq fun xs H Q ⟨p, ys, a, b, q⟩ => ⟨p, ys, a, .inl (SqL.of b), q⟩
def rLenT : List V → Hp → VK → Prop := fun xs H Q => ∃ p ys, xs = [.ref p] ∧ H p = some (.tup ys) ∧ Q (.int ys.length) H
theorem call_lenT : CallR X (.builtin "len") rLenT := CallR.imp call_len_seq fun xs H Q ⟨p, ys, a, b, q⟩ => ⟨p, ys, a, .inr (SqT.of b), q⟩
def rIntI : List V → Hp → VK → Prop := fun xs H Q => ∃ i, xs = [.int i] ∧ Q (.int i) H
theorem call_intI : CallR X (.type "int") rIntI := CallR.imp call_int1 fun xs H Q q => .inl q
def rIntB : List V → Hp → VK → Prop := fun xs H Q => ∃ k, xs = [.bl k] ∧ Q (.int (if k then 1 else 0)) H
theorem call_intB : CallR X (.type "int") rIntB := CallR.imp call_int1 fun xs H Q q => .inr q
def rAbs : List V → Hp → VK → Prop := fun xs H Q => ∃ i, xs = [.int i] ∧ Q (.int (i.natAbs : Int)) H
theorem call_absN : CallR X (.builtin "abs") rAbs := CallR.imp call_abs fun xs H Q ⟨i, a, q⟩ => ⟨i, a, by rw [show (if i < 0 then -i else i) = (i.natAbs : Int) by split <;> omega]; exact q⟩
def rListS (K : PySem.W.Frag) : List V → Hp → VK → Prop := fun xs H Q => ∃ p ys, xs = [.ref p] ∧ SqL K H p ys ∧ News H (.lst ys) Q
theorem call_listS : CallR X (.type "list") (rListS X.K) := CallR.imp call_list_of fun xs H Q ⟨p, ys, a, b, n⟩ => ⟨p, ys, a, .inl b, n.all⟩
/-- a truth: what the test says -/
theorem atI0 {α : Type} {a : α} {l : List α} : atI (a :: l) 0 = some a := by simp [atI, ixN]
theorem ixN_ok {n : Nat} {i : Int} (h : 0 ≤ i) (h2 : i < n) : ixN n i = some i.toNat := by simp [ixN, h, h2]
theorem atI_ok {α : Type} {l : List α} {i : Int} {v : α} (h : 0 ≤ i) (h2 : l[i.toNat]? = some v) : atI l i = some v := by
  have h3 := (List.getElem?_eq_some_iff.mp h2).1
  unfold atI
  rw [ixN_ok h (by omega)]
  exact h2
theorem atI1 {α : Type} {a b : α} {l : List α} : atI (a :: b :: l) 1 = some b := atI_ok (by decide) rfl
theorem atI2 {α : Type} {a b c : α} {l : List α} : atI (a :: b :: c :: l) 2 = some c := atI_ok (by decide) rfl
theorem atI3 {α : Type} {a b c d : α} {l : List α} : atI (a :: b :: c :: d :: l) 3 = some d := atI_ok (by decide) rfl
theorem ite_iff {c A B : Prop} [Decidable c] : (if c then A else B) ↔ ((c → A) ∧ (¬ c → B)) := by
  by_cases h : c <;> simp [h]
/-- a while's test may be asked for less -/
theorem mono_eq {r : R2} {i : Nat} {v : V} (hr : ∀ x y H Q Q', (∀ z H1, Q z H1 → Q' z H1) → r x y H Q → r x y H Q') : ∀ (σ : L2.St) (H : Hp) (Q Q' : Bool → Hp → Prop), (∀ b H1, Q b H1 → Q' b H1) → tTest (tOp r (tVar i) (tC v)) σ H Q → tTest (tOp r (tVar i) (tC v)) σ H Q' :=
  fun _ _ _ _ k ⟨x, h, q⟩ => ⟨x, h, hr _ _ _ _ _ (fun _ _ ⟨b, e, q⟩ => ⟨b, e, k _ _ q⟩) q⟩
theorem mono_ne {i : Nat} {v : V} : ∀ (σ : L2.St) (H : Hp) (Q Q' : Bool → Hp → Prop), (∀ b H1, Q b H1 → Q' b H1) → tTest (tOp rNe (tVar i) (tC v)) σ H Q → tTest (tOp rNe (tVar i) (tC v)) σ H Q' := mono_eq fun _ _ _ _ _ k ⟨a, q⟩ => ⟨a, k _ _ q⟩
end
/-- H2 is H with o at p -/
def Put (H H2 : Hp) (p : Addr) (o : HO) : Prop := H2 p = some o ∧ ∀ b, b ≠ p → H2 b = H b
def rSetLN : V → V → V → Hp → (Hp → Prop) → Prop := fun o i v H Q => ∃ p xs k j, o = .ref p ∧ i = .int k ∧ H p = some (.lst xs) ∧ ixN xs.length k = some j ∧ ∀ H2, Put H H2 p (.lst (xs.set j v)) → Q H2
theorem set_listN {X : Cx} : PSet X rSetLN := fun pins s σ H o i v ov iv u Q I ro ri rv ⟨p, xs, k, j, a, b, c, d, q⟩ => set_list pins s σ H o i v ov iv u Q I ro ri rv ⟨p, xs, k, j, a, b, c, d, q _ ⟨upd_same, fun _ h => upd_ne h⟩⟩
theorem PT.imp {X : Cx} {e : Expr} {t t' : TT} (h : PT X e t) (k : ∀ σ H Q, t' σ H Q → t σ H Q) : PT X e t' := ⟨fun pins s σ H Q I q => h.run pins s σ H Q I (k σ H Q q)⟩
/-- a list's truth -/
def tTruL (te : TE) : TT := fun σ H Q => te σ H fun x H1 => ∃ p xs, x = .ref p ∧ H1 p = some (.lst xs) ∧ Q (!xs.isEmpty) H1
theorem pt_truL {X : Cx} {e : Expr} {te : TE} (h : PE X e te) (hw : ∀ t : Sem Value, isTrue e X.env t = (t >>= fun v => standAt e.pos >>= fun _ => holding [v] (truthy v)) := by intro _; rfl) : PT X e (tTruL te) :=
  PT.imp (pt_truth (PE.mcl h) hw) fun σ H Q q => ⟨_, q, fun v H1 ⟨p, xs, a, b, q⟩ => ⟨_, by subst a; exact .inl ⟨xs, SqL.of b, rfl⟩, q⟩⟩
theorem ixN0 {n : Nat} : ixN (n + 1) 0 = some 0 := ixN_ok (by decide) (by omega)
theorem ixN1 {n : Nat} : ixN (n + 1 + 1) 1 = some 1 := ixN_ok (by decide) (by omega)
theorem scal_ii {i j : Int} : scal (.int i) (.int j) = true := rfl
theorem scal_in {i : Int} : scal (.int i) .non = true := rfl
theorem scal_ni {i : Int} : scal .non (.int i) = true := rfl
theorem scal_nn : scal .non .non = true := rfl
theorem scal_bb {i j : Bool} : scal (.bl i) (.bl j) = true := rfl
theorem scal_ss {i j : Str} : scal (.str i) (.str j) = true := rfl
theorem scal_sn {i : Str} : scal (.str i) .non = true := rfl
theorem scal_ns {i : Str} : scal .non (.str i) = true := rfl
theorem scal_bn {i : Bool} : scal (.bl i) .non = true := rfl
theorem scal_nb {i : Bool} : scal .non (.bl i) = true := rfl
/-- xs.append(e) -/
def tApp (to : TE) (ta : TA) : TE := fun σ H Q => to σ H fun x H1 => ∃ l, x = .ref l ∧ (∃ xs, H1 l = some (.lst xs)) ∧ ta σ H1 fun vs H2 => ∃ y xs, vs = [y] ∧ H2 l = some (.lst xs) ∧ xs.length < sizeLine ∧ ∀ H3, Put H2 H3 l (.lst (xs ++ [y])) → Q .non H3
theorem pe_appN {X : Cx} {o e : Expr} {to : TE} {ta : TA} {apos cpos : Pos} (ho : PE X o to) (ha : PA X [e] ta)
    (hbase : attributeBase o "append" X.env (eval o X.env) = eval o X.env := by rfl)
    (hfew : ((backTo cpos (starEach [e] X.env)).all (fun x => !x.1) && (backToKw cpos (keywordEach [] X.env)).all (fun x => x.1.isSome) && decide ([e].length + ([] : List Keyword).length + (if ([] : List Keyword).isEmpty then 0 else 1) < 30)) = true := by rfl)
    (hline : (apos.endLine == cpos.line) = true := by rfl) (hs : starEach [e] X.env = (false, eval e X.env) :: starEach [] X.env := by rfl) (hplain : (backTo cpos (starEach [] X.env)).any (·.1) = false := by rfl) :
    PE X (.Call (.Attribute o "append" apos) [e] [] cpos) (tApp to ta) :=
  PE.imp (pe_bm PySem.F.plainAttrs_list PySem.F.slot_list_append PySem.F.type_list_append mt_append (PE.mcl ho) (PA.mcl ha) hbase hfew hline hs hplain) fun σ H Q q =>
    ⟨_, q, fun x H1 ⟨l, hx, ⟨xs, hl⟩, q⟩ => by subst hx; exact ⟨.inl ⟨rfl, xs, SqL.of hl⟩, _, q, fun vs H2 ⟨y, xs, a, b, c, q⟩ => ⟨l, xs, y, rfl, a, b, c, q _ ⟨upd_same, fun _ h => upd_ne h⟩⟩⟩⟩
/-- a statement whose ways join behind it: M holds there -/
def tCut (t : TS) : TS := fun D σ H => ∃ M : L2.St → Hp → Prop, t { D with nx := M } σ H ∧ ∀ σ' H', M σ' H' → D.nx σ' H'
theorem ps_cut {X : Cx} {st : Stmt} {t : TS} (h : PS X st t) : PS X st (tCut t) := ⟨fun pins s σ H D I ⟨M, q, k⟩ => thn (h.run pins s σ H { D with nx := M } I q) fun f s1 r => by
  cases f with
  | next => obtain ⟨σ', H', J, m⟩ := r; exact ⟨σ', H', J, k σ' H' m⟩
  | brk => exact r
  | cont => exact r
  | ret u => exact r⟩
/-! ### loops -/
section
variable {g : TG} {tb : TS} {D : Ends} {σ : L2.St} {H : Hp} {ta : TA} {tl : TE}
theorem st_forR1 (j : Int) (hj : -(2 ^ 62) ≤ j ∧ j < 2 ^ 62) (ha : ∀ Q : List V → Hp → Prop, Q [.int j] H → ta σ H Q) (Pv : Nat → L2.St → Hp → Prop) (h0 : Pv 0 σ H)
    (hs : ∀ i σ H, i < j.toNat → Pv i σ H → g (.int i) σ H fun σ2 H2 => tb { D with nx := Pv (i + 1), ct := Pv (i + 1), bk := D.nx } σ2 H2) (hd : ∀ σ H, Pv j.toNat σ H → D.nx σ H) : tFor (iRng1 ta) g tb D σ H :=
  ha _ ⟨j, rfl, hj.1, hj.2, for_range Pv h0 (fun i σ H hi p => by rw [Int.zero_add]; exact hs i σ H hi p) hd⟩
theorem st_forR2 (lo j : Int) (hl : -(2 ^ 62) ≤ lo ∧ lo < 2 ^ 62) (hj : -(2 ^ 62) ≤ j ∧ j < 2 ^ 62) (ha : ∀ Q : List V → Hp → Prop, Q [.int lo, .int j] H → ta σ H Q) (Pv : Nat → L2.St → Hp → Prop) (h0 : Pv 0 σ H)
    (hs : ∀ i σ H, i < (j - lo).toNat → Pv i σ H → g (.int (lo + i)) σ H fun σ2 H2 => tb { D with nx := Pv (i + 1), ct := Pv (i + 1), bk := D.nx } σ2 H2) (hd : ∀ σ H, Pv (j - lo).toNat σ H → D.nx σ H) : tFor (iRng2 ta) g tb D σ H :=
  ha _ ⟨lo, j, rfl, ⟨hl.1, hl.2, hj.1, hj.2⟩, for_range Pv h0 hs hd⟩
end
/-! ### values of any kind -/
/-- a plain int -/
def isI : V → Bool
  | .int _ => true
  | _ => false
theorem isI_int {x : V} (h : isI x = true) : ∃ i, x = .int i := by cases x <;> simp_all [isI]
/-- is_whole tells rightly of x -/
def Wh (K : PySem.W.Frag) (H : Hp) (x : V) : Prop := ∃ t b1 b2, TyX K H x t ∧ PySem.W.kitOne K t (.type "int") = some b1 ∧ PySem.W.kitOne K t (.type "bool") = some b2 ∧ (b1 && !b2) = isI x
section
variable {K : PySem.W.Frag} {H : Hp}
theorem wh_int {i : Int} : Wh K H (.int i) := ⟨_, true, false, .base (.int i), kit_ty (by decide +kernel), kit_ty (by decide +kernel), rfl⟩
theorem wh_bl {b : Bool} : Wh K H (.bl b) := ⟨_, true, true, .base (.bl b), kit_ty (by decide +kernel), kit_ty (by decide +kernel), rfl⟩
theorem wh_non : Wh K H .non := ⟨_, false, false, .base .non, kit_ty (by decide +kernel), kit_ty (by decide +kernel), rfl⟩
theorem wh_str {x : Str} : Wh K H (.str x) := ⟨_, false, false, .base (.str x), kit_ty (by decide +kernel), kit_ty (by decide +kernel), rfl⟩
theorem wh_tup {p : Addr} {xs : List V} (h : H p = some (.tup xs)) : Wh K H (.ref p) := ⟨_, false, false, .base (.tup h), kit_ty (by decide +kernel), kit_ty (by decide +kernel), rfl⟩
theorem wh_lst {p : Addr} {xs : List V} (h : H p = some (.lst xs)) : Wh K H (.ref p) := ⟨_, false, false, .base (.lst h), kit_ty (by decide +kernel), kit_ty (by decide +kernel), rfl⟩
end
/-- isinstance with a built-in class, with an own one -/
def rIsTy (K : PySem.W.Frag) : List V → Hp → VK → Prop := fun xs H Q => ∃ x n t b, xs = [x, .ty n] ∧ TyX K H x t ∧ PySem.W.kitOne K t (.type n) = some b ∧ Q (.bl b) H
theorem call_isTy {X : Cx} : CallR X (.builtin "isinstance") (rIsTy X.K) := CallR.imp call_isi fun xs H Q ⟨x, n, t, b, a, ty, k, q⟩ => ⟨x, .ty n, t, .type n, b, a, .ty n, ty, k, q⟩
/-! ### own errors with one field -/
open He (ga)
def spXI (K : PySem.W.Frag) (fld : Str) : Sp := fun vs H Q _ => ∃ (a C : Addr) (v : V), vs = [.ref a, v] ∧ OexC K C ∧ PySem.W.findIn K (.ref C) fld = some none ∧ H a = some (exo a C none) ∧
  ∀ dx, H dx = none → dx ≠ a → Q .non (upd (upd H dx (exd dx [(fld, v)])) a (exo a C (some dx)))
section
variable {P : Program} {w : World} {K : PySem.W.Frag} {mg : Str → Option Value} {base : Heap}
theorem vis_of {N ps : List Str} {sc : Scope} (S : FnScope N ps sc) {x : Str} (h : x ∈ ps) : Vis sc x := (S.par x h).elim .inl fun e => .inr (.inl e)
theorem ok_xi {qual fld : Str} {st : Stmt} {f : Addr} {fd : FuncData} {p1 p2 p3 p4 : Pos} (F : Fun K "__init__" qual st f fd) (S : FnScope ["self", fld] ["self", fld] (defScope st))
    (hb : defBody st = [.Assign [.Attribute (.Name "self" p1) fld p2] (.Name fld p3) p4]) (h1 : (fld == ("__debug__" : Str)) = false) (h2 : (fld == ("__classdict__" : Str)) = false) : FnOk P w K mg base CX0 1 f fd ["self", fld] (spXI K fld) := by
  refine F.ok S (fun vs H Q E h => ?_) (fun cdv A outer s H vs Q E hr h => ?_)
  · obtain ⟨a, C, v, rfl, _⟩ := h; rfl
  · obtain ⟨a, C, v, rfl, T, hn, ha, k⟩ := h
    rw [hb]
    refine ⟨_, pss_one (ps_ost (pe_var (i := 0) rfl (vis_of S (by simp))) (pe_var (i := 1) rfl (vis_of S (by simp)) h1 h2)), ?_⟩
    exact ⟨v, rfl, .ref a, rfl, a, C, rfl, T, hn, .inl ⟨ha, k⟩⟩
/-- what the top has made of the class x, whose __init__ keeps its one argument in fld -/
structure ExT (K : PySem.W.Frag) (mg : Str → Option Value) (x fld : Str) : Prop where
  g : mg x = some (.ref (ga K x))
  ox : OexC K (ga K x)
  xf : XfC K (ga K x)
  no : PySem.W.findIn K (.ref (ga K x)) fld = some none
  ini : ∃ (qual : Str) (st : Stmt) (f : Addr) (fd : FuncData) (p1 p2 p3 p4 : Pos), PySem.W.findIn K (.ref (ga K x)) "__init__" = some (some (.ref f)) ∧ PySem.W.typeIn K (.ref f) = some (.type "function") ∧ Fun K "__init__" qual st f fd ∧ FnScope ["self", fld] ["self", fld] (defScope st) ∧
    defBody st = [.Assign [.Attribute (.Name "self" p1) fld p2] (.Name fld p3) p4] ∧ Binds K fd ["self", fld] []
/-- an error of the class x with fld = v is let out -/
def Rse (K : PySem.W.Frag) (E : XK) (H : Hp) (x fld : Str) (v : V) : Prop := ∀ d H', H d = none → Same H H' → H' d = some (.xd [(fld, v)]) → E (.ref (ga K x)) (some d) H'
theorem Rse.mono {K : PySem.W.Frag} {E : XK} {H H2 : Hp} {x f : Str} {v : V} (r : Rse K E H x f v) (s : Same H H2) : Rse K E H2 x f v := fun d H' hd s2 h => r d H' (s.free hd) (s.trans s2) h
def tRaiseX (K : PySem.W.Frag) (x fld : Str) (W : WX) (te : TE) : TS := fun _ σ H => te σ H fun v H1 => Rse K (fun cls d H' => W cls d σ H') H1 x fld v
theorem ps_raiseX {X : Cx} {x fld : Str} {W : WX} {e : Expr} {te : TE} {p pos pos2 : Pos} (T : ExT X.K X.mg x fld) (hr : Room 2 X.A) (tk : Takes X W) (he : PE X e te) (hc : X.calm = true := by rfl) (hg : Gl X x := by rfl) (hdb : (x == ("__debug__" : Str)) = false := by decide)
    (hd1 : (fld == ("__debug__" : Str)) = false := by decide) (hd2 : (fld == ("__classdict__" : Str)) = false := by decide)
    (hs : starEach [e] X.env = (false, eval e X.env) :: starEach [] X.env := by rfl) (hpl : (backTo pos (starEach [] X.env)).any (·.1) = false := by rfl) : PS X (.Raise (some (.Call (.Name x p) [e] [] pos)) none pos2) (tRaiseX X.K x fld W te) := by
  obtain ⟨qual, st, f, fd, p1, p2, p3, p4, hi, ht, F, S, hb, B⟩ := T.ini
  have G : FnOk X.prog X.w X.K X.mg X.base CX0 1 f fd ["self", fld] (spXI X.K fld) := ok_xi F S hb hd1 hd2
  refine PS.imp (ps_raise hc tk (pmk_oex (k := 1) T.ox hi ht G hr B .nil (pass0) hg T.g (pa_cons (PE.mcl he) pa_nil hs) hdb hs hpl)) fun D σ H q => ?_
  refine ⟨_, q, fun v H1 k => ?_⟩
  refine ⟨by show 1 ≤ 1000; decide, fun a ha => ⟨a, _, v, rfl, T.ox, T.no, upd_same, fun dx hdx hne => ⟨rfl, dx, _, upd_same, by rw [upd_ne hne, upd_same], ?_, ?_⟩⟩⟩
  · rw [upd_ne hne] at hdx; exact hdx
  · have hdn : H1 dx = none := by rw [upd_ne hne] at hdx; exact hdx
    refine k dx _ hdn (fun b u e => ?_) upd_same
    have h1 := ne_of_none e hdn
    have h2 := ne_of_none e ha
    rw [upd_ne h1, del_ne h2, upd_ne h2, upd_ne h1, upd_ne h2]
    exact e
end
end Iz
/-! Bx -/
set_option Elab.async false
set_option linter.all false
set_option maxRecDepth 100000
set_option maxHeartbeats 4000000
namespace Iz
open PySem PySem.Spec PyProof.Rows L2 LamX
open He (ga)
/-! ### repr of plain values -/
def ReprV : V → Str → Prop
  | .non, s => s = "None"
  | .bl b, s => s = if b = true then Str.ofString "True" else Str.ofString "False"
  | .int i, s => i.natAbs.log2 < 1920 ∧ s = Str.ofString (toString i)
  | .str x, s => (reprText x).length ≤ sizeLine ∧ s = reprText x
  | _, _ => False
def rRepr : List V → Hp → VK → Prop := fun xs H Q => ∃ x s, xs = [x] ∧ ReprV x s ∧ Q (.str s) H
theorem call_reprN {X : Cx} : CallR X (.builtin "repr") rRepr := by
  intro pins s σ H xs us Q I r h
  obtain ⟨x, z, rfl, hz, q⟩ := h
  cases r with
  | cons rx rr =>
    cases rr
    cases x with
    | non => cases rx; cases hz; exact PySem.P.repr_of_none ⟨.str _, H, I.tok _, ⟨_, rfl⟩, q⟩
    | bl b => cases rx; cases hz; exact PySem.P.repr_of_bool ⟨.str _, H, I.tok _, ⟨_, rfl⟩, q⟩
    | int i => obtain ⟨t, rfl⟩ := rx; obtain ⟨hb, rfl⟩ := hz; exact PySem.P.repr_of_int hb ⟨.str _, H, I.tok _, ⟨_, rfl⟩, q⟩
    | str y => obtain ⟨t, rfl⟩ := rx; obtain ⟨hb, rfl⟩ := hz; exact PySem.P.repr_of_str ⟨.str _, H, I.tok _, ⟨_, rfl⟩, q⟩ hb
    | byt b => cases hz
    | flt b => cases hz
    | ref a => cases hz
    | ty n => cases hz
/-! ### isinstance of a caught error -/
structure ExI (K : PySem.W.Frag) (D : Addr) : Prop where
  hc : (PySem.W.clsIn K D).isSome = true
  ha : PySem.W.findIn K (.ref D) "__class__" = some (some (.builtin "object.__class__"))
  hn : PySem.W.specialIn K (.builtin "object.__class__") "__get__" = some (some (.builtin "getset_descriptor.__get__"))
  ht : PySem.W.takesIn K (.builtin "object.__class__") = some true
  hm : PySem.W.mroIn K D (.type "object") = some true
def rIsX (K : PySem.W.Frag) (a : Addr) (cls : Value) (d : Option Addr) : List V → Hp → VK → Prop := fun xs H Q => ∃ (c D dd : Addr) (fs : List (Str × V)) (b : Bool), xs = [.ref a, .ref c] ∧ cls = .ref D ∧ d = some dd ∧ H dd = some (.xd fs) ∧ XfC K D ∧ ExI K D ∧ PySem.W.kitOne K (.ref D) (.ref c) = some b ∧ Q (.bl b) H
theorem call_isX {X : Cx} {a : Addr} {oe : Obj} {cls : Value} {d : Option Addr} {pn : List (Addr × Obj)} (hz : Zc cls d oe) (hf : ∃ vs, oe.data = .fields vs) : CallR (X.suite a ((a, oe) :: pn)) (.builtin "isinstance") (rIsX X.K a cls d) := by
  intro pins s σ H xs us Q I r h
  obtain ⟨c, D, dd, fs, b, rfl, rfl, rfl, hd, T, U, hk, q⟩ := h
  cases r with
  | cons rx rr =>
    cases rr with
    | cons ry rr =>
      cases rr; cases rx; cases ry
      have hget := (I.pin (a, oe) (List.mem_append.mpr (.inl List.mem_cons_self))).1
      obtain ⟨vs, hv⟩ := hf
      have hx : ObjOk X.prog X.w H s.heap dd (.xd fs) := I.hok dd _ hd
      obtain ⟨mA, hns, _⟩ := hx
      obtain ⟨od, ho, _⟩ := lookIn_ns hns
      have J : PySem.W.InstAt s.heap a oe D (some od) := ⟨hget, hz.1, by unfold PySem.W.notCls; rw [hv], by rw [hz.2]; exact ho⟩
      refine PySem.W.kia_one (PySem.W.kitx_exc U.hc T.ga T.gg T.exC U.ha U.hn U.ht U.hm) I.kIn J hk (fun z => nomatch z) fun tk => ?_
      exact ⟨.bl b, H, I.kept (t' := tk) fun _ _ z => z, rfl, q⟩
/-! ### a suite knows how many slots there are -/
def tLen (n : Nat) (t : TS) : TS := fun D σ H => σ.length = n → t D σ H
theorem pss_len {X : Cx} {st : List Stmt} {t : TS} {n : Nat} (h : PSs X st t) (hn : X.N.length = n) : PSs X st (tLen n t) := ⟨fun pins s σ H D I q => h.run pins s σ H D I (q (I.len.trans hn))⟩
/-! ### defs that make lambdas: their code object is named -/
def cOf (K : PySem.W.Frag) (x : Str) : Addr := ((PySem.W.tabIn K x).getD (0, 0)).1
def pOf (K : PySem.W.Frag) (x : Str) : Addr := ((PySem.W.tabIn K x).getD (0, 0)).2
structure LamF (K : PySem.W.Frag) (mg : Str → Option Value) (x : Str) (st : Stmt) : Prop where
  ex : ∃ (f : Addr) (oc : Value) (od : Option Addr) (kV doc pm : Value) (an : Option Addr) (ct : Value) (osl : Array (Option Value)), mg x = some (.ref f) ∧ PySem.W.keepIn K (.ref f) = true ∧
    K.lookup f = some ⟨oc, od, .func (PySem.W.fnOf x x (defArgs st) (defBody st) (defScope st) .none kV doc pm an (.ref (cOf K x)) ct), osl⟩ ∧ PySem.W.codeIn K (.ref (cOf K x)) x = true
/-- as Fun.okX, the code object known -/
theorem LamF.okF {P : Program} {w : World} {K : PySem.W.Frag} {mg : Str → Option Value} {base : Heap} {x : Str} {st : Stmt} {N ps : List Str} {k : Nat} {sp : Sp} (F : LamF K mg x st) (S : FnScope N ps (defScope st))
    (hbind : ∀ (kV doc pm : Value) (an : Option Addr) (cdv ct : Value) (us : List Value), us.length = ps.length → bindArgs (PySem.W.fnOf x x (defArgs st) (defBody st) (defScope st) .none kV doc pm an cdv ct) ⟨us, []⟩ = pure (ps.zip us))
    (len : ∀ vs H Q E, sp vs H Q E → vs.length = ps.length)
    (hbody : ∀ (f : Addr) (A : Around) (outer : List Env) (s : Shared) (H : Hp) (vs : List V) (Q : VK) (E : XK), Room k (A.deeper (envOfC x (defScope st) s.heap.objs.size f (.ref (cOf K x)))) → sp vs H Q E →
      ∃ t, PSs (cxOf (L2.CX P w) P w K mg base N x (defScope st) f (.ref (cOf K x)) A outer s H E) (defBody st) t ∧ t { nx := fun _ H' => Q .non H', rt := Q } (L2.start N vs) H) : OkF P w K mg base (L2.CX P w) (k + 1) x ps sp := by
  obtain ⟨f, oc, od, kV, doc, pm, an, ct, osl, g, kp, lk, hcd⟩ := F.ex
  exact ⟨f, _, g, kp, .all (hbind kV doc pm an _ ct), fn_of lk hcd S len fun A outer s H vs Q E hr hsp => hbody f A outer s H vs Q E hr hsp⟩
theorem passLam {X : Cx} {A : Around} {outer : List Env} {s : Shared} {H : Hp} {E : XK} {scope : Scope} {f c : Addr} : Passes (L2.CX X.prog X.w) (lamCx X A outer s H E scope f c) E :=
  passes_call (W := fun cls d _ H => E cls d H) (takes_of rfl rfl rfl rfl) fun _ _ _ _ h => h
/-- told(lambda: body), told a def of the text -/
theorem plam {X : Cx} {x a : Str} {st : Stmt} {N : List Str} {TT : (XK → Hp → VK → Prop) → Hp → VK → Prop} {c P : Addr} {qn : Str} {k : Nat} {params : Arguments} {body : Expr} {scope : Scope} {t : XK → TE} {p lpos pos : Pos}
    (F : ∃ (f : Addr) (fd : FuncData), X.mg x = some (.ref f) ∧ Fun X.K x x st f fd) (S : FnScope N [a] (defScope st))
    (hb : ∀ (kV doc pm : Value) (an : Option Addr) (cdv ct : Value) (us : List Value), us.length = [a].length → bindArgs (PySem.W.fnOf x x (defArgs st) (defBody st) (defScope st) .none kV doc pm an cdv ct) ⟨us, []⟩ = pure ([a].zip us))
    (hG : ∀ (g : Addr) (cdg : Value), GivesTo X N x (defScope st) g cdg (defBody st) a qn TT)
    (TB : TabB X.base X.mg c P) (hcode : X.env.code = .ref c) (hq : X.env.qual ++ "<lambda>" = qn) (hr : Room (k + 2) X.A) (L : lamSB X.env.scope scope = true)
    (hbody : ∀ (A : Around) (outer : List Env) (s : Shared) (H : Hp) (E : XK) (f c' : Addr), Room k (A.deeper (lamEnv X scope s.heap.objs.size f c')) → PE (lamCx X A outer s H E scope f c') body (t E))
    (hdef : defaultsOf params X.env = ([], []) := by rfl) (hg : Gl X x := by rfl) (hv : Vis (defScope st) a := by first | exact Or.inl rfl | exact Or.inr (Or.inl rfl)) (hNa : N[0]? = some a := by rfl)
    (hbind : ∀ (q : Str) (cl : List (Str × Addr)) (pm cv ctv : Value), bindArgs (PySem.W.kla_fn "<lambda>" q params body scope cl pm cv ctv) ⟨[], []⟩ = pure [] := by intros; rfl)
    (hdb : (x == ("__debug__" : Str)) = false := by decide) (hd : (a == ("__debug__" : Str)) = false := by decide) (hcd : (a == ("__classdict__" : Str)) = false := by decide) :
    PE X (.Call (.Name x p) [.Lambda params body scope lpos] [] pos) (tLam [(P, qn)] TT t) := by
  subst hq
  obtain ⟨g, fd, hm, F⟩ := F
  obtain ⟨oc, od, kV, doc, pm, an, cdv, ct, osl, rfl, lk, hcg⟩ := F.ex
  exact pe_lamcall hg hm F.kp lk hcg (.all (hb kV doc pm an cdv ct)) S hNa hv (hG g cdv) TB hcode (List.mem_singleton.mpr rfl) (fun q hq _ => by rw [List.mem_singleton.mp hq]) hr (lamS_by L) hdef hbind hbody hdb hd hcd
theorem extL {H H' : Hp} {p : Addr} {xs : List V} (e : ExtN H H') (h : H p = some (.lst xs)) : H' p = some (.lst xs) := e p _ h fun ps z => by cases z
theorem extT {H H' : Hp} {p : Addr} {xs : List V} (e : ExtN H H') (h : H p = some (.tup xs)) : H' p = some (.tup xs) := e p _ h fun ps z => by cases z
theorem extS {H H' : Hp} (e : Same H H') : ExtN H H' := fun b o h _ => e b o h
/-! ### comprehensions -/
theorem st_lcL {K : PySem.W.Frag} {tl : TE} {g : TG} {tt : TT} {te : TE} {vs : List Nat} {σ : L2.St} {H : Hp} {Q : VK} {a : Addr} {xs : List V} (ha : ∀ R : V → Hp → Prop, R (.ref a) H → tl σ H R) (hx : H a = some (.lst xs)) (Pv : Addr → Nat → Hp → Prop)
    (h0 : ∀ D H1, H D = none → Same H H1 → H1 D = some (.lst []) → Pv D 0 H1) (hl : ∀ D i H, Pv D i H → H a = some (.lst xs))
    (hs : ∀ D i x H, xs[i]? = some x → Pv D i H → g x (wipe σ vs) H fun σ2 H2 => wipe σ2 vs = wipe σ vs ∧ tt σ2 H2 fun b H3 => if b = true then te σ2 H3 fun y H4 => ∃ acc, H4 D = some (.lst acc) ∧ acc.length < sizeLine ∧ Pv D (i + 1) (upd H4 D (.lst (acc ++ [y]))) else Pv D (i + 1) H3)
    (hd : ∀ D H, Pv D xs.length H → Q (.ref D) H) : tLc (iList K tl) g tt te vs σ H Q :=
  ha _ ⟨a, rfl, ⟨xs, SqL.of hx⟩, fun D hD => lc_list (Pv D) (h0 D _ hD (Same.upd hD) upd_same) (fun i H _ p => SqL.of (hl D i H p)) (hs D) (hd D)⟩
/-- deep == of what is alike -/
theorem dataEq {d : PyData} (h : SeqAt.shaped d = true) : PyData.eqv d d = true := SeqAt.eqv_refl d (SeqAt.canLay_of_shaped h)
theorem lk0 {f : Str} {v : V} : List.lookup f [(f, v)] = some v := by simp [List.lookup]
theorem ne_same {K : PySem.W.Frag} {x y : V} {H : Hp} {d : PyData} {R : VK} (hx : Dp K H x d) (hy : Dp K H y d) (h : SeqAt.shaped d = true) (r : R (.bl false) H) : rNeD K x y H R := ⟨d, d, hx, hy, h, h, by rw [dataEq h]; exact r⟩
theorem eq_same {K : PySem.W.Frag} {x y : V} {H : Hp} {d : PyData} {R : VK} (hx : Dp K H x d) (hy : Dp K H y d) (h : SeqAt.shaped d = true) (r : R (.bl true) H) : rEqD K x y H R := ⟨d, d, hx, hy, h, h, by rw [dataEq h]; exact r⟩
theorem dp_ss {K : PySem.W.Frag} {H : Hp} {p : Addr} {x y : Str} (h : H p = some (.tup [.str x, .str y])) : Dp K H (.ref p) (.tuple [.str x, .str y]) := .tup (SqT.of h) (.cons (.str x) (.cons (.str y) .nil))
theorem sh_ss {x y : Str} (hx : PyData.strOk x = true) (hy : PyData.strOk y = true) : SeqAt.shaped (.tuple [.str x, .str y]) = true := by simp [SeqAt.shaped, PyData.canLay0, PyData.canLayAll0, PyData.depth, PyData.depthAll, hx, hy]
theorem dp_nil {K : PySem.W.Frag} {H : Hp} {p : Addr} (h : H p = some (.lst [])) : Dp K H (.ref p) (.list []) := .lst (SqL.of h) .nil
/-- the rules that name the written part, within a comprehension -/
theorem op_neDk {X : Cx} {K : PySem.W.Frag} (e : X.K = K) (hu : X.A.units + 64 < cLine) : OpR X (compareOp .NotEq) (rNeD K) := e ▸ op_neD hu
theorem op_eqDk {X : Cx} {K : PySem.W.Frag} (e : X.K = K) (hu : X.A.units + 64 < cLine) : OpR X (compareOp .Eq) (rEqD K) := e ▸ op_eqD hu
/-! ### what the top has made, from facts -/
theorem ga_of {K : PySem.W.Frag} {x : Str} {a : Addr} (h : PySem.W.nsIn K mainGlobals x = some (some (.ref a))) : ga K x = a := by unfold ga; rw [h]
theorem ext_mk {K : PySem.W.Frag} {mg : Str → Option Value} {h : Heap} (X : K.In h) (G : h.Ns mainGlobals mg) {x fld qual nm q : Str} {st : Stmt} {C f N : Addr} {bs bm sub : List Value} {sn : List Str} {ab : Bool} {col : Option Bool} {dd od an : Option Addr} {m0 m1 m2 m3 m5 : Option Value} {oc kV dc pm cd ct : Value} {sl : Array (Option Value)} {p1 p2 p3 p4 : Pos}
    (aC : PySem.W.nsIn K mainGlobals x = some (some (.ref C))) (xL : K.lookup C = some (excClassObj nm q C N bs bm true sn sub ab col dd m0 m1 m2 m3 m5 "ValueError.__new__")) (hbm : PySem.HandSPX.refsVE bm = true)
    (sa : PySem.W.findIn K (.ref C) "__setattr__" = some (some (.builtin "object.__setattr__"))) (exC : PySem.W.subIn K (.ref C) (.type "BaseException") = some true) (tyC : PySem.W.typeIn K (.ref C) = some (.type "type")) (kC : PySem.W.keepIn K (.ref C) = true)
    (gA : PySem.W.findIn K (.ref C) "__getattribute__" = some (some (.builtin "BaseException.__getattribute__"))) (gG : PySem.W.findIn K (.ref C) "__getattr__" = some none) (hd : PySem.W.hasDictIn K C = true) (no : PySem.W.findIn K (.ref C) fld = some none)
    (iC : PySem.W.findIn K (.ref C) "__init__" = some (some (.ref f))) (tI : PySem.W.typeIn K (.ref f) = some (.type "function"))
    (lI : K.lookup f = some ⟨oc, od, .func (PySem.W.fnOf "__init__" qual (defArgs st) (defBody st) (defScope st) .none kV dc pm an cd ct), sl⟩) (cI : PySem.W.codeIn K cd qual = true) (kI : PySem.W.keepIn K (.ref f) = true)
    (S : FnScope ["self", fld] ["self", fld] (defScope st)) (hb : defBody st = [.Assign [.Attribute (.Name "self" p1) fld p2] (.Name fld p3) p4])
    (hB : ∀ (kV doc pm : Value) (an : Option Addr) (cdv ct : Value) (us : List Value), us.length = (["self", fld] : List Str).length → bindArgs (PySem.W.fnOf "__init__" qual (defArgs st) (defBody st) (defScope st) .none kV doc pm an cdv ct) ⟨us, []⟩ = pure ((["self", fld] : List Str).zip us)) : ExT K mg x fld := by
  have e := ga_of aC
  refine ⟨?_, ?_, ?_, ?_, ?_⟩
  · rw [e]; exact PySem.W.mg_of X G aC
  · rw [e]; exact ⟨⟨_, _, _, _, _, _, _, _, _, _, _, _, _, _, _, xL, hbm⟩, sa, exC, tyC, kC⟩
  · rw [e]; exact ⟨gA, gG, exC, hd⟩
  · rw [e]; exact no
  · rw [e]; exact ⟨qual, st, f, _, p1, p2, p3, p4, iC, tI, fun_mk lI cI kI, S, hb, (fun_mk (st := st) lI cI kI).binds hB⟩
theorem exi_mk {K : PySem.W.Frag} {x : Str} {C : Addr} (aC : PySem.W.nsIn K mainGlobals x = some (some (.ref C))) (hc : (PySem.W.clsIn K C).isSome = true) (ha : PySem.W.findIn K (.ref C) "__class__" = some (some (.builtin "object.__class__")))
    (hn : PySem.W.specialIn K (.builtin "object.__class__") "__get__" = some (some (.builtin "getset_descriptor.__get__"))) (ht : PySem.W.takesIn K (.builtin "object.__class__") = some true) (hm : PySem.W.mroIn K C (.type "object") = some true) : ExI K (ga K x) := by
  rw [ga_of aC]; exact ⟨hc, ha, hn, ht, hm⟩
theorem lamf_mk {K : PySem.W.Frag} {mg : Str → Option Value} {h : Heap} (X : K.In h) (G : h.Ns mainGlobals mg) {x : Str} {st : Stmt} {f c P : Addr} {od an : Option Addr} {oc kV dc pm ct : Value} {sl : Array (Option Value)}
    (a : PySem.W.nsIn K mainGlobals x = some (some (.ref f))) (l : K.lookup f = some ⟨oc, od, .func (PySem.W.fnOf x x (defArgs st) (defBody st) (defScope st) .none kV dc pm an (.ref c) ct), sl⟩) (cI : PySem.W.codeIn K (.ref c) x = true) (kI : PySem.W.keepIn K (.ref f) = true)
    (t : PySem.W.tabIn K x = some (c, P)) : LamF K mg x st := by
  have e : cOf K x = c := by unfold cOf; rw [t]; rfl
  refine ⟨f, oc, od, kV, dc, pm, an, ct, sl, PySem.W.mg_of X G a, kI, ?_, ?_⟩
  · rw [e]; exact l
  · rw [e]; exact cI
end Iz
/-! Bc -/
set_option Elab.async false
set_option linter.all false
set_option maxRecDepth 100000
set_option maxHeartbeats 4000000
namespace Iz
open PySem PySem.Spec PyProof.Rows L2
open He (ga)
/-! ### own classes: their instances stand still -/
/-- how the parameters bind, the last ones by their defaults -/
def BindD (K : PySem.W.Frag) (fd : FuncData) (ps : List Str) (dvs : List V) : Prop := ∀ j, j ≤ dvs.length → ∃ ds, Vals (dvs.drop j) ds ∧ Binds K fd ps ds
theorem BindD.none {K : PySem.W.Frag} {fd : FuncData} {ps : List Str} (b : Binds K fd ps []) : BindD K fd ps [] := fun _ _ => ⟨[], by rw [List.drop_nil]; exact .nil, b⟩
/-- the method m of the class x keeps sp -/
structure OkM (P : Program) (w : World) (K : PySem.W.Frag) (mg : Str → Option Value) (base : Heap) (CX : CXT) (k : Nat) (x m : Str) (ps : List Str) (dvs : List V) (sp : Sp) : Prop where
  ex : ∃ (f : Addr) (fd : FuncData), Meth K (ga K x) m f ∧ BindD K fd ps dvs ∧ FnOk P w K mg base CX k f fd ps sp
/-- a call of the class x keeps sp -/
structure OkK (P : Program) (w : World) (K : PySem.W.Frag) (mg : Str → Option Value) (base : Heap) (CX : CXT) (k : Nat) (x : Str) (ps : List Str) (dvs : List V) (sp : Sp) : Prop where
  ex : ∃ (f : Addr) (fd : FuncData) (si : Sp), Mk K (ga K x) f ∧ mg x = some (.ref (ga K x)) ∧ BindD K fd ("self" :: ps) dvs ∧ FnOk P w K mg base CX k f fd ("self" :: ps) si ∧
    ∀ vs H Q E, sp vs H Q E → ∀ p dx, H p = none → H dx = none → dx ≠ p → si (.ref p :: vs) (upd (upd H dx (.own p)) p (.ins (ga K x) dx [])) (fun v H2 => v = .non ∧ Q (.ref p) H2) E
/-- a new instance -/
def NewsI (H : Hp) (C : Addr) (fs : List (Str × V)) (Q : V → Hp → Prop) : Prop := ∀ p dx H2, H p = none → Same H H2 → H2 p = some (.ins C dx fs) → Q (.ref p) H2
def tMt (C : Addr) (m : Str) (sp : Sp) (dv : List V) (E : XK) (ta : TE) (t : TA) : TE := fun σ H Q => ta σ H fun x H1 => ∃ a dx fs, x = .ref a ∧ H1 a = some (.ins C dx fs) ∧ fs.lookup m = none ∧ t σ H1 fun vs H2 => sp (x :: (vs ++ dv)) H2 Q E
section
variable {X : Cx} {CX : CXT} {k j : Nat} {x m f : Str} {ps : List Str} {dvs : List V} {sp : Sp} {E : XK} {o e : Expr} {es : List Expr} {ta : TE} {t : TA} {p pos apos : Pos}
theorem pmt {pl : Sem Bool} (O : OkM X.prog X.w X.K X.mg X.base CX k x m ps dvs sp) (C : Cls X.K (ga X.K x)) (he : PE X o ta) (hj : j ≤ dvs.length) (hr : Room k X.A) (hx : Passes CX X E) (ha : PA X (e :: es) t)
    (hst : starEach (e :: es) X.env = (false, eval e X.env) :: starEach es X.env := by rfl) (hpl : (backTo pos (starEach es X.env)).any (·.1) = false := by rfl)
    (ht : eval (.Call (.Attribute o m apos) (e :: es) [] pos) X.env = (do
      let ov ← eval o X.env; standAt apos.atName
      let (f, first) ← holding [ov] (getMethod ov m pl)
      callWith pos f first (backTo pos (starEach (e :: es) X.env)) (backToKw pos (keywordEach [] X.env))) := by rfl) :
    PE X (.Call (.Attribute o m apos) (e :: es) [] pos) (tMt (ga X.K x) m sp (dvs.drop j) E ta t) := by
  obtain ⟨f, fd, M, b, G⟩ := O.ex
  obtain ⟨ds, hv, hb⟩ := b j hj
  exact pe_meth he C M G hr hb hv hx ha hst hpl ht
theorem pmt0 {pl : Sem Bool} (O : OkM X.prog X.w X.K X.mg X.base CX k x m ps dvs sp) (C : Cls X.K (ga X.K x)) (he : PE X o ta) (hj : j ≤ dvs.length) (hr : Room k X.A) (hx : Passes CX X E)
    (ht : eval (.Call (.Attribute o m apos) [] [] pos) X.env = (do
      let ov ← eval o X.env; standAt apos.atName
      let (f, first) ← holding [ov] (getMethod ov m pl)
      callWith pos f first (backTo pos (starEach [] X.env)) (backToKw pos (keywordEach [] X.env))) := by rfl) :
    PE X (.Call (.Attribute o m apos) [] [] pos) (tMt (ga X.K x) m sp (dvs.drop j) E ta tNil) := by
  obtain ⟨f, fd, M, b, G⟩ := O.ex
  obtain ⟨ds, hv, hb⟩ := b j hj
  exact pe_meth0 he C M G hr hb hv hx ht
theorem pmk (O : OkK X.prog X.w X.K X.mg X.base CX k x ps dvs sp) (hj : j ≤ dvs.length) (hr : Room (k + 1) X.A) (hx : Passes CX X E) (ha : PA X (e :: es) t) (hg : Gl X x := by rfl) (hdb : (x == ("__debug__" : Str)) = false := by decide)
    (he : starEach (e :: es) X.env = (false, eval e X.env) :: starEach es X.env := by rfl) (hpl : (backTo pos (starEach es X.env)).any (·.1) = false := by rfl) : PE X (.Call (.Name x p) (e :: es) [] pos) (tCall sp (dvs.drop j) E t) := by
  obtain ⟨f, fd, si, M, g, b, G, q⟩ := O.ex
  obtain ⟨ds, hv, hb⟩ := b j hj
  exact PE.imp (pe_make M G hr hg g hb hv hx (PA.mcl ha) hdb he hpl) fun σ H Q h => ⟨_, h, fun vs H1 h1 p dx h2 h3 h4 => q _ H1 Q _ h1 p dx h2 h3 h4⟩
theorem pmk0 (O : OkK X.prog X.w X.K X.mg X.base CX k x ps dvs sp) (hj : j ≤ dvs.length) (hr : Room (k + 1) X.A) (hx : Passes CX X E) (hg : Gl X x := by rfl) (hdb : (x == ("__debug__" : Str)) = false := by decide) : PE X (.Call (.Name x p) [] [] pos) (tCall sp (dvs.drop j) E tNil) := by
  obtain ⟨f, fd, si, M, g, b, G, q⟩ := O.ex
  obtain ⟨ds, hv, hb⟩ := b j hj
  exact PE.imp (pe_make0 M G hr hg g hb hv hx hdb) fun σ H Q h => fun p dx h2 h3 h4 => q _ H Q _ h p dx h2 h3 h4
def tFldN (C : Addr) (ta : TE) (f : Str) : TE := fun σ H Q => ta σ H fun x H1 => ∃ a dx fs v, x = .ref a ∧ H1 a = some (.ins C dx fs) ∧ fs.lookup f = some v ∧ Q v H1
theorem pe_fldN {C : Addr} (c : Cls X.K C) (n : NoAttr X.K C f) (h : PE X o ta) (hb : attributeBase o f X.env (eval o X.env) = eval o X.env := by rfl) : PE X (.Attribute o f apos) (tFldN C ta f) :=
  PE.imp (pe_fld (PE.mcl h) hb) fun σ H Q q => ⟨_, q, fun x H1 ⟨a, dx, fs, v, e1, e2, e3, q⟩ => ⟨a, C, dx, fs, v, e1, e2, c, n, e3, q⟩⟩
end
theorem lk1 {f g : Str} {v w : V} (h : (f == g) = false) : List.lookup f [(g, w), (f, v)] = some v := by simp [List.lookup, h]
theorem lkn2 {f g h : Str} {v w : V} (h1 : (f == g) = false) (h2 : (f == h) = false) : List.lookup f [(g, v), (h, w)] = none := by simp [List.lookup, h1, h2]
theorem lkh {f : Str} {v : V} {l : List (Str × V)} : List.lookup f ((f, v) :: l) = some v := by simp [List.lookup]
/-- None or an int -/
def ov : Option Int → V
  | none => .non
  | some i => .int i
theorem wh_ov {K : PySem.W.Frag} {H : Hp} {o : Option Int} : Wh K H (ov o) := by cases o; exact wh_non; exact wh_int
theorem putF_nil {f : Str} {v : V} : putF f v [] = [(f, v)] := rfl
theorem putF_cons {f g : Str} {v w : V} {l : List (Str × V)} (h : g ≠ f) : putF f v ((g, w) :: l) = (g, w) :: putF f v l := by
  show (if g = f then _ else _) = _
  rw [if_neg h]
/-- self.f = e, the object's class known -/
def tSto (C : Addr) (f : Str) (ta tv : TE) : TS := fun D σ H => tv σ H fun y H1 => ta σ H1 fun x H2 => ∃ a dx fs, x = .ref a ∧ H2 a = some (.ins C dx fs) ∧ fs.length < 1000 ∧ ∀ H3, Put H2 H3 a (.ins C dx (putF f y fs)) → D.nx σ H3
theorem ps_fldN {X : Cx} {C : Addr} {f : Str} {o e : Expr} {ta tv : TE} {apos pos : Pos} (c : Cls X.K C) (n : NoAttr X.K C f) (ho : PE X o ta) (he : PE X e tv) (hs : swapsWith e (some (.Attribute o f apos)) pos.line X.env = pure false := by rfl) : PS X (.Assign [.Attribute o f apos] e pos) (tSto C f ta tv) :=
  PS.imp (ps_fld (PE.mcl ho) (PE.mcl he) hs) fun D σ H q => ⟨_, q, fun y H1 q1 => ⟨_, q1, fun x H2 ⟨a, dx, fs, e1, e2, e3, k⟩ => ⟨a, C, dx, fs, e1, e2, c, n, e3, k _ ⟨upd_same, fun _ h => upd_ne h⟩⟩⟩⟩
theorem tyX_mono {K : PySem.W.Frag} {H H' : Hp} {x : V} {t : Value} (h : TyX K H x t) (s : Same H H') : TyX K H' x t := by
  cases h with
  | base b =>
    cases b with
    | non => exact .base .non
    | bl b => exact .base (.bl b)
    | int i => exact .base (.int i)
    | str y => exact .base (.str y)
    | flt y => exact .base (.flt y)
    | lst e => exact .base (.lst (s _ _ e))
    | frz e => exact .base (.frz (s _ _ e))
    | tup e => exact .base (.tup (s _ _ e))
    | dK e => exact .base (.dK (s _ _ e))
    | dT e => exact .base (.dT (s _ _ e))
    | ins e a b c d f => exact .base (.ins (s _ _ e) a b c d f)
  | byt b => exact .byt b
  | set e => exact .set (s _ _ e)
  | kList e c => exact .kList e c
  | kTuple e c => exact .kTuple e c
  | kDict e c => exact .kDict e c
  | fTuple e => exact .fTuple (s _ _ e)
  | fDict e => exact .fDict (s _ _ e)
theorem wh_mono {K : PySem.W.Frag} {H H' : Hp} {x : V} (h : Wh K H x) (s : Same H H') : Wh K H' x := let ⟨t, b, c, ty, r⟩ := h; ⟨t, b, c, tyX_mono ty s, r⟩
theorem same_made {H H' : Hp} {p dx : Addr} {o o' : HO} (hp : H p = none) (hd : H dx = none) (h : ∀ b, b ≠ p → H' b = upd (upd H dx o) p o' b) : Same H H' := fun b u e => by
  rw [h b (ne_of_none e hp), upd_ne (ne_of_none e hp), upd_ne (ne_of_none e hd)]; exact e
/-- isinstance with an own class -/
def rIsOw (K : PySem.W.Frag) : List V → Hp → VK → Prop := fun xs H Q => ∃ x c, xs = [x, .ref c] ∧ ∃ t b, TyX K H x t ∧ PySem.W.kitOne K t (.ref c) = some b ∧ Q (.bl b) H
theorem call_isOw {X : Cx} : CallR X (.builtin "isinstance") (rIsOw X.K) := CallR.imp call_isi fun xs H Q ⟨x, c, a, t, b, ty, k, q⟩ => ⟨x, .ref c, t, .ref c, b, a, .own c, ty, k, q⟩
/-- what isinstance asks of an own class -/
structure ClsI (K : PySem.W.Frag) (C : Addr) : Prop where
  c : Cls K C
  ha : PySem.W.findIn K (.ref C) "__class__" = some (some (.builtin "object.__class__"))
  hn : PySem.W.specialIn K (.builtin "object.__class__") "__get__" = some (some (.builtin "getset_descriptor.__get__"))
  ht : PySem.W.takesIn K (.builtin "object.__class__") = some true
  hm : PySem.W.mroIn K C (.type "object") = some true
theorem ClsI.ty {K : PySem.W.Frag} {C : Addr} {H : Hp} {a dx : Addr} {fs : List (Str × V)} (T : ClsI K C) (h : H a = some (.ins C dx fs)) : TyX K H (.ref a) (.ref C) := .base (.ins h T.c T.ha T.hn T.ht T.hm)
theorem kit_self {K : PySem.W.Frag} {t : Value} (h : (t == t) = true := by simp) : PySem.W.kitOne K t t = some true := by unfold PySem.W.kitOne; rw [if_pos h]
end Iz
/-! RlA -/
set_option Elab.async false
set_option linter.all false
set_option maxRecDepth 100000
set_option maxHeartbeats 4000000
namespace Iz
open PySem PySem.Spec PyProof.Rows L2
/-! ### ranges with great ends: another iterator goes through them -/
theorem slotL_next : Slot "longrange_iterator" "__next__" "longrange_iterator.__next__" :=
  .of (owner := "longrange_iterator") (n := "__next__") (by rw [typeLookup_type, builtinLookup_eq_fast]; kernel_rfl) (by decide +kernel) (by decide +kernel) (by decide +kernel)
    (by first | exact .inl (by decide +kernel) | exact .inr (by decide +kernel)) (by rw [isSubtype_type]; kernel_rfl)
theorem ownerL : Manifest.owners.lookup (String.ofList ['r', 'o', 't', 'a', 'r', 'e', 't', 'i', '_', 'e', 'g', 'n', 'a', 'r', 'g', 'n', 'o', 'l'].reverse) = some Manifest.sig_longrange_iterator := by kernel_rfl
theorem entryL_next : entryFor table "longrange_iterator.__next__" = some Builtin.«longrange_iterator.__next__» := entryFor_of_tree (by kernel_rfl)
theorem argsL_next (a : Value) : argsOk "longrange_iterator.__next__" ⟨[a], []⟩ := by
  unfold argsOk; rw [signature?_of (id := "longrange_iterator.__next__") (n := ['_', '_', 't', 'x', 'e', 'n', '_', '_']) (o := ['r', 'o', 't', 'a', 'r', 'e', 't', 'i', '_', 'e', 'g', 'n', 'a', 'r', 'g', 'n', 'o', 'l']) (by kernel_rfl) ownerL]; kernel_rfl
abbrev IsLR (h : Heap) (it : Addr) (x left step : Int) : Prop := h.get? it = some { cls := .type "longrange_iterator", dict := none, data := .fields #[rawInt x, rawInt left, rawInt step], slots := #[] }
theorem slotL_iter : Slot "longrange_iterator" "__iter__" "longrange_iterator.__iter__" :=
  .of (owner := "longrange_iterator") (n := "__iter__") (by rw [typeLookup_type, builtinLookup_eq_fast]; kernel_rfl) (by decide +kernel) (by decide +kernel) (by decide +kernel)
    (by first | exact .inl (by decide +kernel) | exact .inr (by decide +kernel)) (by rw [isSubtype_type]; kernel_rfl)
theorem argsL_iter (a : Value) : argsOk "longrange_iterator.__iter__" ⟨[a], []⟩ := by
  unfold argsOk; rw [signature?_of (id := "longrange_iterator.__iter__") (n := ['_', '_', 'r', 'e', 't', 'i', '_', '_']) (o := ['r', 'o', 't', 'a', 'r', 'e', 't', 'i', '_', 'e', 'g', 'n', 'a', 'r', 'g', 'n', 'o', 'l']) (by kernel_rfl) ownerL]; kernel_rfl
theorem entryL_iter : entryFor table "longrange_iterator.__iter__" = some Builtin.«dict_keyiterator.__iter__» :=
  entryFor_alias (id' := "dict_keyiterator.__iter__") (by kernel_rfl) (by first | rfl | decide +kernel | (unfold String.splitOn; simp +decide [String.splitOnAux])) (by decide +kernel) (by kernel_rfl)
end Iz
/-! Rl -/
set_option Elab.async false
set_option linter.all false
set_option maxRecDepth 100000
set_option maxHeartbeats 4000000
namespace Iz
open PySem PySem.Spec PyProof.Rows L2
theorem meetsL_next (it : Addr) (x left step : Int) (hc0 : ¬left ≤ 0) :
    Meets (Builtin.«longrange_iterator.__next__» ⟨[.ref it], []⟩) (fun _ R s => s.heap.get? it = some { cls := .type "longrange_iterator", dict := none, data := .fields #[rawInt x, rawInt left, rawInt step], slots := #[] } ∧ R (.ok (.ret (Value.int x s.toks))) { s with heap := (s.heap.update it (Obj.mapFields fun x_1 => x_1.setIfInBounds 0 (rawInt (x + step)))).update it (Obj.mapFields fun x => x.setIfInBounds 1 (rawInt (left - 1))), toks := s.toks + 1 }) :=
  .of_wp fun prog w A R s h => by obtain ⟨hp, g, d, tk, os⟩ := s; obtain ⟨hl, h⟩ := h; unfold Builtin.«longrange_iterator.__next__» Builtin.Iterators_pickling.intField; wp_walk; exact ⟨_, rfl, h⟩
section
variable {prog : Program} {w : World} {A : Around} {E : Value → Shared → Prop} {s : Shared}
theorem nextL_item {it : Addr} {x left step : Int} {Q : Option Value → Shared → Prop} (hit : IsLR s.heap it x left step) (hleft : 0 < left)
    (hQ : ∀ h', IsLR h' it (x + step) (left - 1) step → Heap.SameBut it s.heap h' → Q (some (.int x s.toks)) { s with heap := h', toks := s.toks + 1 }) :
    wpAny (model prog w) A (pyNext (.ref it)) Q E s := by
  have hT : s.TypeIs (.ref it) "longrange_iterator" := ⟨_, hit, rfl⟩
  unfold pyNext
  refine wpAny_bind (wpAny_attempt (wpAny_callSpecial?_slot (name := Str.ofString "__next__") hT slotL_next
    (call_meets slotL_next hT entryL_next (argsL_next _) (meetsL_next it x left step (by omega)) ⟨hit, ?_⟩)))
  exact wpAny_pure (hQ _ (Heap.get?_update_self _ (Heap.get?_update_self _ hit rfl) rfl) ((Heap.SameBut.update ..).trans (Heap.SameBut.update ..)))
theorem intF {id : String} {a : Addr} {o : Obj} {vs : Array Value} {i : Nat} {x : Int} {Q : Int → Shared → Prop} (ho : s.heap.get? a = some o) (hd : o.data = .fields vs) (hi : vs[i]? = some (rawInt x)) (h : Q x s) :
    wpAny (model prog w) A (Builtin.Iterators_pickling.intField id (.ref a) i) Q E s := by
  unfold Builtin.Iterators_pickling.intField
  exact wpAny_bind (wpAny_field ho hd hi (wpAny_pure h))
theorem nextL_end {it : Addr} {x left step : Int} {Q : Option Value → Shared → Prop} (hh : A.handled = none) (hit : IsLR s.heap it x left step) (hleft : left ≤ 0)
    (hQ : ∀ h', Heap.ExtBut it s.heap h' → Q none { s with heap := h' }) : wpAny (model prog w) A (pyNext (.ref it)) Q E s := by
  have hT : s.TypeIs (.ref it) "longrange_iterator" := ⟨_, hit, rfl⟩
  unfold pyNext
  refine wpAny_bind (wpAny_attempt (wpAny_callSpecial?_slot (name := Str.ofString "__next__") hT slotL_next
    (wpAny_call_entry slotL_next hT entryL_next ?_ (argsL_next _))))
  unfold Builtin.«longrange_iterator.__next__»
  refine wpAny_bind (wpAny_of_eq (a := #[some (Value.ref it)]) (by first | rfl | kernel_rfl) ?_)
  refine wpAny_bind (intF hit rfl (x := x) rfl ?_)
  refine wpAny_bind (intF hit rfl (x := left) rfl ?_)
  refine wpAny_bind (intF hit rfl (x := step) rfl ?_)
  simp only [if_pos hleft]
  refine wpAny_bind (wpAny_rule ?_)
  simp only [newExc, newTuple]
  refine wpAny_bind ?_
  refine wpAny_bind (wpAny_newObj_type ?_ (by size_fits))
  refine wpAny_bind (m := firstArgMember _ _) (wpAny_of_eq (a := Value.none) (by first | rfl | (simp only [firstArgMember]; rfl)) ?_)
  refine wpAny_newObj_type ?_ (by size_fits)
  simp only [raiseNew]
  refine wpAny_bind (wpAny_bind (wpAny_handled ?_))
  first | rw [show A.in1.handled = none from hh] | rw [hh]
  refine wpAny_throw ?_
  refine wpAny_bind (wpAny_isInstance (T := "StopIteration") (b := true) ⟨_, Heap.get?_push_size _ rfl, rfl⟩ isSubtype_stop ?_)
  exact wpAny_pure (hQ _ (((Heap.ExtBut.refl it s.heap).push _).push _))
theorem iterL_self {it : Addr} {x left step : Int} {Q : Value → Shared → Prop} (hit : IsLR s.heap it x left step) (h : Q (.ref it) s) : wpAny (model prog w) A (pyIter (.ref it)) Q E s := by
  have hT : s.TypeIs (.ref it) "longrange_iterator" := ⟨_, hit, rfl⟩
  refine wpAny_pyIter_slot hT slotL_iter (wpAny_call_entry slotL_iter hT entryL_iter ?_ (argsL_iter _))
  show wpAny _ _ (ret (.ref it)) _ _ s
  exact wpAny_pure ⟨_, rfl, "longrange_iterator", _, hT, slotL_next.lookup, h⟩
theorem iterL_range {r : Addr} {a b c : Int} {t u v : Tok} {Q : Value → Shared → Prop} (hr : IsRange s.heap r a b c t u v) (hsmall : ¬ Builtin.Range.small a b c = true)
    (hQ : Q (.ref s.heap.objs.size) { s with heap := s.heap.push { cls := .type "longrange_iterator", data := .fields #[rawInt a, rawInt (Builtin.Range.rangeSize a b c), rawInt c] } }) :
    wpAny (model prog w) A (pyIter (.ref r)) Q E s := by
  have hT : s.TypeIs (.ref r) "range" := ⟨_, hr, rfl⟩
  refine wpAny_pyIter_slot hT F.slot_range_iter (call_meets F.slot_range_iter hT F.entry_range_iter (F.args_range_iter_1 _)
    (AutoRange.range___iter___range_0 r a b c t u v (by have e := Bool.eq_false_iff.mpr hsmall; unfold Builtin.Range.small at e; rw [e]; rfl)) ⟨hr, ?_⟩)
  unfold Builtin.Range.small at hsmall
  rw [if_neg hsmall]
  exact ⟨"longrange_iterator", _, ⟨_, Heap.get?_push_size _ rfl, rfl⟩, slotL_next.lookup, hQ⟩
end
theorem turnL {P : Program} {w : World} {K : PySem.W.Frag} {tg : Expr} (it : Addr) (lo : Int) (n : Nat) : Turn P w K tg (Itr lo n) [it] it (fun i h => IsLR h it (lo + (i : Nat)) ((n : Int) - (i : Nat)) 1) where
  mem := by simp
  obj := fun i h st b hb => by
    have e : b = it := by simpa using hb
    subst e
    exact ⟨_, st, fun v z => by
      have z' : Data.fields _ = Data.cell v := z
      cases z'⟩
  keep := fun i h h' st k => k it (by simp) _ st
  item := by
    intro X hP hw hK hc i pins s σ H E I hf st hg
    subst hP hw hK
    obtain ⟨f0, f1, f2, f3, f4, f5⟩ := hf it (by simp)
    have hg' : i < n := hg
    refine nextL_item st (by omega) fun h' st' sb => ?_
    have I1 : Inv X pins σ H { s with heap := h', toks := s.toks + 1 } := I.turned (fun b o hb e => (sb.2 b hb).trans e) f0 f1 f3 f4 f5
    have e1 : lo + ((i + 1 : Nat) : Int) = lo + (i : Int) + 1 := by omega
    have e2 : (n : Int) - ((i + 1 : Nat) : Int) = (n : Int) - (i : Int) - 1 := by omega
    refine ⟨_, rfl, go_of (s := { s with heap := h', toks := s.toks + 1 }) (n := "longrange_iterator") st' rfl rfl (by decide) ⟨.int (lo + i), H, I1, ⟨_, rfl⟩, ⟨rfl, rfl⟩, ?_, fun b hb => (hf b hb).1⟩⟩
    show IsLR h' it (lo + ((i + 1 : Nat) : Int)) ((n : Int) - ((i + 1 : Nat) : Int)) 1
    rw [e1, e2]; exact st'
  done := by
    intro X hP hw hK hc i pins s σ H E I hf st hg
    subst hP hw hK
    obtain ⟨f0, f1, f2, f3, f4, f5⟩ := hf it (by simp)
    exact nextL_end (I.ok.hd hc) st (by have : n ≤ i := hg; omega) fun h' eb => ⟨rfl, I.turned (t' := s.toks) (fun b o hb e => eb b o hb e) f0 f1 f3 f4 f5⟩
  self := fun _ _ _ _ _ st h => iterL_self st h
section
variable {X : Cx} {tg : Expr}
theorem range_itL {pins : List (Addr × Obj)} {σ : L2.St} {H : Hp} {s : Shared} {R : It → Hp → Prop} {E : Value → Shared → Prop} {lo hi : Int} {t u v : Tok} {tk : Nat} (I : Inv X pins σ H s)
    (q : R (Itr lo (hi - lo).toNat) H) : wpAny (model X.prog X.w) X.A (pyIter (.ref s.heap.objs.size)) (PIE X pins σ tg R) E { s with heap := s.heap.push { cls := .type "range", data := .fields #[.int lo t, .int hi u, .int 1 v] }, toks := tk } := by
  have I1 : Inv X pins σ H { s with heap := s.heap.push { cls := .type "range", data := .fields #[.int lo t, .int hi u, .int 1 v] }, toks := tk } := I.kept fun b o e => Heap.get?_push_of_some _ e
  have e2 : (((hi - lo).toNat : Nat) : Int) - ((0 : Nat) : Int) = Builtin.Range.rangeSize lo hi 1 := by rw [rangeSize_one]; split <;> omega
  by_cases hs : Builtin.Range.small lo hi 1 = true
  · refine wpAny_pyIter_range (IsRange.new ..) hs ?_
    refine ⟨(s.heap.push { cls := .type "range", data := .fields #[.int lo t, .int hi u, .int 1 v] }).objs.size, [(s.heap.push { cls := .type "range", data := .fields #[.int lo t, .int hi u, .int 1 v] }).objs.size], _, _, H, rfl,
      I1.kept (t' := tk) fun b o e => Heap.get?_push_of_some _ e, turn_range _ lo (hi - lo).toNat, ?_, fun b hb => ?_, q⟩
    · have e1 : lo + ((0 : Nat) : Int) * 1 = lo := by simp
      show IsRangeIter _ _ (lo + ((0 : Nat) : Int) * 1) ((((hi - lo).toNat : Nat) : Int) - ((0 : Nat) : Int)) 1
      rw [e1, e2]
      exact Heap.get?_push_size _ rfl
    · have e : b = (s.heap.push { cls := .type "range", data := .fields #[.int lo t, .int hi u, .int 1 v] }).objs.size := by simpa using hb
      subst e
      exact I1.fpOk (Nat.le_refl _) (I1.hok.fresh (Nat.le_refl _))
  · refine iterL_range (IsRange.new ..) hs ?_
    refine ⟨(s.heap.push { cls := .type "range", data := .fields #[.int lo t, .int hi u, .int 1 v] }).objs.size, [(s.heap.push { cls := .type "range", data := .fields #[.int lo t, .int hi u, .int 1 v] }).objs.size], _, _, H, rfl,
      I1.kept (t' := tk) fun b o e => Heap.get?_push_of_some _ e, turnL _ lo (hi - lo).toNat, ?_, fun b hb => ?_, q⟩
    · have e1 : lo + ((0 : Nat) : Int) = lo := by simp
      show IsLR _ _ (lo + ((0 : Nat) : Int)) ((((hi - lo).toNat : Nat) : Int) - ((0 : Nat) : Int)) 1
      rw [e1, e2]
      exact Heap.get?_push_size _ rfl
    · have e : b = (s.heap.push { cls := .type "range", data := .fields #[.int lo t, .int hi u, .int 1 v] }).objs.size := by simpa using hb
      subst e
      exact I1.fpOk (Nat.le_refl _) (I1.hok.fresh (Nat.le_refl _))
/-- range(lo, hi), of any size -/
def iRngL (ta : TA) : TI := fun σ H R => ta σ H fun vs H1 => ∃ i j : Int, vs = [.int i, .int j] ∧ R (Itr i (j - i).toNat) H1
theorem pi_rangeL {a b : Expr} {ta : TA} {p pos : Pos} (hg : Gl X "range") (hm : X.mg "range" = none) (ha : PA X [a, b] ta) (hs : starEach [a, b] X.env = [(false, eval a X.env), (false, eval b X.env)] := by rfl) (hs2 : starEach [b] X.env = [(false, eval b X.env)] := by rfl) :
    PI X tg (.Call (.Name "range" p) [a, b] [] pos) (iRngL ta) := by
  refine ⟨fun pins s σ H R I h => ?_⟩
  refine Call_ (ld_blt I hg hm boot_range (PyProof.Rows.callWith_type1 (thn (ha.run pos pins s σ H _ I h) fun us s1 ⟨vs, H1, I1, r1, q1⟩ => ?_) (by rw [hs, hs2]) (by rw [hs2]; rfl)))
  obtain ⟨i, j, e, q⟩ := q1
  subst e
  cases r1 with
  | cons r rr =>
    cases rr with
    | cons r' rr =>
      cases rr
      obtain ⟨t, rfl⟩ := r
      obtain ⟨t', rfl⟩ := r'
      exact call_range_2 (range_itL I1 q)
end
end Iz
/-! Ls -/
set_option Elab.async false
set_option linter.all false
set_option maxRecDepth 100000
set_option maxHeartbeats 4000000
namespace Iz
open PySem PySem.Spec PyProof.Rows L2
/-! ### loops over lists, tuples and ranges, comprehensions of what is told by functions -/
section
variable {K : PySem.W.Frag} {g : TG} {tb : TS} {D : Ends} {σ : L2.St} {H : Hp} {ta : TA} {tl : TE} {tt : TT} {te : TE} {vs : List Nat} {Q : VK}
theorem st_forRL (lo j : Int) (ha : ∀ R : List V → Hp → Prop, R [.int lo, .int j] H → ta σ H R) (Pv : Nat → L2.St → Hp → Prop) (h0 : Pv 0 σ H)
    (hs : ∀ i σ H, i < (j - lo).toNat → Pv i σ H → g (.int (lo + i)) σ H fun σ2 H2 => tb { D with nx := Pv (i + 1), ct := Pv (i + 1), bk := D.nx } σ2 H2) (hd : ∀ σ H, Pv (j - lo).toNat σ H → D.nx σ H) : tFor (iRngL ta) g tb D σ H :=
  ha _ ⟨lo, j, rfl, for_range Pv h0 hs hd⟩
theorem st_forL {a : Addr} {xs : List V} (ha : ∀ R : V → Hp → Prop, R (.ref a) H → tl σ H R) (hx : H a = some (.lst xs)) (Pv : Nat → L2.St → Hp → Prop) (h0 : Pv 0 σ H) (hl : ∀ i σ H, Pv i σ H → H a = some (.lst xs))
    (hs : ∀ i x σ H, xs[i]? = some x → Pv i σ H → g x σ H fun σ2 H2 => tb { D with nx := Pv (i + 1), ct := Pv (i + 1), bk := D.nx } σ2 H2) (hd : ∀ σ H, Pv xs.length σ H → D.nx σ H) : tFor (iList K tl) g tb D σ H :=
  ha _ ⟨a, rfl, ⟨xs, SqL.of hx⟩, for_list Pv h0 (fun i σ H _ p => SqL.of (hl i σ H p)) hs hd⟩
theorem st_forT {a : Addr} {xs : List V} (ha : ∀ R : V → Hp → Prop, R (.ref a) H → tl σ H R) (hx : H a = some (.tup xs)) (Pv : Nat → L2.St → Hp → Prop) (h0 : Pv 0 σ H) (hl : ∀ i σ H, Pv i σ H → H a = some (.tup xs))
    (hs : ∀ i x σ H, xs[i]? = some x → Pv i σ H → g x σ H fun σ2 H2 => tb { D with nx := Pv (i + 1), ct := Pv (i + 1), bk := D.nx } σ2 H2) (hd : ∀ σ H, Pv xs.length σ H → D.nx σ H) : tFor (iTup K tl) g tb D σ H :=
  ha _ ⟨a, rfl, ⟨xs, SqT.of hx⟩, for_tup Pv h0 (fun i σ H _ p => SqT.of (hl i σ H p)) hs hd⟩
/-- lo, .., j - 1 -/
def intsB (lo j : Int) : List Int := (List.range (j - lo).toNat).map fun (k : Nat) => lo + (k : Int)
theorem mem_intsB {lo j i : Int} : i ∈ intsB lo j ↔ lo ≤ i ∧ i < j := by
  simp only [intsB, List.mem_map, List.mem_range]
  constructor
  · rintro ⟨k, hk, rfl⟩; omega
  · rintro ⟨h1, h2⟩; exact ⟨(i - lo).toNat, by omega, by omega⟩
theorem take_filter_succ {α : Type} {xs : List α} {i : Nat} {x : α} (h : xs[i]? = some x) (p : α → Bool) : (xs.take (i + 1)).filter p = (xs.take i).filter p ++ (if p x = true then [x] else []) := by
  rw [List.take_succ, h, List.filter_append]
  congr 1
  by_cases e : p x = true <;> simp [e]
/-- [f(x) for x in xs if p(x)] -/
theorem st_lcLF {a : Addr} {xs : List V} (ha : ∀ R : V → Hp → Prop, R (.ref a) H → tl σ H R) (hx : H a = some (.lst xs)) (hz : xs.length ≤ sizeLine) (p : V → Bool) (f : V → V)
    (hs : ∀ x H' (A : Hp → Prop) (B : VK), x ∈ xs → Same H H' → (p x = false → ∀ H3, Same H' H3 → A H3) → (p x = true → ∀ H4, Same H' H4 → B (f x) H4) →
      g x (wipe σ vs) H' fun σ2 H2 => wipe σ2 vs = wipe σ vs ∧ tt σ2 H2 fun b H3 => if b = true then te σ2 H3 B else A H3)
    (hd : ∀ D H', H D = none → Same H H' → H' D = some (.lst ((xs.filter p).map f)) → Q (.ref D) H') : tLc (iList K tl) g tt te vs σ H Q := by
  refine ha _ ⟨a, rfl, ⟨xs, SqL.of hx⟩, fun D hD => lc_list (fun i H' => Same H H' ∧ H' D = some (.lst (((xs.take i).filter p).map f))) ⟨Same.upd hD, upd_same⟩ (fun i H' _ q => SqL.of (q.1 _ _ hx)) (fun i x H' hi q => ?_) (fun H' q => hd D H' hD q.1 (by rw [q.2, List.take_length]))⟩
  refine hs x H' _ _ (List.mem_of_getElem? hi) q.1 (fun e H3 s3 => ⟨q.1.trans s3, ?_⟩) (fun e H4 s4 => ⟨_, s4 _ _ q.2, ?_, ?_, ?_⟩)
  · rw [s3 _ _ q.2, take_filter_succ hi, e]; simp
  · have hi' := (List.getElem?_eq_some_iff.mp hi).1
    have h1 : ((xs.take i).filter p).length ≤ (xs.take i).length := List.length_filter_le _ _
    have h2 : (xs.take i).length ≤ i := by rw [List.length_take]; exact Nat.min_le_left _ _
    rw [List.length_map]; omega
  · exact fun b u e2 => by
      have hb : b ≠ D := ne_of_none e2 hD
      rw [upd_ne hb]; exact s4 _ _ (q.1 _ _ e2)
  · rw [upd_same, take_filter_succ hi, e]; simp
/-- [f(x) for x in range(lo, j) if p(x)] -/
theorem st_lcRF (lo j : Int) (ha : ∀ R : List V → Hp → Prop, R [.int lo, .int j] H → ta σ H R) (hz : (j - lo).toNat ≤ sizeLine) (p : Int → Bool) (f : Int → V)
    (hs : ∀ x H' (A : Hp → Prop) (B : VK), lo ≤ x → x < j → Same H H' → (p x = false → ∀ H3, Same H' H3 → A H3) → (p x = true → ∀ H4, Same H' H4 → B (f x) H4) →
      g (.int x) (wipe σ vs) H' fun σ2 H2 => wipe σ2 vs = wipe σ vs ∧ tt σ2 H2 fun b H3 => if b = true then te σ2 H3 B else A H3)
    (hd : ∀ D H', H D = none → Same H H' → H' D = some (.lst (((intsB lo j).filter p).map f)) → Q (.ref D) H') : tLc (iRngL ta) g tt te vs σ H Q := by
  refine ha _ ⟨lo, j, rfl, fun D hD => lc_range (fun i H' => Same H H' ∧ H' D = some (.lst ((((intsB lo j).take i).filter p).map f))) ⟨Same.upd hD, upd_same⟩ (fun i H' hi q => ?_) (fun H' q => hd D H' hD q.1 (by rw [q.2, show (j - lo).toNat = (intsB lo j).length by simp [intsB], List.take_length]))⟩
  have hi' : (intsB lo j)[i]? = some (lo + (i : Int)) := by simp [intsB, hi]
  refine hs (lo + i) H' _ _ (by omega) (by omega) q.1 (fun e H3 s3 => ⟨q.1.trans s3, ?_⟩) (fun e H4 s4 => ⟨_, s4 _ _ q.2, ?_, ?_, ?_⟩)
  · rw [s3 _ _ q.2, take_filter_succ hi', e]; simp
  · have h1 : (((intsB lo j).take i).filter p).length ≤ ((intsB lo j).take i).length := List.length_filter_le _ _
    have h2 : ((intsB lo j).take i).length ≤ i := by rw [List.length_take]; exact Nat.min_le_left _ _
    rw [List.length_map]; omega
  · exact fun b u e2 => by
      have hb : b ≠ D := ne_of_none e2 hD
      rw [upd_ne hb]; exact s4 _ _ (q.1 _ _ e2)
  · rw [upd_same, take_filter_succ hi', e]; simp
end
end Iz
namespace Iz
open PySem PySem.Spec PyProof.Rows L2
/-! ### slices, + of lists, deep ==, in the form that simp reads -/
section
variable {X : Cx} {e : Expr} {te : TE}
def tRevLN (te : TE) : TE := fun σ H Q => te σ H fun x H1 => ∃ a xs, x = .ref a ∧ H1 a = some (.lst xs) ∧ News H1 (.lst xs.reverse) Q
theorem pe_revLN {k : Nat} {p1 p2 p3 pos : Pos} (he : PE X e te) : PE X (.Subscript e (.Slice none none (some (.UnaryOp .USub (.Constant (.int 1) k p1) p2)) p3) pos) (tRevLN te) :=
  PE.imp (pe_revL (PE.mcl he)) fun σ H Q q => ⟨_, q, fun v H1 ⟨a, xs, e1, e2, n⟩ => ⟨a, xs, e1, SqL.of e2, n.all⟩⟩
def rCatN : R2 := fun x y H Q => ∃ l b xs zs, x = .ref l ∧ y = .ref b ∧ H l = some (.lst xs) ∧ H b = some (.lst zs) ∧ xs.length + zs.length ≤ sizeLine ∧ News H (.lst (xs ++ zs)) Q
theorem op_catN : OpR X (binaryOp .Add) rCatN := fun pins s σ H x y v u Q I rx ry ⟨l, b, xs, zs, e1, e2, e3, e4, e5, n⟩ => op_cat pins s σ H x y v u Q I rx ry ⟨l, b, xs, zs, e1, e2, e3, e4, e5, n.all⟩
end
/-- x in xs, x not in xs: flat things -/
def rInTN (neg : Bool) : R2 := fun x y H Q => ∃ p xs, y = .ref p ∧ H p = some (.tup xs) ∧ flatV x = true ∧ xs.all flatV = true ∧ Q (.bl (if neg then !inV x xs else inV x xs)) H
def rInLN (neg : Bool) : R2 := fun x y H Q => ∃ p xs, y = .ref p ∧ H p = some (.lst xs) ∧ flatV x = true ∧ xs.all flatV = true ∧ Q (.bl (if neg then !inV x xs else inV x xs)) H
theorem op_inTN {X : Cx} : OpR X (compareOp .In) (rInTN false) := fun pins s σ H x y v u Q I rx ry ⟨p, xs, e1, e2, e3, e4, q⟩ => op_in_seq pins s σ H x y v u Q I rx ry ⟨p, xs, e1, .inr (SqT.of e2), e3, e4, q⟩
theorem op_notInTN {X : Cx} : OpR X (compareOp .NotIn) (rInTN true) := fun pins s σ H x y v u Q I rx ry ⟨p, xs, e1, e2, e3, e4, q⟩ => op_notIn_seq pins s σ H x y v u Q I rx ry ⟨p, xs, e1, .inr (SqT.of e2), e3, e4, q⟩
theorem op_inLN {X : Cx} : OpR X (compareOp .In) (rInLN false) := fun pins s σ H x y v u Q I rx ry ⟨p, xs, e1, e2, e3, e4, q⟩ => op_in_seq pins s σ H x y v u Q I rx ry ⟨p, xs, e1, .inl (SqL.of e2), e3, e4, q⟩
theorem op_notInLN {X : Cx} : OpR X (compareOp .NotIn) (rInLN true) := fun pins s σ H x y v u Q I rx ry ⟨p, xs, e1, e2, e3, e4, q⟩ => op_notIn_seq pins s σ H x y v u Q I rx ry ⟨p, xs, e1, .inl (SqL.of e2), e3, e4, q⟩
def ShN (n : Nat) (d : PyData) : Prop := d.canLay0 = true ∧ d.depth ≤ n
theorem ShN.up {n m : Nat} {d : PyData} (h : ShN n d) (k : n ≤ m) : ShN m d := ⟨h.1, Nat.le_trans h.2 k⟩
theorem ShN.non {n : Nat} : ShN n .none := ⟨by simp [PyData.canLay0], by simp [PyData.depth]⟩
theorem ShN.int {n : Nat} {i : Int} : ShN n (.int i) := ⟨by simp [PyData.canLay0], by simp [PyData.depth]⟩
theorem ShN.bool {n : Nat} {b : Bool} : ShN n (.bool b) := ⟨by simp [PyData.canLay0], by simp [PyData.depth]⟩
theorem shAll {n : Nat} {ds : List PyData} (h : ∀ d ∈ ds, ShN n d) : PyData.canLayAll0 ds = true ∧ PyData.depthAll ds ≤ n := by
  induction ds with
  | nil => exact ⟨by simp [PyData.canLayAll0], by simp [PyData.depthAll]⟩
  | cons d ds ih =>
    have h1 := h d (by simp)
    have h2 := ih fun x hx => h x (by simp [hx])
    exact ⟨by simp [PyData.canLayAll0, h1.1, h2.1], by simp only [PyData.depthAll]; exact Nat.max_le.mpr ⟨h1.2, h2.2⟩⟩
theorem ShN.list {n : Nat} {ds : List PyData} (h : ∀ d ∈ ds, ShN n d) : ShN (n + 1) (.list ds) := ⟨by simp only [PyData.canLay0]; exact (shAll h).1, by simp only [PyData.depth]; have := (shAll h).2; omega⟩
theorem ShN.tuple {n : Nat} {ds : List PyData} (h : ∀ d ∈ ds, ShN n d) : ShN (n + 1) (.tuple ds) := ⟨by simp only [PyData.canLay0]; exact (shAll h).1, by simp only [PyData.depth]; have := (shAll h).2; omega⟩
theorem ShN.ok {n : Nat} {d : PyData} (h : ShN n d) (k : n ≤ 64 := by decide) : SeqAt.shaped d = true := by
  unfold SeqAt.shaped
  rw [h.1]; simpa using Nat.le_trans h.2 k
/-- None or an int, as data -/
def dO : Option Int → PyData
  | none => .none
  | some i => .int i
theorem dp_ov {K : PySem.W.Frag} {H : Hp} {o : Option Int} : Dp K H (ov o) (dO o) := by cases o; exact .non; exact .int _
theorem sh_dO {n : Nat} {o : Option Int} : ShN n (dO o) := by cases o; exact .non; exact .int
/-- a list of pairs -/
inductive PAll (H : Hp) : List V → List (Option Int × Option Int) → Prop
  | nil : PAll H [] []
  | cons {a : Addr} {xs : List V} {q : Option Int × Option Int} {ps : List (Option Int × Option Int)} : H a = some (.tup [ov q.1, ov q.2]) → PAll H xs ps → PAll H (.ref a :: xs) (q :: ps)
def PairsAt (H : Hp) (a : Addr) (ps : List (Option Int × Option Int)) : Prop := ∃ xs, H a = some (.lst xs) ∧ PAll H xs ps
theorem PAll.length {H : Hp} {xs : List V} {ps : List (Option Int × Option Int)} (h : PAll H xs ps) : xs.length = ps.length := by induction h <;> simp_all
theorem PAll.mono {H H' : Hp} {xs : List V} {ps : List (Option Int × Option Int)} (h : PAll H xs ps) (s : Same H H') : PAll H' xs ps := by
  induction h with
  | nil => exact .nil
  | cons e _ ih => exact .cons (s _ _ e) ih
theorem PAll.monoT {H H' : Hp} {xs : List V} {ps : List (Option Int × Option Int)} (h : PAll H xs ps) (s : ∀ b us, H b = some (.tup us) → H' b = some (.tup us)) : PAll H' xs ps := by
  induction h with
  | nil => exact .nil
  | cons e _ ih => exact .cons (s _ _ e) ih
theorem PAll.snoc {H : Hp} {a : Addr} {q : Option Int × Option Int} {xs : List V} {ps : List (Option Int × Option Int)} (h : PAll H xs ps) (e : H a = some (.tup [ov q.1, ov q.2])) : PAll H (xs ++ [.ref a]) (ps ++ [q]) := by
  induction h with
  | nil => exact .cons e .nil
  | cons e2 _ ih => exact .cons e2 ih
theorem PAll.rev {H : Hp} {xs : List V} {ps : List (Option Int × Option Int)} (h : PAll H xs ps) : PAll H xs.reverse ps.reverse := by
  induction h with
  | nil => exact .nil
  | cons e _ ih => rw [List.reverse_cons, List.reverse_cons]; exact ih.snoc e
theorem PAll.get {H : Hp} {xs : List V} {ps : List (Option Int × Option Int)} (h : PAll H xs ps) {i : Nat} {x : V} (e : xs[i]? = some x) : ∃ a q, x = .ref a ∧ ps[i]? = some q ∧ H a = some (.tup [ov q.1, ov q.2]) := by
  induction h generalizing i with
  | nil => simp at e
  | cons e2 _ ih =>
    cases i with
    | zero => simp at e; subst e; exact ⟨_, _, rfl, rfl, e2⟩
    | succ i => exact ih (by simpa using e)
theorem PairsAt.mono {H H' : Hp} {a : Addr} {ps : List (Option Int × Option Int)} (h : PairsAt H a ps) (s : Same H H') : PairsAt H' a ps := let ⟨xs, e, p⟩ := h; ⟨xs, s _ _ e, p.mono s⟩
theorem drop_of {α : Type} {l : List α} {i : Nat} {x : α} (h : l[i]? = some x) : l.drop i = x :: l.drop (i + 1) := by
  have := (List.getElem?_eq_some_iff.mp h)
  obtain ⟨h1, h2⟩ := this
  rw [← h2]; exact List.drop_eq_getElem_cons h1
def dP (q : Option Int × Option Int) : PyData := .tuple [dO q.1, dO q.2]
theorem PAll.dp {K : PySem.W.Frag} {H : Hp} {xs : List V} {ps : List (Option Int × Option Int)} (h : PAll H xs ps) : DpAll K H xs (ps.map dP) := by
  induction h with
  | nil => exact .nil
  | cons e _ ih => exact .cons (.tup (SqT.of e) (.cons dp_ov (.cons dp_ov .nil))) ih
theorem sh_dP {q : Option Int × Option Int} : ShN 1 (dP q) := ShN.tuple fun d h => by
  simp only [List.mem_cons, List.not_mem_nil, or_false] at h
  rcases h with rfl | rfl <;> exact sh_dO
theorem PairsAt.dp {K : PySem.W.Frag} {H : Hp} {a : Addr} {ps : List (Option Int × Option Int)} (h : PairsAt H a ps) : Dp K H (.ref a) (.list (ps.map dP)) := let ⟨_, e, p⟩ := h; .lst (SqL.of e) p.dp
theorem sh_dPs {ps : List (Option Int × Option Int)} : ShN 2 (.list (ps.map dP)) := ShN.list fun d h => by
  obtain ⟨q, _, rfl⟩ := List.mem_map.mp h; exact sh_dP
/-- xs == [] -/
theorem eq_nil {K : PySem.W.Frag} {H : Hp} {a b : Addr} {ps : List (Option Int × Option Int)} {R : VK} (h : PairsAt H a ps) (h2 : H b = some (.lst [])) (r : R (.bl ps.isEmpty) H) : rEqD K (.ref a) (.ref b) H R :=
  ⟨_, _, h.dp, dp_nil h2, sh_dPs.ok, (ShN.list (n := 0) fun _ h => by simp at h).ok, by cases ps <;> simp_all [PyData.eqv, PyData.eqvAll]⟩
end Iz
namespace Iz
open PySem PySem.Spec PyProof.Rows L2
open He (ga)
/-! ### within a lambda: the rules that name the written part -/
section
variable {X : Cx} {CX : CXT} {k j : Nat} {x m f : Str} {ps : List Str} {dvs : List V} {sp : Sp} {E : XK} {o e : Expr} {es : List Expr} {ta : TE} {t : TA} {p pos apos : Pos} {K : PySem.W.Frag}
theorem pmtK {pl : Sem Bool} (hK : X.K = K) (O : OkM X.prog X.w X.K X.mg X.base CX k x m ps dvs sp) (C : Cls X.K (ga X.K x)) (he : PE X o ta) (hj : j ≤ dvs.length) (hr : Room k X.A) (hx : Passes CX X E) (ha : PA X (e :: es) t)
    (hst : starEach (e :: es) X.env = (false, eval e X.env) :: starEach es X.env := by rfl) (hpl : (backTo pos (starEach es X.env)).any (·.1) = false := by rfl)
    (ht : eval (.Call (.Attribute o m apos) (e :: es) [] pos) X.env = (do
      let ov ← eval o X.env; standAt apos.atName
      let (f, first) ← holding [ov] (getMethod ov m pl)
      callWith pos f first (backTo pos (starEach (e :: es) X.env)) (backToKw pos (keywordEach [] X.env))) := by rfl) :
    PE X (.Call (.Attribute o m apos) (e :: es) [] pos) (tMt (ga K x) m sp (dvs.drop j) E ta t) := by subst hK; exact pmt O C he hj hr hx ha hst hpl ht
theorem pmt0K {pl : Sem Bool} (hK : X.K = K) (O : OkM X.prog X.w X.K X.mg X.base CX k x m ps dvs sp) (C : Cls X.K (ga X.K x)) (he : PE X o ta) (hj : j ≤ dvs.length) (hr : Room k X.A) (hx : Passes CX X E)
    (ht : eval (.Call (.Attribute o m apos) [] [] pos) X.env = (do
      let ov ← eval o X.env; standAt apos.atName
      let (f, first) ← holding [ov] (getMethod ov m pl)
      callWith pos f first (backTo pos (starEach [] X.env)) (backToKw pos (keywordEach [] X.env))) := by rfl) :
    PE X (.Call (.Attribute o m apos) [] [] pos) (tMt (ga K x) m sp (dvs.drop j) E ta tNil) := by subst hK; exact pmt0 O C he hj hr hx ht
theorem pe_fldNK {C : Addr} (hK : X.K = K) (c : Cls K C) (n : NoAttr K C f) (h : PE X o ta) (hb : attributeBase o f X.env (eval o X.env) = eval o X.env := by rfl) : PE X (.Attribute o f apos) (tFldN C ta f) := by subst hK; exact pe_fldN c n h hb
end
end Iz
/-! Ow -/
set_option Elab.async false
set_option linter.all false
set_option maxRecDepth 100000
set_option maxHeartbeats 4000000
namespace Iz
open PySem PySem.Spec PyProof.Rows L2
open He (ga)
/-! ### operators by a class's own methods -/
section
variable {X : Cx} {pins : List (Addr × Obj)} {σ : L2.St} {H : Hp} {s : Shared}
/-- the type of a value is seen -/
theorem looksTy {x : V} {u t : Value} (I : Inv X pins σ H s) (rx : RelV x u) (ty : TyX X.K H x t) : PySem.W.Looks (model X.prog X.w) s.heap (typeOf u) t := by
  have R : ∀ {a : Addr} {o : Obj}, s.heap.get? a = some o → o.cls = t → PySem.W.Looks (model X.prog X.w) s.heap (typeOf (.ref a)) t := fun ho hc A Q E s2 k q => wpAny_typeOf_ref (k _ _ ho) (by rw [hc]; exact q)
  cases ty with
  | base b =>
    cases b with
    | non => cases (show u = Value.none from rx); exact .of_pure rfl
    | bl y => cases (show u = Value.bool y from rx); exact .of_pure rfl
    | int i => obtain ⟨t, q⟩ := (show ∃ t, u = Value.int i t from rx); cases q; exact .of_pure rfl
    | str y => obtain ⟨t, q⟩ := (show ∃ t, u = Value.str y t from rx); cases q; exact .of_pure rfl
    | flt y => obtain ⟨t, q⟩ := (show ∃ t, u = Value.float y t from rx); cases q; exact .of_pure rfl
    | @lst a xs ea =>
      cases rx
      obtain ⟨_, _, n, _, h1⟩ := (show ObjOk X.prog X.w H s.heap a (.lst xs) from I.hok a _ ea)
      exact R h1 rfl
    | @frz a ob xs ea =>
      cases rx
      obtain ⟨_, _, _, n, _, h1⟩ := (show ObjOk X.prog X.w H s.heap a (.frz ob (.lst xs)) from I.hok a _ ea)
      exact R h1 rfl
    | @tup a xs ea =>
      cases rx
      obtain ⟨_, _, _, o, h1, h2, _⟩ := (show ObjOk X.prog X.w H s.heap a (.tup xs) from I.hok a _ ea)
      exact R h1 h2
    | @dK a kvs ea =>
      cases rx
      obtain ⟨_, _, vs, _, o, es, ep, h1, h2, _⟩ := (show ObjOk X.prog X.w H s.heap a (.dK kvs) from I.hok a _ ea)
      exact R h1 h2.1
    | @dT a kvs ea =>
      cases rx
      obtain ⟨_, _, xs, _, o, es, ep, h1, h2, _⟩ := (show ObjOk X.prog X.w H s.heap a (.dT kvs) from I.hok a _ ea)
      exact R h1 h2.1
    | @ins a C dx fs ea cl ha hn htk hm =>
      cases rx
      obtain ⟨mA, O, _⟩ := ins_get I.hok ea
      obtain ⟨od, J, _⟩ := O.look
      exact J.type
  | byt y => obtain ⟨t, q⟩ := (show ∃ t, u = Value.bytes y t from rx); cases q; exact .of_pure rfl
  | @set a S n ea =>
    cases rx
    obtain ⟨o, _, _, _, e, ex, _⟩ := I.hok a _ ea
    exact R e ex.1
  | @kList a o e c => cases rx; exact R (I.kIn a o e) c
  | @kTuple a o e c => cases rx; exact R (I.kIn a o e) c
  | @kDict a o e c => cases rx; exact R (I.kIn a o e) c
  | @fTuple a ob xs ea =>
    cases rx
    obtain ⟨_, _, _, _, o, h1, h2, _⟩ := (show ObjOk X.prog X.w H s.heap a (.frz ob (.tup xs)) from I.hok a _ ea)
    exact R h1 h2
  | @fDict a ob kvs ea =>
    cases rx
    obtain ⟨_, _, _, vs, _, o, es, ep, h1, h2, _⟩ := (show ObjOk X.prog X.w H s.heap a (.frz ob (.dK kvs)) from I.hok a _ ea)
    exact R h1 h2.1
end
section
variable {X : Cx} {CX : CXT} {k : Nat} {x m : Str} {ps : List Str} {sp : Sp} {E : XK}
/-- a method called by its address, within an operator -/
theorem own_call {f a : Addr} {fd : FuncData} {y : V} {u : Value} {pins : List (Addr × Obj)} {σ : L2.St} {H : Hp} {s : Shared} {Q : VK} {R : Value → Shared → Prop} (I : Inv X pins σ H s) (F : FnOk X.prog X.w X.K X.mg X.base CX k f fd ps sp) (hb : Binds X.K fd ps []) (hr : Room k X.A) (hx : Passes CX X E)
    (ry : RelV y u) (hsp : sp [.ref a, y] H Q E) (hR : ∀ v w H' s', Inv X pins σ H' s' → RelV v w → Q v H' → R w s') : wpAny (model X.prog X.w) X.A (call (.ref f) [.ref a, u]) R X.xe s := by
  have hl := F.len _ _ _ _ hsp
  have bd := hb s [.ref a, u] I.kIn (by simpa using hl)
  refine wpAny_call (codeAny_mono (F.run X.A X.stack s H ⟨[.ref a, u], []⟩ [.ref a, u] [.ref a, y] _ E hr I.env0 (by simpa using bd) (.cons rfl (.cons ry .nil)) hsp) fun r s' z => ?_)
  cases r with
  | error e => exact hx _ _ _ _ _ _ I z
  | ok fl =>
    cases fl with
    | ret w => obtain ⟨v, H', I', rv, q⟩ := I.after z; exact hR v w H' s' I' rv q
    | next => exact False.elim z
    | brk => exact False.elim z
    | cont => exact False.elim z
/-- x op y, where x's class has the method: it hands back a truth -/
def rOwn (K : PySem.W.Frag) (C : Addr) (sp : Sp) (E : XK) : R2 := fun x y H Q => ∃ a dx fs, x = .ref a ∧ H a = some (.ins C dx fs) ∧ (∃ t, TyX K H y t ∧ PySem.W.notFirst K C t = true) ∧ sp [.ref a, y] H (fun v H' => ∃ b, v = .bl b ∧ Q (.bl b) H') E
theorem op_own {op : CmpOp} (hop : ∀ a b, compareOp op a b = richCompare op a b) (O : OkM X.prog X.w X.K X.mg X.base CX k x m ps [] sp) (hm : (cmpInfo op).2.1 = m) (hr : Room k X.A) (hx : Passes CX X E) : OpR X (compareOp op) (rOwn X.K (ga X.K x) sp E) := by
  intro pins s σ H v0 y v u Q I rx ry h
  obtain ⟨a, dx, fs, rfl, ha, ⟨t, ty, nf⟩, hsp⟩ := h
  cases rx
  obtain ⟨f, fd, M, b, F⟩ := O.ex
  obtain ⟨ds, hd, hb⟩ := b 0 (Nat.le_refl _)
  cases hd
  obtain ⟨mA, O', _⟩ := ins_get I.hok ha
  obtain ⟨od, J, _⟩ := O'.look
  obtain ⟨mm, hF⟩ := I.fr
  subst hm
  rw [hop]
  refine PySem.W.cmp_K hr.units0 hF I.ok.mod.kin J (looksTy I ry ty) nf M.at_ M.fn (own_call I F hb hr hx ry hsp fun v w H' s' I' rv q => ?_)
  obtain ⟨b, rfl, q⟩ := q
  cases rv
  exact ⟨.bl b, H', I', rfl, q⟩
/-- x in y, where y's class has __contains__ -/
def rOwnIn (C : Addr) (neg : Bool) (sp : Sp) (E : XK) : R2 := fun x y H Q => ∃ a dx fs, y = .ref a ∧ H a = some (.ins C dx fs) ∧ sp [.ref a, x] H (fun v H' => ∃ b, v = .bl b ∧ Q (.bl (if neg then !b else b)) H') E
theorem op_ownIn (O : OkM X.prog X.w X.K X.mg X.base CX k x "__contains__" ps [] sp) (hr : Room k X.A) (hx : Passes CX X E) : OpR X (compareOp .In) (rOwnIn (ga X.K x) false sp E) := by
  intro pins s σ H v0 y v u Q I rx ry h
  obtain ⟨a, dx, fs, rfl, ha, hsp⟩ := h
  cases ry
  obtain ⟨f, fd, M, b, F⟩ := O.ex
  obtain ⟨ds, hd, hb⟩ := b 0 (Nat.le_refl _)
  cases hd
  obtain ⟨mA, O', _⟩ := ins_get I.hok ha
  obtain ⟨od, J, _⟩ := O'.look
  obtain ⟨mm, hF⟩ := I.fr
  refine PySem.W.in_K hF I.ok.mod.kin J M.at_ M.fn (own_call I F hb hr hx rx hsp fun v w H' s' I' rv q => ?_)
  obtain ⟨b, rfl, q⟩ := q
  cases rv
  exact wpAny_truthy_bool ⟨.bl b, H', I', rfl, q⟩
theorem op_ownNotIn (O : OkM X.prog X.w X.K X.mg X.base CX k x "__contains__" ps [] sp) (hr : Room k X.A) (hx : Passes CX X E) : OpR X (compareOp .NotIn) (rOwnIn (ga X.K x) true sp E) := by
  intro pins s σ H v0 y v u Q I rx ry h
  obtain ⟨a, dx, fs, rfl, ha, hsp⟩ := h
  cases ry
  obtain ⟨f, fd, M, b, F⟩ := O.ex
  obtain ⟨ds, hd, hb⟩ := b 0 (Nat.le_refl _)
  cases hd
  obtain ⟨mA, O', _⟩ := ins_get I.hok ha
  obtain ⟨od, J, _⟩ := O'.look
  obtain ⟨mm, hF⟩ := I.fr
  refine PySem.W.notIn_K hF I.ok.mod.kin J M.at_ M.fn (own_call I F hb hr hx rx hsp fun v w H' s' I' rv q => ?_)
  obtain ⟨b, rfl, q⟩ := q
  cases rv
  exact wpAny_truthy_bool ⟨.bl (!b), H', I', rfl, q⟩
end
end Iz
/-! Tn -/
set_option Elab.async false
set_option linter.all false
set_option maxRecDepth 100000
set_option maxHeartbeats 4000000
namespace Iz
open PySem PySem.Spec PyProof.Rows L2
/-! ### try: .. with several clauses «except x as n», one of which catches -/
abbrev Clause := Value × Nat × (Addr → Value → Option Addr → TS)
def unset (D : Ends) (i : Nat) : Ends := { nx := fun σ H => D.nx (σ.set i none) H, rt := D.rt, bk := fun σ H => D.bk (σ.set i none) H, ct := fun σ H => D.ct (σ.set i none) H }
/-- the first clause that catches; one of them does -/
def wNamed (K : PySem.W.Frag) (D : Ends) : List Clause → WX
  | [] => fun _ _ _ _ => False
  | q :: r => fun cls d σ H => ∃ b, PySem.W.exmOne K cls q.1 = some b ∧ (b = true → ∀ a, H a = none → q.2.2 a cls d (unset D q.2.1) (σ.set q.2.1 (some (.ref a))) H) ∧ (b = false → wNamed K D r cls d σ H)
structure ClauseOk (X : Cx) (x n : Str) (q : Clause) (st : Stmt) (ss : List Stmt) : Prop where
  at_ : X.N[q.2.1]? = some n
  loc : X.env.kindOf n = some .local
  cls : Names X x q.1
  run : ∀ a oe cls d pn, Zc cls d oe → (∃ vs, oe.data = .fields vs) → PSs (X.suite a ((a, oe) :: pn)) (st :: ss) (q.2.2 a cls d)
inductive Clauses (X : Cx) : List ExceptHandler → List Clause → Prop
  | nil : Clauses X [] []
  | cons {x n : Str} {q : Clause} {st : Stmt} {ss : List Stmt} {p p' : Pos} {hds : List ExceptHandler} {l : List Clause} : ClauseOk X x n q st ss → Clauses X hds l → Clauses X (.ExceptHandler (some (.Name x p)) (some n) (st :: ss) p' :: hds) (q :: l)
section
variable {X : Cx} {body : List Stmt} {h₀ : ExceptHandler} {hds : List ExceptHandler} {l : List Clause} {pos : Pos} {tb : WX → TS}
theorem ps_try_named (hN : X.N.Nodup)
    (hb : ∀ W pn xe, Takes (X.tr pn xe) W → PassesOwn (model X.prog X.w) X.A X.env xe → PSs (X.tr pn xe) body (tb W)) (hh : Clauses X (h₀ :: hds) l) (hs : X.stack = X.env :: X.outer := by rfl) (hf : X.env.frame = some X.env.locals := by rfl) :
    PS X (.Try body (h₀ :: hds) [] [] pos) (fun D σ H => tb (wNamed X.K D l) D σ H) := by
  constructor
  intro pins s σ H D I h
  have ok := I.ok
  have fr1 : X.A.frames = some (X.env :: X.outer) := hs ▸ ok.frames
  let catcher : Value → Shared → Prop := fun e z1 => wpAny (model X.prog X.w) X.A (noteFrame e X.env) (fun _ z2 => wpAny (model X.prog X.w) X.A (setFlight e none) (fun _ z3 => wpAny (model X.prog X.w) X.A (handleBy e X.env (h₀ :: hds)) (SP X pins D) X.xe z3) X.xe z2) X.xe z1
  have tk : Takes (X.tr (X.pn ++ pins) catcher) (wNamed X.K D l) := by
    intro u z xx
    obtain ⟨a, B, sI, pins', σ1, H1, cls, d, rfl, J0, nb, up, sky, na, os, ag, wish⟩ := xx
    have J : Inv X pins σ1 H1 sI := J0.ofTry ok
    refine Sky.land Zc.steady fr1 hf (show Sky B (X.env :: X.outer) a (Zc cls d) X.env.locals z.heap from hs ▸ sky) fun g fl upg => ?_
    have J1 : Inv X pins σ1 H1 { z with heap := g } := J.landed nb fl.1 (up.trans upg) os ag
    obtain ⟨o1, vs1, at1, z1, dt1⟩ := fl.there
    have out : a ∉ frs (X.env :: X.outer) := fun hm => by
      obtain ⟨_, o', at', no⟩ := fl.2.2.1.mem hm
      rw [at1] at at'
      cases at'
      exact no _ dt1
    have neL : a ≠ X.env.locals := fun e => out (by rw [e]; exact List.mem_filterMap.mpr ⟨X.env, List.mem_cons_self, hf⟩)
    have neF : a ∉ X.fs := fun hm => by
      obtain ⟨e, he, q⟩ := List.mem_filterMap.mp hm
      exact out (List.mem_filterMap.mpr ⟨e, .tail _ he, q⟩)
    have S1 := J1.suite at1 dt1 na neL neF
    have all : ∀ {hs' : List ExceptHandler} {l' : List Clause}, Clauses X hs' l' → wNamed X.K D l' cls d σ1 H1 → wpAny (model X.prog X.w) X.A (handleBy (.ref a) X.env hs') (SP X pins D) X.xe { z with heap := g } := by
      intro hs' l' hc
      induction hc with
      | nil => exact fun w => w.elim
      | @cons x n q st ss p p' hds l C r ih =>
        rintro ⟨b, hb1, yes, no⟩
        obtain ⟨c, i, ts⟩ := q
        refine wpAny_handleBy_cons (codeAny_handlers_test ?_) (by intro q; cases q)
        have LM := PySem.W.exm_one (M := model X.prog X.w) J1.kIn (fun A Q E z' k q => wpAny_typeOf_ref (k _ _ at1) (by rw [z1.1]; exact q)) hb1
        have seen : ∀ {Q E : Value → Shared → Prop}, Q c { z with heap := g } → wpAny (model X.prog X.w) (X.A.mark (some (.ref a))) (eval (.Name x p) X.env) Q E { z with heap := g } := fun {Q E} q => by
          obtain ⟨hg, hdb, own | ⟨n0, bv, nn⟩⟩ := C.cls
          · exact ld_glob (X := X.suite a ((a, o1) :: (X.pn ++ pins))) S1 hg own q hdb
          · exact ld_blt (X := X.suite a ((a, o1) :: (X.pn ++ pins))) S1 hg n0 bv q nn hdb
        refine seen (LM.here ?_)
        cases b with
        | false => exact ih (no rfl)
        | true =>
          refine codeAny_handlers_suite_as (HandSPX.lands_againZ fl fun g2 fl2 up2 => ?_)
          have J2 : Inv X pins σ1 H1 { z with heap := g2 } := J.landed nb fl2.1 ((up.trans upg).trans up2) os ag
          obtain ⟨o2, vs2, at2, z2, dt2⟩ := fl2.there
          refine store_ok (X := X.suite a ((a, o2) :: (X.pn ++ pins))) (v := .ref a) (J2.suite at2 dt2 na neL neF) hN C.at_ (.inl C.loc) rfl (fun s5 S5 => ?_) (.inr C.loc)
          have bye : ∀ {σ6 : L2.St} {H6 : Hp} {s6 : Shared} {Q : Shared → Prop}, Inv (X.suite a ((a, o2) :: (X.pn ++ pins))) [] σ6 H6 s6 → (∀ s7, Inv X pins (σ6.set i none) H6 s7 → Q s7) →
              wpAny (model X.prog X.w) X.A (do bindName X.env n .none; unbindBehindTheSuite X.env n p') (fun _ s7 => Q s7) X.xe s6 := fun S6 hq => gone_ok (S6.unsuite ok) hN C.at_ C.loc hq
          refine wpAny_mono ((C.run a o2 cls d (X.pn ++ pins) z2 ⟨_, dt2⟩).run [] s5 _ H1 _ S5 (yes rfl a na)) (fun f s6 done => ?_) fun _ _ z => z.elim
          cases f with
          | ret u => obtain ⟨v, σ6, H6, S6, rv, q⟩ := done; exact bye S6 fun s7 J7 => ⟨v, _, _, J7, rv, q⟩
          | next => obtain ⟨σ6, H6, S6, q⟩ := done; exact bye S6 fun s7 J7 => ⟨_, _, J7, q⟩
          | brk => obtain ⟨σ6, H6, S6, q⟩ := done; exact bye S6 fun s7 J7 => ⟨_, _, J7, q⟩
          | cont => obtain ⟨σ6, H6, S6, q⟩ := done; exact bye S6 fun s7 J7 => ⟨_, _, J7, q⟩
    exact all hh wish
  refine wpAny_Try_except (wpAny_mono ((hb _ (X.pn ++ pins) catcher tk PassesOwn.looking).run [] s σ H D (I.toTry _) h) (fun f s1 done => ?_) fun e s1 he => he)
  cases f with
  | ret u => obtain ⟨v, σ1, H1, J, r, q⟩ := done; exact ⟨v, σ1, H1, J.ofTry ok, r, q⟩
  | next => obtain ⟨σ1, H1, J, q⟩ := done; exact wpAny_execs_nil ⟨σ1, H1, J.ofTry ok, q⟩
  | brk => obtain ⟨σ1, H1, J, q⟩ := done; exact ⟨σ1, H1, J.ofTry ok, q⟩
  | cont => obtain ⟨σ1, H1, J, q⟩ := done; exact ⟨σ1, H1, J.ofTry ok, q⟩
end
end Iz
/-! Nx -/
set_option Elab.async false
set_option linter.all false
set_option maxRecDepth 100000
set_option maxHeartbeats 4000000
namespace Iz
open PySem PySem.Spec PyProof.Rows L2
open He (ga)
/-! ### slices, max, min, unpacking, in the form that simp reads -/
def rSlLN (K : PySem.W.Frag) : V → Option Int → Option Int → Hp → VK → Prop := fun x lo hi H Q => ∃ a xs, x = .ref a ∧ SqL K H a xs ∧ News H (.lst (cutV xs lo hi)) Q
theorem sl_listN {X : Cx} : SlR X (rSlLN X.K) := fun pins s σ H x v vl vu lo hi sl Q I rx hs pl pu ⟨a, xs, e, h, n⟩ => sl_list pins s σ H x v vl vu lo hi sl Q I rx hs pl pu ⟨a, xs, e, h, n.all⟩
def rMax2 : List V → Hp → VK → Prop := fun xs H Q => ∃ i j, xs = [.int i, .int j] ∧ Q (.int (max i j)) H
theorem call_max2N {X : Cx} (hc : X.calm = true) : CallR X (.builtin "max") rMax2 := CallR.imp (call_max2 hc) fun xs H Q ⟨i, j, a, q⟩ => ⟨i, j, a, by rw [show (if j > i then j else i) = max i j by rw [Int.max_def]; split <;> split <;> omega]; exact q⟩
def rMin2 : List V → Hp → VK → Prop := fun xs H Q => ∃ i j, xs = [.int i, .int j] ∧ Q (.int (min i j)) H
theorem call_min2N {X : Cx} (hc : X.calm = true) : CallR X (.builtin "min") rMin2 := CallR.imp (call_min2 hc) fun xs H Q ⟨i, j, a, q⟩ => ⟨i, j, a, by rw [show (if j < i then j else i) = min i j by rw [Int.min_def]; split <;> split <;> omega]; exact q⟩
def gUnlN (n : Nat) (t : TGs) : TG := fun v σ H Q => ∃ a xs, v = .ref a ∧ H a = some (.lst xs) ∧ xs.length = n ∧ t xs σ H Q
theorem pg_unlN {X : Cx} {es : List Expr} {k : Nat} {pos : Pos} {t : TGs} {n : Nat} (hc : X.calm = true) (h : PGs X es t) (hn : (assignEach es X.env).length = n := by rfl) (hst : (assignEach es X.env).findIdx? (·.1) = none := by rfl) : PG X (.Tuple es k pos) (gUnlN n t) :=
  PG.imp (pg_unl hc h hn hst) fun v σ H Q ⟨p, xs, a, c, d, q⟩ => ⟨p, xs, a, SqL.of c, d, q⟩
/-! ### for x in what an expression gives -/
theorem for_inT {K : PySem.W.Frag} {tl : TE} {g : TG} {tb : TS} {D : Ends} {σ : L2.St} {H : Hp} (h : tl σ H fun x H1 => tFor (iTup K fun _ H R => R x H) g tb D σ H1) : tFor (iTup K tl) g tb D σ H := h
theorem for_inL {K : PySem.W.Frag} {tl : TE} {g : TG} {tb : TS} {D : Ends} {σ : L2.St} {H : Hp} (h : tl σ H fun x H1 => tFor (iList K fun _ H R => R x H) g tb D σ H1) : tFor (iList K tl) g tb D σ H := h
/-! ### two clauses in one comprehension, both over ranges from 0 -/
theorem st_lc2R {ta ta1 : TA} {g g1 : TG} {te : TE} {vs vs1 : List Nat} {σ : L2.St} {H : Hp} {Q : VK} (n : Int) (hn : -(2 ^ 62) ≤ n ∧ n < 2 ^ 62) (ha : ∀ R : List V → Hp → Prop, R [.int n] H → ta σ H R)
    (Pv : Addr → Nat → Hp → Prop) (Pw : Addr → Nat → Nat → Hp → Prop) (h0 : ∀ D H1, H D = none → Same H H1 → H1 D = some (.lst []) → Pv D 0 H1)
    (hs : ∀ D i H, i < n.toNat → Pv D i H → g (.int i) (wipe σ vs) H fun σ2 H2 => wipe σ2 vs = wipe σ vs ∧ ∃ m : Int, (-(2 ^ 62) ≤ m ∧ m < 2 ^ 62) ∧ (∀ R : List V → Hp → Prop, R [.int m] H2 → ta1 σ2 H2 R) ∧ Pw D i 0 H2 ∧ (∀ H, Pw D i m.toNat H → Pv D (i + 1) H) ∧
      ∀ j H, j < m.toNat → Pw D i j H → g1 (.int j) (wipe σ2 vs1) H fun σ3 H5 => wipe σ3 vs1 = wipe σ2 vs1 ∧ te σ3 H5 fun y H7 => ∃ acc, H7 D = some (.lst acc) ∧ acc.length < sizeLine ∧ Pw D i (j + 1) (upd H7 D (.lst (acc ++ [y]))))
    (hg : ∀ v σ H (Q Q' : L2.St → Hp → Prop), (∀ σ H, Q σ H → Q' σ H) → g v σ H Q → g v σ H Q') (hg1 : ∀ v σ H (Q Q' : L2.St → Hp → Prop), (∀ σ H, Q σ H → Q' σ H) → g1 v σ H Q → g1 v σ H Q')
    (hd : ∀ D H, Pv D n.toNat H → Q (.ref D) H) : tLc2 (iRng1 ta) g tYes (iRng1 ta1) g1 tYes te vs vs1 σ H Q := by
  refine ha _ ⟨n, rfl, hn.1, hn.2, fun D hD => ?_⟩
  refine ⟨fun i m H => m = n.toNat - i ∧ i ≤ n.toNat ∧ Pv D i H, ⟨_, rfl, Nat.zero_le _, h0 D _ hD (Same.upd hD) upd_same⟩, ?_⟩
  rintro i m H1 ⟨rfl, hi, p⟩
  by_cases hlt : i < n.toNat
  · refine .inr ⟨hlt, Pv D (i + 1), fun H' p' => ⟨n.toNat - (i + 1), by omega, rfl, hlt, p'⟩, ?_⟩
    rintro x _ ⟨rfl, rfl⟩
    rw [Int.zero_add]
    refine hg _ _ _ _ _ (fun σ2 H2 q => ?_) (hs D i _ hlt p)
    obtain ⟨e, m, hm, hr, w0, wd, ws⟩ := q
    refine ⟨e, ?_⟩
    simp only [tYes, if_true]
    refine hr _ ⟨m, rfl, hm.1, hm.2, ?_⟩
    refine ⟨fun j k H => k = m.toNat - j ∧ j ≤ m.toNat ∧ Pw D i j H, ⟨_, rfl, Nat.zero_le _, w0⟩, ?_⟩
    rintro j k H3 ⟨rfl, hj, pw⟩
    by_cases hjt : j < m.toNat
    · refine .inr ⟨hjt, Pw D i (j + 1), fun H' p' => ⟨m.toNat - (j + 1), by omega, rfl, hjt, p'⟩, ?_⟩
      rintro x _ ⟨rfl, rfl⟩
      rw [Int.zero_add]
      refine hg1 _ _ _ _ _ (fun σ3 H5 q => ⟨q.1, ?_⟩) (ws j _ hjt pw)
      exact q.2
    · have ej : j = m.toNat := by omega
      subst ej
      exact .inl ⟨Nat.le_refl _, wd _ pw⟩
  · have ei : i = n.toNat := by omega
    subst ei
    exact .inl ⟨Nat.le_refl _, hd D _ p⟩
theorem gName_mono {i : Nat} : ∀ v σ H (Q Q' : L2.St → Hp → Prop), (∀ σ H, Q σ H → Q' σ H) → gName i v σ H Q → gName i v σ H Q' := fun _ _ _ _ _ k q => k _ _ q
/-! ### == and != of what is read as data -/
section
variable {K : PySem.W.Frag} {H : Hp} {R : VK}
/-- a pair of ints, at a -/
abbrev P2 (H : Hp) (a : Addr) (x y : Int) : Prop := H a = some (.tup [.int x, .int y])
theorem P2.dp {a : Addr} {x y : Int} (h : P2 H a x y) : Dp K H (.ref a) (.tuple [.int x, .int y]) := .tup (SqT.of h) (.cons (.int x) (.cons (.int y) .nil))
theorem sh_P2 {n : Nat} {x y : Int} : ShN (n + 1) (.tuple [.int x, .int y]) := (ShN.tuple (n := 0) fun d h => by
  simp only [List.mem_cons, List.not_mem_nil, or_false] at h
  rcases h with rfl | rfl <;> exact .int).up (by omega)
theorem eqv_P2 {x y u v : Int} : PyData.eqv (.tuple [.int x, .int y]) (.tuple [.int u, .int v]) = decide (x = u ∧ y = v) := by
  simp [PyData.eqv, PyData.eqvAll]
  by_cases h1 : x = u <;> by_cases h2 : y = v <;> simp [h1, h2]
theorem eq_P2 {a b : Addr} {x y u v : Int} (ha : P2 H a x y) (hb : P2 H b u v) (r : R (.bl (decide (x = u ∧ y = v))) H) : rEqD K (.ref a) (.ref b) H R := ⟨_, _, ha.dp, hb.dp, (sh_P2 (n := 0)).ok, (sh_P2 (n := 0)).ok, by rw [eqv_P2]; exact r⟩
theorem ne_P2 {a b : Addr} {x y u v : Int} (ha : P2 H a x y) (hb : P2 H b u v) (r : R (.bl (!decide (x = u ∧ y = v))) H) : rNeD K (.ref a) (.ref b) H R := ⟨_, _, ha.dp, hb.dp, (sh_P2 (n := 0)).ok, (sh_P2 (n := 0)).ok, by rw [eqv_P2]; exact r⟩
/-- a list of ints, at a -/
theorem dp_ints {a : Addr} {ns : List Int} (h : H a = some (.lst (ns.map V.int))) : Dp K H (.ref a) (.list (ns.map PyData.int)) := by
  refine .lst (SqL.of h) ?_
  clear h
  induction ns with
  | nil => exact .nil
  | cons z zs ih => exact .cons (.int z) ih
theorem sh_ints {n : Nat} {ns : List Int} : ShN (n + 1) (.list (ns.map PyData.int)) := (ShN.list (n := 0) fun d hd => by
  obtain ⟨z, hz, rfl⟩ := List.mem_map.mp hd; exact .int).up (by omega)
theorem eqv_ints {ns ms : List Int} : PyData.eqv (.list (ns.map PyData.int)) (.list (ms.map PyData.int)) = decide (ns = ms) := by
  simp only [PyData.eqv]
  induction ns generalizing ms with
  | nil => cases ms <;> simp [PyData.eqvAll]
  | cons n ns ih => cases ms with
    | nil => simp [PyData.eqvAll]
    | cons m ms =>
      simp only [List.map_cons, PyData.eqvAll, ih, PyData.eqv]
      by_cases h1 : n = m <;> by_cases h2 : ns = ms <;> simp [h1, h2]
theorem eq_ints {a b : Addr} {ns ms : List Int} (ha : H a = some (.lst (ns.map V.int))) (hb : H b = some (.lst (ms.map V.int))) (r : R (.bl (decide (ns = ms))) H) : rEqD K (.ref a) (.ref b) H R := ⟨_, _, dp_ints ha, dp_ints hb, (sh_ints (n := 0)).ok, (sh_ints (n := 0)).ok, by rw [eqv_ints]; exact r⟩
theorem ne_ints {a b : Addr} {ns ms : List Int} (ha : H a = some (.lst (ns.map V.int))) (hb : H b = some (.lst (ms.map V.int))) (r : R (.bl (!decide (ns = ms))) H) : rNeD K (.ref a) (.ref b) H R := ⟨_, _, dp_ints ha, dp_ints hb, (sh_ints (n := 0)).ok, (sh_ints (n := 0)).ok, by rw [eqv_ints]; exact r⟩
/-- a list of two texts, at a -/
theorem dp_l2 {a : Addr} {x y : Str} (h : H a = some (.lst [.str x, .str y])) : Dp K H (.ref a) (.list [.str x, .str y]) := .lst (SqL.of h) (.cons (.str x) (.cons (.str y) .nil))
theorem sh_l2 {n : Nat} {x y : Str} (hx : PyData.strOk x = true) (hy : PyData.strOk y = true) : ShN (n + 1) (.list [.str x, .str y]) := (ShN.list (n := 0) fun d h => by
  simp only [List.mem_cons, List.not_mem_nil, or_false] at h
  have st : ∀ {z : Str}, PyData.strOk z = true → ShN 0 (.str z) := fun h => ⟨by simp [PyData.canLay0, h], by simp [PyData.depth]⟩
  rcases h with rfl | rfl
  · exact st hx
  · exact st hy).up (by omega)
theorem ne_sameN {x y : V} {d : PyData} {n : Nat} (hx : Dp K H x d) (hy : Dp K H y d) (h : ShN n d) (r : R (.bl false) H) (k : n ≤ 64 := by decide) : rNeD K x y H R := ne_same hx hy (h.ok k) r
theorem eq_sameN {x y : V} {d : PyData} {n : Nat} (hx : Dp K H x d) (hy : Dp K H y d) (h : ShN n d) (r : R (.bl true) H) (k : n ≤ 64 := by decide) : rEqD K x y H R := eq_same hx hy (h.ok k) r
end
/-! ### a value that may be a pair of ints -/
/-- the pair that stands there -/
def pairL : List V → Option (Int × Int)
  | [.int x, .int y] => some (x, y)
  | _ => none
def pairV (H : Hp) : V → Option (Int × Int)
  | .ref p => match H p with
    | some (.tup xs) => pairL xs
    | _ => none
  | _ => none
theorem pairL_some {xs : List V} {q : Int × Int} (h : pairL xs = some q) : xs = [.int q.1, .int q.2] := by
  unfold pairL at h
  split at h
  · cases h; rfl
  · cases h
theorem pairL_none {xs : List V} (h : ¬ (xs.length : Int) = 2) : pairL xs = none := by
  unfold pairL
  split
  · simp at h
  · rfl
theorem pairV_of {H : Hp} {p : Addr} {x y : Int} (h : P2 H p x y) : pairV H (.ref p) = some (x, y) := by simp only [pairV, h, pairL]
theorem pairV_some {H : Hp} {v : V} {q : Int × Int} (h : pairV H v = some q) : ∃ p, v = .ref p ∧ P2 H p q.1 q.2 := by
  unfold pairV at h
  split at h
  · rename_i p
    split at h
    · rename_i xs e; exact ⟨p, rfl, by rw [P2, e, pairL_some h]⟩
    · cases h
  · cases h
/-- what is asked of a value that is_pair looks at -/
inductive PairK (K : PySem.W.Frag) (H : Hp) : V → Prop
  | non : PairK K H .non
  | bl (b : Bool) : PairK K H (.bl b)
  | int (i : Int) : PairK K H (.int i)
  | str (s : Str) : PairK K H (.str s)
  | lst {p : Addr} {xs : List V} : H p = some (.lst xs) → PairK K H (.ref p)
  | tup {p : Addr} {xs : List V} : H p = some (.tup xs) → (∀ z ∈ xs, Wh K H z) → PairK K H (.ref p)
  | ins {p C dx : Addr} {fs : List (Str × V)} : H p = some (.ins C dx fs) → ClsI K C → PySem.W.kitOne K (.ref C) (.type "tuple") = some false → PairK K H (.ref p)
theorem PairK.ty {K : PySem.W.Frag} {H : Hp} {v : V} (h : PairK K H v) : (∃ p xs, v = .ref p ∧ H p = some (.tup xs) ∧ ∀ z ∈ xs, Wh K H z) ∨ ∃ t, TyX K H v t ∧ PySem.W.kitOne K t (.type "tuple") = some false ∧ pairV H v = none := by
  cases h with
  | non => exact .inr ⟨_, .base .non, kit_ty (by decide +kernel), rfl⟩
  | bl b => exact .inr ⟨_, .base (.bl b), kit_ty (by decide +kernel), rfl⟩
  | int i => exact .inr ⟨_, .base (.int i), kit_ty (by decide +kernel), rfl⟩
  | str s => exact .inr ⟨_, .base (.str s), kit_ty (by decide +kernel), rfl⟩
  | lst h => exact .inr ⟨_, .base (.lst h), kit_ty (by decide +kernel), by simp only [pairV, h]⟩
  | tup h w => exact .inl ⟨_, _, rfl, h, w⟩
  | ins h T k => exact .inr ⟨_, T.ty h, k, by simp only [pairV, h]⟩
theorem P2.k {K : PySem.W.Frag} {H : Hp} {p : Addr} {x y : Int} (h : P2 H p x y) : PairK K H (.ref p) := .tup h fun z hz => by
  simp only [List.mem_cons, List.not_mem_nil, or_false] at hz
  rcases hz with rfl | rfl <;> exact wh_int
theorem PairK.mono {K : PySem.W.Frag} {H H' : Hp} {v : V} (h : PairK K H v) (s : Same H H') : PairK K H' v := by
  cases h with
  | non => exact .non
  | bl b => exact .bl b
  | int i => exact .int i
  | str s => exact .str s
  | lst h => exact .lst (s _ _ h)
  | tup h w => exact .tup (s _ _ h) fun z hz => wh_mono (w z hz) s
  | ins h T k => exact .ins (s _ _ h) T k
theorem pairV_mono {H H' : Hp} {p : Addr} {o : HO} (h : H p = some o) (s : Same H H') : pairV H' (.ref p) = pairV H (.ref p) := by simp only [pairV, h, s _ _ h]
theorem PairK.same {K : PySem.W.Frag} {H H' : Hp} {v : V} (h : PairK K H v) (s : Same H H') : pairV H' v = pairV H v := by
  cases h with
  | non => rfl
  | bl b => rfl
  | int i => rfl
  | str s => rfl
  | lst h => exact pairV_mono h s
  | tup h w => exact pairV_mono h s
  | ins h T k => exact pairV_mono h s
/-! ### a list of pairs grows -/
theorem PairsAt.push {H : Hp} {D t : Addr} {ps : List (Option Int × Option Int)} {q : Option Int × Option Int} (h : PairsAt H D ps) (e : H t = some (.tup [ov q.1, ov q.2])) (hl : ps.length < 100000) :
    ∃ acc, H D = some (.lst acc) ∧ acc.length < sizeLine ∧ PairsAt (L2.upd H D (.lst (acc ++ [.ref t]))) D (ps ++ [q]) := by
  obtain ⟨xs, hD, hp⟩ := h
  refine ⟨xs, hD, by rw [hp.length, sizeLine_eq]; omega, _, upd_same, PAll.snoc (hp.monoT fun b us hb => ?_) ?_⟩
  · rw [upd_ne (ne_of hb hD (by intro z; cases z))]; exact hb
  · rw [upd_ne (ne_of e hD (by intro z; cases z))]; exact e
/-! ### the operators of own classes, asked -/
theorem own_in {C a dx : Addr} {fs : List (Str × V)} {sp : Sp} {E : XK} {x : V} {H : Hp} {Q : VK} {neg : Bool} (h : H a = some (.ins C dx fs)) (q : sp [.ref a, x] H (fun v H' => ∃ b, v = .bl b ∧ Q (.bl (if neg = true then !b else b)) H') E) : rOwnIn C neg sp E x (.ref a) H Q := ⟨a, dx, fs, rfl, h, q⟩
theorem own_op {K : PySem.W.Frag} {C a dx : Addr} {fs : List (Str × V)} {sp : Sp} {E : XK} {y : V} {H : Hp} {Q : VK} (h : H a = some (.ins C dx fs)) {t : Value} (ty : TyX K H y t) (n : PySem.W.notFirst K C t = true) (q : sp [.ref a, y] H (fun v H' => ∃ b, v = .bl b ∧ Q (.bl b) H') E) : rOwn K C sp E (.ref a) y H Q := ⟨a, dx, fs, rfl, h, ⟨t, ty, n⟩, q⟩
theorem notFirst_self {K : PySem.W.Frag} {C : Addr} : PySem.W.notFirst K C (.ref C) = true := by simp [PySem.W.notFirst]
/-! ### a comprehension over a range from 0 -/
theorem st_lcR1 {ta : TA} {g : TG} {tt : TT} {te : TE} {vs : List Nat} {σ : L2.St} {H : Hp} {Q : VK} (n : Int) (hn : -(2 ^ 62) ≤ n ∧ n < 2 ^ 62) (ha : ∀ R : List V → Hp → Prop, R [.int n] H → ta σ H R)
    (Pv : Addr → Nat → Hp → Prop) (h0 : ∀ D H1, H D = none → Same H H1 → H1 D = some (.lst []) → Pv D 0 H1)
    (hs : ∀ D i H, i < n.toNat → Pv D i H → g (.int i) (wipe σ vs) H fun σ2 H2 => wipe σ2 vs = wipe σ vs ∧ tt σ2 H2 fun b H3 => if b = true then te σ2 H3 fun y H4 => ∃ acc, H4 D = some (.lst acc) ∧ acc.length < sizeLine ∧ Pv D (i + 1) (upd H4 D (.lst (acc ++ [y]))) else Pv D (i + 1) H3)
    (hd : ∀ D H, Pv D n.toNat H → Q (.ref D) H) : tLc (iRng1 ta) g tt te vs σ H Q :=
  ha _ ⟨n, rfl, hn.1, hn.2, fun D hD => lc_range (Pv D) (h0 D _ hD (Same.upd hD) upd_same) (fun i H hi p => by rw [Int.zero_add]; exact hs D i H hi p) (hd D)⟩
theorem PAll.app {H : Hp} {xs ys : List V} {ps qs : List (Option Int × Option Int)} (h : PAll H xs ps) (k : PAll H ys qs) : PAll H (xs ++ ys) (ps ++ qs) := by
  induction h with
  | nil => exact k
  | cons e _ ih => exact .cons e ih
/-! ### kept where tables of code may grow -/
section
open LamX
theorem tyX_ext {K : PySem.W.Frag} {H H' : Hp} {x : V} {t : Value} (h : TyX K H x t) (s : ExtN H H') : TyX K H' x t := by
  cases h with
  | base b =>
    cases b with
    | non => exact .base .non
    | bl b => exact .base (.bl b)
    | int i => exact .base (.int i)
    | str y => exact .base (.str y)
    | flt y => exact .base (.flt y)
    | lst e => exact .base (.lst (s _ _ e fun _ z => by cases z))
    | frz e => exact .base (.frz (s _ _ e fun _ z => by cases z))
    | tup e => exact .base (.tup (s _ _ e fun _ z => by cases z))
    | dK e => exact .base (.dK (s _ _ e fun _ z => by cases z))
    | dT e => exact .base (.dT (s _ _ e fun _ z => by cases z))
    | ins e a b c d f => exact .base (.ins (s _ _ e fun _ z => by cases z) a b c d f)
  | byt b => exact .byt b
  | set e => exact .set (s _ _ e fun _ z => by cases z)
  | kList e c => exact .kList e c
  | kTuple e c => exact .kTuple e c
  | kDict e c => exact .kDict e c
  | fTuple e => exact .fTuple (s _ _ e fun _ z => by cases z)
  | fDict e => exact .fDict (s _ _ e fun _ z => by cases z)
theorem wh_ext {K : PySem.W.Frag} {H H' : Hp} {x : V} (h : Wh K H x) (s : ExtN H H') : Wh K H' x := let ⟨t, b, c, ty, r⟩ := h; ⟨t, b, c, tyX_ext ty s, r⟩
theorem PairK.ext {K : PySem.W.Frag} {H H' : Hp} {v : V} (h : PairK K H v) (s : ExtN H H') : PairK K H' v := by
  cases h with
  | non => exact .non
  | bl b => exact .bl b
  | int i => exact .int i
  | str s => exact .str s
  | lst h => exact .lst (s _ _ h fun _ z => by cases z)
  | tup h w => exact .tup (s _ _ h fun _ z => by cases z) fun z hz => wh_ext (w z hz) s
  | ins h T k => exact .ins (s _ _ h fun _ z => by cases z) T k
theorem PairK.sameX {K : PySem.W.Frag} {H H' : Hp} {v : V} (h : PairK K H v) (s : ExtN H H') : pairV H' v = pairV H v := by
  cases h with
  | non => rfl
  | bl b => rfl
  | int i => rfl
  | str s => rfl
  | lst h => simp only [pairV, h, s _ _ h fun _ z => by cases z]
  | tup h w => simp only [pairV, h, s _ _ h fun _ z => by cases z]
  | ins h T k => simp only [pairV, h, s _ _ h fun _ z => by cases z]
theorem extI {H H' : Hp} {p C dx : Addr} {fs : List (Str × V)} (e : ExtN H H') (h : H p = some (.ins C dx fs)) : H' p = some (.ins C dx fs) := e p _ h fun ps z => by cases z
/-- a list that grows by an item: the tables stay -/
theorem Tabs.put {T : List (Addr × Str)} {H H' : Hp} {L : Addr} {xs ys : List V} (hT : Tabs T H) (hL : H L = some (.lst xs)) (p : Put H H' L (.lst ys)) : Tabs T H' := by
  have key : ∀ b o, H b = some o → (∀ xs, o ≠ .lst xs) → H' b = some o := fun b o h hn => by
    rw [p.2 b (fun z => by subst z; rw [hL] at h; exact hn _ (Option.some.inj h).symm)]; exact h
  intro x hx
  obtain ⟨ps, h1, h2, h3⟩ := hT x hx
  refine ⟨ps, key _ _ h1 (fun xs z => by cases z), h2, fun pos cv hcv => ?_⟩
  obtain ⟨c0, e1, e2⟩ := h3 pos cv hcv
  exact ⟨c0, e1, key _ _ e2 (fun xs z => by unfold CodeO at z; cases z)⟩
theorem Put.other {H H' : Hp} {L b : Addr} {o u : HO} (p : Put H H' L o) (h : H b = some u) (n : b ≠ L) : H' b = some u := by rw [p.2 b n]; exact h
end
/-! ### texts as data -/
theorem ShN.str {n : Nat} {z : Str} (h : PyData.strOk z = true) : ShN n (.str z) := ⟨by simp [PyData.canLay0, h], by simp [PyData.depth]⟩
theorem dp_strs {K : PySem.W.Frag} {H : Hp} {p : Addr} {zs : List Str} (h : H p = some (.lst (zs.map V.str))) : Dp K H (.ref p) (.list (zs.map PyData.str)) := by
  refine .lst (SqL.of h) ?_
  clear h
  induction zs with
  | nil => exact .nil
  | cons z zs ih => exact .cons (.str z) ih
theorem sh_strs {n : Nat} {zs : List Str} (h : ∀ z ∈ zs, PyData.strOk z = true) : ShN (n + 1) (.list (zs.map PyData.str)) := (ShN.list (n := 0) fun d hd => by
  obtain ⟨z, hz, rfl⟩ := List.mem_map.mp hd; exact ShN.str (h z hz)).up (by omega)
theorem sh_ll {n : Nat} {x y u v : Str} (hx : PyData.strOk x = true) (hy : PyData.strOk y = true) (hu : PyData.strOk u = true) (hv : PyData.strOk v = true) : ShN (n + 2) (.list [.list [.str x, .str y], .list [.str u, .str v]]) := (ShN.list (n := 1) fun d h => by
  simp only [List.mem_cons, List.not_mem_nil, or_false] at h
  rcases h with rfl | rfl
  · exact sh_l2 (n := 0) hx hy
  · exact sh_l2 (n := 0) hu hv).up (by omega)
/-! ### the script -/
def rLenS (K : PySem.W.Frag) : List V → Hp → VK → Prop := fun xs H Q => ∃ p ys, xs = [.ref p] ∧ SqL K H p ys ∧ Q (.int ys.length) H
theorem call_lenS {X : Cx} : CallR X (.builtin "len") (rLenS X.K) := CallR.imp call_len_seq fun xs H Q ⟨p, ys, a, b, q⟩ => ⟨p, ys, a, .inl b, q⟩
theorem sqL_ext {K : PySem.W.Frag} {H H' : Hp} {a : Addr} {xs : List V} (h : SqL K H a xs) (e : LamX.ExtN H H') : SqL K H' a xs :=
  h.elim (fun h => .inl (h.elim (fun h => .inl (e _ _ h fun _ z => by cases z)) fun ⟨o, h⟩ => .inr ⟨o, e _ _ h fun _ z => by cases z⟩)) fun h => .inr h
section
open LamX
/-- as plam, with the tables of several defs -/
theorem plamT {X : Cx} {TS : List (Addr × Str)} {x a : Str} {st : Stmt} {N : List Str} {TT : (XK → Hp → VK → Prop) → Hp → VK → Prop} {c P : Addr} {qn : Str} {k : Nat} {params : Arguments} {body : Expr} {scope : Scope} {t : XK → TE} {p lpos pos : Pos}
    (F : ∃ (f : Addr) (fd : FuncData), X.mg x = some (.ref f) ∧ Fun X.K x x st f fd) (S : FnScope N [a] (defScope st))
    (hb : ∀ (kV doc pm : Value) (an : Option Addr) (cdv ct : Value) (us : List Value), us.length = [a].length → bindArgs (PySem.W.fnOf x x (defArgs st) (defBody st) (defScope st) .none kV doc pm an cdv ct) ⟨us, []⟩ = pure ([a].zip us))
    (hG : ∀ (g : Addr) (cdg : Value), GivesTo X N x (defScope st) g cdg (defBody st) a qn TT)
    (hm : (P, qn) ∈ TS) (hu : ∀ q ∈ TS, q.1 = P → q.2 = qn) (TB : TabB X.base X.mg c P) (hcode : X.env.code = .ref c) (hq : X.env.qual ++ "<lambda>" = qn) (hr : Room (k + 2) X.A) (L : lamSB X.env.scope scope = true)
    (hbody : ∀ (A : Around) (outer : List Env) (s : Shared) (H : Hp) (E : XK) (f c' : Addr), Room k (A.deeper (lamEnv X scope s.heap.objs.size f c')) → PE (lamCx X A outer s H E scope f c') body (t E))
    (hdef : defaultsOf params X.env = ([], []) := by rfl) (hg : Gl X x := by rfl) (hv : Vis (defScope st) a := by first | exact Or.inl rfl | exact Or.inr (Or.inl rfl)) (hNa : N[0]? = some a := by rfl)
    (hbind : ∀ (q : Str) (cl : List (Str × Addr)) (pm cv ctv : Value), bindArgs (PySem.W.kla_fn "<lambda>" q params body scope cl pm cv ctv) ⟨[], []⟩ = pure [] := by intros; rfl)
    (hdb : (x == ("__debug__" : Str)) = false := by decide) (hd : (a == ("__debug__" : Str)) = false := by decide) (hcd : (a == ("__classdict__" : Str)) = false := by decide) :
    PE X (.Call (.Name x p) [.Lambda params body scope lpos] [] pos) (tLam TS TT t) := by
  subst hq
  obtain ⟨g, fd, hmg, F⟩ := F
  obtain ⟨oc, od, kV, doc, pm, an, cdv, ct, osl, rfl, lk, hcg⟩ := F.ex
  exact pe_lamcall hg hmg F.kp lk hcg (.all (hb kV doc pm an cdv ct)) S hNa hv (hG g cdv) TB hcode hm hu hr (lamS_by L) hdef hbind hbody hdb hd hcd
end
end Iz
/-! One -/
set_option Elab.async false
set_option linter.all false
set_option maxRecDepth 100000
set_option maxHeartbeats 4000000
namespace Iz
open PySem PySem.Spec PyProof.Rows L2
open He (ga)
/-! ### x != y of a class that has __eq__ alone: object's own __ne__ turns it round -/
section
variable {prog : Program} {w : World} {A : Around} {E : Value → Shared → Prop} {s : Shared} {K : PySem.W.Frag} {x C L f : Addr} {h₀ : Heap} {m : Str → Option Value} {ox : Obj} {od : Option Obj} {b tb : Value}
theorem ne_bind (self : Value) : bindSpecial (.builtin "object.__ne__") self = pure (.builtin "object.__ne__", [self]) := PySem.F.cmp_object.ne.bind self
theorem ne_obj {Q : Value → Shared → Prop} (hu : A.in1.units < cLine) (X : K.In s.heap) (I : PySem.W.InstAt s.heap x ox C od) (hm : PySem.W.mroIn K C (.type "object") = some true) (he : PySem.W.findIn K (.ref C) "__eq__" = some (some (.ref f))) (hf : PySem.W.isFn K (.ref f) = true)
    (h : wpAny (model prog w) A.in1 (call (.ref f) [.ref x, b]) (fun v s' => ∃ r, v = .bool r ∧ Q (.bool (!r)) s') E s) : wpAny (model prog w) A (call (.builtin "object.__ne__") [.ref x, b]) Q E s := by
  refine wpAny_call (codeAny_call_builtin PySem.F.cmp_object.ne.plain PySem.F.cmpEntry_ne (PySem.W.check_slot (i := "object.__ne__") (owner := "object") (n := "__ne__") PySem.F.cmpKind_ne PySem.F.cmpSplit_ne (I.type.andThen (PySem.W.looks_mroIn X hm)) (PySem.F.cmpArgs_ne _ _) ?_))
  unfold Builtin.«object.__ne__»
  refine wpAny_bind (m := slotArgs "__ne__" 1 _) (wpAny_pure ?_)
  dsimp only
  refine wpAny_bind (m := cRoomFor _ _) (wpAny_cRoomFor hu ?_)
  refine wpAny_bind (m := callSpecialIfBound? (.ref x) (Str.ofString "__eq__") _) (PySem.W.ifBound_K X I he hf (wpAny_mono h (fun v s' z => ?_) fun _ _ y => y))
  obtain ⟨r, rfl, q⟩ := z
  dsimp only
  exact wpAny_bind (m := truthy (.bool r)) (wpAny_truthy_bool (wpAny_pure q))
theorem ne_rich {Q : Value → Shared → Prop} (hu : A.in1.units < cLine) (hu0 : A.units < cLine) (F : Fr h₀ L s.heap m) (X₀ : K.In h₀) (I : PySem.W.InstAt s.heap x ox C od) (hb : PySem.W.Looks (model prog w) s.heap (typeOf b) tb) (hn : PySem.W.notFirst K C tb = true) (hm : PySem.W.mroIn K C (.type "object") = some true)
    (hs : PySem.W.findIn K (.ref C) "__ne__" = some (some (.builtin "object.__ne__"))) (he : PySem.W.findIn K (.ref C) "__eq__" = some (some (.ref f))) (hf : PySem.W.isFn K (.ref f) = true)
    (h : wpAny (model prog w) A.in1 (call (.ref f) [.ref x, b]) (fun v s' => ∃ r, v = .bool r ∧ Q (.bool (!r)) s') E s) : wpAny (model prog w) A (richCompare .NotEq (.ref x) b) Q E s := by
  have X := X₀.keeps F.keep
  have asked : wpAny (model prog w) A (tryCompare (.ref x) (cmpInfo .NotEq).2.1 b) (fun r s' => ∃ v, r = some v ∧ Q v s') E s := by
    unfold tryCompare
    refine wpAny_bind (m := callSpecialIfBound? _ _ _) ?_
    simp only [callSpecialIfBound?, bindSpecialIfBound?]
    refine wpAny_holding (wpAny_bind (wpAny_bind (wpAny_bind (I.type.here ((PySem.W.looks_findIn X hs).here ?_)))))
    have fin : wpAny (model prog w) A (call (.builtin "object.__ne__") ([.ref x] ++ [b]) >>= fun v => pure (some v)) (fun r s' => wpAny (model prog w) A (match r with | some .notImplemented | none => pure none | some v => pure (some v)) (fun r s' => ∃ v, r = some v ∧ Q v s') E s') E s :=
      wpAny_bind (ne_obj hu X I hm he hf (wpAny_mono h (fun v s' z => by
        obtain ⟨r, rfl, q⟩ := z
        exact ⟨r, rfl, wpAny_pure (wpAny_pure ⟨_, rfl, q⟩)⟩) fun _ _ y => y))
    refine wpAny_bind (wpAny_askSetting (wpAny_ite ?_))
    split
    · exact wpAny_bind ((PySem.W.Looks.of_pure (ne_bind _)).here (wpAny_pure fin))
    · exact wpAny_tryCatch (wpAny_bind ((PySem.W.Looks.of_pure (ne_bind _)).here (wpAny_pure fin)))
  unfold richCompare
  simp only [oneThing_ref]
  refine wpAny_holding (wpAny_bind (wpAny_cRoomFor hu0 ?_))
  refine wpAny_bind (I.type.here (wpAny_bind (hb.here ?_)))
  split
  · rename_i q
    have e : PySem.W.subIn K tb (.ref C) = some false := by
      rcases Bool.or_eq_true_iff.mp hn with e | e
      · rw [beq_iff_eq.mp e] at q; simp at q
      · exact beq_iff_eq.mp e
    refine wpAny_bind ((PySem.W.looks_subIn X e).here ?_)
    simp only [Bool.false_eq_true, if_false]
    refine wpAny_bind (wpAny_mono asked (fun r s' z => ?_) fun _ _ y => y)
    obtain ⟨v, rfl, q⟩ := z
    exact wpAny_pure q
  · refine wpAny_bind (wpAny_pure ?_)
    simp only [Bool.false_eq_true, if_false]
    refine wpAny_bind (wpAny_mono asked (fun r s' z => ?_) fun _ _ y => y)
    obtain ⟨v, rfl, q⟩ := z
    exact wpAny_pure q
end
section
variable {X : Cx} {CX : CXT} {k : Nat} {x : Str} {ps : List Str} {sp : Sp} {E : XK}
theorem own_callA {A : Around} {f a : Addr} {fd : FuncData} {y : V} {u : Value} {pins : List (Addr × Obj)} {σ : L2.St} {H : Hp} {s : Shared} {Q : VK} {R : Value → Shared → Prop} (I : Inv X pins σ H s) (F : FnOk X.prog X.w X.K X.mg X.base CX k f fd ps sp) (hb : Binds X.K fd ps []) (hr : Room k A) (hA : A.frames = X.A.frames) (hx : Passes CX X E)
    (ry : RelV y u) (hsp : sp [.ref a, y] H Q E) (hR : ∀ v w H' s', Inv X pins σ H' s' → RelV v w → Q v H' → R w s') : wpAny (model X.prog X.w) A (call (.ref f) [.ref a, u]) R X.xe s := by
  have hl := F.len _ _ _ _ hsp
  have bd := hb s [.ref a, u] I.kIn (by simpa using hl)
  have e := I.env0
  have e0 : Env0 X.prog X.w X.K X.mg X.base A X.stack s H := ⟨hA ▸ e.frames, e.mod, e.bs, e.bsz, e.funs, e.frf, e.hok, e.bare⟩
  refine wpAny_call (codeAny_mono (F.run A X.stack s H ⟨[.ref a, u], []⟩ [.ref a, u] [.ref a, y] _ E hr e0 (by simpa using bd) (.cons rfl (.cons ry .nil)) hsp) fun r s' z => ?_)
  cases r with
  | error e => exact hx _ _ _ _ _ _ I z
  | ok fl =>
    cases fl with
    | ret w => obtain ⟨v, H', I', rv, q⟩ := I.after z; exact hR v w H' s' I' rv q
    | next => exact False.elim z
    | brk => exact False.elim z
    | cont => exact False.elim z
def rOwnNe (K : PySem.W.Frag) (C : Addr) (sp : Sp) (E : XK) : R2 := fun x y H Q => ∃ a dx fs, x = .ref a ∧ H a = some (.ins C dx fs) ∧ (∃ t, TyX K H y t ∧ PySem.W.notFirst K C t = true) ∧ sp [.ref a, y] H (fun v H' => ∃ b, v = .bl b ∧ Q (.bl (!b)) H') E
theorem op_ownNe (O : OkM X.prog X.w X.K X.mg X.base CX k x "__eq__" ps [] sp) (hm : PySem.W.mroIn X.K (ga X.K x) (.type "object") = some true) (hs : PySem.W.findIn X.K (.ref (ga X.K x)) "__ne__" = some (some (.builtin "object.__ne__"))) (hr : Room (k + 1) X.A) (hx : Passes CX X E) : OpR X (compareOp .NotEq) (rOwnNe X.K (ga X.K x) sp E) := by
  intro pins s σ H v0 y v u Q I rx ry h
  obtain ⟨a, dx, fs, rfl, ha, ⟨t, ty, nf⟩, hsp⟩ := h
  cases rx
  obtain ⟨f, fd, M, b, F⟩ := O.ex
  obtain ⟨ds, hd, hb⟩ := b 0 (Nat.le_refl _)
  cases hd
  obtain ⟨mA, O', _⟩ := ins_get I.hok ha
  obtain ⟨od, J, _⟩ := O'.look
  obtain ⟨mm, hF⟩ := I.fr
  refine ne_rich hr.in1.units0 hr.units0 hF I.ok.mod.kin J (looksTy I ry ty) nf hm hs M.at_ M.fn (own_callA I F hb hr.in1 rfl hx ry hsp fun v w H' s' I' rv q => ?_)
  obtain ⟨b, rfl, q⟩ := q
  cases rv
  exact ⟨b, rfl, .bl (!b), H', I', rfl, q⟩
theorem own_ne {K : PySem.W.Frag} {C a dx : Addr} {fs : List (Str × V)} {y : V} {H : Hp} {Q : VK} (h : H a = some (.ins C dx fs)) {t : Value} (ty : TyX K H y t) (n : PySem.W.notFirst K C t = true) (q : sp [.ref a, y] H (fun v H' => ∃ b, v = .bl b ∧ Q (.bl (!b)) H') E) : rOwnNe K C sp E (.ref a) y H Q := ⟨a, dx, fs, rfl, h, ⟨t, ty, n⟩, q⟩
end
/-! ### two truths in a list -/
theorem dp_bb {K : PySem.W.Frag} {H : Hp} {a : Addr} {x y : Bool} (h : H a = some (.lst [.bl x, .bl y])) : Dp K H (.ref a) (.list [.bool x, .bool y]) := .lst (SqL.of h) (.cons (.bl x) (.cons (.bl y) .nil))
theorem sh_bb {n : Nat} {x y : Bool} : ShN (n + 1) (.list [.bool x, .bool y]) := (ShN.list (n := 0) fun d h => by
  simp only [List.mem_cons, List.not_mem_nil, or_false] at h
  rcases h with rfl | rfl <;> exact .bool).up (by omega)
theorem eqv_bb {x y : Bool} : PyData.eqv (.list [.bool x, .bool y]) (.list [.bool true, .bool true]) = (x && y) := by
  cases x <;> cases y <;> simp [PyData.eqv, PyData.eqvAll]
/-! ### a list repeated -/
def rRepN : R2 := fun x y H Q => ∃ l k xs, x = .ref l ∧ y = .int k ∧ H l = some (.lst xs) ∧ -(2 ^ 63) ≤ k ∧ k < 2 ^ 63 ∧ xs.length * k.toNat ≤ sizeLine ∧ News H (.lst (List.replicate k.toNat xs).flatten) Q
theorem op_repN {X : Cx} : OpR X (binaryOp .Mult) rRepN := fun pins s σ H x y v u Q I rx ry ⟨l, k, xs, e1, e2, e3, e4, e5, e6, n⟩ => op_rep pins s σ H x y v u Q I rx ry ⟨l, k, xs, e1, e2, e3, e4, e5, e6, n.all⟩
end Iz
/-! Mx -/
namespace Iz
/-! ### how great a number is -/
def lg (x : Int) : Nat := if x = 0 then 0 else x.natAbs.log2 + 1
theorem lg_lt {x : Int} {n : Nat} (h : x.natAbs < 2 ^ n) : lg x ≤ n := by
  unfold lg
  split
  · omega
  · rename_i hx
    have := (Nat.log2_lt (n := x.natAbs) (k := n) (by omega)).mpr h
    omega
theorem lg_self (x : Int) : x.natAbs < 2 ^ lg x := by
  unfold lg
  split
  · rename_i h; subst h; decide
  · exact Nat.lt_log2_self
theorem lg_mono {x y : Int} (h : x.natAbs ≤ y.natAbs) : lg x ≤ lg y := lg_lt (Nat.lt_of_le_of_lt h (lg_self y))
theorem lg_half {x y : Int} (h : 2 * x.natAbs < y.natAbs) : lg x + 1 ≤ lg y := by
  have h1 := lg_self y
  have hy : 0 < lg y := by unfold lg; split <;> omega
  obtain ⟨n, hn⟩ : ∃ n, lg y = n + 1 := ⟨lg y - 1, by omega⟩
  rw [hn] at h1 ⊢
  have h2 : x.natAbs < 2 ^ n := by rw [Nat.pow_succ] at h1; omega
  have := lg_lt h2
  omega
def same (d r : Int) : Prop := (0 ≤ d ∧ 0 ≤ r) ∨ (d ≤ 0 ∧ r ≤ 0)
instance (d r : Int) : Decidable (same d r) := by unfold same; infer_instance
def bud (d r : Int) : Nat := if same d r then lg d + lg r + (if d.natAbs < r.natAbs then 1 else 0) else 2 * lg r + 1
/-- the rest of a division by floors -/
theorem rest_pos {d r : Int} (h : 0 < r) : 0 ≤ d - d.fdiv r * r ∧ d - d.fdiv r * r < r := by
  rw [Int.fdiv_eq_ediv_of_nonneg d (by omega)]
  have h1 := Int.emod_nonneg d (b := r) (by omega)
  have h2 := Int.emod_lt_of_pos d h
  have h3 := Int.emod_add_mul_ediv d r
  rw [Int.mul_comm] at h3
  omega
theorem rest_neg {d r : Int} (h : r < 0) : r < d - d.fdiv r * r ∧ d - d.fdiv r * r ≤ 0 := by
  have h1 := rest_pos (d := -d) (r := -r) (by omega)
  rw [Int.neg_fdiv_neg, Int.mul_neg] at h1
  omega
theorem fdiv_le (d r : Int) : (d.fdiv r).natAbs ≤ d.natAbs := by
  by_cases h : 0 ≤ r
  · rw [Int.fdiv_eq_ediv_of_nonneg d h]; exact Int.natAbs_ediv_le_natAbs _ _
  · rw [← Int.neg_fdiv_neg, Int.fdiv_eq_ediv_of_nonneg _ (by omega), ← Int.natAbs_neg d]; exact Int.natAbs_ediv_le_natAbs _ _
theorem fdiv_same {d r : Int} (hr : r ≠ 0) (hs : same d r) (hl : r.natAbs ≤ d.natAbs) : 2 * (d - d.fdiv r * r).natAbs < d.natAbs := by
  rcases Int.lt_or_gt_of_ne hr with h | h
  · have hd : d < 0 := by rcases hs with hs | hs <;> omega
    have h1 := rest_neg (d := d) h
    have ht : 1 ≤ d.fdiv r := by
      rw [← Int.neg_fdiv_neg, Int.fdiv_eq_ediv_of_nonneg _ (by omega)]
      exact (Int.le_ediv_iff_mul_le (by omega)).mpr (by omega)
    have h2 : d.fdiv r * r ≤ 1 * r := Int.mul_le_mul_of_nonpos_right ht (by omega)
    omega
  · have hd : 0 < d := by rcases hs with hs | hs <;> omega
    have h1 := rest_pos (d := d) h
    have ht : 1 ≤ d.fdiv r := by
      rw [Int.fdiv_eq_ediv_of_nonneg _ (by omega)]
      exact (Int.le_ediv_iff_mul_le (by omega)).mpr (by omega)
    have h2 : 1 * r ≤ d.fdiv r * r := Int.mul_le_mul_of_nonneg_right ht (by omega)
    omega
theorem fdiv_small {d r : Int} (hr : r ≠ 0) (hs : same d r) (hl : d.natAbs < r.natAbs) : d - d.fdiv r * r = d := by
  have : d.fdiv r = 0 := by
    rcases Int.lt_or_gt_of_ne hr with h | h
    · rw [← Int.neg_fdiv_neg, Int.fdiv_eq_ediv_of_nonneg _ (by omega)]
      exact Int.ediv_eq_zero_of_lt (by rcases hs with hs | hs <;> omega) (by rcases hs with hs | hs <;> omega)
    · rw [Int.fdiv_eq_ediv_of_nonneg _ (by omega)]
      exact Int.ediv_eq_zero_of_lt (by rcases hs with hs | hs <;> omega) (by rcases hs with hs | hs <;> omega)
  rw [this]; omega
theorem bud_step {d r : Int} (hr : r ≠ 0) : bud r (d - d.fdiv r * r) < bud d r := by
  have hlt : (d - d.fdiv r * r).natAbs < r.natAbs := by
    rcases Int.lt_or_gt_of_ne hr with h | h
    · have := rest_neg (d := d) h; omega
    · have := rest_pos (d := d) h; omega
  have hs' : same r (d - d.fdiv r * r) := by
    rcases Int.lt_or_gt_of_ne hr with h | h
    · have := rest_neg (d := d) h; exact .inr ⟨by omega, by omega⟩
    · have := rest_pos (d := d) h; exact .inl ⟨by omega, by omega⟩
  unfold bud
  rw [if_pos hs', if_neg (by omega)]
  by_cases hs : same d r
  · rw [if_pos hs]
    by_cases hl : d.natAbs < r.natAbs
    · rw [if_pos hl, fdiv_small hr hs hl]; omega
    · rw [if_neg hl]
      have := lg_half (fdiv_same hr hs (by omega))
      omega
  · rw [if_neg hs]
    have := lg_mono (x := d - d.fdiv r * r) (y := r) (by omega)
    omega
theorem bud_le {d r : Int} {n : Nat} (hd : d.natAbs < 2 ^ n) (hr : r.natAbs < 2 ^ n) : bud d r ≤ 2 * n + 1 := by
  have h1 := lg_lt hd
  have h2 := lg_lt hr
  unfold bud
  split
  · split <;> omega
  · omega
/-! ### the weighed divisor's loop -/
structure EI (one other d u v r nu nv : Int) (k : Nat) : Prop where
  e1 : u * one + v * other = d
  e2 : nu * one + nv * other = r
  g : Int.gcd d r = Int.gcd one other
  hd : d.natAbs < 2 ^ 250
  hr : r.natAbs < 2 ^ 250
  bu : u.natAbs ≤ 2 ^ (251 * k)
  bv : v.natAbs ≤ 2 ^ (251 * k)
  bnu : nu.natAbs ≤ 2 ^ (251 * k)
  bnv : nv.natAbs ≤ 2 ^ (251 * k)
  kb : k + bud d r ≤ 501
theorem EI.start {one other : Int} (h1 : one.natAbs < 2 ^ 250) (h2 : other.natAbs < 2 ^ 250) : EI one other one 1 0 other 0 1 0 :=
  ⟨by omega, by omega, rfl, h1, h2, by decide, by decide, by decide, by decide, by have := bud_le h1 h2; omega⟩
theorem grow {u t nu : Int} {k : Nat} (hu : u.natAbs ≤ 2 ^ (251 * k)) (hn : nu.natAbs ≤ 2 ^ (251 * k)) (ht : t.natAbs < 2 ^ 250) : (u - t * nu).natAbs ≤ 2 ^ (251 * (k + 1)) := by
  have h1 : (t * nu).natAbs ≤ 2 ^ 250 * 2 ^ (251 * k) := by rw [Int.natAbs_mul]; exact Nat.mul_le_mul (Nat.le_of_lt ht) hn
  have h2 : (u - t * nu).natAbs ≤ u.natAbs + (t * nu).natAbs := by omega
  have h3 : 2 ^ (251 * (k + 1)) = 2 * 2 ^ 250 * 2 ^ (251 * k) := by rw [Nat.mul_succ, Nat.pow_add, show (251 : Nat) = 250 + 1 from rfl, Nat.pow_succ]; rw [Nat.mul_comm, Nat.mul_comm (2 ^ 250) 2]
  have h4 : (1 : Nat) * 2 ^ (251 * k) ≤ 2 ^ 250 * 2 ^ (251 * k) := Nat.mul_le_mul_right _ (Nat.one_le_two_pow)
  rw [h3, Nat.mul_assoc]
  generalize 2 ^ 250 * 2 ^ (251 * k) = A at *
  omega
theorem EI.next {one other d u v r nu nv : Int} {k : Nat} (I : EI one other d u v r nu nv k) (h : r ≠ 0) :
    EI one other r nu nv (d - d.fdiv r * r) (u - d.fdiv r * nu) (v - d.fdiv r * nv) (k + 1) := by
  have ht : (d.fdiv r).natAbs < 2 ^ 250 := Nat.lt_of_le_of_lt (fdiv_le d r) I.hd
  have hm : ∀ {z : Int}, z.natAbs ≤ 2 ^ (251 * k) → z.natAbs ≤ 2 ^ (251 * (k + 1)) := fun hz => Nat.le_trans hz (Nat.pow_le_pow_right (by decide) (by omega))
  refine ⟨I.e2, ?_, ?_, I.hr, ?_, hm I.bnu, hm I.bnv, grow I.bu I.bnu ht, grow I.bv I.bnv ht, ?_⟩
  · generalize d.fdiv r = t
    rw [← I.e1, ← I.e2, Int.sub_mul, Int.sub_mul, Int.mul_add, Int.mul_assoc, Int.mul_assoc]; omega
  · rw [← I.g, Int.gcd_comm d r, Int.mul_comm]; exact Int.gcd_sub_mul_left_right _ _ _
  · refine Nat.lt_trans (?_ : _ < r.natAbs) I.hr
    rcases Int.lt_or_gt_of_ne h with h | h
    · have := rest_neg (d := d) h; omega
    · have := rest_pos (d := d) h; omega
  · have := bud_step (d := d) h
    have := I.kb
    omega
theorem EI.done {one other d u v nu nv : Int} {k : Nat} (I : EI one other d u v 0 nu nv k) : d.natAbs = Int.gcd one other ∧ u * one + v * other = d ∧ u.natAbs ≤ 2 ^ 130000 := by
  refine ⟨?_, I.e1, Nat.le_trans I.bu (Nat.pow_le_pow_right (by decide) (by have := I.kb; omega))⟩
  have := I.g
  rw [Int.gcd_zero_right] at this
  exact this
theorem EI.quo {one other d u v r nu nv : Int} {k : Nat} (I : EI one other d u v r nu nv k) : (d.fdiv r).natAbs < 2 ^ 250 := Nat.lt_of_le_of_lt (fdiv_le d r) I.hd
theorem EI.big {one other d u v r nu nv z : Int} {k : Nat} (I : EI one other d u v r nu nv k) (h : z.natAbs ≤ 2 ^ (251 * k)) : z.natAbs < 2 ^ 130000 := Nat.lt_of_le_of_lt h (Nat.pow_lt_pow_right (by decide) (by have := I.kb; omega))
end Iz
/-! My -/
namespace Iz
theorem gpos {b p : Int} (hp : 1 ≤ p) : 0 < (Int.gcd b p : Int) := by have := Int.gcd_pos_of_ne_zero_right b (show p ≠ 0 by omega); omega
theorem qpos {b p : Int} (hp : 1 ≤ p) : 0 < p / (Int.gcd b p : Int) := Int.ediv_pos_of_pos_of_dvd (by omega) (by omega) (Int.gcd_dvd_right b p)
theorem line_sol {a b r p u v : Int} (hp : 1 ≤ p) (h : u * b + v * p = (Int.gcd b p : Int)) (hd : (r - a) % (Int.gcd b p : Int) = 0) :
    (a + b * ((r - a) / (Int.gcd b p : Int) * u % (p / (Int.gcd b p : Int))) - r) % p = 0 := by
  have hg := gpos (b := b) hp
  have e1 : (Int.gcd b p : Int) * (p / (Int.gcd b p : Int)) = p := Int.mul_ediv_cancel' (Int.gcd_dvd_right b p)
  have e2 : (Int.gcd b p : Int) * (b / (Int.gcd b p : Int)) = b := Int.mul_ediv_cancel' (Int.gcd_dvd_left b p)
  have e3 : (Int.gcd b p : Int) * ((r - a) / (Int.gcd b p : Int)) = r - a := Int.mul_ediv_cancel' (Int.dvd_of_emod_eq_zero hd)
  generalize (Int.gcd b p : Int) = g at *
  generalize hq : p / g = q at *
  generalize hk : (r - a) / g = k at *
  generalize hb : b / g = b' at *
  have e4 := Int.emod_add_mul_ediv (k * u) q
  generalize k * u % q = s at *
  generalize k * u / q = m at *
  refine Int.emod_eq_zero_of_dvd ⟨-(k * v + b' * m), ?_⟩
  have e5 : s = k * u - q * m := by omega
  have e6 : b * s = b * (k * u) - b * (q * m) := by rw [e5, Int.mul_sub]
  have e7 : b * (q * m) = p * (b' * m) := by rw [← e1, ← e2, Int.mul_assoc g b', Int.mul_assoc g q]; congr 1; rw [← Int.mul_assoc, ← Int.mul_assoc, Int.mul_comm b' q, Int.mul_assoc]
  have e8 : b * (k * u) = k * (u * b) := by rw [Int.mul_comm b, Int.mul_assoc]
  have e9 : k * (u * b) = k * g - k * (v * p) := by rw [← Int.mul_sub]; congr 1; omega
  have e10 : k * (v * p) = p * (k * v) := by rw [← Int.mul_assoc, Int.mul_comm]
  have e11 : k * g = r - a := by rw [Int.mul_comm]; exact e3
  rw [Int.mul_neg, Int.mul_add]
  omega
theorem dvd_line {b p k : Int} (hp : 1 ≤ p) : p ∣ b * k ↔ p / (Int.gcd b p : Int) ∣ k := by
  have hg := gpos (b := b) hp
  have e1 : (Int.gcd b p : Int) * (p / (Int.gcd b p : Int)) = p := Int.mul_ediv_cancel' (Int.gcd_dvd_right b p)
  have e2 : (Int.gcd b p : Int) * (b / (Int.gcd b p : Int)) = b := Int.mul_ediv_cancel' (Int.gcd_dvd_left b p)
  have co := Int.gcd_ediv_gcd_ediv_gcd (i := b) (j := p) (by omega)
  generalize (Int.gcd b p : Int) = g at *
  generalize p / g = q at *
  generalize b / g = b' at *
  rw [← e1, ← e2, Int.mul_assoc, Int.mul_dvd_mul_iff_left (by omega)]
  constructor
  · intro h
    have h2 : q.natAbs ∣ b'.natAbs * k.natAbs := by rw [← Int.natAbs_mul]; exact Int.natAbs_dvd_natAbs.mpr h
    have h3 : Nat.Coprime q.natAbs b'.natAbs := by
      rw [Int.gcd_eq_natAbs_gcd_natAbs, Nat.gcd_comm] at co; exact co
    exact Int.natAbs_dvd_natAbs.mp (h3.dvd_of_dvd_mul_left h2)
  · exact fun h => Int.dvd_mul_of_dvd_right h
/-- of which i a + b i is r modulo p -/
theorem line_iff {a b r p s i : Int} (hp : 1 ≤ p) (h : (a + b * s - r) % p = 0) : (a + b * i - r) % p = 0 ↔ (i - s) % (p / (Int.gcd b p : Int)) = 0 := by
  have h1 := Int.dvd_of_emod_eq_zero h
  have e : a + b * i - r = (a + b * s - r) + b * (i - s) := by rw [Int.mul_sub]; omega
  rw [← Int.dvd_iff_emod_eq_zero, ← Int.dvd_iff_emod_eq_zero, e, ← dvd_line hp]
  exact Int.dvd_add_right h1
theorem gcd_small {b p : Int} {n : Nat} (hp : 1 ≤ p) (h : p.natAbs < 2 ^ n) : (Int.gcd b p : Int).natAbs < 2 ^ n := by
  have := Int.le_of_dvd (by omega) (Int.gcd_dvd_right b p)
  have := gpos (b := b) hp
  omega
theorem ediv_small {x g : Int} {n : Nat} (h : x.natAbs < 2 ^ n) : (x / g).natAbs < 2 ^ n := Nat.lt_of_le_of_lt (Int.natAbs_ediv_le_natAbs _ _) h
theorem pow_small {x m n : Nat} (h : x < 2 ^ m) (hm : m ≤ n) : x < 2 ^ n := Nat.lt_of_lt_of_le h (Nat.pow_le_pow_right (by decide) hm)
theorem mod_sub {a m n r : Int} (h : n ∣ m) (hr : n ∣ a - r) : (a % m - r) % n = 0 := by
  refine Int.emod_eq_zero_of_dvd ?_
  have h1 : n ∣ a - a % m := Int.dvd_trans h Int.dvd_self_sub_emod
  have e : a % m - r = (a - r) - (a - a % m) := by omega
  rw [e]; exact Int.dvd_sub hr h1
theorem both_sol {r p o q s : Int} (hq : 1 ≤ q) (h : (r + p * s - o) % q = 0) :
    ((r + p * s) % (p * (q / (Int.gcd p q : Int))) - r) % p = 0 ∧ ((r + p * s) % (p * (q / (Int.gcd p q : Int))) - o) % q = 0 := by
  refine ⟨mod_sub (Int.dvd_mul_right _ _) (by rw [show r + p * s - r = p * s by omega]; exact Int.dvd_mul_right _ _), mod_sub ?_ (Int.dvd_of_emod_eq_zero h)⟩
  have e1 : (Int.gcd p q : Int) * (q / (Int.gcd p q : Int)) = q := Int.mul_ediv_cancel' (Int.gcd_dvd_right p q)
  obtain ⟨c, hc⟩ := Int.gcd_dvd_left p q
  refine ⟨c, ?_⟩
  have : p * (q / (Int.gcd p q : Int)) = (Int.gcd p q : Int) * (q / (Int.gcd p q : Int)) * c := by
    conv => lhs; rw [hc]
    rw [Int.mul_assoc, Int.mul_assoc, Int.mul_comm c]
    congr 2
    rw [← hc]
  rw [this, e1]
/-! ### Euclid's steps -/
theorem bud_mod {d r : Int} (h : 0 < r) : bud r (d % r) < bud d r := by
  have := bud_step (d := d) (r := r) (by omega)
  rw [Int.fdiv_eq_ediv_of_nonneg d (by omega)] at this
  have e := Int.emod_def d r
  rw [Int.mul_comm] at e
  rw [e]; exact this
theorem mod_swap {a b g : Int} : (a - b) % g = 0 ↔ (b - a) % g = 0 := by
  rw [← Int.dvd_iff_emod_eq_zero, ← Int.dvd_iff_emod_eq_zero, ← Int.dvd_neg]
  rw [show -(a - b) = b - a by omega]
theorem mul_div_gcd {p q : Int} : p * (q / (Int.gcd p q : Int)) = p / (Int.gcd p q : Int) * q := by
  rw [← Int.mul_ediv_assoc _ (Int.gcd_dvd_right p q), Int.mul_comm p q, Int.mul_ediv_assoc _ (Int.gcd_dvd_left p q), Int.mul_comm]
theorem lcm_abs {x y : Int} : (x.natAbs : Int) / (Int.gcd (x.natAbs : Int) (y.natAbs : Int) : Int) * (y.natAbs : Int) = ((x * y).natAbs : Int) / (Int.gcd x y : Int) := by
  have e : Int.gcd (x.natAbs : Int) (y.natAbs : Int) = Int.gcd x y := by rw [Int.gcd_eq_natAbs_gcd_natAbs, Int.gcd_eq_natAbs_gcd_natAbs]; rfl
  have d : (Int.gcd x y : Int) ∣ (y.natAbs : Int) := Int.dvd_natAbs.mpr (Int.gcd_dvd_right x y)
  have d2 : (Int.gcd x y : Int) ∣ (x.natAbs : Int) := Int.dvd_natAbs.mpr (Int.gcd_dvd_left x y)
  rw [e, Int.natAbs_mul, Int.natCast_mul, Int.mul_comm (x.natAbs : Int) (y.natAbs : Int), Int.mul_ediv_assoc _ d2, Int.mul_comm]
end Iz
/-! Lm -/
namespace Iz
theorem EI.doneV {one other d u v nu nv : Int} {k : Nat} (I : EI one other d u v 0 nu nv k) : v.natAbs ≤ 2 ^ 130000 := Nat.le_trans I.bv (Nat.pow_le_pow_right (by decide) (by have := I.kb; omega))
/-! ### lattices as sets of shifts -/
/-- the place of a cell -/
def plX (a b d x y : Int) : Int := (x - b * (y / d)) % a
def plY (d y : Int) : Int := y - d * (y / d)
def inL (a b d : Int) : Option (Int × Int) → Bool
  | none => false
  | some (x, y) => decide (plX a b d x y = 0 ∧ plY d y = 0)
structure LB (a b d : Int) : Prop where
  a1 : 1 ≤ a
  b0 : 0 ≤ b
  ba : b < a
  d1 : 1 ≤ d
  aS : a.natAbs < 2 ^ 500
  dS : d.natAbs < 2 ^ 500
theorem LB.bS {a b d : Int} (h : LB a b d) : b.natAbs < 2 ^ 500 := by have := h.aS; have := h.ba; have := h.b0; omega
/-- j (a, 0) + k (b, d) -/
def Ml (a b d x y : Int) : Prop := ∃ j k : Int, x = a * j + b * k ∧ y = d * k
theorem inL_iff {a b d x y : Int} (a1 : 1 ≤ a) (d1 : 1 ≤ d) : inL a b d (some (x, y)) = true ↔ Ml a b d x y := by
  unfold inL plX plY
  rw [decide_eq_true_eq]
  constructor
  · rintro ⟨h1, h2⟩
    obtain ⟨j, hj⟩ := Int.dvd_of_emod_eq_zero h1
    exact ⟨j, y / d, by omega, by omega⟩
  · rintro ⟨j, k, rfl, rfl⟩
    rw [Int.mul_ediv_cancel_left _ (by omega)]
    exact ⟨Int.emod_eq_zero_of_dvd ⟨j, by omega⟩, by omega⟩
theorem Ml.a {a b d : Int} : Ml a b d a 0 := ⟨1, 0, by omega, by omega⟩
theorem Ml.b {a b d : Int} : Ml a b d b d := ⟨0, 1, by omega, by omega⟩
theorem Ml.zero {a b d : Int} : Ml a b d 0 0 := ⟨0, 0, by omega, by omega⟩
theorem Ml.add {a b d x y u v : Int} (h : Ml a b d x y) (g : Ml a b d u v) : Ml a b d (x + u) (y + v) := by
  obtain ⟨j, k, rfl, rfl⟩ := h
  obtain ⟨m, n, rfl, rfl⟩ := g
  exact ⟨j + m, k + n, by rw [Int.mul_add, Int.mul_add]; omega, by rw [Int.mul_add]⟩
theorem Ml.smul {a b d x y : Int} (n : Int) (h : Ml a b d x y) : Ml a b d (n * x) (n * y) := by
  obtain ⟨j, k, rfl, rfl⟩ := h
  exact ⟨n * j, n * k, by rw [Int.mul_add, Int.mul_left_comm, Int.mul_left_comm n b], by rw [Int.mul_left_comm]⟩
theorem Ml.uniq {a b d a' b' d' : Int} (B : LB a b d) (B' : LB a' b' d') (h : ∀ x y, Ml a b d x y ↔ Ml a' b' d' x y) : a = a' ∧ b = b' ∧ d = d' := by
  have half : ∀ {a b d a' b' d' : Int}, LB a b d → LB a' b' d' → (∀ x y, Ml a b d x y → Ml a' b' d' x y) → a' ∣ a ∧ d' ∣ d := by
    intro a b d a' b' d' B B' h
    obtain ⟨j, k, h1, h2⟩ := h _ _ Ml.a
    have d1 := B'.d1
    have : k = 0 := by rcases Int.mul_eq_zero.mp h2.symm with e | e <;> omega
    subst this
    obtain ⟨j', k', _, h3⟩ := h _ _ Ml.b
    exact ⟨⟨j, by omega⟩, ⟨k', h3⟩⟩
  obtain ⟨p1, p2⟩ := half B B' fun x y => (h x y).mp
  obtain ⟨q1, q2⟩ := half B' B fun x y => (h x y).mpr
  have a1 := B.a1; have a1' := B'.a1; have d1 := B.d1; have d1' := B'.d1
  have ea : a = a' := Int.le_antisymm (Int.le_of_dvd (by omega) q1) (Int.le_of_dvd (by omega) p1)
  have ed : d = d' := Int.le_antisymm (Int.le_of_dvd (by omega) q2) (Int.le_of_dvd (by omega) p2)
  subst ea ed
  obtain ⟨j, k, h1, h2⟩ := (h _ _).mp (Ml.b (a := a) (b := b) (d := d))
  have : k = 1 := by
    have : d * k = d * 1 := by omega
    exact Int.eq_of_mul_eq_mul_left (by omega) this
  subst this
  refine ⟨rfl, ?_, rfl⟩
  have b0 := B.b0; have ba := B.ba; have b0' := B'.b0; have ba' := B'.ba
  have e : b - b' = a * j := by omega
  have : j = 0 := by
    rcases Int.lt_trichotomy j 0 with g | g | g
    · have := Int.mul_le_mul_of_nonneg_left (show j ≤ -1 by omega) (show 0 ≤ a by omega); omega
    · exact g
    · have := Int.mul_le_mul_of_nonneg_left (show 1 ≤ j by omega) (show 0 ≤ a by omega); omega
  subst this
  omega
theorem le_iff {a b d a' b' d' : Int} (B' : LB a' b' d') : (inL a' b' d' (some (a, 0)) && inL a' b' d' (some (b, d))) = true ↔ ∀ x y, Ml a b d x y → Ml a' b' d' x y := by
  rw [Bool.and_eq_true, inL_iff B'.a1 B'.d1, inL_iff B'.a1 B'.d1]
  constructor
  · rintro ⟨h1, h2⟩ x y ⟨j, k, rfl, rfl⟩
    have := (h1.smul j).add (h2.smul k)
    rw [Int.mul_comm a, Int.mul_comm b, Int.mul_comm d]
    rw [show j * 0 + k * d = k * d by omega] at this
    exact this
  · exact fun h => ⟨h _ _ Ml.a, h _ _ Ml.b⟩
theorem bez (x y : Int) : ∃ u v : Int, u * x + v * y = (Int.gcd x y : Int) := by
  have nat : ∀ m n : Nat, ∃ u v : Int, u * m + v * n = (Nat.gcd m n : Int) := by
    intro m n
    induction m, n using Nat.gcd.induction with
    | H0 n => exact ⟨0, 1, by simp⟩
    | H1 m n hm ih =>
      obtain ⟨u, v, h⟩ := ih
      rw [Nat.gcd_rec]
      refine ⟨v - u * ((n / m : Nat) : Int), u, ?_⟩
      have e : ((n % m : Nat) : Int) = (n : Int) - (m : Int) * ((n / m : Nat) : Int) := by
        have := Nat.mod_add_div n m
        have h2 : ((n % m + m * (n / m) : Nat) : Int) = (n : Int) := by rw [this]
        rw [Int.natCast_add, Int.natCast_mul] at h2
        omega
      rw [← h, e, Int.mul_sub, Int.sub_mul, Int.mul_comm (m : Int) _, Int.mul_assoc]
      omega
  obtain ⟨u, v, h⟩ := nat x.natAbs y.natAbs
  have s : ∀ z : Int, ∃ e : Int, e * z = (z.natAbs : Int) := fun z => by
    rcases Int.le_total 0 z with g | g
    · exact ⟨1, by omega⟩
    · exact ⟨-1, by omega⟩
  obtain ⟨e, he⟩ := s x
  obtain ⟨f, hf⟩ := s y
  exact ⟨u * e, v * f, by rw [Int.mul_assoc, Int.mul_assoc, he, hf]; exact h⟩
/-! ### the lattice that two shifts span -/
section
variable {p q r s u v : Int}
/-- the sums of multiples of both -/
def Sp2 (p q r s x y : Int) : Prop := ∃ m n : Int, x = m * p + n * r ∧ y = m * q + n * s
theorem span_iff (hW : p * s - r * q ≠ 0) (h : u * q + v * s = (Int.gcd q s : Int)) : 1 ≤ (Int.gcd q s : Int) ∧ 1 ≤ ((p * s - r * q).natAbs : Int) / (Int.gcd q s : Int) ∧ ((p * s - r * q).natAbs : Int) / (Int.gcd q s : Int) * (Int.gcd q s : Int) = ((p * s - r * q).natAbs : Int) ∧
    ∀ x y, Ml (((p * s - r * q).natAbs : Int) / (Int.gcd q s : Int)) ((u * p + v * r) % (((p * s - r * q).natAbs : Int) / (Int.gcd q s : Int))) (Int.gcd q s : Int) x y ↔ Sp2 p q r s x y := by
  have hD : 1 ≤ (Int.gcd q s : Int) := by
    have : Int.gcd q s ≠ 0 := fun e => by
      obtain ⟨h1, h2⟩ := Int.gcd_eq_zero_iff.mp e
      subst h1 h2
      simp at hW
    omega
  obtain ⟨q', hq⟩ := Int.gcd_dvd_left q s
  obtain ⟨s', hs⟩ := Int.gcd_dvd_right q s
  generalize (Int.gcd q s : Int) = D at *
  subst hq hs
  have e1 : u * q' + v * s' = 1 := by
    have : D * (u * q' + v * s') = D * 1 := by rw [Int.mul_add, Int.mul_left_comm D u, Int.mul_left_comm D v]; omega
    exact Int.eq_of_mul_eq_mul_left (by omega) this
  have eW : p * (D * s') - r * (D * q') = D * (p * s' - r * q') := by rw [Int.mul_sub, Int.mul_left_comm p, Int.mul_left_comm r]
  rw [eW] at hW ⊢
  generalize hw : p * s' - r * q' = w at *
  have hw0 : w ≠ 0 := fun e => by subst e; simp at hW
  have eA : ((D * w).natAbs : Int) = D * (w.natAbs : Int) := by rw [Int.natAbs_mul, Int.natCast_mul]; congr 1; omega
  rw [eA, Int.mul_ediv_cancel_left _ (by omega)]
  obtain ⟨e, he, he2⟩ : ∃ e : Int, (w.natAbs : Int) = e * w ∧ e * e = 1 := by
    rcases Int.le_total 0 w with g | g
    · exact ⟨1, by omega, rfl⟩
    · exact ⟨-1, by omega, rfl⟩
  refine ⟨hD, by omega, Int.mul_comm _ _, fun x y => ?_⟩
  have hA : (w.natAbs : Int) ≠ 0 := by omega
  generalize (w.natAbs : Int) = A at *
  have hB := Int.emod_add_mul_ediv (u * p + v * r) A
  generalize (u * p + v * r) % A = B at *
  generalize (u * p + v * r) / A = t at *
  have hB : B = u * p + v * r - A * t := by omega
  subst hB
  constructor
  · rintro ⟨j, k, rfl, rfl⟩
    exact ⟨u * k + e * s' * (j - t * k), v * k - e * q' * (j - t * k), by grind, by grind⟩
  · rintro ⟨m, n, rfl, rfl⟩
    exact ⟨t * (m * q' + n * s') + e * (m * v - n * u), m * q' + n * s', by grind, by grind⟩
/-- a sum of multiples, told by remainders -/
theorem sum_iff {x y : Int} (hW : p * s - r * q ≠ 0) : ((x * s - y * r) % (p * s - r * q) = 0 ∧ (y * p - x * q) % (p * s - r * q) = 0) ↔ Sp2 p q r s x y := by
  constructor
  · rintro ⟨h1, h2⟩
    obtain ⟨m, hm⟩ := Int.dvd_of_emod_eq_zero h1
    obtain ⟨n, hn⟩ := Int.dvd_of_emod_eq_zero h2
    have e1 : (p * s - r * q) * x = (p * s - r * q) * (m * p + n * r) := by grind
    have e2 : (p * s - r * q) * y = (p * s - r * q) * (m * q + n * s) := by grind
    exact ⟨m, n, Int.eq_of_mul_eq_mul_left hW e1, Int.eq_of_mul_eq_mul_left hW e2⟩
  · rintro ⟨m, n, rfl, rfl⟩
    exact ⟨Int.emod_eq_zero_of_dvd ⟨m, by grind⟩, Int.emod_eq_zero_of_dvd ⟨n, by grind⟩⟩
theorem Sp2.swap {x y : Int} : Sp2 p q r s x y ↔ Sp2 r s p q x y := ⟨fun ⟨m, n, h1, h2⟩ => ⟨n, m, by omega, by omega⟩, fun ⟨m, n, h1, h2⟩ => ⟨n, m, by omega, by omega⟩⟩
theorem Sp2.turn {x y : Int} : Sp2 (p + r) (q + s) (0 - r) (0 - s) x y ↔ Sp2 p q r s x y := by
  constructor
  · rintro ⟨m, n, h1, h2⟩
    exact ⟨m, m - n, by grind, by grind⟩
  · rintro ⟨m, n, h1, h2⟩
    exact ⟨m, m - n, by grind, by grind⟩
end
/-! ### the lattice that two have in common, and the one that both span -/
section
variable {a1 b1 d1 a2 b2 d2 : Int}
theorem lcm_dvd {x y z : Int} (hy : 1 ≤ y) (h1 : x ∣ z) (h2 : y ∣ z) : x * (y / (Int.gcd x y : Int)) ∣ z := by
  obtain ⟨m, rfl⟩ := h1
  exact Int.mul_dvd_mul_left x ((dvd_line hy).mp h2)
theorem lcm_facts {x y : Int} (hx : 1 ≤ x) (hy : 1 ≤ y) : x / (Int.gcd x y : Int) * y = x * (y / (Int.gcd x y : Int)) ∧ x ∣ x * (y / (Int.gcd x y : Int)) ∧ y ∣ x * (y / (Int.gcd x y : Int)) := by
  have e := mul_div_gcd (p := x) (q := y)
  exact ⟨e.symm, Int.dvd_mul_right _ _, by rw [e]; exact Int.dvd_mul_left _ _⟩
theorem div_of {d g e : Int} (hg : g ≠ 0) (h : d = g * e) : d / g = e := by rw [h, Int.mul_ediv_cancel_left _ hg]
theorem cm1 {e1 b1 e2 b2 t a1 j1 a2 j2 g h1 h2 x : Int} (hx1 : x = a1 * j1 + b1 * (e1 * t)) (hx2 : x = a2 * j2 + b2 * (e2 * t)) (hh1 : a1 = g * h1) (hh2 : a2 = g * h2) : (e1 * b1 - e2 * b2) * t = g * (h2 * j2 - h1 * j1) := by subst hh1 hh2; grind
theorem cm2 {x a j b e tm k c c1 : Int} (hx : x = a * j + b * (e * (tm * k))) (hc : c - tm * (e * b) = a * c1) : x - c * k = a * (j - c1 * k) := by
  have : c = tm * (e * b) + a * c1 := by omega
  subst this hx
  grind
/-- lv: the least multiple of both heights -/
theorem common_iff {lv c : Int} (A1 : 1 ≤ a1) (D1 : 1 ≤ d1) (A2 : 1 ≤ a2) (D2 : 1 ≤ d2) (hlv : lv = d1 * (d2 / (Int.gcd d1 d2 : Int)))
    (hc1 : (c - (Int.gcd a1 a2 : Int) / (Int.gcd (Int.gcd a1 a2 : Int) (lv / d1 * b1 - lv / d2 * b2) : Int) * (lv / d1 * b1)) % a1 = 0) (hc2 : (c - (Int.gcd a1 a2 : Int) / (Int.gcd (Int.gcd a1 a2 : Int) (lv / d1 * b1 - lv / d2 * b2) : Int) * (lv / d2 * b2)) % a2 = 0) :
    ∀ x y, Ml (a1 * (a2 / (Int.gcd a1 a2 : Int))) c ((Int.gcd a1 a2 : Int) / (Int.gcd (Int.gcd a1 a2 : Int) (lv / d1 * b1 - lv / d2 * b2) : Int) * lv) x y ↔ Ml a1 b1 d1 x y ∧ Ml a2 b2 d2 x y := by
  obtain ⟨_, l1, l2⟩ := lcm_facts A1 A2
  obtain ⟨_, m1, m2⟩ := lcm_facts D1 D2
  have hld := fun z => lcm_dvd (x := a1) (y := a2) (z := z) A2
  have hmd := fun z => lcm_dvd (x := d1) (y := d2) (z := z) D2
  rw [← hlv] at m1 m2 hmd
  have g1 : (Int.gcd a1 a2 : Int) ∣ a1 := Int.gcd_dvd_left a1 a2
  have g2 : (Int.gcd a1 a2 : Int) ∣ a2 := Int.gcd_dvd_right a1 a2
  have hg : 1 ≤ (Int.gcd a1 a2 : Int) := by have := Int.gcd_pos_of_ne_zero_left a2 (show a1 ≠ 0 by omega); omega
  generalize a1 * (a2 / (Int.gcd a1 a2 : Int)) = A at *
  generalize (Int.gcd a1 a2 : Int) = g at *
  have key := fun t => dvd_line (b := lv / d1 * b1 - lv / d2 * b2) (p := g) (k := t) hg
  rw [Int.gcd_comm _ g] at key
  generalize g / (Int.gcd g (lv / d1 * b1 - lv / d2 * b2) : Int) = tm at *
  obtain ⟨e1, he1⟩ := m1
  obtain ⟨e2, he2⟩ := m2
  have q1 : lv / d1 = e1 := by rw [he1, Int.mul_ediv_cancel_left _ (by omega)]
  have q2 : lv / d2 = e2 := by rw [he2, Int.mul_ediv_cancel_left _ (by omega)]
  rw [q1, q2] at key
  rw [q1] at hc1
  rw [q2] at hc2
  obtain ⟨c1, hc1⟩ := Int.dvd_of_emod_eq_zero hc1
  obtain ⟨c2, hc2⟩ := Int.dvd_of_emod_eq_zero hc2
  obtain ⟨f1, hf1⟩ := l1
  obtain ⟨f2, hf2⟩ := l2
  intro x y
  constructor
  · rintro ⟨j, k, rfl, rfl⟩
    exact ⟨⟨f1 * j + c1 * k, tm * e1 * k, by grind, by grind⟩, ⟨f2 * j + c2 * k, tm * e2 * k, by grind, by grind⟩⟩
  · rintro ⟨⟨j1, k1, hx1, hy1⟩, j2, k2, hx2, hy2⟩
    obtain ⟨t, ht⟩ := hmd y ⟨k1, hy1⟩ ⟨k2, hy2⟩
    have hk1 : k1 = e1 * t := Int.eq_of_mul_eq_mul_left (show d1 ≠ 0 by omega) (by rw [← hy1, ht, he1, Int.mul_assoc])
    have hk2 : k2 = e2 * t := Int.eq_of_mul_eq_mul_left (show d2 ≠ 0 by omega) (by rw [← hy2, ht, he2, Int.mul_assoc])
    obtain ⟨h1, hh1⟩ := g1
    obtain ⟨h2, hh2⟩ := g2
    have hg : g ∣ (e1 * b1 - e2 * b2) * t := ⟨h2 * j2 - h1 * j1, cm1 (x := x) (by rw [← hk1]; exact hx1) (by rw [← hk2]; exact hx2) hh1 hh2⟩
    obtain ⟨k, hk⟩ := (key t).mp hg
    obtain ⟨j, hj⟩ := hld (x - c * k) ⟨j1 - c1 * k, cm2 (x := x) (by rw [← hk, ← hk1]; exact hx1) hc1⟩ ⟨j2 - c2 * k, cm2 (x := x) (by rw [← hk, ← hk2]; exact hx2) hc2⟩
    exact ⟨j, k, by omega, by rw [ht, hk, ← Int.mul_assoc, Int.mul_comm lv tm]⟩
theorem joined_iff {u v a c : Int} (D1 : 1 ≤ d1) (h : u * d1 + v * d2 = (Int.gcd d1 d2 : Int)) (ha : a = (Int.gcd (Int.gcd a1 a2 : Int) (d2 / (Int.gcd d1 d2 : Int) * b1 - d1 / (Int.gcd d1 d2 : Int) * b2) : Int)) (hc : c = (u * b1 + v * b2) % a) :
    ∀ x y, Ml a c (Int.gcd d1 d2 : Int) x y ↔ ∃ x1 y1 x2 y2, Ml a1 b1 d1 x1 y1 ∧ Ml a2 b2 d2 x2 y2 ∧ x = x1 + x2 ∧ y = y1 + y2 := by
  obtain ⟨e1, he1⟩ := Int.gcd_dvd_left d1 d2
  obtain ⟨e2, he2⟩ := Int.gcd_dvd_right d1 d2
  have hg : 1 ≤ (Int.gcd d1 d2 : Int) := by have := Int.gcd_pos_of_ne_zero_left d2 (show d1 ≠ 0 by omega); omega
  have q1 : d1 / (Int.gcd d1 d2 : Int) = e1 := div_of (by omega) he1
  have q2 : d2 / (Int.gcd d1 d2 : Int) = e2 := div_of (by omega) he2
  rw [q1, q2] at ha
  generalize (Int.gcd d1 d2 : Int) = g at *
  have ee : u * e1 + v * e2 = 1 := Int.eq_of_mul_eq_mul_left (show g ≠ 0 by omega) (by grind)
  obtain ⟨α, β, h1⟩ := bez a1 a2
  obtain ⟨γ, δ, h2⟩ := bez (Int.gcd a1 a2 : Int) (e2 * b1 - e1 * b2)
  have k1 : (Int.gcd a1 a2 : Int) ∣ a1 := Int.gcd_dvd_left a1 a2
  have k2 : (Int.gcd a1 a2 : Int) ∣ a2 := Int.gcd_dvd_right a1 a2
  have k3 : a ∣ (Int.gcd a1 a2 : Int) := by rw [ha]; exact Int.gcd_dvd_left _ _
  have k4 : a ∣ e2 * b1 - e1 * b2 := by rw [ha]; exact Int.gcd_dvd_right _ _
  rw [← ha] at h2
  generalize (Int.gcd a1 a2 : Int) = f at *
  obtain ⟨r1, k1⟩ := Int.dvd_trans k3 k1
  obtain ⟨r2, k2⟩ := Int.dvd_trans k3 k2
  obtain ⟨r4, k4⟩ := k4
  have hB := Int.emod_add_mul_ediv (u * b1 + v * b2) a
  rw [← hc] at hB
  generalize (u * b1 + v * b2) / a = t at *
  intro x y
  constructor
  · rintro ⟨j, k, rfl, rfl⟩
    generalize hz : j - t * k = z
    refine ⟨a1 * (γ * α * z) + b1 * (u * k + δ * e2 * z), d1 * (u * k + δ * e2 * z), a2 * (γ * β * z) + b2 * (v * k - δ * e1 * z), d2 * (v * k - δ * e1 * z), ⟨_, _, rfl, rfl⟩, ⟨_, _, rfl, rfl⟩, ?_, ?_⟩
    · grind
    · grind
  · rintro ⟨_, _, _, _, ⟨j1, k1', rfl, rfl⟩, ⟨j2, k2', rfl, rfl⟩, rfl, rfl⟩
    exact ⟨r1 * j1 + r2 * j2 + r4 * (k1' * v - k2' * u) + t * (e1 * k1' + e2 * k2'), e1 * k1' + e2 * k2', by grind, by grind⟩
/-- the areas go together -/
theorem areas {w w2 h h2 z : Int} (hw : 1 ≤ w) (hh : 1 ≤ h) : w * (w2 / (Int.gcd w w2 : Int)) * ((Int.gcd w w2 : Int) / (Int.gcd (Int.gcd w w2 : Int) z : Int) * (h * (h2 / (Int.gcd h h2 : Int)))) * ((Int.gcd (Int.gcd w w2 : Int) z : Int) * (Int.gcd h h2 : Int)) = w * h * (w2 * h2) := by
  have e1 : (Int.gcd w w2 : Int) * (w2 / (Int.gcd w w2 : Int)) = w2 := Int.mul_ediv_cancel' (Int.gcd_dvd_right w w2)
  have e2 : (Int.gcd (Int.gcd w w2 : Int) z : Int) * ((Int.gcd w w2 : Int) / (Int.gcd (Int.gcd w w2 : Int) z : Int)) = (Int.gcd w w2 : Int) := Int.mul_ediv_cancel' (Int.gcd_dvd_left _ _)
  have e3 : (Int.gcd h h2 : Int) * (h2 / (Int.gcd h h2 : Int)) = h2 := Int.mul_ediv_cancel' (Int.gcd_dvd_right h h2)
  generalize (Int.gcd (Int.gcd w w2 : Int) z : Int) = y at *
  generalize (Int.gcd w w2 : Int) / y = x at *
  generalize w2 / (Int.gcd w w2 : Int) = v at *
  generalize (Int.gcd w w2 : Int) = g at *
  generalize h2 / (Int.gcd h h2 : Int) = u at *
  generalize (Int.gcd h h2 : Int) = k at *
  subst e1 e2 e3
  grind
end
theorem com_eq {A C D w s h w2 s2 h2 : Int} (BC : LB A C D) (B1 : LB w s h) (B2 : LB w2 s2 h2) (mem : ∀ x y, Ml A C D x y ↔ Ml w s h x y ∧ Ml w2 s2 h2 x y) :
    decide (A = w ∧ C = s ∧ D = h) = (inL w2 s2 h2 (some (w, 0)) && inL w2 s2 h2 (some (s, h))) := by
  rw [Bool.eq_iff_iff, decide_eq_true_iff, le_iff B2]
  constructor
  · rintro ⟨e1, e2, e3⟩ x y m
    have := (mem x y).mp (by rw [e1, e2, e3]; exact m)
    exact this.2
  · intro g
    exact Ml.uniq BC B1 fun x y => (mem x y).trans ⟨fun m => m.1, fun m => ⟨m, g _ _ m⟩⟩
theorem joi_eq {J I G w s h w2 s2 h2 : Int} (BJ : LB J I G) (B1 : LB w s h) (mem : ∀ x y, Ml J I G x y ↔ ∃ x1 y1 x2 y2, Ml w s h x1 y1 ∧ Ml w2 s2 h2 x2 y2 ∧ x = x1 + x2 ∧ y = y1 + y2) :
    decide (J = w ∧ I = s ∧ G = h) = (inL w s h (some (w2, 0)) && inL w s h (some (s2, h2))) := by
  rw [Bool.eq_iff_iff, decide_eq_true_iff, le_iff B1]
  constructor
  · rintro ⟨e1, e2, e3⟩ x y m
    have := (mem x y).mpr ⟨0, 0, x, y, Ml.zero, m, by omega, by omega⟩
    rwa [e1, e2, e3] at this
  · intro g
    exact Ml.uniq BJ B1 fun x y => (mem x y).trans ⟨fun ⟨x1, y1, x2, y2, m1, m2, ex, ey⟩ => by rw [ex, ey]; exact m1.add (g _ _ m2), fun m => ⟨x, y, 0, 0, m, Ml.zero, by omega, by omega⟩⟩
end Iz
/-! k09_text -/
set_option Elab.async false
set_option linter.all false
set_option maxRecDepth 100000
set_option maxHeartbeats 4000000
namespace Iz
open PySem PySem.Spec PyProof.Rows L2
open He (ga)
local macro_rules | `(tactic| walk_at "wp") => `(tactic| simp only [tSl, tPart, tNoPart, rSlLN, rMax2, rMin2, gUnlN, tYes, rLenS, rRepN, cx_K, Value.ref.injEq, HO.xd.injEq, lk0, tSeq, tPar3, tPar, tCons, tNil, tVar, tC, tAsg, gName, gCons, gNil, gTupN, gSub, tOp, rI, rI0, rU, tTest, rNe, rEq, rIxTN, rIxLN, rLenL, rLenT, rIntI, rIntB, rAbs, rSetLN, tTruL, tRaiseX, rIsTy, rIsOw, ixN0, ixN1, tRet, tIf, tIfS, tNext, tBreak, tCont, tDrop, tTupN, tLstN, tUn, tCB, tCall, tNot, tAnd, tOr, tB, tAndV, tOrV, tNotV, tChain, tApp, LamX.tLam, tRevLN, rCatN, rInTN, rInLN, flatV, inV, List.all_cons, List.all_nil, List.any_cons, List.any_nil, Bool.and_self, Bool.and_true, if_true, Bool.false_eq_true, if_false, tMt, tFldN, tSto, HO.ins.injEq, lkh, List.drop_zero, List.drop_succ_cons, List.drop_nil, rListS, wipe, L2.start, List.map_cons, List.map_nil, List.length_cons, List.length_nil, List.replicate, List.cons_append, List.nil_append, List.append_nil, Nat.reduceAdd, Nat.reduceSub, Nat.zero_add, List.replicate_succ, List.replicate_zero, List.getElem?_cons_zero, List.getElem?_cons_succ, List.set_cons_zero, List.set_cons_succ, Option.some.injEq, V.int.injEq, V.bl.injEq, V.ref.injEq, V.str.injEq, V.ty.injEq, List.cons.injEq, HO.tup.injEq, HO.lst.injEq, and_true, true_and, and_assoc, exists_eq_left, exists_eq_left', exists_and_left, exists_eq', atI0, atI1, atI2, atI3, Int.cast_ofNat_Int, Int.reduceToNat, scal_ii, scal_in, scal_ni, scal_nn, scal_bb, scal_ss, scal_sn, scal_ns, scal_bn, scal_nb, ite_iff, decide_eq_true_eq, decide_eq_false_iff_not, Bool.not_eq_true', Classical.not_not, ne_eq, not_false_eq_true, not_true_eq_false, forall_const, true_implies, false_implies, imp_self, sizeLine_eq, Nat.reduceLeDiff, reduceCtorEq, decide_true, decide_false])
def top (i : Nat) : Stmt := PySem.Challenge.pw_endlessplane_k09_whole_lattices_put_toge.main.body.getD i (.Pass ⟨0, 0, 0, 0⟩)
abbrev s_is_whole : Stmt := top 9
abbrev N_is_whole : List Str := ["value"]
theorem sc_is_whole : FnScope ["value"] ["value"] (defScope s_is_whole) := ⟨rfl, rfl, rfl, by decide +kernel, rfl, by decide +kernel, by decide +kernel⟩
abbrev s_is_from : Stmt := top 10
abbrev N_is_from : List Str := ["value", "least"]
theorem sc_is_from : FnScope ["value", "least"] ["value", "least"] (defScope s_is_from) := ⟨rfl, rfl, rfl, by decide +kernel, rfl, by decide +kernel, by decide +kernel⟩
abbrev s_is_pair : Stmt := top 11
abbrev N_is_pair : List Str := ["value"]
theorem sc_is_pair : FnScope ["value"] ["value"] (defScope s_is_pair) := ⟨rfl, rfl, rfl, by decide +kernel, rfl, by decide +kernel, by decide +kernel⟩
abbrev s_require_whole : Stmt := top 12
abbrev N_require_whole : List Str := ["value"]
theorem sc_require_whole : FnScope ["value"] ["value"] (defScope s_require_whole) := ⟨rfl, rfl, rfl, by decide +kernel, rfl, by decide +kernel, by decide +kernel⟩
abbrev s_require_from : Stmt := top 13
abbrev N_require_from : List Str := ["value", "least"]
theorem sc_require_from : FnScope ["value", "least"] ["value", "least"] (defScope s_require_from) := ⟨rfl, rfl, rfl, by decide +kernel, rfl, by decide +kernel, by decide +kernel⟩
abbrev s_require_pair : Stmt := top 14
abbrev N_require_pair : List Str := ["value", "part"]
theorem sc_require_pair : FnScope ["value", "part"] ["value", "part"] (defScope s_require_pair) := ⟨rfl, rfl, rfl, by decide +kernel, rfl, by decide +kernel, by decide +kernel⟩
abbrev s_greatest_divisor : Stmt := top 16
abbrev N_greatest_divisor : List Str := ["one", "other"]
theorem sc_greatest_divisor : FnScope ["one", "other"] ["one", "other"] (defScope s_greatest_divisor) := ⟨rfl, rfl, rfl, by decide +kernel, rfl, by decide +kernel, by decide +kernel⟩
abbrev s_least_multiple : Stmt := top 17
abbrev N_least_multiple : List Str := ["one", "other"]
theorem sc_least_multiple : FnScope ["one", "other"] ["one", "other"] (defScope s_least_multiple) := ⟨rfl, rfl, rfl, by decide +kernel, rfl, by decide +kernel, by decide +kernel⟩
abbrev s_weighed_divisor : Stmt := top 18
abbrev N_weighed_divisor : List Str := ["one", "other", "divisor", "u", "v", "rest", "next_u", "next_v", "times"]
theorem sc_weighed_divisor : FnScope ["one", "other", "divisor", "u", "v", "rest", "next_u", "next_v", "times"] ["one", "other"] (defScope s_weighed_divisor) := ⟨rfl, rfl, rfl, by decide +kernel, rfl, by decide +kernel, by decide +kernel⟩
abbrev s_remainder_of : Stmt := top 19
abbrev N_remainder_of : List Str := ["a", "b", "r", "p", "divisor", "u", "_", "q"]
theorem sc_remainder_of : FnScope ["a", "b", "r", "p", "divisor", "u", "_", "q"] ["a", "b", "r", "p"] (defScope s_remainder_of) := ⟨rfl, rfl, rfl, by decide +kernel, rfl, by decide +kernel, by decide +kernel⟩
abbrev s_both_remainders : Stmt := top 20
abbrev N_both_remainders : List Str := ["one", "other", "r", "p", "times", "s", "q"]
theorem sc_both_remainders : FnScope ["one", "other", "r", "p", "times", "s", "q"] ["one", "other"] (defScope s_both_remainders) := ⟨rfl, rfl, rfl, by decide +kernel, rfl, by decide +kernel, by decide +kernel⟩
abbrev s__require_remainder : Stmt := top 21
abbrev N__require_remainder : List Str := ["value"]
theorem sc__require_remainder : FnScope ["value"] ["value"] (defScope s__require_remainder) := ⟨rfl, rfl, rfl, by decide +kernel, rfl, by decide +kernel, by decide +kernel⟩
abbrev s_is_shift : Stmt := top 23
abbrev N_is_shift : List Str := ["value"]
theorem sc_is_shift : FnScope ["value"] ["value"] (defScope s_is_shift) := ⟨rfl, rfl, rfl, by decide +kernel, rfl, by decide +kernel, by decide +kernel⟩
abbrev s_Lattice___init__ : Stmt := inClass (top 24) 0
abbrev N_Lattice___init__ : List Str := ["self", "a", "b", "d"]
theorem sc_Lattice___init__ : FnScope ["self", "a", "b", "d"] ["self", "a", "b", "d"] (defScope s_Lattice___init__) := ⟨rfl, rfl, rfl, by decide +kernel, rfl, by decide +kernel, by decide +kernel⟩
abbrev s_Lattice___eq__ : Stmt := inClass (top 24) 1
abbrev N_Lattice___eq__ : List Str := ["self", "other"]
theorem sc_Lattice___eq__ : FnScope ["self", "other"] ["self", "other"] (defScope s_Lattice___eq__) := ⟨rfl, rfl, rfl, by decide +kernel, rfl, by decide +kernel, by decide +kernel⟩
abbrev s_Lattice___le__ : Stmt := inClass (top 24) 2
abbrev N_Lattice___le__ : List Str := ["self", "other"]
theorem sc_Lattice___le__ : FnScope ["self", "other"] ["self", "other"] (defScope s_Lattice___le__) := ⟨rfl, rfl, rfl, by decide +kernel, rfl, by decide +kernel, by decide +kernel⟩
abbrev s_Lattice___contains__ : Stmt := inClass (top 24) 3
abbrev N_Lattice___contains__ : List Str := ["self", "shift"]
theorem sc_Lattice___contains__ : FnScope ["self", "shift"] ["self", "shift"] (defScope s_Lattice___contains__) := ⟨rfl, rfl, rfl, by decide +kernel, rfl, by decide +kernel, by decide +kernel⟩
abbrev s_Lattice_area : Stmt := inClass (top 24) 4
abbrev N_Lattice_area : List Str := ["self"]
theorem sc_Lattice_area : FnScope ["self"] ["self"] (defScope s_Lattice_area) := ⟨rfl, rfl, rfl, by decide +kernel, rfl, by decide +kernel, by decide +kernel⟩
abbrev s_Lattice_place : Stmt := inClass (top 24) 5
abbrev N_Lattice_place : List Str := ["self", "cell", "x", "y", "up"]
theorem sc_Lattice_place : FnScope ["self", "cell", "x", "y", "up"] ["self", "cell"] (defScope s_Lattice_place) := ⟨rfl, rfl, rfl, by decide +kernel, rfl, by decide +kernel, by decide +kernel⟩
abbrev s_require_lattice_numbers : Stmt := top 25
abbrev N_require_lattice_numbers : List Str := ["a", "b", "d"]
theorem sc_require_lattice_numbers : FnScope ["a", "b", "d"] ["a", "b", "d"] (defScope s_require_lattice_numbers) := ⟨rfl, rfl, rfl, by decide +kernel, rfl, by decide +kernel, by decide +kernel⟩
abbrev s_require_lattice : Stmt := top 26
abbrev N_require_lattice : List Str := ["value"]
theorem sc_require_lattice : FnScope ["value"] ["value"] (defScope s_require_lattice) := ⟨rfl, rfl, rfl, by decide +kernel, rfl, by decide +kernel, by decide +kernel⟩
abbrev s_spanned : Stmt := top 27
abbrev N_spanned : List Str := ["one", "other", "area", "d", "u", "v", "a"]
theorem sc_spanned : FnScope ["one", "other", "area", "d", "u", "v", "a"] ["one", "other"] (defScope s_spanned) := ⟨rfl, rfl, rfl, by decide +kernel, rfl, by decide +kernel, by decide +kernel⟩
abbrev s_common_lattice : Stmt := top 28
abbrev N_common_lattice : List Str := ["one", "other", "level", "one_x", "other_x", "divisor", "times", "b", "a"]
theorem sc_common_lattice : FnScope ["one", "other", "level", "one_x", "other_x", "divisor", "times", "b", "a"] ["one", "other"] (defScope s_common_lattice) := ⟨rfl, rfl, rfl, by decide +kernel, rfl, by decide +kernel, by decide +kernel⟩
abbrev s_joined_lattice : Stmt := top 29
abbrev N_joined_lattice : List Str := ["one", "other", "d", "u", "v", "slip", "a"]
theorem sc_joined_lattice : FnScope ["one", "other", "d", "u", "v", "slip", "a"] ["one", "other"] (defScope s_joined_lattice) := ⟨rfl, rfl, rfl, by decide +kernel, rfl, by decide +kernel, by decide +kernel⟩
abbrev s__law_opened : Stmt := top 31
abbrev N__law_opened : List Str := ["_law_script", "_law_k", "_law_start", "_law_whole", "_law_seed"]
theorem sc__law_opened : FnScope ["_law_script", "_law_k", "_law_start", "_law_whole", "_law_seed"] ["_law_script", "_law_k"] (defScope s__law_opened) := ⟨rfl, rfl, rfl, by decide +kernel, rfl, by decide +kernel, by decide +kernel⟩
abbrev s__law_draw : Stmt := top 32
abbrev N__law_draw : List Str := ["_law_pool", "_law_many", "_law_found"]
theorem sc__law_draw : FnScope ["_law_pool", "_law_many", "_law_found"] ["_law_pool", "_law_many"] (defScope s__law_draw) := ⟨rfl, rfl, rfl, by decide +kernel, rfl, by decide +kernel, by decide +kernel⟩
abbrev s__law_pick : Stmt := top 33
abbrev N__law_pick : List Str := ["_law_pool", "_law_some"]
theorem sc__law_pick : FnScope ["_law_pool", "_law_some"] ["_law_pool", "_law_some"] (defScope s__law_pick) := ⟨rfl, rfl, rfl, by decide +kernel, rfl, by decide +kernel, by decide +kernel⟩
abbrev s__law_three : Stmt := top 34
abbrev N__law_three : List Str := ["_law_pool", "_law_most", "_law_wide"]
theorem sc__law_three : FnScope ["_law_pool", "_law_most", "_law_wide"] ["_law_pool", "_law_most"] (defScope s__law_three) := ⟨rfl, rfl, rfl, by decide +kernel, rfl, by decide +kernel, by decide +kernel⟩
abbrev s__law_place : Stmt := top 35
abbrev N__law_place : List Str := ["_law_three_here", "_law_x", "_law_y", "_law_wide", "_law_slant", "_law_high"]
theorem sc__law_place : FnScope ["_law_three_here", "_law_x", "_law_y", "_law_wide", "_law_slant", "_law_high"] ["_law_three_here", "_law_x", "_law_y"] (defScope s__law_place) := ⟨rfl, rfl, rfl, by decide +kernel, rfl, by decide +kernel, by decide +kernel⟩
abbrev s__law_holds : Stmt := top 36
abbrev N__law_holds : List Str := ["_law_three_here", "_law_x", "_law_y"]
theorem sc__law_holds : FnScope ["_law_three_here", "_law_x", "_law_y"] ["_law_three_here", "_law_x", "_law_y"] (defScope s__law_holds) := ⟨rfl, rfl, rfl, by decide +kernel, rfl, by decide +kernel, by decide +kernel⟩
abbrev s__law_refused : Stmt := top 37
abbrev N__law_refused : List Str := ["_law_call", "e"]
theorem sc__law_refused : FnScope ["_law_call", "e"] ["_law_call"] (defScope s__law_refused) := ⟨rfl, rfl, rfl, by decide +kernel, rfl, by decide +kernel, by decide +kernel⟩
abbrev s__law_is_sum : Stmt := top 38
abbrev N__law_is_sum : List Str := ["_law_one", "_law_other", "_law_x", "_law_y", "_law_whole"]
theorem sc__law_is_sum : FnScope ["_law_one", "_law_other", "_law_x", "_law_y", "_law_whole"] ["_law_one", "_law_other", "_law_x", "_law_y"] (defScope s__law_is_sum) := ⟨rfl, rfl, rfl, by decide +kernel, rfl, by decide +kernel, by decide +kernel⟩
abbrev s__law_spanned_right : Stmt := top 39
abbrev N__law_spanned_right : List Str := ["_law_pool", "_law_one", "_law_other", "_law_whole", "_law_lattice", "_law_step", "_law_x", "_law_y", "_law_near"]
theorem sc__law_spanned_right : FnScope ["_law_pool", "_law_one", "_law_other", "_law_whole", "_law_lattice", "_law_step", "_law_x", "_law_y", "_law_near"] ["_law_pool", "_law_one", "_law_other"] (defScope s__law_spanned_right) := ⟨rfl, rfl, rfl, by decide +kernel, rfl, by decide +kernel, by decide +kernel⟩
abbrev s__law_two_right : Stmt := top 40
abbrev N__law_two_right : List Str := ["_law_pool", "_law_one", "_law_other", "_law_first", "_law_second", "_law_common", "_law_joined", "_law_step", "_law_x", "_law_y", "_law_held", "_law_near"]
theorem sc__law_two_right : FnScope ["_law_pool", "_law_one", "_law_other", "_law_first", "_law_second", "_law_common", "_law_joined", "_law_step", "_law_x", "_law_y", "_law_held", "_law_near"] ["_law_pool", "_law_one", "_law_other"] (defScope s__law_two_right) := ⟨rfl, rfl, rfl, by decide +kernel, rfl, by decide +kernel, by decide +kernel⟩
abbrev s_law : Stmt := top 41
abbrev N_law : List Str := ["_law_script", "_law_k", "_law_pool", "_law_one", "_law_other", "_law_pair", "_law_first", "_law_second", "_law_inner", "_law_rows", "_law_good", "_law_odd"]
theorem sc_law : FnScope ["_law_script", "_law_k", "_law_pool", "_law_one", "_law_other", "_law_pair", "_law_first", "_law_second", "_law_inner", "_law_rows", "_law_good", "_law_odd"] ["_law_script"] (defScope s_law) := ⟨rfl, rfl, rfl, by decide +kernel, rfl, by decide +kernel, by decide +kernel⟩
abbrev s_BadNumber___init__ : Stmt := inClass (top 4) 0
abbrev N_BadNumber___init__ : List Str := ["self", "number"]
theorem sc_BadNumber___init__ : FnScope ["self", "number"] ["self", "number"] (defScope s_BadNumber___init__) := ⟨rfl, rfl, rfl, by decide +kernel, rfl, by decide +kernel, by decide +kernel⟩
abbrev s_BadPart___init__ : Stmt := inClass (top 3) 0
abbrev N_BadPart___init__ : List Str := ["self", "part"]
theorem sc_BadPart___init__ : FnScope ["self", "part"] ["self", "part"] (defScope s_BadPart___init__) := ⟨rfl, rfl, rfl, by decide +kernel, rfl, by decide +kernel, by decide +kernel⟩
abbrev s_NotSo___init__ : Stmt := inClass (top 6) 0
abbrev N_NotSo___init__ : List Str := ["self", "word"]
theorem sc_NotSo___init__ : FnScope ["self", "word"] ["self", "word"] (defScope s_NotSo___init__) := ⟨rfl, rfl, rfl, by decide +kernel, rfl, by decide +kernel, by decide +kernel⟩
theorem b_Lattice___init__ {K : PySem.W.Frag} {f : Addr} {fd : FuncData} (F : FunD K "__init__" "Lattice.__init__" (defArgs s_Lattice___init__) (defBody s_Lattice___init__) (defScope s_Lattice___init__) [] [] f fd) : BindD K fd ["self", "a", "b", "d"] [] := BindD.none (F.bindsN fun _ _ _ _ _ _ us hl => match us, hl with | [_, _, _, _], _ => rfl)
theorem b_Lattice___eq__ {K : PySem.W.Frag} {f : Addr} {fd : FuncData} (F : FunD K "__eq__" "Lattice.__eq__" (defArgs s_Lattice___eq__) (defBody s_Lattice___eq__) (defScope s_Lattice___eq__) [] [] f fd) : BindD K fd ["self", "other"] [] := BindD.none (F.bindsN fun _ _ _ _ _ _ us hl => match us, hl with | [_, _], _ => rfl)
theorem b_Lattice___le__ {K : PySem.W.Frag} {f : Addr} {fd : FuncData} (F : FunD K "__le__" "Lattice.__le__" (defArgs s_Lattice___le__) (defBody s_Lattice___le__) (defScope s_Lattice___le__) [] [] f fd) : BindD K fd ["self", "other"] [] := BindD.none (F.bindsN fun _ _ _ _ _ _ us hl => match us, hl with | [_, _], _ => rfl)
theorem b_Lattice___contains__ {K : PySem.W.Frag} {f : Addr} {fd : FuncData} (F : FunD K "__contains__" "Lattice.__contains__" (defArgs s_Lattice___contains__) (defBody s_Lattice___contains__) (defScope s_Lattice___contains__) [] [] f fd) : BindD K fd ["self", "shift"] [] := BindD.none (F.bindsN fun _ _ _ _ _ _ us hl => match us, hl with | [_, _], _ => rfl)
theorem b_Lattice_area {K : PySem.W.Frag} {f : Addr} {fd : FuncData} (F : FunD K "area" "Lattice.area" (defArgs s_Lattice_area) (defBody s_Lattice_area) (defScope s_Lattice_area) [] [] f fd) : BindD K fd ["self"] [] := BindD.none (F.bindsN fun _ _ _ _ _ _ us hl => match us, hl with | [_], _ => rfl)
theorem b_Lattice_place {K : PySem.W.Frag} {f : Addr} {fd : FuncData} (F : FunD K "place" "Lattice.place" (defArgs s_Lattice_place) (defBody s_Lattice_place) (defScope s_Lattice_place) [] [] f fd) : BindD K fd ["self", "cell"] [] := BindD.none (F.bindsN fun _ _ _ _ _ _ us hl => match us, hl with | [_, _], _ => rfl)
structure Txt (K : PySem.W.Frag) (mg : Str → Option Value) : Prop where
  d_is_whole : ∃ (f : Addr) (fd : FuncData), mg "is_whole" = some (.ref f) ∧ Fun K "is_whole" "is_whole" s_is_whole f fd
  d_is_from : ∃ (f : Addr) (fd : FuncData), mg "is_from" = some (.ref f) ∧ Fun K "is_from" "is_from" s_is_from f fd
  d_is_pair : ∃ (f : Addr) (fd : FuncData), mg "is_pair" = some (.ref f) ∧ Fun K "is_pair" "is_pair" s_is_pair f fd
  d_require_whole : ∃ (f : Addr) (fd : FuncData), mg "require_whole" = some (.ref f) ∧ Fun K "require_whole" "require_whole" s_require_whole f fd
  d_require_from : ∃ (f : Addr) (fd : FuncData), mg "require_from" = some (.ref f) ∧ Fun K "require_from" "require_from" s_require_from f fd
  d_require_pair : ∃ (f : Addr) (fd : FuncData), mg "require_pair" = some (.ref f) ∧ Fun K "require_pair" "require_pair" s_require_pair f fd
  d_greatest_divisor : ∃ (f : Addr) (fd : FuncData), mg "greatest_divisor" = some (.ref f) ∧ Fun K "greatest_divisor" "greatest_divisor" s_greatest_divisor f fd
  d_least_multiple : ∃ (f : Addr) (fd : FuncData), mg "least_multiple" = some (.ref f) ∧ Fun K "least_multiple" "least_multiple" s_least_multiple f fd
  d_weighed_divisor : ∃ (f : Addr) (fd : FuncData), mg "weighed_divisor" = some (.ref f) ∧ Fun K "weighed_divisor" "weighed_divisor" s_weighed_divisor f fd
  d_remainder_of : ∃ (f : Addr) (fd : FuncData), mg "remainder_of" = some (.ref f) ∧ Fun K "remainder_of" "remainder_of" s_remainder_of f fd
  d_both_remainders : ∃ (f : Addr) (fd : FuncData), mg "both_remainders" = some (.ref f) ∧ Fun K "both_remainders" "both_remainders" s_both_remainders f fd
  d__require_remainder : ∃ (f : Addr) (fd : FuncData), mg "_require_remainder" = some (.ref f) ∧ Fun K "_require_remainder" "_require_remainder" s__require_remainder f fd
  d_is_shift : ∃ (f : Addr) (fd : FuncData), mg "is_shift" = some (.ref f) ∧ Fun K "is_shift" "is_shift" s_is_shift f fd
  d_require_lattice_numbers : ∃ (f : Addr) (fd : FuncData), mg "require_lattice_numbers" = some (.ref f) ∧ Fun K "require_lattice_numbers" "require_lattice_numbers" s_require_lattice_numbers f fd
  d_require_lattice : ∃ (f : Addr) (fd : FuncData), mg "require_lattice" = some (.ref f) ∧ Fun K "require_lattice" "require_lattice" s_require_lattice f fd
  d_spanned : ∃ (f : Addr) (fd : FuncData), mg "spanned" = some (.ref f) ∧ Fun K "spanned" "spanned" s_spanned f fd
  d_common_lattice : ∃ (f : Addr) (fd : FuncData), mg "common_lattice" = some (.ref f) ∧ Fun K "common_lattice" "common_lattice" s_common_lattice f fd
  d_joined_lattice : ∃ (f : Addr) (fd : FuncData), mg "joined_lattice" = some (.ref f) ∧ Fun K "joined_lattice" "joined_lattice" s_joined_lattice f fd
  d__law_opened : ∃ (f : Addr) (fd : FuncData), mg "_law_opened" = some (.ref f) ∧ Fun K "_law_opened" "_law_opened" s__law_opened f fd
  d__law_draw : ∃ (f : Addr) (fd : FuncData), mg "_law_draw" = some (.ref f) ∧ Fun K "_law_draw" "_law_draw" s__law_draw f fd
  d__law_pick : ∃ (f : Addr) (fd : FuncData), mg "_law_pick" = some (.ref f) ∧ Fun K "_law_pick" "_law_pick" s__law_pick f fd
  d__law_three : ∃ (f : Addr) (fd : FuncData), mg "_law_three" = some (.ref f) ∧ Fun K "_law_three" "_law_three" s__law_three f fd
  d__law_place : ∃ (f : Addr) (fd : FuncData), mg "_law_place" = some (.ref f) ∧ Fun K "_law_place" "_law_place" s__law_place f fd
  d__law_holds : ∃ (f : Addr) (fd : FuncData), mg "_law_holds" = some (.ref f) ∧ Fun K "_law_holds" "_law_holds" s__law_holds f fd
  d__law_refused : ∃ (f : Addr) (fd : FuncData), mg "_law_refused" = some (.ref f) ∧ Fun K "_law_refused" "_law_refused" s__law_refused f fd
  d__law_is_sum : ∃ (f : Addr) (fd : FuncData), mg "_law_is_sum" = some (.ref f) ∧ Fun K "_law_is_sum" "_law_is_sum" s__law_is_sum f fd
  lam__law_spanned_right : LamF K mg "_law_spanned_right" s__law_spanned_right
  d__law_two_right : ∃ (f : Addr) (fd : FuncData), mg "_law_two_right" = some (.ref f) ∧ Fun K "_law_two_right" "_law_two_right" s__law_two_right f fd
  lam_law : LamF K mg "law" s_law
  ci_Lattice : ClsI K (ga K "Lattice")
  c_Lattice : Cls K (ga K "Lattice")
  g_Lattice : mg "Lattice" = some (.ref (ga K "Lattice"))
  na_Lattice_a : NoAttr K (ga K "Lattice") "a"
  na_Lattice_b : NoAttr K (ga K "Lattice") "b"
  na_Lattice_d : NoAttr K (ga K "Lattice") "d"
  d_Lattice___init__ : ∃ (f : Addr) (fd : FuncData), Mk K (ga K "Lattice") f ∧ FunD K "__init__" "Lattice.__init__" (defArgs s_Lattice___init__) (defBody s_Lattice___init__) (defScope s_Lattice___init__) [] [] f fd
  d_Lattice___eq__ : ∃ (f : Addr) (fd : FuncData), Meth K (ga K "Lattice") "__eq__" f ∧ FunD K "__eq__" "Lattice.__eq__" (defArgs s_Lattice___eq__) (defBody s_Lattice___eq__) (defScope s_Lattice___eq__) [] [] f fd
  d_Lattice___le__ : ∃ (f : Addr) (fd : FuncData), Meth K (ga K "Lattice") "__le__" f ∧ FunD K "__le__" "Lattice.__le__" (defArgs s_Lattice___le__) (defBody s_Lattice___le__) (defScope s_Lattice___le__) [] [] f fd
  d_Lattice___contains__ : ∃ (f : Addr) (fd : FuncData), Meth K (ga K "Lattice") "__contains__" f ∧ FunD K "__contains__" "Lattice.__contains__" (defArgs s_Lattice___contains__) (defBody s_Lattice___contains__) (defScope s_Lattice___contains__) [] [] f fd
  d_Lattice_area : ∃ (f : Addr) (fd : FuncData), Meth K (ga K "Lattice") "area" f ∧ FunD K "area" "Lattice.area" (defArgs s_Lattice_area) (defBody s_Lattice_area) (defScope s_Lattice_area) [] [] f fd
  d_Lattice_place : ∃ (f : Addr) (fd : FuncData), Meth K (ga K "Lattice") "place" f ∧ FunD K "place" "Lattice.place" (defArgs s_Lattice_place) (defBody s_Lattice_place) (defScope s_Lattice_place) [] [] f fd
  m_isinstance : mg "isinstance" = none
  m_int : mg "int" = none
  m_bool : mg "bool" = none
  m_tuple : mg "tuple" = none
  m_len : mg "len" = none
  m_abs : mg "abs" = none
  m_list : mg "list" = none
  m_range : mg "range" = none
  m_repr : mg "repr" = none
  m_max : mg "max" = none
  m_min : mg "min" = none
  x_BadNumber : ExT K mg "BadNumber" "number"
  x_BadPart : ExT K mg "BadPart" "part"
  ne_Lattice : PySem.W.findIn K (.ref (ga K "Lattice")) "__ne__" = some (some (.builtin "object.__ne__"))
  kNL : PySem.W.kitOne K (.type "NoneType") (.ref (ga K "Lattice")) = some false
  kTL : PySem.W.kitOne K (.type "tuple") (.ref (ga K "Lattice")) = some false
  kSL : PySem.W.kitOne K (.type "str") (.ref (ga K "Lattice")) = some false
  kIL : PySem.W.kitOne K (.type "int") (.ref (ga K "Lattice")) = some false
  x_NotSo : ExT K mg "NotSo" "word"
  pne : pOf K "_law_spanned_right" ≠ pOf K "law"
  mPP : PySem.W.exmOne K (.ref (ga K "BadPart")) (.ref (ga K "BadPart")) = some true
  mSP : PySem.W.exmOne K (.ref (ga K "NotSo")) (.ref (ga K "BadPart")) = some false
  mSN : PySem.W.exmOne K (.ref (ga K "NotSo")) (.ref (ga K "BadNumber")) = some false
  mSI : PySem.W.exmOne K (.ref (ga K "NotSo")) (.ref (ga K "BadIndex")) = some false
  mSS : PySem.W.exmOne K (.ref (ga K "NotSo")) (.ref (ga K "NotSo")) = some true
  gI : mg "BadIndex" = some (.ref (ga K "BadIndex"))
  gM : mg "TooMany" = some (.ref (ga K "TooMany"))
end Iz
/-! k09_a -/
set_option Elab.async false
set_option linter.all false
set_option maxRecDepth 100000
set_option maxHeartbeats 4000000
namespace Iz
open PySem PySem.Spec PyProof.Rows L2
open He (ga)
local macro_rules | `(tactic| walk_at "wp") => `(tactic| simp only [tSl, tPart, tNoPart, rSlLN, rMax2, rMin2, gUnlN, tYes, rLenS, rRepN, cx_K, Value.ref.injEq, HO.xd.injEq, lk0, tSeq, tPar3, tPar, tCons, tNil, tVar, tC, tAsg, gName, gCons, gNil, gTupN, gSub, tOp, rI, rI0, rU, tTest, rNe, rEq, rIxTN, rIxLN, rLenL, rLenT, rIntI, rIntB, rAbs, rSetLN, tTruL, tRaiseX, rIsTy, rIsOw, ixN0, ixN1, tRet, tIf, tIfS, tNext, tBreak, tCont, tDrop, tTupN, tLstN, tUn, tCB, tCall, tNot, tAnd, tOr, tB, tAndV, tOrV, tNotV, tChain, tApp, LamX.tLam, tRevLN, rCatN, rInTN, rInLN, flatV, inV, List.all_cons, List.all_nil, List.any_cons, List.any_nil, Bool.and_self, Bool.and_true, if_true, Bool.false_eq_true, if_false, tMt, tFldN, tSto, HO.ins.injEq, lkh, List.drop_zero, List.drop_succ_cons, List.drop_nil, rListS, wipe, L2.start, List.map_cons, List.map_nil, List.length_cons, List.length_nil, List.replicate, List.cons_append, List.nil_append, List.append_nil, Nat.reduceAdd, Nat.reduceSub, Nat.zero_add, List.replicate_succ, List.replicate_zero, List.getElem?_cons_zero, List.getElem?_cons_succ, List.set_cons_zero, List.set_cons_succ, Option.some.injEq, V.int.injEq, V.bl.injEq, V.ref.injEq, V.str.injEq, V.ty.injEq, List.cons.injEq, HO.tup.injEq, HO.lst.injEq, and_true, true_and, and_assoc, exists_eq_left, exists_eq_left', exists_and_left, exists_eq', atI0, atI1, atI2, atI3, Int.cast_ofNat_Int, Int.reduceToNat, scal_ii, scal_in, scal_ni, scal_nn, scal_bb, scal_ss, scal_sn, scal_ns, scal_bn, scal_nb, ite_iff, decide_eq_true_eq, decide_eq_false_iff_not, Bool.not_eq_true', Classical.not_not, ne_eq, not_false_eq_true, not_true_eq_false, forall_const, true_implies, false_implies, imp_self, sizeLine_eq, Nat.reduceLeDiff, reduceCtorEq, decide_true, decide_false])
section
variable {P : Program} {w : World} {K : PySem.W.Frag} {mg : Str → Option Value} {base : Heap}
/-! ### basics -/
def spWhole (K : PySem.W.Frag) : Sp := fun vs H Q _ => ∃ x, vs = [x] ∧ Wh K H x ∧ Q (.bl (isI x)) H
theorem o_is_whole (T : Txt K mg) : OkF P w K mg base CX0 1 "is_whole" ["value"] (spWhole K) := by
  obtain ⟨f, fd, g, F⟩ := T.d_is_whole
  refine ⟨f, fd, g, F.kp, F.binds (fun _ _ _ _ _ _ us hl => match us, hl with | [_], _ => rfl), F.ok sc_is_whole (fun vs H Q E h => ?_) (fun cdv A outer s H vs Q E hr h => ?_)⟩
  · obtain ⟨x, rfl, _⟩ := h; rfl
  · obtain ⟨x, rfl, ⟨t, b1, b2, ty, k1, k2, e⟩, kk⟩ := h
    refine ⟨_, pss_one (ps_ret (pe_and (pe_callB call_isTy (by rfl) T.m_isinstance (by decide +kernel) (pa_cons (pv 0) (pa_cons ((pe_bltn (v := .ty "int") (by rfl) T.m_int (by decide +kernel) rfl)) pa_nil))) (pe_one (pe_not (pe_callB call_isTy (by rfl) T.m_isinstance (by decide +kernel) (pa_cons (pv 0) (pa_cons ((pe_bltn (v := .ty "bool") (by rfl) T.m_bool (by decide +kernel) rfl)) pa_nil))))))), ?_⟩
    walk_at "wp"
    rw [← e] at kk
    refine ⟨t, ty, b1, k1, fun h => ⟨t, ty, b2, k2, ?_⟩, fun h => ?_⟩
    · subst h; exact kk
    · cases b1
      · exact kk
      · exact absurd rfl h
def spFrom (K : PySem.W.Frag) : Sp := fun vs H Q _ => ∃ x l, vs = [x, .int l] ∧ Wh K H x ∧ (isI x = false → Q (.bl false) H) ∧ (∀ i, x = .int i → Q (.bl (decide (l ≤ i))) H)
theorem o_is_from (T : Txt K mg) : OkF P w K mg base CX0 2 "is_from" ["value", "least"] (spFrom K) := by
  have o_is_whole := o_is_whole (P := P) (w := w) (base := base) T
  obtain ⟨f, fd, g, F⟩ := T.d_is_from
  refine ⟨f, fd, g, F.kp, F.binds (fun _ _ _ _ _ _ us hl => match us, hl with | [_, _], _ => rfl), F.ok sc_is_from (fun vs H Q E h => ?_) (fun cdv A outer s H vs Q E hr h => ?_)⟩
  · obtain ⟨x, l, rfl, _⟩ := h; rfl
  · obtain ⟨x, l, rfl, W, k1, k2⟩ := h
    refine ⟨_, pss_one (ps_ret (pe_and (pcl o_is_whole (hr.mono (by decide)) pass0 (pa_cons (pv 0) pa_nil)) (pe_one (pe_cmpR op_ge (pv 0) (pv 1) (nomark _))))), ?_⟩
    walk_at "wp"
    simp only [spWhole, List.cons.injEq, and_true, exists_eq_left']
    refine ⟨W, _, rfl, ?_⟩
    cases e : isI x
    · exact ⟨fun h => (by cases h), fun _ => k1 e⟩
    · obtain ⟨i, rfl⟩ := isI_int e
      exact ⟨fun _ => ⟨i, rfl, k2 i rfl⟩, fun h => absurd rfl h⟩
def spReqW (K : PySem.W.Frag) : Sp := fun vs H Q E => ∃ x, vs = [x] ∧ Wh K H x ∧ (isI x = true → Q .non H) ∧ (isI x = false → Rse K E H "BadNumber" "number" x)
theorem o_require_whole (T : Txt K mg) : OkF P w K mg base (L2.CX P w) 3 "require_whole" ["value"] (spReqW K) := by
  have o_is_whole := o_is_whole (P := P) (w := w) (base := base) T
  obtain ⟨f, fd, g, F⟩ := T.d_require_whole
  refine ⟨f, fd, g, F.kp, F.binds (fun _ _ _ _ _ _ us hl => match us, hl with | [_], _ => rfl), F.okX sc_require_whole (fun vs H Q E h => ?_) (fun cdv A outer s H vs Q E hr h => ?_)⟩
  · obtain ⟨x, rfl, _⟩ := h; rfl
  · obtain ⟨x, rfl, W, k1, k2⟩ := h
    refine ⟨_, pss_one (ps_if (pt_not (pt_val (pcl o_is_whole (hr.mono (by decide)) pass0 (pa_cons (pv 0) pa_nil)))) (pss_one (ps_raiseX (T.x_BadNumber) (hr.mono (by decide)) takesE (pv 0))) (pss_nil)), ?_⟩
    walk_at "wp"
    simp only [spWhole, List.cons.injEq, and_true, exists_eq_left']
    exact ⟨W, _, rfl, ⟨k2, fun h => k1 (by cases e : isI x <;> simp_all)⟩⟩
/-- one is an int of 1 or more -/
def isP : V → Bool
  | .int i => decide (1 ≤ i)
  | _ => false
theorem isP_int {x : V} (h : isP x = true) : ∃ i, x = .int i ∧ 1 ≤ i := by cases x <;> simp_all [isP]

def spReqF (K : PySem.W.Frag) : Sp := fun vs H Q E => ∃ x l, vs = [x, .int l] ∧ Wh K H x ∧ (∀ i, x = .int i → l ≤ i → Q .non H) ∧ ((∀ i, x = .int i → i < l) → Rse K E H "BadNumber" "number" x)
theorem o_require_from (T : Txt K mg) : OkF P w K mg base (L2.CX P w) 3 "require_from" ["value", "least"] (spReqF K) := by
  have o_is_from := o_is_from (P := P) (w := w) (base := base) T
  obtain ⟨f, fd, g, F⟩ := T.d_require_from
  refine ⟨f, fd, g, F.kp, F.binds (fun _ _ _ _ _ _ us hl => match us, hl with | [_, _], _ => rfl), F.okX sc_require_from (fun vs H Q E h => ?_) (fun cdv A outer s H vs Q E hr h => ?_)⟩
  · obtain ⟨x, l, rfl, _⟩ := h; rfl
  · obtain ⟨x, l, rfl, W, k1, k2⟩ := h
    refine ⟨_, pss_one (ps_if (pt_not (pt_val (pcl o_is_from (hr.mono (by decide)) pass0 (pa_cons (pv 0) (pa_cons (pv 1) pa_nil))))) (pss_one (ps_raiseX (T.x_BadNumber) (hr.mono (by decide)) takesE (pv 0))) (pss_nil)), ?_⟩
    walk_at "wp"
    simp only [spFrom, List.cons.injEq, and_true, exists_and_left, exists_eq_left', V.int.injEq, and_assoc]
    refine ⟨W, fun e => ⟨_, rfl, ?_⟩, fun i e => ⟨_, rfl, ?_⟩⟩
    · refine ⟨fun _ => k2 fun i h => ?_, fun h => ?_⟩
      · subst h; cases e
      · simp at h
    · subst e
      refine ⟨fun h => k2 fun j h2 => ?_, fun h => k1 i rfl ?_⟩
      · cases h2; simp at h; omega
      · simp at h; omega
theorem from1 {K : PySem.W.Frag} {H : Hp} {x : V} {Q : VK} {E : XK} (W : Wh K H x) (h1 : isP x = true → Q .non H) (h2 : isP x = false → Rse K E H "BadNumber" "number" x) : spReqF K [x, .int 1] H Q E :=
  ⟨x, 1, rfl, W, fun i e h => h1 (by subst e; simp [isP, h]), fun h => h2 (by cases x <;> simp_all [isP])⟩

/-! ### pairs -/
def spPair (K : PySem.W.Frag) : Sp := fun vs H Q _ => ∃ x, vs = [x] ∧ PairK K H x ∧ Q (.bl (pairV H x).isSome) H
theorem o_is_pair (T : Txt K mg) : OkF P w K mg base CX0 2 "is_pair" ["value"] (spPair K) := by
  have o_is_whole := o_is_whole (P := P) (w := w) (base := base) T
  obtain ⟨f, fd, g, F⟩ := T.d_is_pair
  refine ⟨f, fd, g, F.kp, F.binds (fun _ _ _ _ _ _ us hl => match us, hl with | [_], _ => rfl), F.ok sc_is_pair (fun vs H Q E h => ?_) (fun cdv A outer s H vs Q E hr h => ?_)⟩
  · first | (obtain ⟨_, rfl, _⟩ := h; rfl) | (obtain ⟨_, _, rfl, _⟩ := h; rfl) | (obtain ⟨_, _, _, rfl, _⟩ := h; rfl) | (obtain ⟨_, _, _, _, rfl, _⟩ := h; rfl) | (obtain ⟨_, _, _, _, _, rfl, _⟩ := h; rfl) | (obtain ⟨_, _, _, _, _, _, rfl, _⟩ := h; rfl) | (obtain ⟨_, _, _, _, _, _, _, rfl, _⟩ := h; rfl)
  have hu64 := hr.units
  refine ⟨_, pss_one (ps_ret (pe_and (pe_callB call_isTy (by rfl) T.m_isinstance (by decide +kernel) (pa_cons (pv 0) (pa_cons ((pe_bltn (v := .ty "tuple") (by rfl) T.m_tuple (by decide +kernel) rfl)) pa_nil))) (pe_and (pe_cmpR op_eq (pe_callB call_lenT (by rfl) T.m_len (by decide +kernel) (pa_cons (pv 0) pa_nil)) (pe_int) (nomark _)) (pe_and (pcl o_is_whole (hr.mono (by decide)) pass0 (pa_cons (pe_ix ix_tupN (pv 0) (pe_int) (fun _ _ => rfl)) pa_nil)) (pe_one (pcl o_is_whole (hr.mono (by decide)) pass0 (pa_cons (pe_ix ix_tupN (pv 0) (pe_int) (fun _ _ => rfl)) pa_nil))))))), ?_⟩
  obtain ⟨x, rfl, hk, k⟩ := h
  simp only [spWhole, exists_and_left, tSl, tPart, tNoPart, rSlLN, rMax2, rMin2, gUnlN, tYes, rLenS, rRepN, cx_K, Value.ref.injEq, HO.xd.injEq, lk0, tSeq, tPar3, tPar, tCons, tNil, tVar, tC, tAsg, gName, gCons, gNil, gTupN, gSub, tOp, rI, rI0, rU, tTest, rNe, rEq, rIxTN, rIxLN, rLenL, rLenT, rIntI, rIntB, rAbs, rSetLN, tTruL, tRaiseX, rIsTy, rIsOw, ixN0, ixN1, tRet, tIf, tIfS, tNext, tBreak, tCont, tDrop, tTupN, tLstN, tUn, tCB, tCall, tNot, tAnd, tOr, tB, tAndV, tOrV, tNotV, tChain, tApp, LamX.tLam, tRevLN, rCatN, rInTN, rInLN, flatV, inV, List.all_cons, List.all_nil, List.any_cons, List.any_nil, Bool.and_self, Bool.and_true, if_true, Bool.false_eq_true, if_false, tMt, tFldN, tSto, HO.ins.injEq, lkh, List.drop_zero, List.drop_succ_cons, List.drop_nil, rListS, wipe, L2.start, List.map_cons, List.map_nil, List.length_cons, List.length_nil, List.replicate, List.cons_append, List.nil_append, List.append_nil, Nat.reduceAdd, Nat.reduceSub, Nat.zero_add, List.replicate_succ, List.replicate_zero, List.getElem?_cons_zero, List.getElem?_cons_succ, List.set_cons_zero, List.set_cons_succ, Option.some.injEq, V.int.injEq, V.bl.injEq, V.ref.injEq, V.str.injEq, V.ty.injEq, List.cons.injEq, HO.tup.injEq, HO.lst.injEq, and_true, true_and, and_assoc, exists_eq_left, exists_eq_left', exists_and_left, exists_eq', atI0, atI1, atI2, atI3, Int.cast_ofNat_Int, Int.reduceToNat, scal_ii, scal_in, scal_ni, scal_nn, scal_bb, scal_ss, scal_sn, scal_ns, scal_bn, scal_nb, ite_iff, decide_eq_true_eq, decide_eq_false_iff_not, Bool.not_eq_true', Classical.not_not, ne_eq, not_false_eq_true, not_true_eq_false, forall_const, true_implies, false_implies, imp_self, sizeLine_eq, Nat.reduceLeDiff, reduceCtorEq, decide_true, decide_false]
  rcases hk.ty with ⟨p, xs, rfl, hx, hw⟩ | ⟨t, ty, e, no⟩
  · refine ⟨_, .base (.tup hx), true, kit_ty (by decide +kernel), fun _ => ?_, fun h => absurd rfl h⟩
    simp only [hx, exists_and_left, tSl, tPart, tNoPart, rSlLN, rMax2, rMin2, gUnlN, tYes, rLenS, rRepN, cx_K, Value.ref.injEq, HO.xd.injEq, lk0, tSeq, tPar3, tPar, tCons, tNil, tVar, tC, tAsg, gName, gCons, gNil, gTupN, gSub, tOp, rI, rI0, rU, tTest, rNe, rEq, rIxTN, rIxLN, rLenL, rLenT, rIntI, rIntB, rAbs, rSetLN, tTruL, tRaiseX, rIsTy, rIsOw, ixN0, ixN1, tRet, tIf, tIfS, tNext, tBreak, tCont, tDrop, tTupN, tLstN, tUn, tCB, tCall, tNot, tAnd, tOr, tB, tAndV, tOrV, tNotV, tChain, tApp, LamX.tLam, tRevLN, rCatN, rInTN, rInLN, flatV, inV, List.all_cons, List.all_nil, List.any_cons, List.any_nil, Bool.and_self, Bool.and_true, if_true, Bool.false_eq_true, if_false, tMt, tFldN, tSto, HO.ins.injEq, lkh, List.drop_zero, List.drop_succ_cons, List.drop_nil, rListS, wipe, L2.start, List.map_cons, List.map_nil, List.length_cons, List.length_nil, List.replicate, List.cons_append, List.nil_append, List.append_nil, Nat.reduceAdd, Nat.reduceSub, Nat.zero_add, List.replicate_succ, List.replicate_zero, List.getElem?_cons_zero, List.getElem?_cons_succ, List.set_cons_zero, List.set_cons_succ, Option.some.injEq, V.int.injEq, V.bl.injEq, V.ref.injEq, V.str.injEq, V.ty.injEq, List.cons.injEq, HO.tup.injEq, HO.lst.injEq, and_true, true_and, and_assoc, exists_eq_left, exists_eq_left', exists_and_left, exists_eq', atI0, atI1, atI2, atI3, Int.cast_ofNat_Int, Int.reduceToNat, scal_ii, scal_in, scal_ni, scal_nn, scal_bb, scal_ss, scal_sn, scal_ns, scal_bn, scal_nb, ite_iff, decide_eq_true_eq, decide_eq_false_iff_not, Bool.not_eq_true', Classical.not_not, ne_eq, not_false_eq_true, not_true_eq_false, forall_const, true_implies, false_implies, imp_self, sizeLine_eq, Nat.reduceLeDiff, reduceCtorEq, decide_true, decide_false]
    have pv : pairV H (.ref p) = pairL xs := by simp only [pairV, hx]
    rw [pv] at k
    refine ⟨fun h2 => ?_, fun h2 => ?_⟩
    · obtain ⟨x, y, rfl⟩ : ∃ x y, xs = [x, y] := by
        match xs, h2 with
        | [x, y], _ => exact ⟨x, y, rfl⟩
        | [], h => simp at h
        | [x], h => simp at h
        | x :: y :: z :: r, h => simp at h; omega
      refine ⟨x, atI0, hw x (by simp), fun h => ⟨y, atI1, hw y (by simp), ?_⟩, fun h => ?_⟩
      · obtain ⟨i, rfl⟩ := isI_int h
        cases y <;> exact k
      · cases x <;> first | exact k | exact absurd rfl h
    · rw [pairL_none h2] at k; exact k
  · refine ⟨t, ty, false, e, fun h => (by cases h), fun _ => ?_⟩
    rw [no] at k; exact k
def spReqP (K : PySem.W.Frag) : Sp := fun vs H Q E => ∃ x y, vs = [x, y] ∧ PairK K H x ∧ ((pairV H x).isSome = true → Q .non H) ∧ (pairV H x = none → Rse K E H "BadPart" "part" y)
theorem o_require_pair (T : Txt K mg) : OkF P w K mg base (L2.CX P w) 3 "require_pair" ["value", "part"] (spReqP K) := by
  have o_is_pair := o_is_pair (P := P) (w := w) (base := base) T
  obtain ⟨f, fd, g, F⟩ := T.d_require_pair
  refine ⟨f, fd, g, F.kp, F.binds (fun _ _ _ _ _ _ us hl => match us, hl with | [_, _], _ => rfl), F.okX sc_require_pair (fun vs H Q E h => ?_) (fun cdv A outer s H vs Q E hr h => ?_)⟩
  · first | (obtain ⟨_, rfl, _⟩ := h; rfl) | (obtain ⟨_, _, rfl, _⟩ := h; rfl) | (obtain ⟨_, _, _, rfl, _⟩ := h; rfl) | (obtain ⟨_, _, _, _, rfl, _⟩ := h; rfl) | (obtain ⟨_, _, _, _, _, rfl, _⟩ := h; rfl) | (obtain ⟨_, _, _, _, _, _, rfl, _⟩ := h; rfl) | (obtain ⟨_, _, _, _, _, _, _, rfl, _⟩ := h; rfl)
  have hu64 := hr.units
  refine ⟨_, pss_one (ps_if (pt_not (pt_val (pcl o_is_pair (hr.mono (by decide)) pass0 (pa_cons (pv 0) pa_nil)))) (pss_one (ps_raiseX (T.x_BadPart) (hr.mono (by decide)) takesE (pv 1))) (pss_nil)), ?_⟩
  obtain ⟨x, y, rfl, hk, k1, k2⟩ := h
  simp only [spPair, exists_and_left, tSl, tPart, tNoPart, rSlLN, rMax2, rMin2, gUnlN, tYes, rLenS, rRepN, cx_K, Value.ref.injEq, HO.xd.injEq, lk0, tSeq, tPar3, tPar, tCons, tNil, tVar, tC, tAsg, gName, gCons, gNil, gTupN, gSub, tOp, rI, rI0, rU, tTest, rNe, rEq, rIxTN, rIxLN, rLenL, rLenT, rIntI, rIntB, rAbs, rSetLN, tTruL, tRaiseX, rIsTy, rIsOw, ixN0, ixN1, tRet, tIf, tIfS, tNext, tBreak, tCont, tDrop, tTupN, tLstN, tUn, tCB, tCall, tNot, tAnd, tOr, tB, tAndV, tOrV, tNotV, tChain, tApp, LamX.tLam, tRevLN, rCatN, rInTN, rInLN, flatV, inV, List.all_cons, List.all_nil, List.any_cons, List.any_nil, Bool.and_self, Bool.and_true, if_true, Bool.false_eq_true, if_false, tMt, tFldN, tSto, HO.ins.injEq, lkh, List.drop_zero, List.drop_succ_cons, List.drop_nil, rListS, wipe, L2.start, List.map_cons, List.map_nil, List.length_cons, List.length_nil, List.replicate, List.cons_append, List.nil_append, List.append_nil, Nat.reduceAdd, Nat.reduceSub, Nat.zero_add, List.replicate_succ, List.replicate_zero, List.getElem?_cons_zero, List.getElem?_cons_succ, List.set_cons_zero, List.set_cons_succ, Option.some.injEq, V.int.injEq, V.bl.injEq, V.ref.injEq, V.str.injEq, V.ty.injEq, List.cons.injEq, HO.tup.injEq, HO.lst.injEq, and_true, true_and, and_assoc, exists_eq_left, exists_eq_left', exists_and_left, exists_eq', atI0, atI1, atI2, atI3, Int.cast_ofNat_Int, Int.reduceToNat, scal_ii, scal_in, scal_ni, scal_nn, scal_bb, scal_ss, scal_sn, scal_ns, scal_bn, scal_nb, ite_iff, decide_eq_true_eq, decide_eq_false_iff_not, Bool.not_eq_true', Classical.not_not, ne_eq, not_false_eq_true, not_true_eq_false, forall_const, true_implies, false_implies, imp_self, sizeLine_eq, Nat.reduceLeDiff, reduceCtorEq, decide_true, decide_false]
  exact ⟨hk, fun h => k2 (by simpa using h), fun h => k1 (by cases e : pairV H x <;> simp_all)⟩
theorem o_is_shift (T : Txt K mg) : OkF P w K mg base CX0 3 "is_shift" ["value"] (spPair K) := by
  have o_is_pair := o_is_pair (P := P) (w := w) (base := base) T
  obtain ⟨f, fd, g, F⟩ := T.d_is_shift
  refine ⟨f, fd, g, F.kp, F.binds (fun _ _ _ _ _ _ us hl => match us, hl with | [_], _ => rfl), F.ok sc_is_shift (fun vs H Q E h => ?_) (fun cdv A outer s H vs Q E hr h => ?_)⟩
  · first | (obtain ⟨_, rfl, _⟩ := h; rfl) | (obtain ⟨_, _, rfl, _⟩ := h; rfl) | (obtain ⟨_, _, _, rfl, _⟩ := h; rfl) | (obtain ⟨_, _, _, _, rfl, _⟩ := h; rfl) | (obtain ⟨_, _, _, _, _, rfl, _⟩ := h; rfl) | (obtain ⟨_, _, _, _, _, _, rfl, _⟩ := h; rfl) | (obtain ⟨_, _, _, _, _, _, _, rfl, _⟩ := h; rfl)
  have hu64 := hr.units
  refine ⟨_, pss_one (ps_ret (pcl o_is_pair (hr.mono (by decide)) pass0 (pa_cons (pv 0) pa_nil))), ?_⟩
  obtain ⟨x, rfl, hk, k⟩ := h
  simp only [spPair, exists_and_left, tSl, tPart, tNoPart, rSlLN, rMax2, rMin2, gUnlN, tYes, rLenS, rRepN, cx_K, Value.ref.injEq, HO.xd.injEq, lk0, tSeq, tPar3, tPar, tCons, tNil, tVar, tC, tAsg, gName, gCons, gNil, gTupN, gSub, tOp, rI, rI0, rU, tTest, rNe, rEq, rIxTN, rIxLN, rLenL, rLenT, rIntI, rIntB, rAbs, rSetLN, tTruL, tRaiseX, rIsTy, rIsOw, ixN0, ixN1, tRet, tIf, tIfS, tNext, tBreak, tCont, tDrop, tTupN, tLstN, tUn, tCB, tCall, tNot, tAnd, tOr, tB, tAndV, tOrV, tNotV, tChain, tApp, LamX.tLam, tRevLN, rCatN, rInTN, rInLN, flatV, inV, List.all_cons, List.all_nil, List.any_cons, List.any_nil, Bool.and_self, Bool.and_true, if_true, Bool.false_eq_true, if_false, tMt, tFldN, tSto, HO.ins.injEq, lkh, List.drop_zero, List.drop_succ_cons, List.drop_nil, rListS, wipe, L2.start, List.map_cons, List.map_nil, List.length_cons, List.length_nil, List.replicate, List.cons_append, List.nil_append, List.append_nil, Nat.reduceAdd, Nat.reduceSub, Nat.zero_add, List.replicate_succ, List.replicate_zero, List.getElem?_cons_zero, List.getElem?_cons_succ, List.set_cons_zero, List.set_cons_succ, Option.some.injEq, V.int.injEq, V.bl.injEq, V.ref.injEq, V.str.injEq, V.ty.injEq, List.cons.injEq, HO.tup.injEq, HO.lst.injEq, and_true, true_and, and_assoc, exists_eq_left, exists_eq_left', exists_and_left, exists_eq', atI0, atI1, atI2, atI3, Int.cast_ofNat_Int, Int.reduceToNat, scal_ii, scal_in, scal_ni, scal_nn, scal_bb, scal_ss, scal_sn, scal_ns, scal_bn, scal_nb, ite_iff, decide_eq_true_eq, decide_eq_false_iff_not, Bool.not_eq_true', Classical.not_not, ne_eq, not_false_eq_true, not_true_eq_false, forall_const, true_implies, false_implies, imp_self, sizeLine_eq, Nat.reduceLeDiff, reduceCtorEq, decide_true, decide_false]
  exact ⟨hk, k⟩

end
end Iz
/-! k09_b -/
set_option Elab.async false
set_option linter.all false
set_option maxRecDepth 100000
set_option maxHeartbeats 4000000
namespace Iz
open PySem PySem.Spec PyProof.Rows L2
open He (ga)
local macro_rules | `(tactic| walk_at "wp") => `(tactic| simp only [tSl, tPart, tNoPart, rSlLN, rMax2, rMin2, gUnlN, tYes, rLenS, rRepN, cx_K, Value.ref.injEq, HO.xd.injEq, lk0, tSeq, tPar3, tPar, tCons, tNil, tVar, tC, tAsg, gName, gCons, gNil, gTupN, gSub, tOp, rI, rI0, rU, tTest, rNe, rEq, rIxTN, rIxLN, rLenL, rLenT, rIntI, rIntB, rAbs, rSetLN, tTruL, tRaiseX, rIsTy, rIsOw, ixN0, ixN1, tRet, tIf, tIfS, tNext, tBreak, tCont, tDrop, tTupN, tLstN, tUn, tCB, tCall, tNot, tAnd, tOr, tB, tAndV, tOrV, tNotV, tChain, tApp, LamX.tLam, tRevLN, rCatN, rInTN, rInLN, flatV, inV, List.all_cons, List.all_nil, List.any_cons, List.any_nil, Bool.and_self, Bool.and_true, if_true, Bool.false_eq_true, if_false, tMt, tFldN, tSto, HO.ins.injEq, lkh, List.drop_zero, List.drop_succ_cons, List.drop_nil, rListS, wipe, L2.start, List.map_cons, List.map_nil, List.length_cons, List.length_nil, List.replicate, List.cons_append, List.nil_append, List.append_nil, Nat.reduceAdd, Nat.reduceSub, Nat.zero_add, List.replicate_succ, List.replicate_zero, List.getElem?_cons_zero, List.getElem?_cons_succ, List.set_cons_zero, List.set_cons_succ, Option.some.injEq, V.int.injEq, V.bl.injEq, V.ref.injEq, V.str.injEq, V.ty.injEq, List.cons.injEq, HO.tup.injEq, HO.lst.injEq, and_true, true_and, and_assoc, exists_eq_left, exists_eq_left', exists_and_left, exists_eq', atI0, atI1, atI2, atI3, Int.cast_ofNat_Int, Int.reduceToNat, scal_ii, scal_in, scal_ni, scal_nn, scal_bb, scal_ss, scal_sn, scal_ns, scal_bn, scal_nb, ite_iff, decide_eq_true_eq, decide_eq_false_iff_not, Bool.not_eq_true', Classical.not_not, ne_eq, not_false_eq_true, not_true_eq_false, forall_const, true_implies, false_implies, imp_self, sizeLine_eq, Nat.reduceLeDiff, reduceCtorEq, decide_true, decide_false])
section
variable {P : Program} {w : World} {K : PySem.W.Frag} {mg : Str → Option Value} {base : Heap}
def spWD : Sp := fun vs H Q _ => ∃ one other : Int, vs = [.int one, .int other] ∧ one.natAbs < 2 ^ 250 ∧ other.natAbs < 2 ^ 250 ∧
  ∀ u v : Int, u * one + v * other = (Int.gcd one other : Int) → u.natAbs ≤ 2 ^ 130000 → v.natAbs ≤ 2 ^ 130000 → News H (.tup [.int (Int.gcd one other), .int u, .int v]) Q
theorem o_weighed_divisor (T : Txt K mg) : OkF P w K mg base CX0 1 "weighed_divisor" ["one", "other"] spWD := by
  obtain ⟨f, fd, g, F⟩ := T.d_weighed_divisor
  refine ⟨f, fd, g, F.kp, F.binds (fun _ _ _ _ _ _ us hl => match us, hl with | [_, _], _ => rfl), F.ok sc_weighed_divisor (fun vs H Q E h => ?_) (fun cdv A outer s H vs Q E hr h => ?_)⟩
  · obtain ⟨a, b, rfl, _⟩ := h; rfl
  · obtain ⟨one, other, rfl, h1, h2, kk⟩ := h
    refine ⟨_, pss_cons (ps_par3 (i := 2) (j := 3) (l := 4) (by rfl) sc_weighed_divisor.nd rfl rfl rfl (by decide) (by decide) (by decide) rfl rfl rfl (pa_cons (pv 0) (pa_cons (pe_int) (pa_cons (pe_int) pa_nil))) (by rfl))
      (pss_cons (ps_par3 (i := 5) (j := 6) (l := 7) (by rfl) sc_weighed_divisor.nd rfl rfl rfl (by decide) (by decide) (by decide) rfl rfl rfl (pa_cons (pv 1) (pa_cons (pe_int) (pa_cons (pe_int) pa_nil))) (by rfl))
      (pss_cons (ps_while PassesOwn.never (pt_cmpR op_ne (pv 5) (pe_int) (nomark _)) (pss_cons (ps_set (i := 8) sc_weighed_divisor.nd rfl (Or.inl rfl) (pe_op op_fdivF (pv 2) (pv 5)))
      (pss_cons (ps_par (i := 2) (j := 5) (by rfl) sc_weighed_divisor.nd rfl rfl (by decide) rfl rfl (pa_cons (pv 5) (pa_cons (pe_op op_sub (pv 2) (pe_op op_mulW (pv 8) (pv 5))) pa_nil)) (by rfl))
      (pss_cons (ps_par (i := 3) (j := 6) (by rfl) sc_weighed_divisor.nd rfl rfl (by decide) rfl rfl (pa_cons (pv 6) (pa_cons (pe_op op_sub (pv 3) (pe_op op_mulW (pv 8) (pv 6))) pa_nil)) (by rfl))
      (pss_one (ps_par (i := 4) (j := 7) (by rfl) sc_weighed_divisor.nd rfl rfl (by decide) rfl rfl (pa_cons (pv 7) (pa_cons (pe_op op_sub (pv 4) (pe_op op_mulW (pv 8) (pv 7))) pa_nil)) (by rfl)))))))
      (pss_one (ps_ret (pe_ifExp (pt_cmpR op_ge (pv 2) (pe_int) (nomark _)) (pe_tupN (pa_cons (pv 2) (pa_cons (pv 3) (pa_cons (pv 4) pa_nil)))) (pe_tupN (pa_cons (pe_un un_neg (pv 2)) (pa_cons (pe_un un_neg (pv 3)) (pa_cons (pe_un un_neg (pv 4)) pa_nil))))))))), ?_⟩
    walk_at "wp"
    refine while_by (fun σ H' => H' = H ∧ ∃ (d u v r nu nv : Int) (t : Option V) (k : Nat), σ = [some (.int one), some (.int other), some (.int d), some (.int u), some (.int v), some (.int r), some (.int nu), some (.int nv), t] ∧ EI one other d u v r nu nv k)
      (fun σ _ => match σ with | [_, _, some (.int d), _, _, some (.int r), _, _, _] => bud d r | _ => 0) ⟨rfl, _, _, _, _, _, _, _, _, rfl, EI.start h1 h2⟩ ?_ ?_
    · rintro _ _ ⟨rfl, d, u, v, r, nu, nv, t, k, rfl, I⟩
      walk_at "wp"
      refine ⟨fun hr => ⟨hr, log_lt I.hr (by decide) (by decide), ?_, ?_, ?_, ⟨_, I.next hr⟩, bud_step hr⟩, fun hr => ?_⟩
      · exact wide_mul (I.quo) I.hr (by decide) (by decide) (by decide)
      · exact wide_mul (I.quo) (I.big I.bnu) (by decide) (by decide) (by decide)
      · exact wide_mul (I.quo) (I.big I.bnv) (by decide) (by decide) (by decide)
      · subst hr
        obtain ⟨hg, he, hu⟩ := I.done
        have hv := I.doneV
        refine ⟨fun hd => ?_, fun hd => ?_⟩
        · have e : d = (Int.gcd one other : Int) := by omega
          rw [e]
          exact kk _ _ (by omega) hu hv
        · have e : -d = (Int.gcd one other : Int) := by omega
          rw [e]
          exact kk _ _ (by rw [Int.neg_mul, Int.neg_mul]; omega) (by omega) (by omega)
    · exact mono_ne
/-! ### lines -/
def spGD (K : PySem.W.Frag) : Sp := fun vs H Q E => ∃ x y, vs = [x, y] ∧ Wh K H x ∧ (isI x = false → Rse K E H "BadNumber" "number" x) ∧ (isI x = true → Wh K H y ∧ (isI y = false → Rse K E H "BadNumber" "number" y)) ∧
  (∀ i j : Int, x = .int i → y = .int j → i.natAbs < 2 ^ 250 ∧ j.natAbs < 2 ^ 250 ∧ ∀ H', Same H H' → Q (.int (Int.gcd i j)) H')
theorem o_greatest_divisor (T : Txt K mg) : OkF P w K mg base (L2.CX P w) 4 "greatest_divisor" ["one", "other"] (spGD K) := by
  have o_require_whole := o_require_whole (P := P) (w := w) (base := base) T
  have o_weighed_divisor := o_weighed_divisor (P := P) (w := w) (base := base) T
  obtain ⟨f, fd, g, F⟩ := T.d_greatest_divisor
  refine ⟨f, fd, g, F.kp, F.binds (fun _ _ _ _ _ _ us hl => match us, hl with | [_, _], _ => rfl), F.okX sc_greatest_divisor (fun vs H Q E h => ?_) (fun cdv A outer s H vs Q E hr h => ?_)⟩
  · first | (obtain ⟨_, rfl, _⟩ := h; rfl) | (obtain ⟨_, _, rfl, _⟩ := h; rfl) | (obtain ⟨_, _, _, rfl, _⟩ := h; rfl) | (obtain ⟨_, _, _, _, rfl, _⟩ := h; rfl) | (obtain ⟨_, _, _, _, _, rfl, _⟩ := h; rfl) | (obtain ⟨_, _, _, _, _, _, rfl, _⟩ := h; rfl) | (obtain ⟨_, _, _, _, _, _, _, rfl, _⟩ := h; rfl)
  have hu64 := hr.units
  refine ⟨_, pss_cons (ps_expr (pcl o_require_whole (hr.mono (by decide)) passE (pa_cons (pv 0) pa_nil)))
      (pss_cons (ps_expr (pcl o_require_whole (hr.mono (by decide)) passE (pa_cons (pv 1) pa_nil)))
      (pss_one (ps_ret (pe_ix ix_tupN (pcl o_weighed_divisor (hr.mono (by decide)) pass0 (pa_cons (pv 0) (pa_cons (pv 1) pa_nil))) (pe_int) (fun _ _ => rfl))))), ?_⟩
  obtain ⟨x, y, rfl, W1, k1, P2, k3⟩ := h
  simp only [spReqW, spWD, exists_and_left, tSl, tPart, tNoPart, rSlLN, rMax2, rMin2, gUnlN, tYes, rLenS, rRepN, cx_K, Value.ref.injEq, HO.xd.injEq, lk0, tSeq, tPar3, tPar, tCons, tNil, tVar, tC, tAsg, gName, gCons, gNil, gTupN, gSub, tOp, rI, rI0, rU, tTest, rNe, rEq, rIxTN, rIxLN, rLenL, rLenT, rIntI, rIntB, rAbs, rSetLN, tTruL, tRaiseX, rIsTy, rIsOw, ixN0, ixN1, tRet, tIf, tIfS, tNext, tBreak, tCont, tDrop, tTupN, tLstN, tUn, tCB, tCall, tNot, tAnd, tOr, tB, tAndV, tOrV, tNotV, tChain, tApp, LamX.tLam, tRevLN, rCatN, rInTN, rInLN, flatV, inV, List.all_cons, List.all_nil, List.any_cons, List.any_nil, Bool.and_self, Bool.and_true, if_true, Bool.false_eq_true, if_false, tMt, tFldN, tSto, HO.ins.injEq, lkh, List.drop_zero, List.drop_succ_cons, List.drop_nil, rListS, wipe, L2.start, List.map_cons, List.map_nil, List.length_cons, List.length_nil, List.replicate, List.cons_append, List.nil_append, List.append_nil, Nat.reduceAdd, Nat.reduceSub, Nat.zero_add, List.replicate_succ, List.replicate_zero, List.getElem?_cons_zero, List.getElem?_cons_succ, List.set_cons_zero, List.set_cons_succ, Option.some.injEq, V.int.injEq, V.bl.injEq, V.ref.injEq, V.str.injEq, V.ty.injEq, List.cons.injEq, HO.tup.injEq, HO.lst.injEq, and_true, true_and, and_assoc, exists_eq_left, exists_eq_left', exists_and_left, exists_eq', atI0, atI1, atI2, atI3, Int.cast_ofNat_Int, Int.reduceToNat, scal_ii, scal_in, scal_ni, scal_nn, scal_bb, scal_ss, scal_sn, scal_ns, scal_bn, scal_nb, ite_iff, decide_eq_true_eq, decide_eq_false_iff_not, Bool.not_eq_true', Classical.not_not, ne_eq, not_false_eq_true, not_true_eq_false, forall_const, true_implies, false_implies, imp_self, sizeLine_eq, Nat.reduceLeDiff, reduceCtorEq, decide_true, decide_false]
  refine ⟨W1, fun h1 => ?_, k1⟩
  obtain ⟨W2, k2⟩ := P2 h1
  refine ⟨W2, fun h2 => ?_, k2⟩
  obtain ⟨i, rfl⟩ := isI_int h1
  obtain ⟨j, rfl⟩ := isI_int h2
  obtain ⟨b1, b2, kk⟩ := k3 i j rfl rfl
  refine ⟨i, rfl, j, rfl, b1, b2, fun u v _ _ _ p H2 hp hs h2 => ?_⟩
  simp only [h2, tSl, tPart, tNoPart, rSlLN, rMax2, rMin2, gUnlN, tYes, rLenS, rRepN, cx_K, Value.ref.injEq, HO.xd.injEq, lk0, tSeq, tPar3, tPar, tCons, tNil, tVar, tC, tAsg, gName, gCons, gNil, gTupN, gSub, tOp, rI, rI0, rU, tTest, rNe, rEq, rIxTN, rIxLN, rLenL, rLenT, rIntI, rIntB, rAbs, rSetLN, tTruL, tRaiseX, rIsTy, rIsOw, ixN0, ixN1, tRet, tIf, tIfS, tNext, tBreak, tCont, tDrop, tTupN, tLstN, tUn, tCB, tCall, tNot, tAnd, tOr, tB, tAndV, tOrV, tNotV, tChain, tApp, LamX.tLam, tRevLN, rCatN, rInTN, rInLN, flatV, inV, List.all_cons, List.all_nil, List.any_cons, List.any_nil, Bool.and_self, Bool.and_true, if_true, Bool.false_eq_true, if_false, tMt, tFldN, tSto, HO.ins.injEq, lkh, List.drop_zero, List.drop_succ_cons, List.drop_nil, rListS, wipe, L2.start, List.map_cons, List.map_nil, List.length_cons, List.length_nil, List.replicate, List.cons_append, List.nil_append, List.append_nil, Nat.reduceAdd, Nat.reduceSub, Nat.zero_add, List.replicate_succ, List.replicate_zero, List.getElem?_cons_zero, List.getElem?_cons_succ, List.set_cons_zero, List.set_cons_succ, Option.some.injEq, V.int.injEq, V.bl.injEq, V.ref.injEq, V.str.injEq, V.ty.injEq, List.cons.injEq, HO.tup.injEq, HO.lst.injEq, and_true, true_and, and_assoc, exists_eq_left, exists_eq_left', exists_and_left, exists_eq', atI0, atI1, atI2, atI3, Int.cast_ofNat_Int, Int.reduceToNat, scal_ii, scal_in, scal_ni, scal_nn, scal_bb, scal_ss, scal_sn, scal_ns, scal_bn, scal_nb, ite_iff, decide_eq_true_eq, decide_eq_false_iff_not, Bool.not_eq_true', Classical.not_not, ne_eq, not_false_eq_true, not_true_eq_false, forall_const, true_implies, false_implies, imp_self, sizeLine_eq, Nat.reduceLeDiff, reduceCtorEq, decide_true, decide_false]
  exact kk H2 hs

end
end Iz
/-! k09_b2 -/
set_option Elab.async false
set_option linter.all false
set_option maxRecDepth 100000
set_option maxHeartbeats 4000000
namespace Iz
open PySem PySem.Spec PyProof.Rows L2
open He (ga)
local macro_rules | `(tactic| walk_at "wp") => `(tactic| simp only [tSl, tPart, tNoPart, rSlLN, rMax2, rMin2, gUnlN, tYes, rLenS, rRepN, cx_K, Value.ref.injEq, HO.xd.injEq, lk0, tSeq, tPar3, tPar, tCons, tNil, tVar, tC, tAsg, gName, gCons, gNil, gTupN, gSub, tOp, rI, rI0, rU, tTest, rNe, rEq, rIxTN, rIxLN, rLenL, rLenT, rIntI, rIntB, rAbs, rSetLN, tTruL, tRaiseX, rIsTy, rIsOw, ixN0, ixN1, tRet, tIf, tIfS, tNext, tBreak, tCont, tDrop, tTupN, tLstN, tUn, tCB, tCall, tNot, tAnd, tOr, tB, tAndV, tOrV, tNotV, tChain, tApp, LamX.tLam, tRevLN, rCatN, rInTN, rInLN, flatV, inV, List.all_cons, List.all_nil, List.any_cons, List.any_nil, Bool.and_self, Bool.and_true, if_true, Bool.false_eq_true, if_false, tMt, tFldN, tSto, HO.ins.injEq, lkh, List.drop_zero, List.drop_succ_cons, List.drop_nil, rListS, wipe, L2.start, List.map_cons, List.map_nil, List.length_cons, List.length_nil, List.replicate, List.cons_append, List.nil_append, List.append_nil, Nat.reduceAdd, Nat.reduceSub, Nat.zero_add, List.replicate_succ, List.replicate_zero, List.getElem?_cons_zero, List.getElem?_cons_succ, List.set_cons_zero, List.set_cons_succ, Option.some.injEq, V.int.injEq, V.bl.injEq, V.ref.injEq, V.str.injEq, V.ty.injEq, List.cons.injEq, HO.tup.injEq, HO.lst.injEq, and_true, true_and, and_assoc, exists_eq_left, exists_eq_left', exists_and_left, exists_eq', atI0, atI1, atI2, atI3, Int.cast_ofNat_Int, Int.reduceToNat, scal_ii, scal_in, scal_ni, scal_nn, scal_bb, scal_ss, scal_sn, scal_ns, scal_bn, scal_nb, ite_iff, decide_eq_true_eq, decide_eq_false_iff_not, Bool.not_eq_true', Classical.not_not, ne_eq, not_false_eq_true, not_true_eq_false, forall_const, true_implies, false_implies, imp_self, sizeLine_eq, Nat.reduceLeDiff, reduceCtorEq, decide_true, decide_false])
section
variable {P : Program} {w : World} {K : PySem.W.Frag} {mg : Str → Option Value} {base : Heap}
def spLM (K : PySem.W.Frag) : Sp := fun vs H Q E => ∃ x y, vs = [x, y] ∧ Wh K H x ∧ (isP x = false → Rse K E H "BadNumber" "number" x) ∧ (isP x = true → Wh K H y ∧ (isP y = false → Rse K E H "BadNumber" "number" y)) ∧
  (∀ i j : Int, x = .int i → y = .int j → 1 ≤ i → 1 ≤ j → i.natAbs < 2 ^ 250 ∧ j.natAbs < 2 ^ 250 ∧ ∀ H', Same H H' → Q (.int (i / (Int.gcd i j : Int) * j)) H')
theorem o_least_multiple (T : Txt K mg) : OkF P w K mg base (L2.CX P w) 5 "least_multiple" ["one", "other"] (spLM K) := by
  have o_require_from := o_require_from (P := P) (w := w) (base := base) T
  have o_greatest_divisor := o_greatest_divisor (P := P) (w := w) (base := base) T
  obtain ⟨f, fd, g, F⟩ := T.d_least_multiple
  refine ⟨f, fd, g, F.kp, F.binds (fun _ _ _ _ _ _ us hl => match us, hl with | [_, _], _ => rfl), F.okX sc_least_multiple (fun vs H Q E h => ?_) (fun cdv A outer s H vs Q E hr h => ?_)⟩
  · first | (obtain ⟨_, rfl, _⟩ := h; rfl) | (obtain ⟨_, _, rfl, _⟩ := h; rfl) | (obtain ⟨_, _, _, rfl, _⟩ := h; rfl) | (obtain ⟨_, _, _, _, rfl, _⟩ := h; rfl) | (obtain ⟨_, _, _, _, _, rfl, _⟩ := h; rfl) | (obtain ⟨_, _, _, _, _, _, rfl, _⟩ := h; rfl) | (obtain ⟨_, _, _, _, _, _, _, rfl, _⟩ := h; rfl)
  have hu64 := hr.units
  refine ⟨_, pss_cons (ps_expr (pcl o_require_from (hr.mono (by decide)) passE (pa_cons (pv 0) (pa_cons (pe_int) pa_nil))))
      (pss_cons (ps_expr (pcl o_require_from (hr.mono (by decide)) passE (pa_cons (pv 1) (pa_cons (pe_int) pa_nil))))
      (pss_one (ps_ret (pe_op op_mulW (pe_op op_fdivW (pv 0) (pcl o_greatest_divisor (hr.mono (by decide)) passE (pa_cons (pv 0) (pa_cons (pv 1) pa_nil)))) (pv 1))))), ?_⟩
  obtain ⟨x, y, rfl, W1, k1, P2, k3⟩ := h
  simp only [spGD, exists_and_left, tSl, tPart, tNoPart, rSlLN, rMax2, rMin2, gUnlN, tYes, rLenS, rRepN, cx_K, Value.ref.injEq, HO.xd.injEq, lk0, tSeq, tPar3, tPar, tCons, tNil, tVar, tC, tAsg, gName, gCons, gNil, gTupN, gSub, tOp, rI, rI0, rU, tTest, rNe, rEq, rIxTN, rIxLN, rLenL, rLenT, rIntI, rIntB, rAbs, rSetLN, tTruL, tRaiseX, rIsTy, rIsOw, ixN0, ixN1, tRet, tIf, tIfS, tNext, tBreak, tCont, tDrop, tTupN, tLstN, tUn, tCB, tCall, tNot, tAnd, tOr, tB, tAndV, tOrV, tNotV, tChain, tApp, LamX.tLam, tRevLN, rCatN, rInTN, rInLN, flatV, inV, List.all_cons, List.all_nil, List.any_cons, List.any_nil, Bool.and_self, Bool.and_true, if_true, Bool.false_eq_true, if_false, tMt, tFldN, tSto, HO.ins.injEq, lkh, List.drop_zero, List.drop_succ_cons, List.drop_nil, rListS, wipe, L2.start, List.map_cons, List.map_nil, List.length_cons, List.length_nil, List.replicate, List.cons_append, List.nil_append, List.append_nil, Nat.reduceAdd, Nat.reduceSub, Nat.zero_add, List.replicate_succ, List.replicate_zero, List.getElem?_cons_zero, List.getElem?_cons_succ, List.set_cons_zero, List.set_cons_succ, Option.some.injEq, V.int.injEq, V.bl.injEq, V.ref.injEq, V.str.injEq, V.ty.injEq, List.cons.injEq, HO.tup.injEq, HO.lst.injEq, and_true, true_and, and_assoc, exists_eq_left, exists_eq_left', exists_and_left, exists_eq', atI0, atI1, atI2, atI3, Int.cast_ofNat_Int, Int.reduceToNat, scal_ii, scal_in, scal_ni, scal_nn, scal_bb, scal_ss, scal_sn, scal_ns, scal_bn, scal_nb, ite_iff, decide_eq_true_eq, decide_eq_false_iff_not, Bool.not_eq_true', Classical.not_not, ne_eq, not_false_eq_true, not_true_eq_false, forall_const, true_implies, false_implies, imp_self, sizeLine_eq, Nat.reduceLeDiff, reduceCtorEq, decide_true, decide_false]
  refine from1 W1 (fun h1 => ?_) k1
  obtain ⟨W2, k2⟩ := P2 h1
  refine from1 W2 (fun h2 => ?_) k2
  obtain ⟨i, rfl, hi⟩ := isP_int h1
  obtain ⟨j, rfl, hj⟩ := isP_int h2
  obtain ⟨b1, b2, kk⟩ := k3 i j rfl rfl hi hj
  have hg : 0 < (Int.gcd i j : Int) := by have := Int.gcd_pos_of_ne_zero_left j (show i ≠ 0 by omega); omega
  have hgl : (Int.gcd i j : Int) ≤ i := Int.le_of_dvd (by omega) (Int.gcd_dvd_left i j)
  have hq : (i / (Int.gcd i j : Int)).natAbs < 2 ^ 250 := Nat.lt_of_le_of_lt (Int.natAbs_ediv_le_natAbs _ _) b1
  refine ⟨W1, fun h => (by cases h), fun _ => ⟨W2, fun h => (by cases h)⟩, fun i' j' e1 e2 => ?_⟩
  cases e1; cases e2
  exact ⟨b1, b2, fun H' hs => ⟨i, rfl, wide_div hg (wide_le (by omega) hgl b1) (by decide) (by decide), j, rfl, wide_mul hq b2 (by decide) (by decide) (by decide), kk H' hs⟩⟩
/-- the ints at which a line a + b i is r modulo p, said of what is handed back -/
def Line (a b r p : Int) (Q : VK) (H : Hp) : Prop := ((r - a) % (Int.gcd b p : Int) ≠ 0 → ∀ H', Same H H' → Q .non H') ∧
  ((r - a) % (Int.gcd b p : Int) = 0 → ∀ s, 0 ≤ s → s < p / (Int.gcd b p : Int) → (a + b * s - r) % p = 0 → ∀ H', Same H H' → News H' (.tup [.int s, .int (p / (Int.gcd b p : Int))]) Q)
def spRO (K : PySem.W.Frag) : Sp := fun vs H Q E => ∃ a b r p, vs = [a, b, r, p] ∧ Wh K H a ∧ (isI a = false → Rse K E H "BadNumber" "number" a) ∧ (isI a = true → Wh K H b ∧ (isI b = false → Rse K E H "BadNumber" "number" b) ∧
  (isI b = true → Wh K H r ∧ (isI r = false → Rse K E H "BadNumber" "number" r) ∧ (isI r = true → Wh K H p ∧ (isP p = false → Rse K E H "BadNumber" "number" p)))) ∧
  (∀ a' b' r' p' : Int, a = .int a' → b = .int b' → r = .int r' → p = .int p' → 1 ≤ p' → a'.natAbs < 2 ^ 249 ∧ b'.natAbs < 2 ^ 249 ∧ r'.natAbs < 2 ^ 249 ∧ p'.natAbs < 2 ^ 249 ∧ Line a' b' r' p' Q H)
theorem o_remainder_of (T : Txt K mg) : OkF P w K mg base (L2.CX P w) 5 "remainder_of" ["a", "b", "r", "p"] (spRO K) := by
  have o_require_whole := o_require_whole (P := P) (w := w) (base := base) T
  have o_require_from := o_require_from (P := P) (w := w) (base := base) T
  have o_weighed_divisor := o_weighed_divisor (P := P) (w := w) (base := base) T
  obtain ⟨f, fd, g, F⟩ := T.d_remainder_of
  refine ⟨f, fd, g, F.kp, F.binds (fun _ _ _ _ _ _ us hl => match us, hl with | [_, _, _, _], _ => rfl), F.okX sc_remainder_of (fun vs H Q E h => ?_) (fun cdv A outer s H vs Q E hr h => ?_)⟩
  · first | (obtain ⟨_, rfl, _⟩ := h; rfl) | (obtain ⟨_, _, rfl, _⟩ := h; rfl) | (obtain ⟨_, _, _, rfl, _⟩ := h; rfl) | (obtain ⟨_, _, _, _, rfl, _⟩ := h; rfl) | (obtain ⟨_, _, _, _, _, rfl, _⟩ := h; rfl) | (obtain ⟨_, _, _, _, _, _, rfl, _⟩ := h; rfl) | (obtain ⟨_, _, _, _, _, _, _, rfl, _⟩ := h; rfl)
  have hu64 := hr.units
  refine ⟨_, pss_cons (ps_expr (pcl o_require_whole (hr.mono (by decide)) passE (pa_cons (pv 0) pa_nil)))
      (pss_cons (ps_expr (pcl o_require_whole (hr.mono (by decide)) passE (pa_cons (pv 1) pa_nil)))
      (pss_cons (ps_expr (pcl o_require_whole (hr.mono (by decide)) passE (pa_cons (pv 2) pa_nil)))
      (pss_cons (ps_expr (pcl o_require_from (hr.mono (by decide)) passE (pa_cons (pv 3) (pa_cons (pe_int) pa_nil))))
      (pss_cons (ps_asg (pcl o_weighed_divisor (hr.mono (by decide)) pass0 (pa_cons (pv 1) (pa_cons (pv 3) pa_nil))) (pg_tupN (n := 3) (by rfl) (pgs_cons (pg_name (i := 4) sc_remainder_of.nd rfl (Or.inl rfl)) (pgs_cons (pg_name (i := 5) sc_remainder_of.nd rfl (Or.inl rfl)) (pgs_cons (pg_name (i := 6) sc_remainder_of.nd rfl (Or.inl rfl)) pgs_nil)))))
      (pss_cons (ps_if (pt_cmpR op_ne (pe_op op_mod (pe_op op_sub (pv 2) (pv 0)) (pv 4)) (pe_int) (nomark _)) (pss_one (ps_ret (pe_non))) (pss_nil))
      (pss_cons (ps_set (i := 7) sc_remainder_of.nd rfl (Or.inl rfl) (pe_op op_fdivW (pv 3) (pv 4)))
      (pss_one (ps_ret (pe_tupN (pa_cons (pe_op op_mod (pe_op op_mulW (pe_op op_fdivW (pe_op op_sub (pv 2) (pv 0)) (pv 4)) (pv 5)) (pv 7)) (pa_cons (pv 7) pa_nil))))))))))), ?_⟩
  obtain ⟨a, b, r, p, rfl, Wa, ka, Pb, kk⟩ := h
  simp only [spReqW, spWD, exists_and_left, tSl, tPart, tNoPart, rSlLN, rMax2, rMin2, gUnlN, tYes, rLenS, rRepN, cx_K, Value.ref.injEq, HO.xd.injEq, lk0, tSeq, tPar3, tPar, tCons, tNil, tVar, tC, tAsg, gName, gCons, gNil, gTupN, gSub, tOp, rI, rI0, rU, tTest, rNe, rEq, rIxTN, rIxLN, rLenL, rLenT, rIntI, rIntB, rAbs, rSetLN, tTruL, tRaiseX, rIsTy, rIsOw, ixN0, ixN1, tRet, tIf, tIfS, tNext, tBreak, tCont, tDrop, tTupN, tLstN, tUn, tCB, tCall, tNot, tAnd, tOr, tB, tAndV, tOrV, tNotV, tChain, tApp, LamX.tLam, tRevLN, rCatN, rInTN, rInLN, flatV, inV, List.all_cons, List.all_nil, List.any_cons, List.any_nil, Bool.and_self, Bool.and_true, if_true, Bool.false_eq_true, if_false, tMt, tFldN, tSto, HO.ins.injEq, lkh, List.drop_zero, List.drop_succ_cons, List.drop_nil, rListS, wipe, L2.start, List.map_cons, List.map_nil, List.length_cons, List.length_nil, List.replicate, List.cons_append, List.nil_append, List.append_nil, Nat.reduceAdd, Nat.reduceSub, Nat.zero_add, List.replicate_succ, List.replicate_zero, List.getElem?_cons_zero, List.getElem?_cons_succ, List.set_cons_zero, List.set_cons_succ, Option.some.injEq, V.int.injEq, V.bl.injEq, V.ref.injEq, V.str.injEq, V.ty.injEq, List.cons.injEq, HO.tup.injEq, HO.lst.injEq, and_true, true_and, and_assoc, exists_eq_left, exists_eq_left', exists_and_left, exists_eq', atI0, atI1, atI2, atI3, Int.cast_ofNat_Int, Int.reduceToNat, scal_ii, scal_in, scal_ni, scal_nn, scal_bb, scal_ss, scal_sn, scal_ns, scal_bn, scal_nb, ite_iff, decide_eq_true_eq, decide_eq_false_iff_not, Bool.not_eq_true', Classical.not_not, ne_eq, not_false_eq_true, not_true_eq_false, forall_const, true_implies, false_implies, imp_self, sizeLine_eq, Nat.reduceLeDiff, reduceCtorEq, decide_true, decide_false]
  refine ⟨Wa, fun ha => ?_, ka⟩
  obtain ⟨Wb, kb, Pr⟩ := Pb ha
  refine ⟨Wb, fun hb => ?_, kb⟩
  obtain ⟨Wr, kr, Pp⟩ := Pr hb
  refine ⟨Wr, fun hr' => ?_, kr⟩
  obtain ⟨Wp, kp⟩ := Pp hr'
  refine from1 Wp (fun hp => ?_) kp
  obtain ⟨a, rfl⟩ := isI_int ha
  obtain ⟨b, rfl⟩ := isI_int hb
  obtain ⟨r, rfl⟩ := isI_int hr'
  obtain ⟨p, rfl, hp1⟩ := isP_int hp
  obtain ⟨ba, bb, br, bp, k1, k2⟩ := kk a b r p rfl rfl rfl rfl hp1
  have hg : 0 < (Int.gcd b p : Int) := by have := Int.gcd_pos_of_ne_zero_right b (show p ≠ 0 by omega); omega
  have hgl : (Int.gcd b p : Int) ≤ p := Int.le_of_dvd (by omega) (Int.gcd_dvd_right b p)
  refine ⟨b, rfl, p, rfl, by omega, by omega, fun u v huv hu _ q H2 hq hs h2 => ?_⟩
  simp only [h2, tSl, tPart, tNoPart, rSlLN, rMax2, rMin2, gUnlN, tYes, rLenS, rRepN, cx_K, Value.ref.injEq, HO.xd.injEq, lk0, tSeq, tPar3, tPar, tCons, tNil, tVar, tC, tAsg, gName, gCons, gNil, gTupN, gSub, tOp, rI, rI0, rU, tTest, rNe, rEq, rIxTN, rIxLN, rLenL, rLenT, rIntI, rIntB, rAbs, rSetLN, tTruL, tRaiseX, rIsTy, rIsOw, ixN0, ixN1, tRet, tIf, tIfS, tNext, tBreak, tCont, tDrop, tTupN, tLstN, tUn, tCB, tCall, tNot, tAnd, tOr, tB, tAndV, tOrV, tNotV, tChain, tApp, LamX.tLam, tRevLN, rCatN, rInTN, rInLN, flatV, inV, List.all_cons, List.all_nil, List.any_cons, List.any_nil, Bool.and_self, Bool.and_true, if_true, Bool.false_eq_true, if_false, tMt, tFldN, tSto, HO.ins.injEq, lkh, List.drop_zero, List.drop_succ_cons, List.drop_nil, rListS, wipe, L2.start, List.map_cons, List.map_nil, List.length_cons, List.length_nil, List.replicate, List.cons_append, List.nil_append, List.append_nil, Nat.reduceAdd, Nat.reduceSub, Nat.zero_add, List.replicate_succ, List.replicate_zero, List.getElem?_cons_zero, List.getElem?_cons_succ, List.set_cons_zero, List.set_cons_succ, Option.some.injEq, V.int.injEq, V.bl.injEq, V.ref.injEq, V.str.injEq, V.ty.injEq, List.cons.injEq, HO.tup.injEq, HO.lst.injEq, and_true, true_and, and_assoc, exists_eq_left, exists_eq_left', exists_and_left, exists_eq', atI0, atI1, atI2, atI3, Int.cast_ofNat_Int, Int.reduceToNat, scal_ii, scal_in, scal_ni, scal_nn, scal_bb, scal_ss, scal_sn, scal_ns, scal_bn, scal_nb, ite_iff, decide_eq_true_eq, decide_eq_false_iff_not, Bool.not_eq_true', Classical.not_not, ne_eq, not_false_eq_true, not_true_eq_false, forall_const, true_implies, false_implies, imp_self, sizeLine_eq, Nat.reduceLeDiff, reduceCtorEq, decide_true, decide_false]
  refine ⟨hg, fun h => k1 h H2 hs, fun h => ⟨wide_div hg (gcd_small hp1 bp) (by decide) (by decide), wide_div hg (gcd_small hp1 bp) (by decide) (by decide),
    wide_mul (a := 250) (b := 130001) (ediv_small (by omega)) (Nat.lt_of_le_of_lt hu (Nat.pow_lt_pow_right (by decide) (by decide))) (by decide) (by decide) (by decide), qpos hp1, ?_⟩⟩
  exact k2 h _ (Int.emod_nonneg _ (by have := qpos (b := b) hp1; omega)) (Int.emod_lt_of_pos _ (qpos hp1)) (line_sol hp1 huv h) H2 hs
/-- a value is a remainder (r, p), or it is none -/
def Rem (K : PySem.W.Frag) (H : Hp) (x : V) : Prop := ∃ (p : Addr) (r m : Int), x = .ref p ∧ H p = some (.tup [.int r, .int m]) ∧ 1 ≤ m
def NoRem (K : PySem.W.Frag) (H : Hp) (x : V) : Prop := (∃ t, TyX K H x t ∧ PySem.W.kitOne K t (.type "tuple") = some false) ∨ ∃ (p : Addr) (xs : List V), x = .ref p ∧ H p = some (.tup xs) ∧
  (xs.length ≠ 2 ∨ ∃ a b, xs = [a, b] ∧ Wh K H a ∧ Wh K H b ∧ (isI a = false ∨ isP b = false))
def spReqR (K : PySem.W.Frag) : Sp := fun vs H Q E => ∃ x, vs = [x] ∧ ((Rem K H x ∧ Q .non H) ∨ (NoRem K H x ∧ Rse K E H "BadPart" "part" (.str "remainder")))
theorem o__require_remainder (T : Txt K mg) : OkF P w K mg base (L2.CX P w) 3 "_require_remainder" ["value"] (spReqR K) := by
  have o_is_whole := o_is_whole (P := P) (w := w) (base := base) T
  have o_is_from := o_is_from (P := P) (w := w) (base := base) T
  obtain ⟨f, fd, g, F⟩ := T.d__require_remainder
  refine ⟨f, fd, g, F.kp, F.binds (fun _ _ _ _ _ _ us hl => match us, hl with | [_], _ => rfl), F.okX sc__require_remainder (fun vs H Q E h => ?_) (fun cdv A outer s H vs Q E hr h => ?_)⟩
  · first | (obtain ⟨_, rfl, _⟩ := h; rfl) | (obtain ⟨_, _, rfl, _⟩ := h; rfl) | (obtain ⟨_, _, _, rfl, _⟩ := h; rfl) | (obtain ⟨_, _, _, _, rfl, _⟩ := h; rfl) | (obtain ⟨_, _, _, _, _, rfl, _⟩ := h; rfl) | (obtain ⟨_, _, _, _, _, _, rfl, _⟩ := h; rfl) | (obtain ⟨_, _, _, _, _, _, _, rfl, _⟩ := h; rfl)
  have hu64 := hr.units
  refine ⟨_, pss_one (ps_if (PW.pt (pw_or (pt_not (pt_val (pe_callB call_isTy (by rfl) T.m_isinstance (by decide +kernel) (pa_cons (pv 0) (pa_cons ((pe_bltn (v := .ty "tuple") (by rfl) T.m_tuple (by decide +kernel) rfl)) pa_nil))))) (pw_or (pt_cmpR op_ne (pe_callB call_lenT (by rfl) T.m_len (by decide +kernel) (pa_cons (pv 0) pa_nil)) (pe_int) (nomark _)) (pw_or (pt_not (pt_val (pcl o_is_whole (hr.mono (by decide)) pass0 (pa_cons (pe_ix ix_tupN (pv 0) (pe_int) (fun _ _ => rfl)) pa_nil)))) (pw_or1 (pt_not (pt_val (pcl o_is_from (hr.mono (by decide)) pass0 (pa_cons (pe_ix ix_tupN (pv 0) (pe_int) (fun _ _ => rfl)) (pa_cons (pe_int) pa_nil)))))))))) (pss_one (ps_raiseX (T.x_BadPart) (hr.mono (by decide)) takesE (pe_str))) (pss_nil)), ?_⟩
  obtain ⟨x, rfl, h⟩ := h
  simp only [spWhole, spFrom, exists_and_left, tSl, tPart, tNoPart, rSlLN, rMax2, rMin2, gUnlN, tYes, rLenS, rRepN, cx_K, Value.ref.injEq, HO.xd.injEq, lk0, tSeq, tPar3, tPar, tCons, tNil, tVar, tC, tAsg, gName, gCons, gNil, gTupN, gSub, tOp, rI, rI0, rU, tTest, rNe, rEq, rIxTN, rIxLN, rLenL, rLenT, rIntI, rIntB, rAbs, rSetLN, tTruL, tRaiseX, rIsTy, rIsOw, ixN0, ixN1, tRet, tIf, tIfS, tNext, tBreak, tCont, tDrop, tTupN, tLstN, tUn, tCB, tCall, tNot, tAnd, tOr, tB, tAndV, tOrV, tNotV, tChain, tApp, LamX.tLam, tRevLN, rCatN, rInTN, rInLN, flatV, inV, List.all_cons, List.all_nil, List.any_cons, List.any_nil, Bool.and_self, Bool.and_true, if_true, Bool.false_eq_true, if_false, tMt, tFldN, tSto, HO.ins.injEq, lkh, List.drop_zero, List.drop_succ_cons, List.drop_nil, rListS, wipe, L2.start, List.map_cons, List.map_nil, List.length_cons, List.length_nil, List.replicate, List.cons_append, List.nil_append, List.append_nil, Nat.reduceAdd, Nat.reduceSub, Nat.zero_add, List.replicate_succ, List.replicate_zero, List.getElem?_cons_zero, List.getElem?_cons_succ, List.set_cons_zero, List.set_cons_succ, Option.some.injEq, V.int.injEq, V.bl.injEq, V.ref.injEq, V.str.injEq, V.ty.injEq, List.cons.injEq, HO.tup.injEq, HO.lst.injEq, and_true, true_and, and_assoc, exists_eq_left, exists_eq_left', exists_and_left, exists_eq', atI0, atI1, atI2, atI3, Int.cast_ofNat_Int, Int.reduceToNat, scal_ii, scal_in, scal_ni, scal_nn, scal_bb, scal_ss, scal_sn, scal_ns, scal_bn, scal_nb, ite_iff, decide_eq_true_eq, decide_eq_false_iff_not, Bool.not_eq_true', Classical.not_not, ne_eq, not_false_eq_true, not_true_eq_false, forall_const, true_implies, false_implies, imp_self, sizeLine_eq, Nat.reduceLeDiff, reduceCtorEq, decide_true, decide_false]
  rcases h with ⟨⟨p, r, m, rfl, hp, hm⟩, hq⟩ | ⟨⟨t, ty, kt⟩ | ⟨p, xs, rfl, hp, hx⟩, hE⟩
  · refine ⟨_, .base (.tup hp), true, kit_ty (by decide +kernel), fun h => (by cases h), fun _ => ⟨p, rfl, _, hp, fun h => absurd rfl h, fun _ => ⟨p, rfl, _, hp, _, atI0, wh_int, fun h => (by cases h), fun _ => ⟨p, rfl, _, hp, _, atI1, wh_int, fun h => (by cases h), fun i hi => ?_⟩⟩⟩⟩
    cases hi
    exact ⟨fun h => absurd hm h, fun _ => hq⟩
  · exact ⟨t, ty, false, kt, fun _ => hE, fun h => absurd rfl h⟩
  · refine ⟨_, .base (.tup hp), true, kit_ty (by decide +kernel), fun h => (by cases h), fun _ => ⟨p, rfl, _, hp, fun _ => hE, fun hl => ?_⟩⟩
    rcases hx with hx | ⟨a, b, rfl, Wa, Wb, hab⟩
    · exact absurd (by omega) hx
    · refine ⟨p, rfl, _, hp, _, atI0, Wa, fun _ => hE, fun ha => ⟨p, rfl, _, hp, _, atI1, Wb, fun _ => hE, fun i hi => ?_⟩⟩
      subst hi
      rcases hab with h | h
      · exact absurd h ha
      · exact ⟨fun _ => hE, fun h1 => by simp [isP] at h; omega⟩
def spBR (K : PySem.W.Frag) : Sp := fun vs H Q E => ∃ x y, vs = [x, y] ∧ ((NoRem K H x ∧ Rse K E H "BadPart" "part" (.str "remainder")) ∨ ∃ (px : Addr) (r p : Int), x = .ref px ∧ H px = some (.tup [.int r, .int p]) ∧ 1 ≤ p ∧
  ((NoRem K H y ∧ Rse K E H "BadPart" "part" (.str "remainder")) ∨ ∃ (py : Addr) (o q : Int), y = .ref py ∧ H py = some (.tup [.int o, .int q]) ∧ 1 ≤ q ∧
    r.natAbs < 2 ^ 249 ∧ p.natAbs < 2 ^ 249 ∧ o.natAbs < 2 ^ 249 ∧ q.natAbs < 2 ^ 249 ∧
    ((o - r) % (Int.gcd p q : Int) ≠ 0 → ∀ H', Same H H' → Q .non H') ∧
    ((o - r) % (Int.gcd p q : Int) = 0 → ∀ s, 0 ≤ s → s < p * (q / (Int.gcd p q : Int)) → (s - r) % p = 0 → (s - o) % q = 0 → ∀ H', Same H H' → News H' (.tup [.int s, .int (p * (q / (Int.gcd p q : Int)))]) Q)))
theorem o_both_remainders (T : Txt K mg) : OkF P w K mg base (L2.CX P w) 6 "both_remainders" ["one", "other"] (spBR K) := by
  have o__require_remainder := o__require_remainder (P := P) (w := w) (base := base) T
  have o_remainder_of := o_remainder_of (P := P) (w := w) (base := base) T
  obtain ⟨f, fd, g, F⟩ := T.d_both_remainders
  refine ⟨f, fd, g, F.kp, F.binds (fun _ _ _ _ _ _ us hl => match us, hl with | [_, _], _ => rfl), F.okX sc_both_remainders (fun vs H Q E h => ?_) (fun cdv A outer s H vs Q E hr h => ?_)⟩
  · first | (obtain ⟨_, rfl, _⟩ := h; rfl) | (obtain ⟨_, _, rfl, _⟩ := h; rfl) | (obtain ⟨_, _, _, rfl, _⟩ := h; rfl) | (obtain ⟨_, _, _, _, rfl, _⟩ := h; rfl) | (obtain ⟨_, _, _, _, _, rfl, _⟩ := h; rfl) | (obtain ⟨_, _, _, _, _, _, rfl, _⟩ := h; rfl) | (obtain ⟨_, _, _, _, _, _, _, rfl, _⟩ := h; rfl)
  have hu64 := hr.units
  refine ⟨_, pss_cons (ps_expr (pcl o__require_remainder (hr.mono (by decide)) passE (pa_cons (pv 0) pa_nil)))
      (pss_cons (ps_expr (pcl o__require_remainder (hr.mono (by decide)) passE (pa_cons (pv 1) pa_nil)))
      (pss_cons (ps_asg (pv 0) (pg_tupN (n := 2) (by rfl) (pgs_cons (pg_name (i := 2) sc_both_remainders.nd rfl (Or.inl rfl)) (pgs_cons (pg_name (i := 3) sc_both_remainders.nd rfl (Or.inl rfl)) pgs_nil))))
      (pss_cons (ps_set (i := 4) sc_both_remainders.nd rfl (Or.inl rfl) (pcl o_remainder_of (hr.mono (by decide)) passE (pa_cons (pv 2) (pa_cons (pv 3) (pa_cons (pe_ix ix_tupN (pv 1) (pe_int) (fun _ _ => rfl)) (pa_cons (pe_ix ix_tupN (pv 1) (pe_int) (fun _ _ => rfl)) pa_nil))))))
      (pss_cons (ps_if (pt_cmpR op_isN (pv 4) (pe_non) (nomark _)) (pss_one (ps_ret (pe_non))) (pss_nil))
      (pss_cons (ps_asg (pv 4) (pg_tupN (n := 2) (by rfl) (pgs_cons (pg_name (i := 5) sc_both_remainders.nd rfl (Or.inl rfl)) (pgs_cons (pg_name (i := 6) sc_both_remainders.nd rfl (Or.inl rfl)) pgs_nil))))
      (pss_one (ps_ret (pe_tupN (pa_cons (pe_op op_mod (pe_op op_add (pv 2) (pe_op op_mulW (pv 3) (pv 5))) (pe_op op_mulW (pv 3) (pv 6))) (pa_cons (pe_op op_mulW (pv 3) (pv 6)) pa_nil)))))))))), ?_⟩
  obtain ⟨x, y, rfl, h⟩ := h
  rcases h with ⟨nx, hE⟩ | ⟨px, r, p, rfl, hpx, hp, ⟨ny, hE⟩ | ⟨py, o, q, rfl, hpy, hq, br, bp, bo, bq, k1, k2⟩⟩
  · simp only [spReqR, spRO, exists_and_left, tSl, tPart, tNoPart, rSlLN, rMax2, rMin2, gUnlN, tYes, rLenS, rRepN, cx_K, Value.ref.injEq, HO.xd.injEq, lk0, tSeq, tPar3, tPar, tCons, tNil, tVar, tC, tAsg, gName, gCons, gNil, gTupN, gSub, tOp, rI, rI0, rU, tTest, rNe, rEq, rIxTN, rIxLN, rLenL, rLenT, rIntI, rIntB, rAbs, rSetLN, tTruL, tRaiseX, rIsTy, rIsOw, ixN0, ixN1, tRet, tIf, tIfS, tNext, tBreak, tCont, tDrop, tTupN, tLstN, tUn, tCB, tCall, tNot, tAnd, tOr, tB, tAndV, tOrV, tNotV, tChain, tApp, LamX.tLam, tRevLN, rCatN, rInTN, rInLN, flatV, inV, List.all_cons, List.all_nil, List.any_cons, List.any_nil, Bool.and_self, Bool.and_true, if_true, Bool.false_eq_true, if_false, tMt, tFldN, tSto, HO.ins.injEq, lkh, List.drop_zero, List.drop_succ_cons, List.drop_nil, rListS, wipe, L2.start, List.map_cons, List.map_nil, List.length_cons, List.length_nil, List.replicate, List.cons_append, List.nil_append, List.append_nil, Nat.reduceAdd, Nat.reduceSub, Nat.zero_add, List.replicate_succ, List.replicate_zero, List.getElem?_cons_zero, List.getElem?_cons_succ, List.set_cons_zero, List.set_cons_succ, Option.some.injEq, V.int.injEq, V.bl.injEq, V.ref.injEq, V.str.injEq, V.ty.injEq, List.cons.injEq, HO.tup.injEq, HO.lst.injEq, and_true, true_and, and_assoc, exists_eq_left, exists_eq_left', exists_and_left, exists_eq', atI0, atI1, atI2, atI3, Int.cast_ofNat_Int, Int.reduceToNat, scal_ii, scal_in, scal_ni, scal_nn, scal_bb, scal_ss, scal_sn, scal_ns, scal_bn, scal_nb, ite_iff, decide_eq_true_eq, decide_eq_false_iff_not, Bool.not_eq_true', Classical.not_not, ne_eq, not_false_eq_true, not_true_eq_false, forall_const, true_implies, false_implies, imp_self, sizeLine_eq, Nat.reduceLeDiff, reduceCtorEq, decide_true, decide_false]
    exact .inr ⟨nx, hE⟩
  · simp only [spReqR, spRO, exists_and_left, tSl, tPart, tNoPart, rSlLN, rMax2, rMin2, gUnlN, tYes, rLenS, rRepN, cx_K, Value.ref.injEq, HO.xd.injEq, lk0, tSeq, tPar3, tPar, tCons, tNil, tVar, tC, tAsg, gName, gCons, gNil, gTupN, gSub, tOp, rI, rI0, rU, tTest, rNe, rEq, rIxTN, rIxLN, rLenL, rLenT, rIntI, rIntB, rAbs, rSetLN, tTruL, tRaiseX, rIsTy, rIsOw, ixN0, ixN1, tRet, tIf, tIfS, tNext, tBreak, tCont, tDrop, tTupN, tLstN, tUn, tCB, tCall, tNot, tAnd, tOr, tB, tAndV, tOrV, tNotV, tChain, tApp, LamX.tLam, tRevLN, rCatN, rInTN, rInLN, flatV, inV, List.all_cons, List.all_nil, List.any_cons, List.any_nil, Bool.and_self, Bool.and_true, if_true, Bool.false_eq_true, if_false, tMt, tFldN, tSto, HO.ins.injEq, lkh, List.drop_zero, List.drop_succ_cons, List.drop_nil, rListS, wipe, L2.start, List.map_cons, List.map_nil, List.length_cons, List.length_nil, List.replicate, List.cons_append, List.nil_append, List.append_nil, Nat.reduceAdd, Nat.reduceSub, Nat.zero_add, List.replicate_succ, List.replicate_zero, List.getElem?_cons_zero, List.getElem?_cons_succ, List.set_cons_zero, List.set_cons_succ, Option.some.injEq, V.int.injEq, V.bl.injEq, V.ref.injEq, V.str.injEq, V.ty.injEq, List.cons.injEq, HO.tup.injEq, HO.lst.injEq, and_true, true_and, and_assoc, exists_eq_left, exists_eq_left', exists_and_left, exists_eq', atI0, atI1, atI2, atI3, Int.cast_ofNat_Int, Int.reduceToNat, scal_ii, scal_in, scal_ni, scal_nn, scal_bb, scal_ss, scal_sn, scal_ns, scal_bn, scal_nb, ite_iff, decide_eq_true_eq, decide_eq_false_iff_not, Bool.not_eq_true', Classical.not_not, ne_eq, not_false_eq_true, not_true_eq_false, forall_const, true_implies, false_implies, imp_self, sizeLine_eq, Nat.reduceLeDiff, reduceCtorEq, decide_true, decide_false]
    exact .inl ⟨⟨px, r, p, rfl, hpx, hp⟩, .inr ⟨ny, hE⟩⟩
  · have hp3 : p * (q / (Int.gcd p q : Int)) > 0 := Int.mul_pos (by omega) (qpos hq)
    have hd2 : q / (Int.gcd p q : Int) ≤ q := Int.le_trans (Int.ediv_le_self _ (by omega)) (Int.le_refl _)
    simp only [spReqR, spRO, exists_and_left, hpx, hpy, Line, isI, wh_int, tSl, tPart, tNoPart, rSlLN, rMax2, rMin2, gUnlN, tYes, rLenS, rRepN, cx_K, Value.ref.injEq, HO.xd.injEq, lk0, tSeq, tPar3, tPar, tCons, tNil, tVar, tC, tAsg, gName, gCons, gNil, gTupN, gSub, tOp, rI, rI0, rU, tTest, rNe, rEq, rIxTN, rIxLN, rLenL, rLenT, rIntI, rIntB, rAbs, rSetLN, tTruL, tRaiseX, rIsTy, rIsOw, ixN0, ixN1, tRet, tIf, tIfS, tNext, tBreak, tCont, tDrop, tTupN, tLstN, tUn, tCB, tCall, tNot, tAnd, tOr, tB, tAndV, tOrV, tNotV, tChain, tApp, LamX.tLam, tRevLN, rCatN, rInTN, rInLN, flatV, inV, List.all_cons, List.all_nil, List.any_cons, List.any_nil, Bool.and_self, Bool.and_true, if_true, Bool.false_eq_true, if_false, tMt, tFldN, tSto, HO.ins.injEq, lkh, List.drop_zero, List.drop_succ_cons, List.drop_nil, rListS, wipe, L2.start, List.map_cons, List.map_nil, List.length_cons, List.length_nil, List.replicate, List.cons_append, List.nil_append, List.append_nil, Nat.reduceAdd, Nat.reduceSub, Nat.zero_add, List.replicate_succ, List.replicate_zero, List.getElem?_cons_zero, List.getElem?_cons_succ, List.set_cons_zero, List.set_cons_succ, Option.some.injEq, V.int.injEq, V.bl.injEq, V.ref.injEq, V.str.injEq, V.ty.injEq, List.cons.injEq, HO.tup.injEq, HO.lst.injEq, and_true, true_and, and_assoc, exists_eq_left, exists_eq_left', exists_and_left, exists_eq', atI0, atI1, atI2, atI3, Int.cast_ofNat_Int, Int.reduceToNat, scal_ii, scal_in, scal_ni, scal_nn, scal_bb, scal_ss, scal_sn, scal_ns, scal_bn, scal_nb, ite_iff, decide_eq_true_eq, decide_eq_false_iff_not, Bool.not_eq_true', Classical.not_not, ne_eq, not_false_eq_true, not_true_eq_false, forall_const, true_implies, false_implies, imp_self, sizeLine_eq, Nat.reduceLeDiff, reduceCtorEq, decide_true, decide_false]
    refine .inl ⟨⟨px, r, p, rfl, hpx, hp⟩, .inl ⟨⟨py, o, q, rfl, hpy, hq⟩, ?_⟩⟩
    refine ⟨fun h => by simp [isP, hq] at h, ?_⟩
    rintro _ _ _ _ rfl rfl rfl rfl -
    refine ⟨br, bp, bo, bq, k1, fun hz s h0 h1 h2 H2 hs t H3 ht hs3 h3 => ?_⟩
    simp only [exists_and_left, h3, tSl, tPart, tNoPart, rSlLN, rMax2, rMin2, gUnlN, tYes, rLenS, rRepN, cx_K, Value.ref.injEq, HO.xd.injEq, lk0, tSeq, tPar3, tPar, tCons, tNil, tVar, tC, tAsg, gName, gCons, gNil, gTupN, gSub, tOp, rI, rI0, rU, tTest, rNe, rEq, rIxTN, rIxLN, rLenL, rLenT, rIntI, rIntB, rAbs, rSetLN, tTruL, tRaiseX, rIsTy, rIsOw, ixN0, ixN1, tRet, tIf, tIfS, tNext, tBreak, tCont, tDrop, tTupN, tLstN, tUn, tCB, tCall, tNot, tAnd, tOr, tB, tAndV, tOrV, tNotV, tChain, tApp, LamX.tLam, tRevLN, rCatN, rInTN, rInLN, flatV, inV, List.all_cons, List.all_nil, List.any_cons, List.any_nil, Bool.and_self, Bool.and_true, if_true, Bool.false_eq_true, if_false, tMt, tFldN, tSto, HO.ins.injEq, lkh, List.drop_zero, List.drop_succ_cons, List.drop_nil, rListS, wipe, L2.start, List.map_cons, List.map_nil, List.length_cons, List.length_nil, List.replicate, List.cons_append, List.nil_append, List.append_nil, Nat.reduceAdd, Nat.reduceSub, Nat.zero_add, List.replicate_succ, List.replicate_zero, List.getElem?_cons_zero, List.getElem?_cons_succ, List.set_cons_zero, List.set_cons_succ, Option.some.injEq, V.int.injEq, V.bl.injEq, V.ref.injEq, V.str.injEq, V.ty.injEq, List.cons.injEq, HO.tup.injEq, HO.lst.injEq, and_true, true_and, and_assoc, exists_eq_left, exists_eq_left', exists_and_left, exists_eq', atI0, atI1, atI2, atI3, Int.cast_ofNat_Int, Int.reduceToNat, scal_ii, scal_in, scal_ni, scal_nn, scal_bb, scal_ss, scal_sn, scal_ns, scal_bn, scal_nb, ite_iff, decide_eq_true_eq, decide_eq_false_iff_not, Bool.not_eq_true', Classical.not_not, ne_eq, not_false_eq_true, not_true_eq_false, forall_const, true_implies, false_implies, imp_self, sizeLine_eq, Nat.reduceLeDiff, reduceCtorEq, decide_true, decide_false]
    have es : 0 ≤ s ∧ s < q := ⟨h0, by omega⟩
    have eq' : 0 ≤ q / (Int.gcd p q : Int) ∧ q / (Int.gcd p q : Int) ≤ q := ⟨by omega, hd2⟩
    refine ⟨wide_mul bp (wide_le h0 (show s ≤ q by omega) bq) (by decide) (by decide) (by decide), wide_mul bp (wide_le eq'.1 eq'.2 bq) (by decide) (by decide) (by decide), hp3, ?_⟩
    have hs2 : Same H H3 := hs.trans hs3
    obtain ⟨z1, z2⟩ := both_sol hq h2
    exact ⟨wide_mul bp (wide_le eq'.1 eq'.2 bq) (by decide) (by decide) (by decide), k2 hz _ (Int.emod_nonneg _ (by omega)) (Int.emod_lt_of_pos _ hp3) z1 z2 H3 hs2⟩

end
end Iz
/-! k09_c -/
set_option Elab.async false
set_option linter.all false
set_option maxRecDepth 100000
set_option maxHeartbeats 4000000
namespace Iz
open PySem PySem.Spec PyProof.Rows L2
open He (ga)
local macro_rules | `(tactic| walk_at "wp") => `(tactic| simp only [tSl, tPart, tNoPart, rSlLN, rMax2, rMin2, gUnlN, tYes, rLenS, rRepN, cx_K, Value.ref.injEq, HO.xd.injEq, lk0, tSeq, tPar3, tPar, tCons, tNil, tVar, tC, tAsg, gName, gCons, gNil, gTupN, gSub, tOp, rI, rI0, rU, tTest, rNe, rEq, rIxTN, rIxLN, rLenL, rLenT, rIntI, rIntB, rAbs, rSetLN, tTruL, tRaiseX, rIsTy, rIsOw, ixN0, ixN1, tRet, tIf, tIfS, tNext, tBreak, tCont, tDrop, tTupN, tLstN, tUn, tCB, tCall, tNot, tAnd, tOr, tB, tAndV, tOrV, tNotV, tChain, tApp, LamX.tLam, tRevLN, rCatN, rInTN, rInLN, flatV, inV, List.all_cons, List.all_nil, List.any_cons, List.any_nil, Bool.and_self, Bool.and_true, if_true, Bool.false_eq_true, if_false, tMt, tFldN, tSto, HO.ins.injEq, lkh, List.drop_zero, List.drop_succ_cons, List.drop_nil, rListS, wipe, L2.start, List.map_cons, List.map_nil, List.length_cons, List.length_nil, List.replicate, List.cons_append, List.nil_append, List.append_nil, Nat.reduceAdd, Nat.reduceSub, Nat.zero_add, List.replicate_succ, List.replicate_zero, List.getElem?_cons_zero, List.getElem?_cons_succ, List.set_cons_zero, List.set_cons_succ, Option.some.injEq, V.int.injEq, V.bl.injEq, V.ref.injEq, V.str.injEq, V.ty.injEq, List.cons.injEq, HO.tup.injEq, HO.lst.injEq, and_true, true_and, and_assoc, exists_eq_left, exists_eq_left', exists_and_left, exists_eq', atI0, atI1, atI2, atI3, Int.cast_ofNat_Int, Int.reduceToNat, scal_ii, scal_in, scal_ni, scal_nn, scal_bb, scal_ss, scal_sn, scal_ns, scal_bn, scal_nb, ite_iff, decide_eq_true_eq, decide_eq_false_iff_not, Bool.not_eq_true', Classical.not_not, ne_eq, not_false_eq_true, not_true_eq_false, forall_const, true_implies, false_implies, imp_self, sizeLine_eq, Nat.reduceLeDiff, reduceCtorEq, decide_true, decide_false])
section
variable {P : Program} {w : World} {K : PySem.W.Frag} {mg : Str → Option Value} {base : Heap}
/-! ### lattices -/
theorem lk3 {f g h : Str} {v w z : V} (h1 : (f == g) = false) (h2 : (f == h) = false) : List.lookup f [(g, w), (h, z), (f, v)] = some v := by simp [List.lookup, h1, h2]
theorem lk2 {f g : Str} {v w : V} {l : List (Str × V)} (h1 : (f == g) = false) : List.lookup f ((g, w) :: (f, v) :: l) = some v := by simp [List.lookup, h1]
theorem lkn3 {f g h k : Str} {v w z : V} (h1 : (f == g) = false) (h2 : (f == h) = false) (h3 : (f == k) = false) : List.lookup f [(g, v), (h, w), (k, z)] = none := by simp [List.lookup, h1, h2, h3]
theorem lkLa {x y z : V} : List.lookup ("a" : Str) [(("a" : Str), x), (("b" : Str), y), (("d" : Str), z)] = some x := lkh
theorem lkLb {x y z : V} : List.lookup ("b" : Str) [(("a" : Str), x), (("b" : Str), y), (("d" : Str), z)] = some y := lk2 (by decide +kernel)
theorem lkLd {x y z : V} : List.lookup ("d" : Str) [(("a" : Str), x), (("b" : Str), y), (("d" : Str), z)] = some z := lk3 (by decide +kernel) (by decide +kernel)
theorem lkLn_area {x y z : V} : List.lookup ("area" : Str) [(("a" : Str), x), (("b" : Str), y), (("d" : Str), z)] = none := lkn3 (by decide +kernel) (by decide +kernel) (by decide +kernel)
theorem lkLn_place {x y z : V} : List.lookup ("place" : Str) [(("a" : Str), x), (("b" : Str), y), (("d" : Str), z)] = none := lkn3 (by decide +kernel) (by decide +kernel) (by decide +kernel)
theorem lkLn_order {x y z : V} : List.lookup ("order" : Str) [(("a" : Str), x), (("b" : Str), y), (("d" : Str), z)] = none := lkn3 (by decide +kernel) (by decide +kernel) (by decide +kernel)
theorem lkLn_places {x y z : V} : List.lookup ("places" : Str) [(("a" : Str), x), (("b" : Str), y), (("d" : Str), z)] = none := lkn3 (by decide +kernel) (by decide +kernel) (by decide +kernel)
def okB : V → V → Bool
  | .int i, .int j => decide (0 ≤ j ∧ j < i)
  | _, _ => false
def RL (K : PySem.W.Frag) (H : Hp) (E : XK) (a b d : V) (G : Prop) : Prop := Wh K H a ∧ (isP a = false → Rse K E H "BadPart" "part" (.str "a")) ∧ (isP a = true → Wh K H b ∧ (okB a b = false → Rse K E H "BadPart" "part" (.str "b")) ∧
  (okB a b = true → Wh K H d ∧ (isP d = false → Rse K E H "BadPart" "part" (.str "d")) ∧ (isP d = true → G)))
theorem RL.ints {K : PySem.W.Frag} {H : Hp} {E : XK} {a b d : Int} {G : Prop} (a1 : 1 ≤ a) (b0 : 0 ≤ b) (b1 : b < a) (d1 : 1 ≤ d) (g : G) : RL K H E (.int a) (.int b) (.int d) G :=
  ⟨wh_int, fun h => (by simp [isP] at h; omega), fun _ => ⟨wh_int, fun h => (by simp [okB] at h; omega), fun _ => ⟨wh_int, fun h => (by simp [isP] at h; omega), fun _ => g⟩⟩⟩
theorem RL.imp {K : PySem.W.Frag} {H H' : Hp} {E : XK} {a b d : V} {G G' : Prop} (h : RL K H E a b d G) (s : Same H H') (g : isP a = true → okB a b = true → isP d = true → G → G') : RL K H' E a b d G' :=
  ⟨wh_mono h.1 s, fun e => (h.2.1 e).mono s, fun e => ⟨wh_mono (h.2.2 e).1 s, fun f => ((h.2.2 e).2.1 f).mono s, fun f => ⟨wh_mono ((h.2.2 e).2.2 f).1 s, fun k => (((h.2.2 e).2.2 f).2.1 k).mono s, fun k => g e f k (((h.2.2 e).2.2 f).2.2 k)⟩⟩⟩
def spRL (K : PySem.W.Frag) : Sp := fun vs H Q E => ∃ a b d, vs = [a, b, d] ∧ RL K H E a b d (Q .non H)
theorem from1b {K : PySem.W.Frag} {H : Hp} {x : V} {Q : VK} {E : XK} (W : Wh K H x) (q : Q (.bl (isP x)) H) : spFrom K [x, .int 1] H Q E :=
  ⟨x, 1, rfl, W, fun h => (by cases x <;> first | exact q | cases h), fun i e => by subst e; exact q⟩
theorem o_require_lattice_numbers (T : Txt K mg) : OkF P w K mg base (L2.CX P w) 3 "require_lattice_numbers" ["a", "b", "d"] (spRL K) := by
  have o_is_whole := o_is_whole (P := P) (w := w) (base := base) T
  have o_is_from := o_is_from (P := P) (w := w) (base := base) T
  obtain ⟨f, fd, g, F⟩ := T.d_require_lattice_numbers
  refine ⟨f, fd, g, F.kp, F.binds (fun _ _ _ _ _ _ us hl => match us, hl with | [_, _, _], _ => rfl), F.okX sc_require_lattice_numbers (fun vs H Q E h => ?_) (fun cdv A outer s H vs Q E hr h => ?_)⟩
  · first | (obtain ⟨_, rfl, _⟩ := h; rfl) | (obtain ⟨_, _, rfl, _⟩ := h; rfl) | (obtain ⟨_, _, _, rfl, _⟩ := h; rfl) | (obtain ⟨_, _, _, _, rfl, _⟩ := h; rfl) | (obtain ⟨_, _, _, _, _, rfl, _⟩ := h; rfl) | (obtain ⟨_, _, _, _, _, _, rfl, _⟩ := h; rfl) | (obtain ⟨_, _, _, _, _, _, _, rfl, _⟩ := h; rfl)
  have hu64 := hr.units
  refine ⟨_, pss_cons (ps_if (pt_not (pt_val (pcl o_is_from (hr.mono (by decide)) pass0 (pa_cons (pv 0) (pa_cons (pe_int) pa_nil))))) (pss_one (ps_raiseX (T.x_BadPart) (hr.mono (by decide)) takesE (pe_str))) (pss_nil))
      (pss_cons (ps_if (PW.pt (pw_or (pt_not (pt_val (pcl o_is_whole (hr.mono (by decide)) pass0 (pa_cons (pv 1) pa_nil)))) (pw_or1 (pt_not (pt_chain op_le op_lt (pe_int) (pv 1) (pv 0)))))) (pss_one (ps_raiseX (T.x_BadPart) (hr.mono (by decide)) takesE (pe_str))) (pss_nil))
      (pss_one (ps_if (pt_not (pt_val (pcl o_is_from (hr.mono (by decide)) pass0 (pa_cons (pv 2) (pa_cons (pe_int) pa_nil))))) (pss_one (ps_raiseX (T.x_BadPart) (hr.mono (by decide)) takesE (pe_str))) (pss_nil)))), ?_⟩
  obtain ⟨a, b, d, rfl, Wa, ka, hb⟩ := h
  simp only [spWhole, exists_and_left, tSl, tPart, tNoPart, rSlLN, rMax2, rMin2, gUnlN, tYes, rLenS, rRepN, cx_K, Value.ref.injEq, HO.xd.injEq, lk0, tSeq, tPar3, tPar, tCons, tNil, tVar, tC, tAsg, gName, gCons, gNil, gTupN, gSub, tOp, rI, rI0, rU, tTest, rNe, rEq, rIxTN, rIxLN, rLenL, rLenT, rIntI, rIntB, rAbs, rSetLN, tTruL, tRaiseX, rIsTy, rIsOw, ixN0, ixN1, tRet, tIf, tIfS, tNext, tBreak, tCont, tDrop, tTupN, tLstN, tUn, tCB, tCall, tNot, tAnd, tOr, tB, tAndV, tOrV, tNotV, tChain, tApp, LamX.tLam, tRevLN, rCatN, rInTN, rInLN, flatV, inV, List.all_cons, List.all_nil, List.any_cons, List.any_nil, Bool.and_self, Bool.and_true, if_true, Bool.false_eq_true, if_false, tMt, tFldN, tSto, HO.ins.injEq, lkh, List.drop_zero, List.drop_succ_cons, List.drop_nil, rListS, wipe, L2.start, List.map_cons, List.map_nil, List.length_cons, List.length_nil, List.replicate, List.cons_append, List.nil_append, List.append_nil, Nat.reduceAdd, Nat.reduceSub, Nat.zero_add, List.replicate_succ, List.replicate_zero, List.getElem?_cons_zero, List.getElem?_cons_succ, List.set_cons_zero, List.set_cons_succ, Option.some.injEq, V.int.injEq, V.bl.injEq, V.ref.injEq, V.str.injEq, V.ty.injEq, List.cons.injEq, HO.tup.injEq, HO.lst.injEq, and_true, true_and, and_assoc, exists_eq_left, exists_eq_left', exists_and_left, exists_eq', atI0, atI1, atI2, atI3, Int.cast_ofNat_Int, Int.reduceToNat, scal_ii, scal_in, scal_ni, scal_nn, scal_bb, scal_ss, scal_sn, scal_ns, scal_bn, scal_nb, ite_iff, decide_eq_true_eq, decide_eq_false_iff_not, Bool.not_eq_true', Classical.not_not, ne_eq, not_false_eq_true, not_true_eq_false, forall_const, true_implies, false_implies, imp_self, sizeLine_eq, Nat.reduceLeDiff, reduceCtorEq, decide_true, decide_false]
  refine from1b Wa ⟨_, rfl, fun h => ka (by simpa using h), fun h => ?_⟩
  have h : isP a = true := by cases e : isP a <;> simp_all
  obtain ⟨Wb, kb, hd⟩ := hb h
  obtain ⟨i, rfl, i1⟩ := isP_int h
  refine ⟨Wb, fun e => kb (by cases b <;> first | rfl | cases e), fun e => ?_⟩
  obtain ⟨j, rfl⟩ := isI_int (by cases e2 : isI b <;> simp_all)
  refine ⟨j, rfl, fun j0 => ⟨j, rfl, i, rfl, fun e => kb (by simp [okB]; omega), fun ji => ?_⟩, fun e => kb (by simp [okB]; omega)⟩
  obtain ⟨Wd, kd, g⟩ := hd (by simp [okB]; omega)
  exact from1b Wd ⟨_, rfl, fun h => kd (by simpa using h), fun h => g (by cases e : isP d <;> simp_all)⟩
/-- a call of Lattice -/
def spLat (K : PySem.W.Frag) : Sp := fun vs H Q E => ∃ a b d, vs = [a, b, d] ∧ RL K H E a b d (NewsI H (ga K "Lattice") [("a", a), ("b", b), ("d", d)] Q)
def spLatI (K : PySem.W.Frag) : Sp := fun vs H Q E => ∃ p a b d, vs = [.ref p, a, b, d] ∧ ∃ dx, H p = some (.ins (ga K "Lattice") dx []) ∧
  RL K H E a b d (∀ H', (∀ b, b ≠ p → H' b = H b) → H' p = some (.ins (ga K "Lattice") dx [("a", a), ("b", b), ("d", d)]) → Q .non H')
theorem i_Lattice___init__ (T : Txt K mg) {f : Addr} {fd : FuncData} (F : FunD K "__init__" "Lattice.__init__" (defArgs s_Lattice___init__) (defBody s_Lattice___init__) (defScope s_Lattice___init__) [] [] f fd) : FnOk P w K mg base (L2.CX P w) 4 f fd ["self", "a", "b", "d"] (spLatI K) := by
  have o_require_lattice_numbers := o_require_lattice_numbers (P := P) (w := w) (base := base) T
  refine F.ok (CX := (L2.CX P w)) sc_Lattice___init__ (fun vs H Q E h => ?_) (fun cdv A outer s H vs Q E hr h => ?_)
  · first | (obtain ⟨_, rfl, _⟩ := h; rfl) | (obtain ⟨_, _, rfl, _⟩ := h; rfl) | (obtain ⟨_, _, _, rfl, _⟩ := h; rfl) | (obtain ⟨_, _, _, _, rfl, _⟩ := h; rfl) | (obtain ⟨_, _, _, _, _, rfl, _⟩ := h; rfl) | (obtain ⟨_, _, _, _, _, _, rfl, _⟩ := h; rfl) | (obtain ⟨_, _, _, _, _, _, _, rfl, _⟩ := h; rfl)
  have hu64 := hr.units
  refine ⟨_, (pss_cons (ps_expr (pcl o_require_lattice_numbers (hr.mono (by decide)) passE (pa_cons (pv 1) (pa_cons (pv 2) (pa_cons (pv 3) pa_nil)))))
      (pss_cons (ps_fldN T.c_Lattice T.na_Lattice_a (pv 0) (pv 1))
      (pss_cons (ps_fldN T.c_Lattice T.na_Lattice_b (pv 0) (pv 2))
      (pss_one (ps_fldN T.c_Lattice T.na_Lattice_d (pv 0) (pv 3)))))), ?_⟩
  obtain ⟨p, a, b, d, rfl, dx, hp, hR⟩ := h
  simp only [spRL, exists_and_left, tSl, tPart, tNoPart, rSlLN, rMax2, rMin2, gUnlN, tYes, rLenS, rRepN, cx_K, Value.ref.injEq, HO.xd.injEq, lk0, tSeq, tPar3, tPar, tCons, tNil, tVar, tC, tAsg, gName, gCons, gNil, gTupN, gSub, tOp, rI, rI0, rU, tTest, rNe, rEq, rIxTN, rIxLN, rLenL, rLenT, rIntI, rIntB, rAbs, rSetLN, tTruL, tRaiseX, rIsTy, rIsOw, ixN0, ixN1, tRet, tIf, tIfS, tNext, tBreak, tCont, tDrop, tTupN, tLstN, tUn, tCB, tCall, tNot, tAnd, tOr, tB, tAndV, tOrV, tNotV, tChain, tApp, LamX.tLam, tRevLN, rCatN, rInTN, rInLN, flatV, inV, List.all_cons, List.all_nil, List.any_cons, List.any_nil, Bool.and_self, Bool.and_true, if_true, Bool.false_eq_true, if_false, tMt, tFldN, tSto, HO.ins.injEq, lkh, List.drop_zero, List.drop_succ_cons, List.drop_nil, rListS, wipe, L2.start, List.map_cons, List.map_nil, List.length_cons, List.length_nil, List.replicate, List.cons_append, List.nil_append, List.append_nil, Nat.reduceAdd, Nat.reduceSub, Nat.zero_add, List.replicate_succ, List.replicate_zero, List.getElem?_cons_zero, List.getElem?_cons_succ, List.set_cons_zero, List.set_cons_succ, Option.some.injEq, V.int.injEq, V.bl.injEq, V.ref.injEq, V.str.injEq, V.ty.injEq, List.cons.injEq, HO.tup.injEq, HO.lst.injEq, and_true, true_and, and_assoc, exists_eq_left, exists_eq_left', exists_and_left, exists_eq', atI0, atI1, atI2, atI3, Int.cast_ofNat_Int, Int.reduceToNat, scal_ii, scal_in, scal_ni, scal_nn, scal_bb, scal_ss, scal_sn, scal_ns, scal_bn, scal_nb, ite_iff, decide_eq_true_eq, decide_eq_false_iff_not, Bool.not_eq_true', Classical.not_not, ne_eq, not_false_eq_true, not_true_eq_false, forall_const, true_implies, false_implies, imp_self, sizeLine_eq, Nat.reduceLeDiff, reduceCtorEq, decide_true, decide_false]
  refine hR.imp (fun _ _ h => h) fun _ _ _ k1 => ⟨dx, [], hp, by decide, fun H1 p1 => ⟨dx, _, p1.1, by rw [putF_nil]; exact (by decide : 1 < 1000), fun H2 p2 => ⟨dx, _, p2.1, ?_, fun H3 p3 => ?_⟩⟩⟩
  · rw [putF_nil, putF_cons (by decide +kernel), putF_nil]; exact (by decide : 2 < 1000)
  · refine k1 H3 (fun b hb => by rw [p3.2 b hb, p2.2 b hb, p1.2 b hb]) ?_
    rw [p3.1, putF_nil, putF_cons (by decide +kernel), putF_nil, putF_cons (by decide +kernel), putF_cons (by decide +kernel), putF_nil]
theorem o_Lattice (T : Txt K mg) : OkK P w K mg base (L2.CX P w) 4 "Lattice" ["a", "b", "d"] [] (spLat K) := by
  obtain ⟨f, fd, M, F⟩ := T.d_Lattice___init__
  refine ⟨f, fd, spLatI K, M, T.g_Lattice, b_Lattice___init__ F, i_Lattice___init__ T F, fun vs H Q E h p dx hp hdx hne => ?_⟩
  obtain ⟨a, b, d, rfl, hR⟩ := h
  have s := same_made (H' := upd (upd H dx (.own p)) p (.ins (ga K "Lattice") dx [])) hp hdx fun b _ => rfl
  exact ⟨p, a, b, d, rfl, dx, upd_same, hR.imp s fun _ _ _ k H' hk hp' => ⟨rfl, k p dx H' hp (same_made hp hdx hk) hp'⟩⟩
/-- the lattice at p -/
abbrev LAt (K : PySem.W.Frag) (H : Hp) (p dx : Addr) (a b d : Int) : Prop := H p = some (.ins (ga K "Lattice") dx [("a", .int a), ("b", .int b), ("d", .int d)])
def spArea (K : PySem.W.Frag) : Sp := fun vs H Q _ => ∃ p, vs = [.ref p] ∧ ∃ dx a b d, LAt K H p dx a b d ∧ LB a b d ∧ Q (.int (a * d)) H
theorem o_Lattice_area (T : Txt K mg) : OkM P w K mg base CX0 1 "Lattice" "area" ["self"] [] (spArea K) := by
  obtain ⟨f, fd, M, F⟩ := T.d_Lattice_area
  refine ⟨f, fd, M, b_Lattice_area F, F.ok (CX := CX0) sc_Lattice_area (fun vs H Q E h => ?_) (fun cdv A outer s H vs Q E hr h => ?_)⟩
  · first | (obtain ⟨_, rfl, _⟩ := h; rfl) | (obtain ⟨_, _, rfl, _⟩ := h; rfl) | (obtain ⟨_, _, _, rfl, _⟩ := h; rfl) | (obtain ⟨_, _, _, _, rfl, _⟩ := h; rfl) | (obtain ⟨_, _, _, _, _, rfl, _⟩ := h; rfl) | (obtain ⟨_, _, _, _, _, _, rfl, _⟩ := h; rfl) | (obtain ⟨_, _, _, _, _, _, _, rfl, _⟩ := h; rfl)
  have hu64 := hr.units
  refine ⟨_, PSs.nox (pss_one (ps_ret (pe_op op_mulW (pe_fldN T.c_Lattice T.na_Lattice_a (pv 0)) (pe_fldN T.c_Lattice T.na_Lattice_d (pv 0))))), ?_⟩
  obtain ⟨p, rfl, dx, a, b, d, hp, B, k⟩ := h
  simp only [exists_and_left, hp, lkLa, lkLb, lkLd, lkLn_area, lkLn_place, lkLn_order, lkLn_places, tSl, tPart, tNoPart, rSlLN, rMax2, rMin2, gUnlN, tYes, rLenS, rRepN, cx_K, Value.ref.injEq, HO.xd.injEq, lk0, tSeq, tPar3, tPar, tCons, tNil, tVar, tC, tAsg, gName, gCons, gNil, gTupN, gSub, tOp, rI, rI0, rU, tTest, rNe, rEq, rIxTN, rIxLN, rLenL, rLenT, rIntI, rIntB, rAbs, rSetLN, tTruL, tRaiseX, rIsTy, rIsOw, ixN0, ixN1, tRet, tIf, tIfS, tNext, tBreak, tCont, tDrop, tTupN, tLstN, tUn, tCB, tCall, tNot, tAnd, tOr, tB, tAndV, tOrV, tNotV, tChain, tApp, LamX.tLam, tRevLN, rCatN, rInTN, rInLN, flatV, inV, List.all_cons, List.all_nil, List.any_cons, List.any_nil, Bool.and_self, Bool.and_true, if_true, Bool.false_eq_true, if_false, tMt, tFldN, tSto, HO.ins.injEq, lkh, List.drop_zero, List.drop_succ_cons, List.drop_nil, rListS, wipe, L2.start, List.map_cons, List.map_nil, List.length_cons, List.length_nil, List.replicate, List.cons_append, List.nil_append, List.append_nil, Nat.reduceAdd, Nat.reduceSub, Nat.zero_add, List.replicate_succ, List.replicate_zero, List.getElem?_cons_zero, List.getElem?_cons_succ, List.set_cons_zero, List.set_cons_succ, Option.some.injEq, V.int.injEq, V.bl.injEq, V.ref.injEq, V.str.injEq, V.ty.injEq, List.cons.injEq, HO.tup.injEq, HO.lst.injEq, and_true, true_and, and_assoc, exists_eq_left, exists_eq_left', exists_and_left, exists_eq', atI0, atI1, atI2, atI3, Int.cast_ofNat_Int, Int.reduceToNat, scal_ii, scal_in, scal_ni, scal_nn, scal_bb, scal_ss, scal_sn, scal_ns, scal_bn, scal_nb, ite_iff, decide_eq_true_eq, decide_eq_false_iff_not, Bool.not_eq_true', Classical.not_not, ne_eq, not_false_eq_true, not_true_eq_false, forall_const, true_implies, false_implies, imp_self, sizeLine_eq, Nat.reduceLeDiff, reduceCtorEq, decide_true, decide_false]
  exact ⟨wide_mul B.aS B.dS (by decide) (by decide) (by decide), k⟩
def Small (n : Nat) (q : Option (Int × Int)) : Prop := ∀ x y, q = some (x, y) → x.natAbs < 2 ^ n ∧ y.natAbs < 2 ^ n
def spPlace (K : PySem.W.Frag) : Sp := fun vs H Q E => ∃ p v, vs = [.ref p, v] ∧ ∃ dx a b d, LAt K H p dx a b d ∧ LB a b d ∧ PairK K H v ∧ (pairV H v = none → Rse K E H "BadPart" "part" (.str "cell")) ∧ Small 2000 (pairV H v) ∧
  ∀ x y, pairV H v = some (x, y) → ∀ t H', Same H H' → P2 H' t (plX a b d x y) (plY d y) → Q (.ref t) H'
theorem o_Lattice_place (T : Txt K mg) : OkM P w K mg base (L2.CX P w) 4 "Lattice" "place" ["self", "cell"] [] (spPlace K) := by
  have o_require_pair := o_require_pair (P := P) (w := w) (base := base) T
  obtain ⟨f, fd, M, F⟩ := T.d_Lattice_place
  refine ⟨f, fd, M, b_Lattice_place F, F.ok (CX := (L2.CX P w)) sc_Lattice_place (fun vs H Q E h => ?_) (fun cdv A outer s H vs Q E hr h => ?_)⟩
  · first | (obtain ⟨_, rfl, _⟩ := h; rfl) | (obtain ⟨_, _, rfl, _⟩ := h; rfl) | (obtain ⟨_, _, _, rfl, _⟩ := h; rfl) | (obtain ⟨_, _, _, _, rfl, _⟩ := h; rfl) | (obtain ⟨_, _, _, _, _, rfl, _⟩ := h; rfl) | (obtain ⟨_, _, _, _, _, _, rfl, _⟩ := h; rfl) | (obtain ⟨_, _, _, _, _, _, _, rfl, _⟩ := h; rfl)
  have hu64 := hr.units
  refine ⟨_, (pss_cons (ps_expr (pcl o_require_pair (hr.mono (by decide)) passE (pa_cons (pv 1) (pa_cons (pe_str) pa_nil))))
      (pss_cons (ps_asg (pv 1) (pg_tupN (n := 2) (by rfl) (pgs_cons (pg_name (i := 2) sc_Lattice_place.nd rfl (Or.inl rfl)) (pgs_cons (pg_name (i := 3) sc_Lattice_place.nd rfl (Or.inl rfl)) pgs_nil))))
      (pss_cons (ps_set (i := 4) sc_Lattice_place.nd rfl (Or.inl rfl) (pe_op op_fdivW (pv 3) (pe_fldN T.c_Lattice T.na_Lattice_d (pv 0))))
      (pss_one (ps_ret (pe_tupN (pa_cons (pe_op op_mod (pe_op op_sub (pv 2) (pe_op op_mulW (pe_fldN T.c_Lattice T.na_Lattice_b (pv 0)) (pv 4))) (pe_fldN T.c_Lattice T.na_Lattice_a (pv 0))) (pa_cons (pe_op op_sub (pv 3) (pe_op op_mulW (pe_fldN T.c_Lattice T.na_Lattice_d (pv 0)) (pv 4))) pa_nil)))))))), ?_⟩
  obtain ⟨p, v, rfl, dx, a, b, d, hp, B, hk, kn, ks, k⟩ := h
  simp only [spReqP, exists_and_left, tSl, tPart, tNoPart, rSlLN, rMax2, rMin2, gUnlN, tYes, rLenS, rRepN, cx_K, Value.ref.injEq, HO.xd.injEq, lk0, tSeq, tPar3, tPar, tCons, tNil, tVar, tC, tAsg, gName, gCons, gNil, gTupN, gSub, tOp, rI, rI0, rU, tTest, rNe, rEq, rIxTN, rIxLN, rLenL, rLenT, rIntI, rIntB, rAbs, rSetLN, tTruL, tRaiseX, rIsTy, rIsOw, ixN0, ixN1, tRet, tIf, tIfS, tNext, tBreak, tCont, tDrop, tTupN, tLstN, tUn, tCB, tCall, tNot, tAnd, tOr, tB, tAndV, tOrV, tNotV, tChain, tApp, LamX.tLam, tRevLN, rCatN, rInTN, rInLN, flatV, inV, List.all_cons, List.all_nil, List.any_cons, List.any_nil, Bool.and_self, Bool.and_true, if_true, Bool.false_eq_true, if_false, tMt, tFldN, tSto, HO.ins.injEq, lkh, List.drop_zero, List.drop_succ_cons, List.drop_nil, rListS, wipe, L2.start, List.map_cons, List.map_nil, List.length_cons, List.length_nil, List.replicate, List.cons_append, List.nil_append, List.append_nil, Nat.reduceAdd, Nat.reduceSub, Nat.zero_add, List.replicate_succ, List.replicate_zero, List.getElem?_cons_zero, List.getElem?_cons_succ, List.set_cons_zero, List.set_cons_succ, Option.some.injEq, V.int.injEq, V.bl.injEq, V.ref.injEq, V.str.injEq, V.ty.injEq, List.cons.injEq, HO.tup.injEq, HO.lst.injEq, and_true, true_and, and_assoc, exists_eq_left, exists_eq_left', exists_and_left, exists_eq', atI0, atI1, atI2, atI3, Int.cast_ofNat_Int, Int.reduceToNat, scal_ii, scal_in, scal_ni, scal_nn, scal_bb, scal_ss, scal_sn, scal_ns, scal_bn, scal_nb, ite_iff, decide_eq_true_eq, decide_eq_false_iff_not, Bool.not_eq_true', Classical.not_not, ne_eq, not_false_eq_true, not_true_eq_false, forall_const, true_implies, false_implies, imp_self, sizeLine_eq, Nat.reduceLeDiff, reduceCtorEq, decide_true, decide_false]
  refine ⟨hk, fun h => ?_, kn⟩
  obtain ⟨⟨x, y⟩, e⟩ := Option.isSome_iff_exists.mp h
  obtain ⟨t, rfl, ht⟩ := pairV_some e
  obtain ⟨xs, ys⟩ := ks x y e
  have hd : d.natAbs < 2 ^ 500 := B.dS
  have hq : (y / d).natAbs < 2 ^ 2000 := Nat.lt_of_le_of_lt (Int.natAbs_ediv_le_natAbs _ _) ys
  have d0 : 0 < d := by have := B.d1; omega
  have a0 : 0 < a := by have := B.a1; omega
  have ht' : H t = some (.tup [.int x, .int y]) := ht
  simp only [ht', hp, lkLa, lkLb, lkLd, lkLn_area, lkLn_place, lkLn_order, lkLn_places, exists_and_left, tSl, tPart, tNoPart, rSlLN, rMax2, rMin2, gUnlN, tYes, rLenS, rRepN, cx_K, Value.ref.injEq, HO.xd.injEq, lk0, tSeq, tPar3, tPar, tCons, tNil, tVar, tC, tAsg, gName, gCons, gNil, gTupN, gSub, tOp, rI, rI0, rU, tTest, rNe, rEq, rIxTN, rIxLN, rLenL, rLenT, rIntI, rIntB, rAbs, rSetLN, tTruL, tRaiseX, rIsTy, rIsOw, ixN0, ixN1, tRet, tIf, tIfS, tNext, tBreak, tCont, tDrop, tTupN, tLstN, tUn, tCB, tCall, tNot, tAnd, tOr, tB, tAndV, tOrV, tNotV, tChain, tApp, LamX.tLam, tRevLN, rCatN, rInTN, rInLN, flatV, inV, List.all_cons, List.all_nil, List.any_cons, List.any_nil, Bool.and_self, Bool.and_true, if_true, Bool.false_eq_true, if_false, tMt, tFldN, tSto, HO.ins.injEq, lkh, List.drop_zero, List.drop_succ_cons, List.drop_nil, rListS, wipe, L2.start, List.map_cons, List.map_nil, List.length_cons, List.length_nil, List.replicate, List.cons_append, List.nil_append, List.append_nil, Nat.reduceAdd, Nat.reduceSub, Nat.zero_add, List.replicate_succ, List.replicate_zero, List.getElem?_cons_zero, List.getElem?_cons_succ, List.set_cons_zero, List.set_cons_succ, Option.some.injEq, V.int.injEq, V.bl.injEq, V.ref.injEq, V.str.injEq, V.ty.injEq, List.cons.injEq, HO.tup.injEq, HO.lst.injEq, and_true, true_and, and_assoc, exists_eq_left, exists_eq_left', exists_and_left, exists_eq', atI0, atI1, atI2, atI3, Int.cast_ofNat_Int, Int.reduceToNat, scal_ii, scal_in, scal_ni, scal_nn, scal_bb, scal_ss, scal_sn, scal_ns, scal_bn, scal_nb, ite_iff, decide_eq_true_eq, decide_eq_false_iff_not, Bool.not_eq_true', Classical.not_not, ne_eq, not_false_eq_true, not_true_eq_false, forall_const, true_implies, false_implies, imp_self, sizeLine_eq, Nat.reduceLeDiff, reduceCtorEq, decide_true, decide_false]
  refine ⟨wide_div d0 hd (by decide) (by decide), wide_mul B.bS hq (by decide) (by decide) (by decide), a0, wide_mul hd hq (by decide) (by decide) (by decide), ?_⟩
  exact fun q H' _ s hq => k x y e q H' s hq
def spCont (K : PySem.W.Frag) : Sp := fun vs H Q _ => ∃ p v, vs = [.ref p, v] ∧ ∃ dx a b d, LAt K H p dx a b d ∧ LB a b d ∧ PairK K H v ∧ Small 2000 (pairV H v) ∧ ∀ H', Same H H' → Q (.bl (inL a b d (pairV H v))) H'
theorem o_Lattice___contains__ (T : Txt K mg) : OkM P w K mg base (L2.CX P w) 5 "Lattice" "__contains__" ["self", "shift"] [] (spCont K) := by
  have o_is_shift := o_is_shift (P := P) (w := w) (base := base) T
  have o_Lattice_place := o_Lattice_place (P := P) (w := w) (base := base) T
  obtain ⟨f, fd, M, F⟩ := T.d_Lattice___contains__
  refine ⟨f, fd, M, b_Lattice___contains__ F, F.ok (CX := (L2.CX P w)) sc_Lattice___contains__ (fun vs H Q E h => ?_) (fun cdv A outer s H vs Q E hr h => ?_)⟩
  · first | (obtain ⟨_, rfl, _⟩ := h; rfl) | (obtain ⟨_, _, rfl, _⟩ := h; rfl) | (obtain ⟨_, _, _, rfl, _⟩ := h; rfl) | (obtain ⟨_, _, _, _, rfl, _⟩ := h; rfl) | (obtain ⟨_, _, _, _, _, rfl, _⟩ := h; rfl) | (obtain ⟨_, _, _, _, _, _, rfl, _⟩ := h; rfl) | (obtain ⟨_, _, _, _, _, _, _, rfl, _⟩ := h; rfl)
  have hu64 := hr.units
  refine ⟨_, (pss_one (ps_ret (pe_and (pcl o_is_shift (hr.mono (by decide)) pass0 (pa_cons (pv 1) pa_nil)) (pe_one (pe_cmpR (op_eqDk (K := K) rfl hu64) (pmt (j := 0) o_Lattice_place T.c_Lattice (pv 0) (by decide) (hr.mono (by decide)) passE (pa_cons (pv 1) pa_nil)) (pe_tupN (pa_cons (pe_int) (pa_cons (pe_int) pa_nil))) (nomark _)))))), ?_⟩
  obtain ⟨p, v, rfl, dx, a, b, d, hp, B, hk, ks, k⟩ := h
  simp only [spPair, hp, lkLa, lkLb, lkLd, lkLn_area, lkLn_place, lkLn_order, lkLn_places, exists_and_left, tSl, tPart, tNoPart, rSlLN, rMax2, rMin2, gUnlN, tYes, rLenS, rRepN, cx_K, Value.ref.injEq, HO.xd.injEq, lk0, tSeq, tPar3, tPar, tCons, tNil, tVar, tC, tAsg, gName, gCons, gNil, gTupN, gSub, tOp, rI, rI0, rU, tTest, rNe, rEq, rIxTN, rIxLN, rLenL, rLenT, rIntI, rIntB, rAbs, rSetLN, tTruL, tRaiseX, rIsTy, rIsOw, ixN0, ixN1, tRet, tIf, tIfS, tNext, tBreak, tCont, tDrop, tTupN, tLstN, tUn, tCB, tCall, tNot, tAnd, tOr, tB, tAndV, tOrV, tNotV, tChain, tApp, LamX.tLam, tRevLN, rCatN, rInTN, rInLN, flatV, inV, List.all_cons, List.all_nil, List.any_cons, List.any_nil, Bool.and_self, Bool.and_true, if_true, Bool.false_eq_true, if_false, tMt, tFldN, tSto, HO.ins.injEq, lkh, List.drop_zero, List.drop_succ_cons, List.drop_nil, rListS, wipe, L2.start, List.map_cons, List.map_nil, List.length_cons, List.length_nil, List.replicate, List.cons_append, List.nil_append, List.append_nil, Nat.reduceAdd, Nat.reduceSub, Nat.zero_add, List.replicate_succ, List.replicate_zero, List.getElem?_cons_zero, List.getElem?_cons_succ, List.set_cons_zero, List.set_cons_succ, Option.some.injEq, V.int.injEq, V.bl.injEq, V.ref.injEq, V.str.injEq, V.ty.injEq, List.cons.injEq, HO.tup.injEq, HO.lst.injEq, and_true, true_and, and_assoc, exists_eq_left, exists_eq_left', exists_and_left, exists_eq', atI0, atI1, atI2, atI3, Int.cast_ofNat_Int, Int.reduceToNat, scal_ii, scal_in, scal_ni, scal_nn, scal_bb, scal_ss, scal_sn, scal_ns, scal_bn, scal_nb, ite_iff, decide_eq_true_eq, decide_eq_false_iff_not, Bool.not_eq_true', Classical.not_not, ne_eq, not_false_eq_true, not_true_eq_false, forall_const, true_implies, false_implies, imp_self, sizeLine_eq, Nat.reduceLeDiff, reduceCtorEq, decide_true, decide_false]
  cases e : pairV H v with
  | none => 
    rw [e] at k
    exact ⟨hk, fun h => (by simp at h), fun _ => k H fun _ _ h => h⟩
  | some q =>
    obtain ⟨x, y⟩ := q
    rw [e] at k
    refine ⟨hk, fun _ => ⟨p, v, rfl, dx, a, b, d, hp, B, hk, fun h => (by rw [e] at h; cases h), ks, fun x' y' e' t H1 s1 h1 => ?_⟩, fun h => absurd rfl h⟩
    rw [e] at e'; cases e'
    intro t2 H2 _ s2 h2
    exact eq_P2 (s2 _ _ h1) h2 (k H2 (s1.trans s2))
/-- v is no Lattice -/
def NoL (K : PySem.W.Frag) (H : Hp) (v : V) : Prop := ∃ t, TyX K H v t ∧ PySem.W.kitOne K t (.ref (ga K "Lattice")) = some false
def spLEq (K : PySem.W.Frag) : Sp := fun vs H Q _ => ∃ p v, vs = [.ref p, v] ∧ ∃ dx a b d, LAt K H p dx a b d ∧ ((NoL K H v ∧ Q (.bl false) H) ∨ ∃ p2 dx2 a2 b2 d2, v = .ref p2 ∧ LAt K H p2 dx2 a2 b2 d2 ∧ Q (.bl (decide (a = a2 ∧ b = b2 ∧ d = d2))) H)
theorem o_Lattice___eq__ (T : Txt K mg) : OkM P w K mg base CX0 1 "Lattice" "__eq__" ["self", "other"] [] (spLEq K) := by
  obtain ⟨f, fd, M, F⟩ := T.d_Lattice___eq__
  refine ⟨f, fd, M, b_Lattice___eq__ F, F.ok (CX := CX0) sc_Lattice___eq__ (fun vs H Q E h => ?_) (fun cdv A outer s H vs Q E hr h => ?_)⟩
  · first | (obtain ⟨_, rfl, _⟩ := h; rfl) | (obtain ⟨_, _, rfl, _⟩ := h; rfl) | (obtain ⟨_, _, _, rfl, _⟩ := h; rfl) | (obtain ⟨_, _, _, _, rfl, _⟩ := h; rfl) | (obtain ⟨_, _, _, _, _, rfl, _⟩ := h; rfl) | (obtain ⟨_, _, _, _, _, _, rfl, _⟩ := h; rfl) | (obtain ⟨_, _, _, _, _, _, _, rfl, _⟩ := h; rfl)
  have hu64 := hr.units
  refine ⟨_, PSs.nox (pss_one (ps_ret (pe_and (pe_callB call_isOw (by rfl) T.m_isinstance (by decide +kernel) (pa_cons (pv 1) (pa_cons ((pe_glob (v := .ref (ga K "Lattice")) (by rfl) T.g_Lattice rfl)) pa_nil))) (pe_and (pe_cmpR op_eq (pe_fldN T.c_Lattice T.na_Lattice_a (pv 0)) (pe_fldN T.c_Lattice T.na_Lattice_a (pv 1)) (nomark _)) (pe_and (pe_cmpR op_eq (pe_fldN T.c_Lattice T.na_Lattice_b (pv 0)) (pe_fldN T.c_Lattice T.na_Lattice_b (pv 1)) (nomark _)) (pe_one (pe_cmpR op_eq (pe_fldN T.c_Lattice T.na_Lattice_d (pv 0)) (pe_fldN T.c_Lattice T.na_Lattice_d (pv 1)) (nomark _)))))))), ?_⟩
  obtain ⟨p, v, rfl, dx, a, b, d, hp, hk⟩ := h
  simp only [hp, lkLa, lkLb, lkLd, lkLn_area, lkLn_place, lkLn_order, lkLn_places, exists_and_left, tSl, tPart, tNoPart, rSlLN, rMax2, rMin2, gUnlN, tYes, rLenS, rRepN, cx_K, Value.ref.injEq, HO.xd.injEq, lk0, tSeq, tPar3, tPar, tCons, tNil, tVar, tC, tAsg, gName, gCons, gNil, gTupN, gSub, tOp, rI, rI0, rU, tTest, rNe, rEq, rIxTN, rIxLN, rLenL, rLenT, rIntI, rIntB, rAbs, rSetLN, tTruL, tRaiseX, rIsTy, rIsOw, ixN0, ixN1, tRet, tIf, tIfS, tNext, tBreak, tCont, tDrop, tTupN, tLstN, tUn, tCB, tCall, tNot, tAnd, tOr, tB, tAndV, tOrV, tNotV, tChain, tApp, LamX.tLam, tRevLN, rCatN, rInTN, rInLN, flatV, inV, List.all_cons, List.all_nil, List.any_cons, List.any_nil, Bool.and_self, Bool.and_true, if_true, Bool.false_eq_true, if_false, tMt, tFldN, tSto, HO.ins.injEq, lkh, List.drop_zero, List.drop_succ_cons, List.drop_nil, rListS, wipe, L2.start, List.map_cons, List.map_nil, List.length_cons, List.length_nil, List.replicate, List.cons_append, List.nil_append, List.append_nil, Nat.reduceAdd, Nat.reduceSub, Nat.zero_add, List.replicate_succ, List.replicate_zero, List.getElem?_cons_zero, List.getElem?_cons_succ, List.set_cons_zero, List.set_cons_succ, Option.some.injEq, V.int.injEq, V.bl.injEq, V.ref.injEq, V.str.injEq, V.ty.injEq, List.cons.injEq, HO.tup.injEq, HO.lst.injEq, and_true, true_and, and_assoc, exists_eq_left, exists_eq_left', exists_and_left, exists_eq', atI0, atI1, atI2, atI3, Int.cast_ofNat_Int, Int.reduceToNat, scal_ii, scal_in, scal_ni, scal_nn, scal_bb, scal_ss, scal_sn, scal_ns, scal_bn, scal_nb, ite_iff, decide_eq_true_eq, decide_eq_false_iff_not, Bool.not_eq_true', Classical.not_not, ne_eq, not_false_eq_true, not_true_eq_false, forall_const, true_implies, false_implies, imp_self, sizeLine_eq, Nat.reduceLeDiff, reduceCtorEq, decide_true, decide_false]
  rcases hk with ⟨⟨t, ty, e⟩, k⟩ | ⟨p2, dx2, a2, b2, d2, rfl, h2, k⟩
  · exact ⟨t, ty, false, e, fun h => (by cases h), fun _ => k⟩
  · refine ⟨_, T.ci_Lattice.ty h2, true, kit_self, fun _ => ?_, fun h => absurd rfl h⟩
    simp only [h2, lkLa, lkLb, lkLd, lkLn_area, lkLn_place, lkLn_order, lkLn_places, exists_and_left, tSl, tPart, tNoPart, rSlLN, rMax2, rMin2, gUnlN, tYes, rLenS, rRepN, cx_K, Value.ref.injEq, HO.xd.injEq, lk0, tSeq, tPar3, tPar, tCons, tNil, tVar, tC, tAsg, gName, gCons, gNil, gTupN, gSub, tOp, rI, rI0, rU, tTest, rNe, rEq, rIxTN, rIxLN, rLenL, rLenT, rIntI, rIntB, rAbs, rSetLN, tTruL, tRaiseX, rIsTy, rIsOw, ixN0, ixN1, tRet, tIf, tIfS, tNext, tBreak, tCont, tDrop, tTupN, tLstN, tUn, tCB, tCall, tNot, tAnd, tOr, tB, tAndV, tOrV, tNotV, tChain, tApp, LamX.tLam, tRevLN, rCatN, rInTN, rInLN, flatV, inV, List.all_cons, List.all_nil, List.any_cons, List.any_nil, Bool.and_self, Bool.and_true, if_true, Bool.false_eq_true, if_false, tMt, tFldN, tSto, HO.ins.injEq, lkh, List.drop_zero, List.drop_succ_cons, List.drop_nil, rListS, wipe, L2.start, List.map_cons, List.map_nil, List.length_cons, List.length_nil, List.replicate, List.cons_append, List.nil_append, List.append_nil, Nat.reduceAdd, Nat.reduceSub, Nat.zero_add, List.replicate_succ, List.replicate_zero, List.getElem?_cons_zero, List.getElem?_cons_succ, List.set_cons_zero, List.set_cons_succ, Option.some.injEq, V.int.injEq, V.bl.injEq, V.ref.injEq, V.str.injEq, V.ty.injEq, List.cons.injEq, HO.tup.injEq, HO.lst.injEq, and_true, true_and, and_assoc, exists_eq_left, exists_eq_left', exists_and_left, exists_eq', atI0, atI1, atI2, atI3, Int.cast_ofNat_Int, Int.reduceToNat, scal_ii, scal_in, scal_ni, scal_nn, scal_bb, scal_ss, scal_sn, scal_ns, scal_bn, scal_nb, ite_iff, decide_eq_true_eq, decide_eq_false_iff_not, Bool.not_eq_true', Classical.not_not, ne_eq, not_false_eq_true, not_true_eq_false, forall_const, true_implies, false_implies, imp_self, sizeLine_eq, Nat.reduceLeDiff, reduceCtorEq, decide_true, decide_false]
    by_cases h1 : a = a2 <;> by_cases h3 : b = b2 <;> by_cases h4 : d = d2 <;> simp_all
def spLLe (K : PySem.W.Frag) : Sp := fun vs H Q _ => ∃ p v, vs = [.ref p, v] ∧ ∃ dx a b d, LAt K H p dx a b d ∧ LB a b d ∧ ((NoL K H v ∧ Q (.bl false) H) ∨ ∃ p2 dx2 a2 b2 d2, v = .ref p2 ∧ LAt K H p2 dx2 a2 b2 d2 ∧ LB a2 b2 d2 ∧
  ∀ H', Same H H' → Q (.bl (inL a2 b2 d2 (some (a, 0)) && inL a2 b2 d2 (some (b, d)))) H')
theorem o_Lattice___le__ (T : Txt K mg) : OkM P w K mg base (L2.CX P w) 6 "Lattice" "__le__" ["self", "other"] [] (spLLe K) := by
  have o_Lattice___contains__ := o_Lattice___contains__ (P := P) (w := w) (base := base) T
  obtain ⟨f, fd, M, F⟩ := T.d_Lattice___le__
  refine ⟨f, fd, M, b_Lattice___le__ F, F.ok (CX := (L2.CX P w)) sc_Lattice___le__ (fun vs H Q E h => ?_) (fun cdv A outer s H vs Q E hr h => ?_)⟩
  · first | (obtain ⟨_, rfl, _⟩ := h; rfl) | (obtain ⟨_, _, rfl, _⟩ := h; rfl) | (obtain ⟨_, _, _, rfl, _⟩ := h; rfl) | (obtain ⟨_, _, _, _, rfl, _⟩ := h; rfl) | (obtain ⟨_, _, _, _, _, rfl, _⟩ := h; rfl) | (obtain ⟨_, _, _, _, _, _, rfl, _⟩ := h; rfl) | (obtain ⟨_, _, _, _, _, _, _, rfl, _⟩ := h; rfl)
  have hu64 := hr.units
  refine ⟨_, (pss_one (ps_ret (pe_and (pe_callB call_isOw (by rfl) T.m_isinstance (by decide +kernel) (pa_cons (pv 1) (pa_cons ((pe_glob (v := .ref (ga K "Lattice")) (by rfl) T.g_Lattice rfl)) pa_nil))) (pe_and (pe_cmpR (op_ownIn o_Lattice___contains__ (hr.mono (by decide)) passE) (pe_tupN (pa_cons (pe_fldN T.c_Lattice T.na_Lattice_a (pv 0)) (pa_cons (pe_int) pa_nil))) (pv 1) (by rfl)) (pe_one (pe_cmpR (op_ownIn o_Lattice___contains__ (hr.mono (by decide)) passE) (pe_tupN (pa_cons (pe_fldN T.c_Lattice T.na_Lattice_b (pv 0)) (pa_cons (pe_fldN T.c_Lattice T.na_Lattice_d (pv 0)) pa_nil))) (pv 1) (by rfl))))))), ?_⟩
  obtain ⟨p, v, rfl, dx, a, b, d, hp, B, hk⟩ := h
  simp only [hp, lkLa, lkLb, lkLd, lkLn_area, lkLn_place, lkLn_order, lkLn_places, exists_and_left, tSl, tPart, tNoPart, rSlLN, rMax2, rMin2, gUnlN, tYes, rLenS, rRepN, cx_K, Value.ref.injEq, HO.xd.injEq, lk0, tSeq, tPar3, tPar, tCons, tNil, tVar, tC, tAsg, gName, gCons, gNil, gTupN, gSub, tOp, rI, rI0, rU, tTest, rNe, rEq, rIxTN, rIxLN, rLenL, rLenT, rIntI, rIntB, rAbs, rSetLN, tTruL, tRaiseX, rIsTy, rIsOw, ixN0, ixN1, tRet, tIf, tIfS, tNext, tBreak, tCont, tDrop, tTupN, tLstN, tUn, tCB, tCall, tNot, tAnd, tOr, tB, tAndV, tOrV, tNotV, tChain, tApp, LamX.tLam, tRevLN, rCatN, rInTN, rInLN, flatV, inV, List.all_cons, List.all_nil, List.any_cons, List.any_nil, Bool.and_self, Bool.and_true, if_true, Bool.false_eq_true, if_false, tMt, tFldN, tSto, HO.ins.injEq, lkh, List.drop_zero, List.drop_succ_cons, List.drop_nil, rListS, wipe, L2.start, List.map_cons, List.map_nil, List.length_cons, List.length_nil, List.replicate, List.cons_append, List.nil_append, List.append_nil, Nat.reduceAdd, Nat.reduceSub, Nat.zero_add, List.replicate_succ, List.replicate_zero, List.getElem?_cons_zero, List.getElem?_cons_succ, List.set_cons_zero, List.set_cons_succ, Option.some.injEq, V.int.injEq, V.bl.injEq, V.ref.injEq, V.str.injEq, V.ty.injEq, List.cons.injEq, HO.tup.injEq, HO.lst.injEq, and_true, true_and, and_assoc, exists_eq_left, exists_eq_left', exists_and_left, exists_eq', atI0, atI1, atI2, atI3, Int.cast_ofNat_Int, Int.reduceToNat, scal_ii, scal_in, scal_ni, scal_nn, scal_bb, scal_ss, scal_sn, scal_ns, scal_bn, scal_nb, ite_iff, decide_eq_true_eq, decide_eq_false_iff_not, Bool.not_eq_true', Classical.not_not, ne_eq, not_false_eq_true, not_true_eq_false, forall_const, true_implies, false_implies, imp_self, sizeLine_eq, Nat.reduceLeDiff, reduceCtorEq, decide_true, decide_false]
  rcases hk with ⟨⟨t, ty, e⟩, k⟩ | ⟨p2, dx2, a2, b2, d2, rfl, h2, B2, k⟩
  · exact ⟨t, ty, false, e, fun h => (by cases h), fun _ => k⟩
  · refine ⟨_, T.ci_Lattice.ty h2, true, kit_self, fun _ => ?_, fun h => absurd rfl h⟩
    intro t1 H1 _ s1 h1
    have sm : ∀ {z : Int}, z.natAbs < 2 ^ 500 → z.natAbs < 2 ^ 2000 := fun h => pow_small h (by decide)
    have p2' := s1 _ _ h2
    refine own_in p2' ⟨p2, _, rfl, dx2, a2, b2, d2, p2', B2, P2.k h1, ?_, fun H2 s2 => ?_⟩
    · intro x y e; rw [pairV_of h1] at e; cases e; exact ⟨sm B.aS, by decide +kernel⟩
    rw [pairV_of h1]
    have hp2 := s2 _ _ (s1 _ _ hp)
    simp only [hp2, lkLa, lkLb, lkLd, lkLn_area, lkLn_place, lkLn_order, lkLn_places, exists_and_left, tSl, tPart, tNoPart, rSlLN, rMax2, rMin2, gUnlN, tYes, rLenS, rRepN, cx_K, Value.ref.injEq, HO.xd.injEq, lk0, tSeq, tPar3, tPar, tCons, tNil, tVar, tC, tAsg, gName, gCons, gNil, gTupN, gSub, tOp, rI, rI0, rU, tTest, rNe, rEq, rIxTN, rIxLN, rLenL, rLenT, rIntI, rIntB, rAbs, rSetLN, tTruL, tRaiseX, rIsTy, rIsOw, ixN0, ixN1, tRet, tIf, tIfS, tNext, tBreak, tCont, tDrop, tTupN, tLstN, tUn, tCB, tCall, tNot, tAnd, tOr, tB, tAndV, tOrV, tNotV, tChain, tApp, LamX.tLam, tRevLN, rCatN, rInTN, rInLN, flatV, inV, List.all_cons, List.all_nil, List.any_cons, List.any_nil, Bool.and_self, Bool.and_true, if_true, Bool.false_eq_true, if_false, tMt, tFldN, tSto, HO.ins.injEq, lkh, List.drop_zero, List.drop_succ_cons, List.drop_nil, rListS, wipe, L2.start, List.map_cons, List.map_nil, List.length_cons, List.length_nil, List.replicate, List.cons_append, List.nil_append, List.append_nil, Nat.reduceAdd, Nat.reduceSub, Nat.zero_add, List.replicate_succ, List.replicate_zero, List.getElem?_cons_zero, List.getElem?_cons_succ, List.set_cons_zero, List.set_cons_succ, Option.some.injEq, V.int.injEq, V.bl.injEq, V.ref.injEq, V.str.injEq, V.ty.injEq, List.cons.injEq, HO.tup.injEq, HO.lst.injEq, and_true, true_and, and_assoc, exists_eq_left, exists_eq_left', exists_and_left, exists_eq', atI0, atI1, atI2, atI3, Int.cast_ofNat_Int, Int.reduceToNat, scal_ii, scal_in, scal_ni, scal_nn, scal_bb, scal_ss, scal_sn, scal_ns, scal_bn, scal_nb, ite_iff, decide_eq_true_eq, decide_eq_false_iff_not, Bool.not_eq_true', Classical.not_not, ne_eq, not_false_eq_true, not_true_eq_false, forall_const, true_implies, false_implies, imp_self, sizeLine_eq, Nat.reduceLeDiff, reduceCtorEq, decide_true, decide_false]
    refine ⟨fun h => ?_, fun h => ?_⟩
    · intro t3 H3 _ s3 h3
      have p3' := s3 _ _ (s2 _ _ p2')
      refine own_in p3' ⟨p2, _, rfl, dx2, a2, b2, d2, p3', B2, P2.k h3, ?_, fun H4 s4 => ?_⟩
      · intro x y e; rw [pairV_of h3] at e; cases e; exact ⟨sm B.bS, sm B.dS⟩
      rw [pairV_of h3]
      have := k H4 (((s1.trans s2).trans s3).trans s4)
      rw [h, Bool.true_and] at this
      exact ⟨_, rfl, this⟩
    · have := k H2 (s1.trans s2)
      have e : inL a2 b2 d2 (some (a, 0)) = false := by cases e : inL a2 b2 d2 (some (a, 0)) <;> simp_all
      rw [e] at this
      exact this

end
end Iz
/-! k09_d -/
set_option Elab.async false
set_option linter.all false
set_option maxRecDepth 100000
set_option maxHeartbeats 4000000
namespace Iz
open PySem PySem.Spec PyProof.Rows L2
open He (ga)
local macro_rules | `(tactic| walk_at "wp") => `(tactic| simp only [tSl, tPart, tNoPart, rSlLN, rMax2, rMin2, gUnlN, tYes, rLenS, rRepN, cx_K, Value.ref.injEq, HO.xd.injEq, lk0, tSeq, tPar3, tPar, tCons, tNil, tVar, tC, tAsg, gName, gCons, gNil, gTupN, gSub, tOp, rI, rI0, rU, tTest, rNe, rEq, rIxTN, rIxLN, rLenL, rLenT, rIntI, rIntB, rAbs, rSetLN, tTruL, tRaiseX, rIsTy, rIsOw, ixN0, ixN1, tRet, tIf, tIfS, tNext, tBreak, tCont, tDrop, tTupN, tLstN, tUn, tCB, tCall, tNot, tAnd, tOr, tB, tAndV, tOrV, tNotV, tChain, tApp, LamX.tLam, tRevLN, rCatN, rInTN, rInLN, flatV, inV, List.all_cons, List.all_nil, List.any_cons, List.any_nil, Bool.and_self, Bool.and_true, if_true, Bool.false_eq_true, if_false, tMt, tFldN, tSto, HO.ins.injEq, lkh, List.drop_zero, List.drop_succ_cons, List.drop_nil, rListS, wipe, L2.start, List.map_cons, List.map_nil, List.length_cons, List.length_nil, List.replicate, List.cons_append, List.nil_append, List.append_nil, Nat.reduceAdd, Nat.reduceSub, Nat.zero_add, List.replicate_succ, List.replicate_zero, List.getElem?_cons_zero, List.getElem?_cons_succ, List.set_cons_zero, List.set_cons_succ, Option.some.injEq, V.int.injEq, V.bl.injEq, V.ref.injEq, V.str.injEq, V.ty.injEq, List.cons.injEq, HO.tup.injEq, HO.lst.injEq, and_true, true_and, and_assoc, exists_eq_left, exists_eq_left', exists_and_left, exists_eq', atI0, atI1, atI2, atI3, Int.cast_ofNat_Int, Int.reduceToNat, scal_ii, scal_in, scal_ni, scal_nn, scal_bb, scal_ss, scal_sn, scal_ns, scal_bn, scal_nb, ite_iff, decide_eq_true_eq, decide_eq_false_iff_not, Bool.not_eq_true', Classical.not_not, ne_eq, not_false_eq_true, not_true_eq_false, forall_const, true_implies, false_implies, imp_self, sizeLine_eq, Nat.reduceLeDiff, reduceCtorEq, decide_true, decide_false])
section
variable {P : Program} {w : World} {K : PySem.W.Frag} {mg : Str → Option Value} {base : Heap}
/-! ### lattices put together -/
def spReqL (K : PySem.W.Frag) : Sp := fun vs H Q E => ∃ v, vs = [v] ∧ ((NoL K H v ∧ Rse K E H "BadPart" "part" (.str "lattice")) ∨ ∃ p dx a b d, v = .ref p ∧ LAt K H p dx a b d ∧ Q .non H)
theorem o_require_lattice (T : Txt K mg) : OkF P w K mg base (L2.CX P w) 3 "require_lattice" ["value"] (spReqL K) := by
  obtain ⟨f, fd, g, F⟩ := T.d_require_lattice
  refine ⟨f, fd, g, F.kp, F.binds (fun _ _ _ _ _ _ us hl => match us, hl with | [_], _ => rfl), F.okX sc_require_lattice (fun vs H Q E h => ?_) (fun cdv A outer s H vs Q E hr h => ?_)⟩
  · first | (obtain ⟨_, rfl, _⟩ := h; rfl) | (obtain ⟨_, _, rfl, _⟩ := h; rfl) | (obtain ⟨_, _, _, rfl, _⟩ := h; rfl) | (obtain ⟨_, _, _, _, rfl, _⟩ := h; rfl) | (obtain ⟨_, _, _, _, _, rfl, _⟩ := h; rfl) | (obtain ⟨_, _, _, _, _, _, rfl, _⟩ := h; rfl) | (obtain ⟨_, _, _, _, _, _, _, rfl, _⟩ := h; rfl)
  have hu64 := hr.units
  refine ⟨_, pss_one (ps_if (pt_not (pt_val (pe_callB call_isOw (by rfl) T.m_isinstance (by decide +kernel) (pa_cons (pv 0) (pa_cons ((pe_glob (v := .ref (ga K "Lattice")) (by rfl) T.g_Lattice rfl)) pa_nil))))) (pss_one (ps_raiseX (T.x_BadPart) (hr.mono (by decide)) takesE (pe_str))) (pss_nil)), ?_⟩
  obtain ⟨v, rfl, hk⟩ := h
  simp only [exists_and_left, tSl, tPart, tNoPart, rSlLN, rMax2, rMin2, gUnlN, tYes, rLenS, rRepN, cx_K, Value.ref.injEq, HO.xd.injEq, lk0, tSeq, tPar3, tPar, tCons, tNil, tVar, tC, tAsg, gName, gCons, gNil, gTupN, gSub, tOp, rI, rI0, rU, tTest, rNe, rEq, rIxTN, rIxLN, rLenL, rLenT, rIntI, rIntB, rAbs, rSetLN, tTruL, tRaiseX, rIsTy, rIsOw, ixN0, ixN1, tRet, tIf, tIfS, tNext, tBreak, tCont, tDrop, tTupN, tLstN, tUn, tCB, tCall, tNot, tAnd, tOr, tB, tAndV, tOrV, tNotV, tChain, tApp, LamX.tLam, tRevLN, rCatN, rInTN, rInLN, flatV, inV, List.all_cons, List.all_nil, List.any_cons, List.any_nil, Bool.and_self, Bool.and_true, if_true, Bool.false_eq_true, if_false, tMt, tFldN, tSto, HO.ins.injEq, lkh, List.drop_zero, List.drop_succ_cons, List.drop_nil, rListS, wipe, L2.start, List.map_cons, List.map_nil, List.length_cons, List.length_nil, List.replicate, List.cons_append, List.nil_append, List.append_nil, Nat.reduceAdd, Nat.reduceSub, Nat.zero_add, List.replicate_succ, List.replicate_zero, List.getElem?_cons_zero, List.getElem?_cons_succ, List.set_cons_zero, List.set_cons_succ, Option.some.injEq, V.int.injEq, V.bl.injEq, V.ref.injEq, V.str.injEq, V.ty.injEq, List.cons.injEq, HO.tup.injEq, HO.lst.injEq, and_true, true_and, and_assoc, exists_eq_left, exists_eq_left', exists_and_left, exists_eq', atI0, atI1, atI2, atI3, Int.cast_ofNat_Int, Int.reduceToNat, scal_ii, scal_in, scal_ni, scal_nn, scal_bb, scal_ss, scal_sn, scal_ns, scal_bn, scal_nb, ite_iff, decide_eq_true_eq, decide_eq_false_iff_not, Bool.not_eq_true', Classical.not_not, ne_eq, not_false_eq_true, not_true_eq_false, forall_const, true_implies, false_implies, imp_self, sizeLine_eq, Nat.reduceLeDiff, reduceCtorEq, decide_true, decide_false]
  rcases hk with ⟨⟨t, ty, e⟩, k⟩ | ⟨p, dx, a, b, d, rfl, hp, k⟩
  · exact ⟨t, ty, false, e, fun _ => k, fun h => absurd rfl h⟩
  · exact ⟨_, T.ci_Lattice.ty hp, true, kit_self, fun h => (by cases h), fun _ => k⟩
/-- a new lattice, of what it holds -/
def NewL (K : PySem.W.Frag) (H : Hp) (a b d : Int) (Q : VK) : Prop := ∀ p dx H', Same H H' → LAt K H' p dx a b d → Q (.ref p) H'
def spSpn (K : PySem.W.Frag) : Sp := fun vs H Q E => ∃ v w, vs = [v, w] ∧ PairK K H v ∧ (pairV H v = none → Rse K E H "BadPart" "part" (.str "shift")) ∧ ((pairV H v).isSome = true → PairK K H w ∧ (pairV H w = none → Rse K E H "BadPart" "part" (.str "shift"))) ∧
  ∀ p q r s, pairV H v = some (p, q) → pairV H w = some (r, s) → p.natAbs < 2 ^ 100 ∧ q.natAbs < 2 ^ 100 ∧ r.natAbs < 2 ^ 100 ∧ s.natAbs < 2 ^ 100 ∧ (p * s - r * q = 0 → Rse K E H "NotSo" "word" (.str "parallel")) ∧
    (p * s - r * q ≠ 0 → ∀ a b d, LB a b d → a * d = ((p * s - r * q).natAbs : Int) → (∀ x y, Ml a b d x y ↔ Sp2 p q r s x y) → NewL K H a b d Q)
theorem o_spanned (T : Txt K mg) : OkF P w K mg base (L2.CX P w) 6 "spanned" ["one", "other"] (spSpn K) := by
  have o_require_pair := o_require_pair (P := P) (w := w) (base := base) T
  have o_weighed_divisor := o_weighed_divisor (P := P) (w := w) (base := base) T
  have o_Lattice := o_Lattice (P := P) (w := w) (base := base) T
  obtain ⟨f, fd, g, F⟩ := T.d_spanned
  refine ⟨f, fd, g, F.kp, F.binds (fun _ _ _ _ _ _ us hl => match us, hl with | [_, _], _ => rfl), F.okX sc_spanned (fun vs H Q E h => ?_) (fun cdv A outer s H vs Q E hr h => ?_)⟩
  · first | (obtain ⟨_, rfl, _⟩ := h; rfl) | (obtain ⟨_, _, rfl, _⟩ := h; rfl) | (obtain ⟨_, _, _, rfl, _⟩ := h; rfl) | (obtain ⟨_, _, _, _, rfl, _⟩ := h; rfl) | (obtain ⟨_, _, _, _, _, rfl, _⟩ := h; rfl) | (obtain ⟨_, _, _, _, _, _, rfl, _⟩ := h; rfl) | (obtain ⟨_, _, _, _, _, _, _, rfl, _⟩ := h; rfl)
  have hu64 := hr.units
  refine ⟨_, pss_cons (ps_expr (pcl o_require_pair (hr.mono (by decide)) passE (pa_cons (pv 0) (pa_cons (pe_str) pa_nil))))
      (pss_cons (ps_expr (pcl o_require_pair (hr.mono (by decide)) passE (pa_cons (pv 1) (pa_cons (pe_str) pa_nil))))
      (pss_cons (ps_set (i := 2) sc_spanned.nd rfl (Or.inl rfl) (pe_callB call_absN (by rfl) T.m_abs (by decide +kernel) (pa_cons (pe_op op_sub (pe_op op_mulW (pe_ix ix_tupN (pv 0) (pe_int) (fun _ _ => rfl)) (pe_ix ix_tupN (pv 1) (pe_int) (fun _ _ => rfl))) (pe_op op_mulW (pe_ix ix_tupN (pv 1) (pe_int) (fun _ _ => rfl)) (pe_ix ix_tupN (pv 0) (pe_int) (fun _ _ => rfl)))) pa_nil)))
      (pss_cons (ps_if (pt_cmpR op_eq (pv 2) (pe_int) (nomark _)) (pss_one (ps_raiseX (T.x_NotSo) (hr.mono (by decide)) takesE (pe_str))) (pss_nil))
      (pss_cons (ps_asg (pcl o_weighed_divisor (hr.mono (by decide)) pass0 (pa_cons (pe_ix ix_tupN (pv 0) (pe_int) (fun _ _ => rfl)) (pa_cons (pe_ix ix_tupN (pv 1) (pe_int) (fun _ _ => rfl)) pa_nil))) (pg_tupN (n := 3) (by rfl) (pgs_cons (pg_name (i := 3) sc_spanned.nd rfl (Or.inl rfl)) (pgs_cons (pg_name (i := 4) sc_spanned.nd rfl (Or.inl rfl)) (pgs_cons (pg_name (i := 5) sc_spanned.nd rfl (Or.inl rfl)) pgs_nil)))))
      (pss_cons (ps_set (i := 6) sc_spanned.nd rfl (Or.inl rfl) (pe_op op_fdivW (pv 2) (pv 3)))
      (pss_one (ps_ret (pmk (j := 0) o_Lattice (by decide) (hr.mono (by decide)) passE (pa_cons (pv 6) (pa_cons (pe_op op_mod (pe_op op_add (pe_op op_mulW (pv 4) (pe_ix ix_tupN (pv 0) (pe_int) (fun _ _ => rfl))) (pe_op op_mulW (pv 5) (pe_ix ix_tupN (pv 1) (pe_int) (fun _ _ => rfl)))) (pv 6)) (pa_cons (pv 3) pa_nil))))))))))), ?_⟩
  obtain ⟨v, w, rfl, hv, kv, hw, kk⟩ := h
  simp only [spReqP, exists_and_left, tSl, tPart, tNoPart, rSlLN, rMax2, rMin2, gUnlN, tYes, rLenS, rRepN, cx_K, Value.ref.injEq, HO.xd.injEq, lk0, tSeq, tPar3, tPar, tCons, tNil, tVar, tC, tAsg, gName, gCons, gNil, gTupN, gSub, tOp, rI, rI0, rU, tTest, rNe, rEq, rIxTN, rIxLN, rLenL, rLenT, rIntI, rIntB, rAbs, rSetLN, tTruL, tRaiseX, rIsTy, rIsOw, ixN0, ixN1, tRet, tIf, tIfS, tNext, tBreak, tCont, tDrop, tTupN, tLstN, tUn, tCB, tCall, tNot, tAnd, tOr, tB, tAndV, tOrV, tNotV, tChain, tApp, LamX.tLam, tRevLN, rCatN, rInTN, rInLN, flatV, inV, List.all_cons, List.all_nil, List.any_cons, List.any_nil, Bool.and_self, Bool.and_true, if_true, Bool.false_eq_true, if_false, tMt, tFldN, tSto, HO.ins.injEq, lkh, List.drop_zero, List.drop_succ_cons, List.drop_nil, rListS, wipe, L2.start, List.map_cons, List.map_nil, List.length_cons, List.length_nil, List.replicate, List.cons_append, List.nil_append, List.append_nil, Nat.reduceAdd, Nat.reduceSub, Nat.zero_add, List.replicate_succ, List.replicate_zero, List.getElem?_cons_zero, List.getElem?_cons_succ, List.set_cons_zero, List.set_cons_succ, Option.some.injEq, V.int.injEq, V.bl.injEq, V.ref.injEq, V.str.injEq, V.ty.injEq, List.cons.injEq, HO.tup.injEq, HO.lst.injEq, and_true, true_and, and_assoc, exists_eq_left, exists_eq_left', exists_and_left, exists_eq', atI0, atI1, atI2, atI3, Int.cast_ofNat_Int, Int.reduceToNat, scal_ii, scal_in, scal_ni, scal_nn, scal_bb, scal_ss, scal_sn, scal_ns, scal_bn, scal_nb, ite_iff, decide_eq_true_eq, decide_eq_false_iff_not, Bool.not_eq_true', Classical.not_not, ne_eq, not_false_eq_true, not_true_eq_false, forall_const, true_implies, false_implies, imp_self, sizeLine_eq, Nat.reduceLeDiff, reduceCtorEq, decide_true, decide_false]
  refine ⟨hv, fun h1 => ?_, kv⟩
  obtain ⟨hw, kw⟩ := hw h1
  refine ⟨hw, fun h2 => ?_, kw⟩
  obtain ⟨⟨p, q⟩, e1⟩ := Option.isSome_iff_exists.mp h1
  obtain ⟨⟨r, s⟩, e2⟩ := Option.isSome_iff_exists.mp h2
  obtain ⟨t1, rfl, ht1⟩ := pairV_some e1
  obtain ⟨t2, rfl, ht2⟩ := pairV_some e2
  obtain ⟨bp, bq, br, bs, k0, k1⟩ := kk p q r s e1 e2
  have ht1 : H t1 = some (.tup [.int p, .int q]) := ht1
  have ht2 : H t2 = some (.tup [.int r, .int s]) := ht2
  simp only [ht1, ht2, spWD, exists_and_left, tSl, tPart, tNoPart, rSlLN, rMax2, rMin2, gUnlN, tYes, rLenS, rRepN, cx_K, Value.ref.injEq, HO.xd.injEq, lk0, tSeq, tPar3, tPar, tCons, tNil, tVar, tC, tAsg, gName, gCons, gNil, gTupN, gSub, tOp, rI, rI0, rU, tTest, rNe, rEq, rIxTN, rIxLN, rLenL, rLenT, rIntI, rIntB, rAbs, rSetLN, tTruL, tRaiseX, rIsTy, rIsOw, ixN0, ixN1, tRet, tIf, tIfS, tNext, tBreak, tCont, tDrop, tTupN, tLstN, tUn, tCB, tCall, tNot, tAnd, tOr, tB, tAndV, tOrV, tNotV, tChain, tApp, LamX.tLam, tRevLN, rCatN, rInTN, rInLN, flatV, inV, List.all_cons, List.all_nil, List.any_cons, List.any_nil, Bool.and_self, Bool.and_true, if_true, Bool.false_eq_true, if_false, tMt, tFldN, tSto, HO.ins.injEq, lkh, List.drop_zero, List.drop_succ_cons, List.drop_nil, rListS, wipe, L2.start, List.map_cons, List.map_nil, List.length_cons, List.length_nil, List.replicate, List.cons_append, List.nil_append, List.append_nil, Nat.reduceAdd, Nat.reduceSub, Nat.zero_add, List.replicate_succ, List.replicate_zero, List.getElem?_cons_zero, List.getElem?_cons_succ, List.set_cons_zero, List.set_cons_succ, Option.some.injEq, V.int.injEq, V.bl.injEq, V.ref.injEq, V.str.injEq, V.ty.injEq, List.cons.injEq, HO.tup.injEq, HO.lst.injEq, and_true, true_and, and_assoc, exists_eq_left, exists_eq_left', exists_and_left, exists_eq', atI0, atI1, atI2, atI3, Int.cast_ofNat_Int, Int.reduceToNat, scal_ii, scal_in, scal_ni, scal_nn, scal_bb, scal_ss, scal_sn, scal_ns, scal_bn, scal_nb, ite_iff, decide_eq_true_eq, decide_eq_false_iff_not, Bool.not_eq_true', Classical.not_not, ne_eq, not_false_eq_true, not_true_eq_false, forall_const, true_implies, false_implies, imp_self, sizeLine_eq, Nat.reduceLeDiff, reduceCtorEq, decide_true, decide_false]
  have m1 : (p * s).natAbs < 2 ^ 200 := by rw [Int.natAbs_mul, show (200 : Nat) = 100 + 100 from rfl, Nat.pow_add]; exact Nat.mul_lt_mul'' bp bs
  have m2 : (r * q).natAbs < 2 ^ 200 := by rw [Int.natAbs_mul, show (200 : Nat) = 100 + 100 from rfl, Nat.pow_add]; exact Nat.mul_lt_mul'' br bq
  refine ⟨wide_mul bp bs (by decide) (by decide) (by decide), wide_mul br bq (by decide) (by decide) (by decide), fun h => k0 (by omega), fun h => ⟨pow_small bq (by decide), pow_small bs (by decide), fun u v huv hu hv t H1 _ s1 h1 => ?_⟩⟩
  have hW : p * s - r * q ≠ 0 := by omega
  obtain ⟨g1, a1, ad, mem⟩ := span_iff hW huv
  have f1 := s1 _ _ ht1
  have f2 := s1 _ _ ht2
  have bW : ((p * s - r * q).natAbs : Int).natAbs < 2 ^ 201 := by omega
  have gq : (Int.gcd q s : Int).natAbs < 2 ^ 201 := by
    have : (Int.gcd q s : Int) * 1 ≤ (Int.gcd q s : Int) * (((p * s - r * q).natAbs : Int) / (Int.gcd q s : Int)) := Int.mul_le_mul_of_nonneg_left a1 (by omega)
    have h3 : (Int.gcd q s : Int) * (((p * s - r * q).natAbs : Int) / (Int.gcd q s : Int)) = ((p * s - r * q).natAbs : Int) := by rw [Int.mul_comm]; exact ad
    rw [h3] at this
    omega
  have ba : (((p * s - r * q).natAbs : Int) / (Int.gcd q s : Int)).natAbs < 2 ^ 201 := Nat.lt_of_le_of_lt (Int.natAbs_ediv_le_natAbs _ _) bW
  have hu' : u.natAbs < 2 ^ 130001 := Nat.lt_of_le_of_lt hu (Nat.pow_lt_pow_right (by decide) (by decide))
  have hv' : v.natAbs < 2 ^ 130001 := Nat.lt_of_le_of_lt hv (Nat.pow_lt_pow_right (by decide) (by decide))
  simp only [h1, f1, f2, spLat, exists_and_left, tSl, tPart, tNoPart, rSlLN, rMax2, rMin2, gUnlN, tYes, rLenS, rRepN, cx_K, Value.ref.injEq, HO.xd.injEq, lk0, tSeq, tPar3, tPar, tCons, tNil, tVar, tC, tAsg, gName, gCons, gNil, gTupN, gSub, tOp, rI, rI0, rU, tTest, rNe, rEq, rIxTN, rIxLN, rLenL, rLenT, rIntI, rIntB, rAbs, rSetLN, tTruL, tRaiseX, rIsTy, rIsOw, ixN0, ixN1, tRet, tIf, tIfS, tNext, tBreak, tCont, tDrop, tTupN, tLstN, tUn, tCB, tCall, tNot, tAnd, tOr, tB, tAndV, tOrV, tNotV, tChain, tApp, LamX.tLam, tRevLN, rCatN, rInTN, rInLN, flatV, inV, List.all_cons, List.all_nil, List.any_cons, List.any_nil, Bool.and_self, Bool.and_true, if_true, Bool.false_eq_true, if_false, tMt, tFldN, tSto, HO.ins.injEq, lkh, List.drop_zero, List.drop_succ_cons, List.drop_nil, rListS, wipe, L2.start, List.map_cons, List.map_nil, List.length_cons, List.length_nil, List.replicate, List.cons_append, List.nil_append, List.append_nil, Nat.reduceAdd, Nat.reduceSub, Nat.zero_add, List.replicate_succ, List.replicate_zero, List.getElem?_cons_zero, List.getElem?_cons_succ, List.set_cons_zero, List.set_cons_succ, Option.some.injEq, V.int.injEq, V.bl.injEq, V.ref.injEq, V.str.injEq, V.ty.injEq, List.cons.injEq, HO.tup.injEq, HO.lst.injEq, and_true, true_and, and_assoc, exists_eq_left, exists_eq_left', exists_and_left, exists_eq', atI0, atI1, atI2, atI3, Int.cast_ofNat_Int, Int.reduceToNat, scal_ii, scal_in, scal_ni, scal_nn, scal_bb, scal_ss, scal_sn, scal_ns, scal_bn, scal_nb, ite_iff, decide_eq_true_eq, decide_eq_false_iff_not, Bool.not_eq_true', Classical.not_not, ne_eq, not_false_eq_true, not_true_eq_false, forall_const, true_implies, false_implies, imp_self, sizeLine_eq, Nat.reduceLeDiff, reduceCtorEq, decide_true, decide_false]
  refine ⟨wide_div (by omega) gq (by decide) (by decide), wide_mul hu' bp (by decide) (by decide) (by decide), wide_mul hv' br (by decide) (by decide) (by decide), by omega, ?_⟩
  have e0 := Int.emod_nonneg (u * p + v * r) (b := ((p * s - r * q).natAbs : Int) / (Int.gcd q s : Int)) (by omega)
  have e1 := Int.emod_lt_of_pos (u * p + v * r) (b := ((p * s - r * q).natAbs : Int) / (Int.gcd q s : Int)) (by omega)
  refine RL.ints a1 e0 e1 g1 ?_
  intro l dx H2 _ s2 h2
  exact k1 hW _ _ _ ⟨a1, e0, e1, g1, pow_small ba (by decide), pow_small gq (by decide)⟩ ad mem l dx H2 (s1.trans s2) h2

end
end Iz
/-! k09_d2 -/
set_option Elab.async false
set_option linter.all false
set_option maxRecDepth 100000
set_option maxHeartbeats 4000000
namespace Iz
open PySem PySem.Spec PyProof.Rows L2
open He (ga)
local macro_rules | `(tactic| walk_at "wp") => `(tactic| simp only [tSl, tPart, tNoPart, rSlLN, rMax2, rMin2, gUnlN, tYes, rLenS, rRepN, cx_K, Value.ref.injEq, HO.xd.injEq, lk0, tSeq, tPar3, tPar, tCons, tNil, tVar, tC, tAsg, gName, gCons, gNil, gTupN, gSub, tOp, rI, rI0, rU, tTest, rNe, rEq, rIxTN, rIxLN, rLenL, rLenT, rIntI, rIntB, rAbs, rSetLN, tTruL, tRaiseX, rIsTy, rIsOw, ixN0, ixN1, tRet, tIf, tIfS, tNext, tBreak, tCont, tDrop, tTupN, tLstN, tUn, tCB, tCall, tNot, tAnd, tOr, tB, tAndV, tOrV, tNotV, tChain, tApp, LamX.tLam, tRevLN, rCatN, rInTN, rInLN, flatV, inV, List.all_cons, List.all_nil, List.any_cons, List.any_nil, Bool.and_self, Bool.and_true, if_true, Bool.false_eq_true, if_false, tMt, tFldN, tSto, HO.ins.injEq, lkh, List.drop_zero, List.drop_succ_cons, List.drop_nil, rListS, wipe, L2.start, List.map_cons, List.map_nil, List.length_cons, List.length_nil, List.replicate, List.cons_append, List.nil_append, List.append_nil, Nat.reduceAdd, Nat.reduceSub, Nat.zero_add, List.replicate_succ, List.replicate_zero, List.getElem?_cons_zero, List.getElem?_cons_succ, List.set_cons_zero, List.set_cons_succ, Option.some.injEq, V.int.injEq, V.bl.injEq, V.ref.injEq, V.str.injEq, V.ty.injEq, List.cons.injEq, HO.tup.injEq, HO.lst.injEq, and_true, true_and, and_assoc, exists_eq_left, exists_eq_left', exists_and_left, exists_eq', atI0, atI1, atI2, atI3, Int.cast_ofNat_Int, Int.reduceToNat, scal_ii, scal_in, scal_ni, scal_nn, scal_bb, scal_ss, scal_sn, scal_ns, scal_bn, scal_nb, ite_iff, decide_eq_true_eq, decide_eq_false_iff_not, Bool.not_eq_true', Classical.not_not, ne_eq, not_false_eq_true, not_true_eq_false, forall_const, true_implies, false_implies, imp_self, sizeLine_eq, Nat.reduceLeDiff, reduceCtorEq, decide_true, decide_false])
section
variable {P : Program} {w : World} {K : PySem.W.Frag} {mg : Str → Option Value} {base : Heap}
def spCom (K : PySem.W.Frag) : Sp := fun vs H Q E => ∃ v w, vs = [v, w] ∧ ((NoL K H v ∧ Rse K E H "BadPart" "part" (.str "lattice")) ∨ ∃ p dx a1 b1 d1, v = .ref p ∧ LAt K H p dx a1 b1 d1 ∧ ((NoL K H w ∧ Rse K E H "BadPart" "part" (.str "lattice")) ∨
  ∃ q dy a2 b2 d2, w = .ref q ∧ LAt K H q dy a2 b2 d2 ∧ LB a1 b1 d1 ∧ LB a2 b2 d2 ∧ a1.natAbs < 2 ^ 60 ∧ d1.natAbs < 2 ^ 60 ∧ a2.natAbs < 2 ^ 60 ∧ d2.natAbs < 2 ^ 60 ∧
    ∀ a b d, LB a b d → a = a1 * (a2 / (Int.gcd a1 a2 : Int)) → d = (Int.gcd a1 a2 : Int) / (Int.gcd (Int.gcd a1 a2 : Int) (d2 / (Int.gcd d1 d2 : Int) * b1 - d1 / (Int.gcd d1 d2 : Int) * b2) : Int) * (d1 * (d2 / (Int.gcd d1 d2 : Int))) →
      (∀ x y, Ml a b d x y ↔ Ml a1 b1 d1 x y ∧ Ml a2 b2 d2 x y) → NewL K H a b d Q))
theorem o_common_lattice (T : Txt K mg) : OkF P w K mg base (L2.CX P w) 7 "common_lattice" ["one", "other"] (spCom K) := by
  have o_require_lattice := o_require_lattice (P := P) (w := w) (base := base) T
  have o_least_multiple := o_least_multiple (P := P) (w := w) (base := base) T
  have o_greatest_divisor := o_greatest_divisor (P := P) (w := w) (base := base) T
  have o_both_remainders := o_both_remainders (P := P) (w := w) (base := base) T
  have o_Lattice := o_Lattice (P := P) (w := w) (base := base) T
  obtain ⟨f, fd, g, F⟩ := T.d_common_lattice
  refine ⟨f, fd, g, F.kp, F.binds (fun _ _ _ _ _ _ us hl => match us, hl with | [_, _], _ => rfl), F.okX sc_common_lattice (fun vs H Q E h => ?_) (fun cdv A outer s H vs Q E hr h => ?_)⟩
  · first | (obtain ⟨_, rfl, _⟩ := h; rfl) | (obtain ⟨_, _, rfl, _⟩ := h; rfl) | (obtain ⟨_, _, _, rfl, _⟩ := h; rfl) | (obtain ⟨_, _, _, _, rfl, _⟩ := h; rfl) | (obtain ⟨_, _, _, _, _, rfl, _⟩ := h; rfl) | (obtain ⟨_, _, _, _, _, _, rfl, _⟩ := h; rfl) | (obtain ⟨_, _, _, _, _, _, _, rfl, _⟩ := h; rfl)
  have hu64 := hr.units
  refine ⟨_, pss_cons (ps_expr (pcl o_require_lattice (hr.mono (by decide)) passE (pa_cons (pv 0) pa_nil)))
      (pss_cons (ps_expr (pcl o_require_lattice (hr.mono (by decide)) passE (pa_cons (pv 1) pa_nil)))
      (pss_cons (ps_set (i := 2) sc_common_lattice.nd rfl (Or.inl rfl) (pcl o_least_multiple (hr.mono (by decide)) passE (pa_cons (pe_fldN T.c_Lattice T.na_Lattice_d (pv 0)) (pa_cons (pe_fldN T.c_Lattice T.na_Lattice_d (pv 1)) pa_nil))))
      (pss_cons (ps_set (i := 3) sc_common_lattice.nd rfl (Or.inl rfl) (pe_op op_mulW (pe_op op_fdivW (pv 2) (pe_fldN T.c_Lattice T.na_Lattice_d (pv 0))) (pe_fldN T.c_Lattice T.na_Lattice_b (pv 0))))
      (pss_cons (ps_set (i := 4) sc_common_lattice.nd rfl (Or.inl rfl) (pe_op op_mulW (pe_op op_fdivW (pv 2) (pe_fldN T.c_Lattice T.na_Lattice_d (pv 1))) (pe_fldN T.c_Lattice T.na_Lattice_b (pv 1))))
      (pss_cons (ps_set (i := 5) sc_common_lattice.nd rfl (Or.inl rfl) (pcl o_greatest_divisor (hr.mono (by decide)) passE (pa_cons (pe_fldN T.c_Lattice T.na_Lattice_a (pv 0)) (pa_cons (pe_fldN T.c_Lattice T.na_Lattice_a (pv 1)) pa_nil))))
      (pss_cons (ps_set (i := 6) sc_common_lattice.nd rfl (Or.inl rfl) (pe_op op_fdivW (pv 5) (pcl o_greatest_divisor (hr.mono (by decide)) passE (pa_cons (pv 5) (pa_cons (pe_op op_sub (pv 3) (pv 4)) pa_nil)))))
      (pss_cons (ps_asg (pcl o_both_remainders (hr.mono (by decide)) passE (pa_cons (pe_tupN (pa_cons (pe_op op_mulW (pv 6) (pv 3)) (pa_cons (pe_fldN T.c_Lattice T.na_Lattice_a (pv 0)) pa_nil))) (pa_cons (pe_tupN (pa_cons (pe_op op_mulW (pv 6) (pv 4)) (pa_cons (pe_fldN T.c_Lattice T.na_Lattice_a (pv 1)) pa_nil))) pa_nil))) (pg_tupN (n := 2) (by rfl) (pgs_cons (pg_name (i := 7) sc_common_lattice.nd rfl (Or.inl rfl)) (pgs_cons (pg_name (i := 8) sc_common_lattice.nd rfl (Or.inl rfl)) pgs_nil))))
      (pss_one (ps_ret (pmk (j := 0) o_Lattice (by decide) (hr.mono (by decide)) passE (pa_cons (pv 8) (pa_cons (pv 7) (pa_cons (pe_op op_mulW (pv 6) (pv 2)) pa_nil))))))))))))), ?_⟩
  obtain ⟨v, w, rfl, hk⟩ := h
  simp only [spReqL, exists_and_left, tSl, tPart, tNoPart, rSlLN, rMax2, rMin2, gUnlN, tYes, rLenS, rRepN, cx_K, Value.ref.injEq, HO.xd.injEq, lk0, tSeq, tPar3, tPar, tCons, tNil, tVar, tC, tAsg, gName, gCons, gNil, gTupN, gSub, tOp, rI, rI0, rU, tTest, rNe, rEq, rIxTN, rIxLN, rLenL, rLenT, rIntI, rIntB, rAbs, rSetLN, tTruL, tRaiseX, rIsTy, rIsOw, ixN0, ixN1, tRet, tIf, tIfS, tNext, tBreak, tCont, tDrop, tTupN, tLstN, tUn, tCB, tCall, tNot, tAnd, tOr, tB, tAndV, tOrV, tNotV, tChain, tApp, LamX.tLam, tRevLN, rCatN, rInTN, rInLN, flatV, inV, List.all_cons, List.all_nil, List.any_cons, List.any_nil, Bool.and_self, Bool.and_true, if_true, Bool.false_eq_true, if_false, tMt, tFldN, tSto, HO.ins.injEq, lkh, List.drop_zero, List.drop_succ_cons, List.drop_nil, rListS, wipe, L2.start, List.map_cons, List.map_nil, List.length_cons, List.length_nil, List.replicate, List.cons_append, List.nil_append, List.append_nil, Nat.reduceAdd, Nat.reduceSub, Nat.zero_add, List.replicate_succ, List.replicate_zero, List.getElem?_cons_zero, List.getElem?_cons_succ, List.set_cons_zero, List.set_cons_succ, Option.some.injEq, V.int.injEq, V.bl.injEq, V.ref.injEq, V.str.injEq, V.ty.injEq, List.cons.injEq, HO.tup.injEq, HO.lst.injEq, and_true, true_and, and_assoc, exists_eq_left, exists_eq_left', exists_and_left, exists_eq', atI0, atI1, atI2, atI3, Int.cast_ofNat_Int, Int.reduceToNat, scal_ii, scal_in, scal_ni, scal_nn, scal_bb, scal_ss, scal_sn, scal_ns, scal_bn, scal_nb, ite_iff, decide_eq_true_eq, decide_eq_false_iff_not, Bool.not_eq_true', Classical.not_not, ne_eq, not_false_eq_true, not_true_eq_false, forall_const, true_implies, false_implies, imp_self, sizeLine_eq, Nat.reduceLeDiff, reduceCtorEq, decide_true, decide_false]
  rcases hk with ⟨n, r⟩ | ⟨p, dx, a1, b1, d1, rfl, hp, hk⟩
  · exact .inl ⟨n, r⟩
  refine .inr ⟨p, rfl, dx, a1, b1, d1, hp, ?_⟩
  rcases hk with ⟨n, r⟩ | ⟨q, dy, a2, b2, d2, rfl, hq, B1, B2, ba1, bd1, ba2, bd2, k⟩
  · exact .inl ⟨n, r⟩
  refine .inr ⟨q, rfl, dy, a2, b2, d2, hq, ?_⟩
  simp only [hp, hq, lkLa, lkLb, lkLd, lkLn_area, lkLn_place, lkLn_order, lkLn_places, spLM, exists_and_left, tSl, tPart, tNoPart, rSlLN, rMax2, rMin2, gUnlN, tYes, rLenS, rRepN, cx_K, Value.ref.injEq, HO.xd.injEq, lk0, tSeq, tPar3, tPar, tCons, tNil, tVar, tC, tAsg, gName, gCons, gNil, gTupN, gSub, tOp, rI, rI0, rU, tTest, rNe, rEq, rIxTN, rIxLN, rLenL, rLenT, rIntI, rIntB, rAbs, rSetLN, tTruL, tRaiseX, rIsTy, rIsOw, ixN0, ixN1, tRet, tIf, tIfS, tNext, tBreak, tCont, tDrop, tTupN, tLstN, tUn, tCB, tCall, tNot, tAnd, tOr, tB, tAndV, tOrV, tNotV, tChain, tApp, LamX.tLam, tRevLN, rCatN, rInTN, rInLN, flatV, inV, List.all_cons, List.all_nil, List.any_cons, List.any_nil, Bool.and_self, Bool.and_true, if_true, Bool.false_eq_true, if_false, tMt, tFldN, tSto, HO.ins.injEq, lkh, List.drop_zero, List.drop_succ_cons, List.drop_nil, rListS, wipe, L2.start, List.map_cons, List.map_nil, List.length_cons, List.length_nil, List.replicate, List.cons_append, List.nil_append, List.append_nil, Nat.reduceAdd, Nat.reduceSub, Nat.zero_add, List.replicate_succ, List.replicate_zero, List.getElem?_cons_zero, List.getElem?_cons_succ, List.set_cons_zero, List.set_cons_succ, Option.some.injEq, V.int.injEq, V.bl.injEq, V.ref.injEq, V.str.injEq, V.ty.injEq, List.cons.injEq, HO.tup.injEq, HO.lst.injEq, and_true, true_and, and_assoc, exists_eq_left, exists_eq_left', exists_and_left, exists_eq', atI0, atI1, atI2, atI3, Int.cast_ofNat_Int, Int.reduceToNat, scal_ii, scal_in, scal_ni, scal_nn, scal_bb, scal_ss, scal_sn, scal_ns, scal_bn, scal_nb, ite_iff, decide_eq_true_eq, decide_eq_false_iff_not, Bool.not_eq_true', Classical.not_not, ne_eq, not_false_eq_true, not_true_eq_false, forall_const, true_implies, false_implies, imp_self, sizeLine_eq, Nat.reduceLeDiff, reduceCtorEq, decide_true, decide_false]
  have A1 := B1.a1; have A2 := B2.a1; have D1 := B1.d1; have D2 := B2.d1
  have b1S : b1.natAbs < 2 ^ 60 := by have := B1.ba; have := B1.b0; omega
  have b2S : b2.natAbs < 2 ^ 60 := by have := B2.ba; have := B2.b0; omega
  have pP : ∀ {z : Int}, 1 ≤ z → isP (.int z) = true := fun h => by simp [isP, h]
  refine ⟨wh_int, fun e => (by rw [pP D1] at e; cases e), fun _ => ⟨wh_int, fun e => (by rw [pP D2] at e; cases e)⟩, ?_⟩
  rintro _ _ rfl rfl _ _
  refine ⟨pow_small bd1 (by decide), pow_small bd2 (by decide), fun H1 s1 => ?_⟩
  have hp1 := s1 _ _ hp
  have hq1 := s1 _ _ hq
  have elv : d1 / (Int.gcd d1 d2 : Int) * d2 = d1 * (d2 / (Int.gcd d1 d2 : Int)) := mul_div_gcd.symm
  have q1 : d1 * (d2 / (Int.gcd d1 d2 : Int)) / d1 = d2 / (Int.gcd d1 d2 : Int) := Int.mul_ediv_cancel_left _ (by omega)
  have q2 : d1 * (d2 / (Int.gcd d1 d2 : Int)) / d2 = d1 / (Int.gcd d1 d2 : Int) := by rw [← elv]; exact Int.mul_ediv_cancel _ (by omega)
  have ci := fun c => common_iff (a1 := a1) (b1 := b1) (d1 := d1) (a2 := a2) (b2 := b2) (d2 := d2) (c := c) A1 D1 A2 D2 rfl
  rw [q1, q2] at ci
  have e1S : (d2 / (Int.gcd d1 d2 : Int)).natAbs < 2 ^ 60 := ediv_small bd2
  have e2S : (d1 / (Int.gcd d1 d2 : Int)).natAbs < 2 ^ 60 := ediv_small bd1
  rw [elv]
  have e10 : 1 ≤ d2 / (Int.gcd d1 d2 : Int) := qpos D2
  generalize hE1 : d2 / (Int.gcd d1 d2 : Int) = e1 at *
  generalize hE2 : d1 / (Int.gcd d1 d2 : Int) = e2 at *
  have x1S : (e1 * b1).natAbs < 2 ^ 120 := by rw [Int.natAbs_mul, show (120 : Nat) = 60 + 60 from rfl, Nat.pow_add]; exact Nat.mul_lt_mul'' e1S b1S
  have x2S : (e2 * b2).natAbs < 2 ^ 120 := by rw [Int.natAbs_mul, show (120 : Nat) = 60 + 60 from rfl, Nat.pow_add]; exact Nat.mul_lt_mul'' e2S b2S
  have xS : (e1 * b1 - e2 * b2).natAbs < 2 ^ 121 := by omega
  simp only [hp1, hq1, lkLa, lkLb, lkLd, lkLn_area, lkLn_place, lkLn_order, lkLn_places, spGD, exists_and_left, tSl, tPart, tNoPart, rSlLN, rMax2, rMin2, gUnlN, tYes, rLenS, rRepN, cx_K, Value.ref.injEq, HO.xd.injEq, lk0, tSeq, tPar3, tPar, tCons, tNil, tVar, tC, tAsg, gName, gCons, gNil, gTupN, gSub, tOp, rI, rI0, rU, tTest, rNe, rEq, rIxTN, rIxLN, rLenL, rLenT, rIntI, rIntB, rAbs, rSetLN, tTruL, tRaiseX, rIsTy, rIsOw, ixN0, ixN1, tRet, tIf, tIfS, tNext, tBreak, tCont, tDrop, tTupN, tLstN, tUn, tCB, tCall, tNot, tAnd, tOr, tB, tAndV, tOrV, tNotV, tChain, tApp, LamX.tLam, tRevLN, rCatN, rInTN, rInLN, flatV, inV, List.all_cons, List.all_nil, List.any_cons, List.any_nil, Bool.and_self, Bool.and_true, if_true, Bool.false_eq_true, if_false, tMt, tFldN, tSto, HO.ins.injEq, lkh, List.drop_zero, List.drop_succ_cons, List.drop_nil, rListS, wipe, L2.start, List.map_cons, List.map_nil, List.length_cons, List.length_nil, List.replicate, List.cons_append, List.nil_append, List.append_nil, Nat.reduceAdd, Nat.reduceSub, Nat.zero_add, List.replicate_succ, List.replicate_zero, List.getElem?_cons_zero, List.getElem?_cons_succ, List.set_cons_zero, List.set_cons_succ, Option.some.injEq, V.int.injEq, V.bl.injEq, V.ref.injEq, V.str.injEq, V.ty.injEq, List.cons.injEq, HO.tup.injEq, HO.lst.injEq, and_true, true_and, and_assoc, exists_eq_left, exists_eq_left', exists_and_left, exists_eq', atI0, atI1, atI2, atI3, Int.cast_ofNat_Int, Int.reduceToNat, scal_ii, scal_in, scal_ni, scal_nn, scal_bb, scal_ss, scal_sn, scal_ns, scal_bn, scal_nb, ite_iff, decide_eq_true_eq, decide_eq_false_iff_not, Bool.not_eq_true', Classical.not_not, ne_eq, not_false_eq_true, not_true_eq_false, forall_const, true_implies, false_implies, imp_self, sizeLine_eq, Nat.reduceLeDiff, reduceCtorEq, decide_true, decide_false]
  rw [q1, q2]
  refine ⟨wide_div (by omega) bd1 (by decide) (by decide), wide_mul e1S b1S (by decide) (by decide) (by decide), wide_div (by omega) bd2 (by decide) (by decide), wide_mul e2S b2S (by decide) (by decide) (by decide), wh_int, fun h => (by cases h), fun _ => ⟨wh_int, fun h => (by cases h)⟩, ?_⟩
  rintro _ _ rfl rfl
  refine ⟨pow_small ba1 (by decide), pow_small ba2 (by decide), fun H2 s2 => ?_⟩
  have hp2 := s2 _ _ hp1
  have hq2 := s2 _ _ hq1
  refine ⟨wh_int, fun h => (by cases h), fun _ => ⟨wh_int, fun h => (by cases h)⟩, ?_⟩
  rintro _ _ rfl rfl
  have hg : 1 ≤ (Int.gcd a1 a2 : Int) := gpos A2
  have gS : (Int.gcd a1 a2 : Int).natAbs < 2 ^ 60 := gcd_small A2 ba2
  have gx : 1 ≤ (Int.gcd (Int.gcd a1 a2 : Int) (e1 * b1 - e2 * b2) : Int) := by rw [Int.gcd_comm]; exact gpos hg
  have gxS : (Int.gcd (Int.gcd a1 a2 : Int) (e1 * b1 - e2 * b2) : Int).natAbs < 2 ^ 60 := by rw [Int.gcd_comm]; exact gcd_small hg gS
  refine ⟨pow_small gS (by decide), pow_small xS (by decide), fun H3 s3 => ?_⟩
  have hp3 := s3 _ _ hp2
  have hq3 := s3 _ _ hq2
  have tS : ((Int.gcd a1 a2 : Int) / (Int.gcd (Int.gcd a1 a2 : Int) (e1 * b1 - e2 * b2) : Int)).natAbs < 2 ^ 60 := ediv_small gS
  have t1 : 1 ≤ (Int.gcd a1 a2 : Int) / (Int.gcd (Int.gcd a1 a2 : Int) (e1 * b1 - e2 * b2) : Int) := by rw [Int.gcd_comm _ (e1 * b1 - e2 * b2)]; exact qpos hg
  have tg : (Int.gcd a1 a2 : Int) ∣ (Int.gcd a1 a2 : Int) / (Int.gcd (Int.gcd a1 a2 : Int) (e1 * b1 - e2 * b2) : Int) * (e1 * b1 - e2 * b2) := by
    rw [Int.gcd_comm _ (e1 * b1 - e2 * b2), Int.mul_comm]
    exact (dvd_line hg).mpr (Int.dvd_refl _)
  simp only [hp3, hq3, lkLa, lkLb, lkLd, lkLn_area, lkLn_place, lkLn_order, lkLn_places, exists_and_left, tSl, tPart, tNoPart, rSlLN, rMax2, rMin2, gUnlN, tYes, rLenS, rRepN, cx_K, Value.ref.injEq, HO.xd.injEq, lk0, tSeq, tPar3, tPar, tCons, tNil, tVar, tC, tAsg, gName, gCons, gNil, gTupN, gSub, tOp, rI, rI0, rU, tTest, rNe, rEq, rIxTN, rIxLN, rLenL, rLenT, rIntI, rIntB, rAbs, rSetLN, tTruL, tRaiseX, rIsTy, rIsOw, ixN0, ixN1, tRet, tIf, tIfS, tNext, tBreak, tCont, tDrop, tTupN, tLstN, tUn, tCB, tCall, tNot, tAnd, tOr, tB, tAndV, tOrV, tNotV, tChain, tApp, LamX.tLam, tRevLN, rCatN, rInTN, rInLN, flatV, inV, List.all_cons, List.all_nil, List.any_cons, List.any_nil, Bool.and_self, Bool.and_true, if_true, Bool.false_eq_true, if_false, tMt, tFldN, tSto, HO.ins.injEq, lkh, List.drop_zero, List.drop_succ_cons, List.drop_nil, rListS, wipe, L2.start, List.map_cons, List.map_nil, List.length_cons, List.length_nil, List.replicate, List.cons_append, List.nil_append, List.append_nil, Nat.reduceAdd, Nat.reduceSub, Nat.zero_add, List.replicate_succ, List.replicate_zero, List.getElem?_cons_zero, List.getElem?_cons_succ, List.set_cons_zero, List.set_cons_succ, Option.some.injEq, V.int.injEq, V.bl.injEq, V.ref.injEq, V.str.injEq, V.ty.injEq, List.cons.injEq, HO.tup.injEq, HO.lst.injEq, and_true, true_and, and_assoc, exists_eq_left, exists_eq_left', exists_and_left, exists_eq', atI0, atI1, atI2, atI3, Int.cast_ofNat_Int, Int.reduceToNat, scal_ii, scal_in, scal_ni, scal_nn, scal_bb, scal_ss, scal_sn, scal_ns, scal_bn, scal_nb, ite_iff, decide_eq_true_eq, decide_eq_false_iff_not, Bool.not_eq_true', Classical.not_not, ne_eq, not_false_eq_true, not_true_eq_false, forall_const, true_implies, false_implies, imp_self, sizeLine_eq, Nat.reduceLeDiff, reduceCtorEq, decide_true, decide_false]
  refine ⟨wide_div (by omega) gxS (by decide) (by decide), ?_⟩
  generalize hT : (Int.gcd a1 a2 : Int) / (Int.gcd (Int.gcd a1 a2 : Int) (e1 * b1 - e2 * b2) : Int) = tm at *
  have r1S : (tm * (e1 * b1)).natAbs < 2 ^ 180 := by rw [Int.natAbs_mul, show (180 : Nat) = 60 + 120 from rfl, Nat.pow_add]; exact Nat.mul_lt_mul'' tS x1S
  have r2S : (tm * (e2 * b2)).natAbs < 2 ^ 180 := by rw [Int.natAbs_mul, show (180 : Nat) = 60 + 120 from rfl, Nat.pow_add]; exact Nat.mul_lt_mul'' tS x2S
  refine ⟨wide_mul tS x1S (by decide) (by decide) (by decide), ?_⟩
  intro u1 H4 _ s4 h4
  have hq4 := s4 _ _ hq3
  simp only [hq4, lkLa, lkLb, lkLd, lkLn_area, lkLn_place, lkLn_order, lkLn_places, exists_and_left, tSl, tPart, tNoPart, rSlLN, rMax2, rMin2, gUnlN, tYes, rLenS, rRepN, cx_K, Value.ref.injEq, HO.xd.injEq, lk0, tSeq, tPar3, tPar, tCons, tNil, tVar, tC, tAsg, gName, gCons, gNil, gTupN, gSub, tOp, rI, rI0, rU, tTest, rNe, rEq, rIxTN, rIxLN, rLenL, rLenT, rIntI, rIntB, rAbs, rSetLN, tTruL, tRaiseX, rIsTy, rIsOw, ixN0, ixN1, tRet, tIf, tIfS, tNext, tBreak, tCont, tDrop, tTupN, tLstN, tUn, tCB, tCall, tNot, tAnd, tOr, tB, tAndV, tOrV, tNotV, tChain, tApp, LamX.tLam, tRevLN, rCatN, rInTN, rInLN, flatV, inV, List.all_cons, List.all_nil, List.any_cons, List.any_nil, Bool.and_self, Bool.and_true, if_true, Bool.false_eq_true, if_false, tMt, tFldN, tSto, HO.ins.injEq, lkh, List.drop_zero, List.drop_succ_cons, List.drop_nil, rListS, wipe, L2.start, List.map_cons, List.map_nil, List.length_cons, List.length_nil, List.replicate, List.cons_append, List.nil_append, List.append_nil, Nat.reduceAdd, Nat.reduceSub, Nat.zero_add, List.replicate_succ, List.replicate_zero, List.getElem?_cons_zero, List.getElem?_cons_succ, List.set_cons_zero, List.set_cons_succ, Option.some.injEq, V.int.injEq, V.bl.injEq, V.ref.injEq, V.str.injEq, V.ty.injEq, List.cons.injEq, HO.tup.injEq, HO.lst.injEq, and_true, true_and, and_assoc, exists_eq_left, exists_eq_left', exists_and_left, exists_eq', atI0, atI1, atI2, atI3, Int.cast_ofNat_Int, Int.reduceToNat, scal_ii, scal_in, scal_ni, scal_nn, scal_bb, scal_ss, scal_sn, scal_ns, scal_bn, scal_nb, ite_iff, decide_eq_true_eq, decide_eq_false_iff_not, Bool.not_eq_true', Classical.not_not, ne_eq, not_false_eq_true, not_true_eq_false, forall_const, true_implies, false_implies, imp_self, sizeLine_eq, Nat.reduceLeDiff, reduceCtorEq, decide_true, decide_false]
  refine ⟨wide_mul tS x2S (by decide) (by decide) (by decide), ?_⟩
  intro u2 H5 _ s5 h5
  have h45 := s5 _ _ h4
  simp only [spBR, exists_and_left, tSl, tPart, tNoPart, rSlLN, rMax2, rMin2, gUnlN, tYes, rLenS, rRepN, cx_K, Value.ref.injEq, HO.xd.injEq, lk0, tSeq, tPar3, tPar, tCons, tNil, tVar, tC, tAsg, gName, gCons, gNil, gTupN, gSub, tOp, rI, rI0, rU, tTest, rNe, rEq, rIxTN, rIxLN, rLenL, rLenT, rIntI, rIntB, rAbs, rSetLN, tTruL, tRaiseX, rIsTy, rIsOw, ixN0, ixN1, tRet, tIf, tIfS, tNext, tBreak, tCont, tDrop, tTupN, tLstN, tUn, tCB, tCall, tNot, tAnd, tOr, tB, tAndV, tOrV, tNotV, tChain, tApp, LamX.tLam, tRevLN, rCatN, rInTN, rInLN, flatV, inV, List.all_cons, List.all_nil, List.any_cons, List.any_nil, Bool.and_self, Bool.and_true, if_true, Bool.false_eq_true, if_false, tMt, tFldN, tSto, HO.ins.injEq, lkh, List.drop_zero, List.drop_succ_cons, List.drop_nil, rListS, wipe, L2.start, List.map_cons, List.map_nil, List.length_cons, List.length_nil, List.replicate, List.cons_append, List.nil_append, List.append_nil, Nat.reduceAdd, Nat.reduceSub, Nat.zero_add, List.replicate_succ, List.replicate_zero, List.getElem?_cons_zero, List.getElem?_cons_succ, List.set_cons_zero, List.set_cons_succ, Option.some.injEq, V.int.injEq, V.bl.injEq, V.ref.injEq, V.str.injEq, V.ty.injEq, List.cons.injEq, HO.tup.injEq, HO.lst.injEq, and_true, true_and, and_assoc, exists_eq_left, exists_eq_left', exists_and_left, exists_eq', atI0, atI1, atI2, atI3, Int.cast_ofNat_Int, Int.reduceToNat, scal_ii, scal_in, scal_ni, scal_nn, scal_bb, scal_ss, scal_sn, scal_ns, scal_bn, scal_nb, ite_iff, decide_eq_true_eq, decide_eq_false_iff_not, Bool.not_eq_true', Classical.not_not, ne_eq, not_false_eq_true, not_true_eq_false, forall_const, true_implies, false_implies, imp_self, sizeLine_eq, Nat.reduceLeDiff, reduceCtorEq, decide_true, decide_false]
  have dv : (tm * (e2 * b2) - tm * (e1 * b1)) % (Int.gcd a1 a2 : Int) = 0 := by
    refine Int.emod_eq_zero_of_dvd ?_
    have := Int.dvd_neg.mpr tg
    rwa [show -(tm * (e1 * b1 - e2 * b2)) = tm * (e2 * b2) - tm * (e1 * b1) by rw [Int.mul_sub]; omega] at this
  have lS : (d1 * e1).natAbs < 2 ^ 120 := by rw [Int.natAbs_mul, show (120 : Nat) = 60 + 60 from rfl, Nat.pow_add]; exact Nat.mul_lt_mul'' bd1 e1S
  have l1 : 1 ≤ d1 * e1 := by have := Int.mul_le_mul D1 e10 (by decide) (by omega); omega
  refine .inr ⟨_, _, h45, A1, .inr ⟨_, _, h5, A2, pow_small r1S (by decide), pow_small ba1 (by decide), pow_small r2S (by decide), pow_small ba2 (by decide), fun e => absurd dv e, fun _ c c0 c1 z1 z2 H6 s6 t H7 _ s7 h7 => ?_⟩⟩
  simp only [h7, spLat, exists_and_left, tSl, tPart, tNoPart, rSlLN, rMax2, rMin2, gUnlN, tYes, rLenS, rRepN, cx_K, Value.ref.injEq, HO.xd.injEq, lk0, tSeq, tPar3, tPar, tCons, tNil, tVar, tC, tAsg, gName, gCons, gNil, gTupN, gSub, tOp, rI, rI0, rU, tTest, rNe, rEq, rIxTN, rIxLN, rLenL, rLenT, rIntI, rIntB, rAbs, rSetLN, tTruL, tRaiseX, rIsTy, rIsOw, ixN0, ixN1, tRet, tIf, tIfS, tNext, tBreak, tCont, tDrop, tTupN, tLstN, tUn, tCB, tCall, tNot, tAnd, tOr, tB, tAndV, tOrV, tNotV, tChain, tApp, LamX.tLam, tRevLN, rCatN, rInTN, rInLN, flatV, inV, List.all_cons, List.all_nil, List.any_cons, List.any_nil, Bool.and_self, Bool.and_true, if_true, Bool.false_eq_true, if_false, tMt, tFldN, tSto, HO.ins.injEq, lkh, List.drop_zero, List.drop_succ_cons, List.drop_nil, rListS, wipe, L2.start, List.map_cons, List.map_nil, List.length_cons, List.length_nil, List.replicate, List.cons_append, List.nil_append, List.append_nil, Nat.reduceAdd, Nat.reduceSub, Nat.zero_add, List.replicate_succ, List.replicate_zero, List.getElem?_cons_zero, List.getElem?_cons_succ, List.set_cons_zero, List.set_cons_succ, Option.some.injEq, V.int.injEq, V.bl.injEq, V.ref.injEq, V.str.injEq, V.ty.injEq, List.cons.injEq, HO.tup.injEq, HO.lst.injEq, and_true, true_and, and_assoc, exists_eq_left, exists_eq_left', exists_and_left, exists_eq', atI0, atI1, atI2, atI3, Int.cast_ofNat_Int, Int.reduceToNat, scal_ii, scal_in, scal_ni, scal_nn, scal_bb, scal_ss, scal_sn, scal_ns, scal_bn, scal_nb, ite_iff, decide_eq_true_eq, decide_eq_false_iff_not, Bool.not_eq_true', Classical.not_not, ne_eq, not_false_eq_true, not_true_eq_false, forall_const, true_implies, false_implies, imp_self, sizeLine_eq, Nat.reduceLeDiff, reduceCtorEq, decide_true, decide_false]
  have aq : 1 ≤ a2 / (Int.gcd a1 a2 : Int) := qpos A2
  have aqS : (a2 / (Int.gcd a1 a2 : Int)).natAbs < 2 ^ 60 := ediv_small ba2
  have aS : (a1 * (a2 / (Int.gcd a1 a2 : Int))).natAbs < 2 ^ 120 := by rw [Int.natAbs_mul, show (120 : Nat) = 60 + 60 from rfl, Nat.pow_add]; exact Nat.mul_lt_mul'' ba1 aqS
  have aP : 1 ≤ a1 * (a2 / (Int.gcd a1 a2 : Int)) := by have := Int.mul_le_mul A1 aq (by decide) (by omega); omega
  have dS : (tm * (d1 * e1)).natAbs < 2 ^ 180 := by rw [Int.natAbs_mul, show (180 : Nat) = 60 + 120 from rfl, Nat.pow_add]; exact Nat.mul_lt_mul'' tS lS
  have dP : 1 ≤ tm * (d1 * e1) := by have := Int.mul_le_mul t1 l1 (by decide) (by omega); omega
  refine ⟨wide_mul tS lS (by decide) (by decide) (by decide), RL.ints aP c0 c1 dP ?_⟩
  intro l dz H8 _ s8 h8
  exact k _ c _ ⟨aP, c0, c1, dP, pow_small aS (by decide), pow_small dS (by decide)⟩ rfl rfl (ci c z1 z2) l dz H8 (((s1.trans s2).trans (s3.trans s4)).trans ((s5.trans s6).trans (s7.trans s8))) h8

end
end Iz
/-! k09_d3 -/
set_option Elab.async false
set_option linter.all false
set_option maxRecDepth 100000
set_option maxHeartbeats 4000000
namespace Iz
open PySem PySem.Spec PyProof.Rows L2
open He (ga)
local macro_rules | `(tactic| walk_at "wp") => `(tactic| simp only [tSl, tPart, tNoPart, rSlLN, rMax2, rMin2, gUnlN, tYes, rLenS, rRepN, cx_K, Value.ref.injEq, HO.xd.injEq, lk0, tSeq, tPar3, tPar, tCons, tNil, tVar, tC, tAsg, gName, gCons, gNil, gTupN, gSub, tOp, rI, rI0, rU, tTest, rNe, rEq, rIxTN, rIxLN, rLenL, rLenT, rIntI, rIntB, rAbs, rSetLN, tTruL, tRaiseX, rIsTy, rIsOw, ixN0, ixN1, tRet, tIf, tIfS, tNext, tBreak, tCont, tDrop, tTupN, tLstN, tUn, tCB, tCall, tNot, tAnd, tOr, tB, tAndV, tOrV, tNotV, tChain, tApp, LamX.tLam, tRevLN, rCatN, rInTN, rInLN, flatV, inV, List.all_cons, List.all_nil, List.any_cons, List.any_nil, Bool.and_self, Bool.and_true, if_true, Bool.false_eq_true, if_false, tMt, tFldN, tSto, HO.ins.injEq, lkh, List.drop_zero, List.drop_succ_cons, List.drop_nil, rListS, wipe, L2.start, List.map_cons, List.map_nil, List.length_cons, List.length_nil, List.replicate, List.cons_append, List.nil_append, List.append_nil, Nat.reduceAdd, Nat.reduceSub, Nat.zero_add, List.replicate_succ, List.replicate_zero, List.getElem?_cons_zero, List.getElem?_cons_succ, List.set_cons_zero, List.set_cons_succ, Option.some.injEq, V.int.injEq, V.bl.injEq, V.ref.injEq, V.str.injEq, V.ty.injEq, List.cons.injEq, HO.tup.injEq, HO.lst.injEq, and_true, true_and, and_assoc, exists_eq_left, exists_eq_left', exists_and_left, exists_eq', atI0, atI1, atI2, atI3, Int.cast_ofNat_Int, Int.reduceToNat, scal_ii, scal_in, scal_ni, scal_nn, scal_bb, scal_ss, scal_sn, scal_ns, scal_bn, scal_nb, ite_iff, decide_eq_true_eq, decide_eq_false_iff_not, Bool.not_eq_true', Classical.not_not, ne_eq, not_false_eq_true, not_true_eq_false, forall_const, true_implies, false_implies, imp_self, sizeLine_eq, Nat.reduceLeDiff, reduceCtorEq, decide_true, decide_false])
section
variable {P : Program} {w : World} {K : PySem.W.Frag} {mg : Str → Option Value} {base : Heap}
def spJoi (K : PySem.W.Frag) : Sp := fun vs H Q E => ∃ v w, vs = [v, w] ∧ ((NoL K H v ∧ Rse K E H "BadPart" "part" (.str "lattice")) ∨ ∃ p dx a1 b1 d1, v = .ref p ∧ LAt K H p dx a1 b1 d1 ∧ ((NoL K H w ∧ Rse K E H "BadPart" "part" (.str "lattice")) ∨
  ∃ q dy a2 b2 d2, w = .ref q ∧ LAt K H q dy a2 b2 d2 ∧ LB a1 b1 d1 ∧ LB a2 b2 d2 ∧ a1.natAbs < 2 ^ 60 ∧ d1.natAbs < 2 ^ 60 ∧ a2.natAbs < 2 ^ 60 ∧ d2.natAbs < 2 ^ 60 ∧
    ∀ a b, LB a b (Int.gcd d1 d2 : Int) → a = (Int.gcd (Int.gcd a1 a2 : Int) (d2 / (Int.gcd d1 d2 : Int) * b1 - d1 / (Int.gcd d1 d2 : Int) * b2) : Int) →
      (∀ x y, Ml a b (Int.gcd d1 d2 : Int) x y ↔ ∃ x1 y1 x2 y2, Ml a1 b1 d1 x1 y1 ∧ Ml a2 b2 d2 x2 y2 ∧ x = x1 + x2 ∧ y = y1 + y2) → NewL K H a b (Int.gcd d1 d2 : Int) Q))
theorem o_joined_lattice (T : Txt K mg) : OkF P w K mg base (L2.CX P w) 6 "joined_lattice" ["one", "other"] (spJoi K) := by
  have o_require_lattice := o_require_lattice (P := P) (w := w) (base := base) T
  have o_weighed_divisor := o_weighed_divisor (P := P) (w := w) (base := base) T
  have o_greatest_divisor := o_greatest_divisor (P := P) (w := w) (base := base) T
  have o_Lattice := o_Lattice (P := P) (w := w) (base := base) T
  obtain ⟨f, fd, g, F⟩ := T.d_joined_lattice
  refine ⟨f, fd, g, F.kp, F.binds (fun _ _ _ _ _ _ us hl => match us, hl with | [_, _], _ => rfl), F.okX sc_joined_lattice (fun vs H Q E h => ?_) (fun cdv A outer s H vs Q E hr h => ?_)⟩
  · first | (obtain ⟨_, rfl, _⟩ := h; rfl) | (obtain ⟨_, _, rfl, _⟩ := h; rfl) | (obtain ⟨_, _, _, rfl, _⟩ := h; rfl) | (obtain ⟨_, _, _, _, rfl, _⟩ := h; rfl) | (obtain ⟨_, _, _, _, _, rfl, _⟩ := h; rfl) | (obtain ⟨_, _, _, _, _, _, rfl, _⟩ := h; rfl) | (obtain ⟨_, _, _, _, _, _, _, rfl, _⟩ := h; rfl)
  have hu64 := hr.units
  refine ⟨_, pss_cons (ps_expr (pcl o_require_lattice (hr.mono (by decide)) passE (pa_cons (pv 0) pa_nil)))
      (pss_cons (ps_expr (pcl o_require_lattice (hr.mono (by decide)) passE (pa_cons (pv 1) pa_nil)))
      (pss_cons (ps_asg (pcl o_weighed_divisor (hr.mono (by decide)) pass0 (pa_cons (pe_fldN T.c_Lattice T.na_Lattice_d (pv 0)) (pa_cons (pe_fldN T.c_Lattice T.na_Lattice_d (pv 1)) pa_nil))) (pg_tupN (n := 3) (by rfl) (pgs_cons (pg_name (i := 2) sc_joined_lattice.nd rfl (Or.inl rfl)) (pgs_cons (pg_name (i := 3) sc_joined_lattice.nd rfl (Or.inl rfl)) (pgs_cons (pg_name (i := 4) sc_joined_lattice.nd rfl (Or.inl rfl)) pgs_nil)))))
      (pss_cons (ps_set (i := 5) sc_joined_lattice.nd rfl (Or.inl rfl) (pe_op op_sub (pe_op op_mulW (pe_op op_fdivW (pe_fldN T.c_Lattice T.na_Lattice_d (pv 1)) (pv 2)) (pe_fldN T.c_Lattice T.na_Lattice_b (pv 0))) (pe_op op_mulW (pe_op op_fdivW (pe_fldN T.c_Lattice T.na_Lattice_d (pv 0)) (pv 2)) (pe_fldN T.c_Lattice T.na_Lattice_b (pv 1)))))
      (pss_cons (ps_set (i := 6) sc_joined_lattice.nd rfl (Or.inl rfl) (pcl o_greatest_divisor (hr.mono (by decide)) passE (pa_cons (pcl o_greatest_divisor (hr.mono (by decide)) passE (pa_cons (pe_fldN T.c_Lattice T.na_Lattice_a (pv 0)) (pa_cons (pe_fldN T.c_Lattice T.na_Lattice_a (pv 1)) pa_nil))) (pa_cons (pv 5) pa_nil))))
      (pss_one (ps_ret (pmk (j := 0) o_Lattice (by decide) (hr.mono (by decide)) passE (pa_cons (pv 6) (pa_cons (pe_op op_mod (pe_op op_add (pe_op op_mulW (pv 3) (pe_fldN T.c_Lattice T.na_Lattice_b (pv 0))) (pe_op op_mulW (pv 4) (pe_fldN T.c_Lattice T.na_Lattice_b (pv 1)))) (pv 6)) (pa_cons (pv 2) pa_nil)))))))))), ?_⟩
  obtain ⟨v, w, rfl, hk⟩ := h
  simp only [spReqL, exists_and_left, tSl, tPart, tNoPart, rSlLN, rMax2, rMin2, gUnlN, tYes, rLenS, rRepN, cx_K, Value.ref.injEq, HO.xd.injEq, lk0, tSeq, tPar3, tPar, tCons, tNil, tVar, tC, tAsg, gName, gCons, gNil, gTupN, gSub, tOp, rI, rI0, rU, tTest, rNe, rEq, rIxTN, rIxLN, rLenL, rLenT, rIntI, rIntB, rAbs, rSetLN, tTruL, tRaiseX, rIsTy, rIsOw, ixN0, ixN1, tRet, tIf, tIfS, tNext, tBreak, tCont, tDrop, tTupN, tLstN, tUn, tCB, tCall, tNot, tAnd, tOr, tB, tAndV, tOrV, tNotV, tChain, tApp, LamX.tLam, tRevLN, rCatN, rInTN, rInLN, flatV, inV, List.all_cons, List.all_nil, List.any_cons, List.any_nil, Bool.and_self, Bool.and_true, if_true, Bool.false_eq_true, if_false, tMt, tFldN, tSto, HO.ins.injEq, lkh, List.drop_zero, List.drop_succ_cons, List.drop_nil, rListS, wipe, L2.start, List.map_cons, List.map_nil, List.length_cons, List.length_nil, List.replicate, List.cons_append, List.nil_append, List.append_nil, Nat.reduceAdd, Nat.reduceSub, Nat.zero_add, List.replicate_succ, List.replicate_zero, List.getElem?_cons_zero, List.getElem?_cons_succ, List.set_cons_zero, List.set_cons_succ, Option.some.injEq, V.int.injEq, V.bl.injEq, V.ref.injEq, V.str.injEq, V.ty.injEq, List.cons.injEq, HO.tup.injEq, HO.lst.injEq, and_true, true_and, and_assoc, exists_eq_left, exists_eq_left', exists_and_left, exists_eq', atI0, atI1, atI2, atI3, Int.cast_ofNat_Int, Int.reduceToNat, scal_ii, scal_in, scal_ni, scal_nn, scal_bb, scal_ss, scal_sn, scal_ns, scal_bn, scal_nb, ite_iff, decide_eq_true_eq, decide_eq_false_iff_not, Bool.not_eq_true', Classical.not_not, ne_eq, not_false_eq_true, not_true_eq_false, forall_const, true_implies, false_implies, imp_self, sizeLine_eq, Nat.reduceLeDiff, reduceCtorEq, decide_true, decide_false]
  rcases hk with ⟨n, r⟩ | ⟨p, dx, a1, b1, d1, rfl, hp, hk⟩
  · exact .inl ⟨n, r⟩
  refine .inr ⟨p, rfl, dx, a1, b1, d1, hp, ?_⟩
  rcases hk with ⟨n, r⟩ | ⟨q, dy, a2, b2, d2, rfl, hq, B1, B2, ba1, bd1, ba2, bd2, k⟩
  · exact .inl ⟨n, r⟩
  refine .inr ⟨q, rfl, dy, a2, b2, d2, hq, ?_⟩
  simp only [hp, hq, lkLa, lkLb, lkLd, lkLn_area, lkLn_place, lkLn_order, lkLn_places, spWD, exists_and_left, tSl, tPart, tNoPart, rSlLN, rMax2, rMin2, gUnlN, tYes, rLenS, rRepN, cx_K, Value.ref.injEq, HO.xd.injEq, lk0, tSeq, tPar3, tPar, tCons, tNil, tVar, tC, tAsg, gName, gCons, gNil, gTupN, gSub, tOp, rI, rI0, rU, tTest, rNe, rEq, rIxTN, rIxLN, rLenL, rLenT, rIntI, rIntB, rAbs, rSetLN, tTruL, tRaiseX, rIsTy, rIsOw, ixN0, ixN1, tRet, tIf, tIfS, tNext, tBreak, tCont, tDrop, tTupN, tLstN, tUn, tCB, tCall, tNot, tAnd, tOr, tB, tAndV, tOrV, tNotV, tChain, tApp, LamX.tLam, tRevLN, rCatN, rInTN, rInLN, flatV, inV, List.all_cons, List.all_nil, List.any_cons, List.any_nil, Bool.and_self, Bool.and_true, if_true, Bool.false_eq_true, if_false, tMt, tFldN, tSto, HO.ins.injEq, lkh, List.drop_zero, List.drop_succ_cons, List.drop_nil, rListS, wipe, L2.start, List.map_cons, List.map_nil, List.length_cons, List.length_nil, List.replicate, List.cons_append, List.nil_append, List.append_nil, Nat.reduceAdd, Nat.reduceSub, Nat.zero_add, List.replicate_succ, List.replicate_zero, List.getElem?_cons_zero, List.getElem?_cons_succ, List.set_cons_zero, List.set_cons_succ, Option.some.injEq, V.int.injEq, V.bl.injEq, V.ref.injEq, V.str.injEq, V.ty.injEq, List.cons.injEq, HO.tup.injEq, HO.lst.injEq, and_true, true_and, and_assoc, exists_eq_left, exists_eq_left', exists_and_left, exists_eq', atI0, atI1, atI2, atI3, Int.cast_ofNat_Int, Int.reduceToNat, scal_ii, scal_in, scal_ni, scal_nn, scal_bb, scal_ss, scal_sn, scal_ns, scal_bn, scal_nb, ite_iff, decide_eq_true_eq, decide_eq_false_iff_not, Bool.not_eq_true', Classical.not_not, ne_eq, not_false_eq_true, not_true_eq_false, forall_const, true_implies, false_implies, imp_self, sizeLine_eq, Nat.reduceLeDiff, reduceCtorEq, decide_true, decide_false]
  have A1 := B1.a1; have A2 := B2.a1; have D1 := B1.d1; have D2 := B2.d1
  have b1S : b1.natAbs < 2 ^ 60 := by have := B1.ba; have := B1.b0; omega
  have b2S : b2.natAbs < 2 ^ 60 := by have := B2.ba; have := B2.b0; omega
  refine ⟨pow_small bd1 (by decide), pow_small bd2 (by decide), fun u v huv hu hv t H1 _ s1 h1 => ?_⟩
  have hp1 := s1 _ _ hp
  have hq1 := s1 _ _ hq
  have ji := fun a c => joined_iff (a1 := a1) (b1 := b1) (d1 := d1) (a2 := a2) (b2 := b2) (d2 := d2) (a := a) (c := c) D1 huv
  have hg : 1 ≤ (Int.gcd d1 d2 : Int) := gpos D2
  have gS : (Int.gcd d1 d2 : Int).natAbs < 2 ^ 60 := gcd_small D2 bd2
  have e1S : (d2 / (Int.gcd d1 d2 : Int)).natAbs < 2 ^ 60 := ediv_small bd2
  have e2S : (d1 / (Int.gcd d1 d2 : Int)).natAbs < 2 ^ 60 := ediv_small bd1
  have hu' : u.natAbs < 2 ^ 130001 := Nat.lt_of_le_of_lt hu (Nat.pow_lt_pow_right (by decide) (by decide))
  have hv' : v.natAbs < 2 ^ 130001 := Nat.lt_of_le_of_lt hv (Nat.pow_lt_pow_right (by decide) (by decide))
  simp only [h1, hp1, hq1, lkLa, lkLb, lkLd, lkLn_area, lkLn_place, lkLn_order, lkLn_places, spGD, exists_and_left, tSl, tPart, tNoPart, rSlLN, rMax2, rMin2, gUnlN, tYes, rLenS, rRepN, cx_K, Value.ref.injEq, HO.xd.injEq, lk0, tSeq, tPar3, tPar, tCons, tNil, tVar, tC, tAsg, gName, gCons, gNil, gTupN, gSub, tOp, rI, rI0, rU, tTest, rNe, rEq, rIxTN, rIxLN, rLenL, rLenT, rIntI, rIntB, rAbs, rSetLN, tTruL, tRaiseX, rIsTy, rIsOw, ixN0, ixN1, tRet, tIf, tIfS, tNext, tBreak, tCont, tDrop, tTupN, tLstN, tUn, tCB, tCall, tNot, tAnd, tOr, tB, tAndV, tOrV, tNotV, tChain, tApp, LamX.tLam, tRevLN, rCatN, rInTN, rInLN, flatV, inV, List.all_cons, List.all_nil, List.any_cons, List.any_nil, Bool.and_self, Bool.and_true, if_true, Bool.false_eq_true, if_false, tMt, tFldN, tSto, HO.ins.injEq, lkh, List.drop_zero, List.drop_succ_cons, List.drop_nil, rListS, wipe, L2.start, List.map_cons, List.map_nil, List.length_cons, List.length_nil, List.replicate, List.cons_append, List.nil_append, List.append_nil, Nat.reduceAdd, Nat.reduceSub, Nat.zero_add, List.replicate_succ, List.replicate_zero, List.getElem?_cons_zero, List.getElem?_cons_succ, List.set_cons_zero, List.set_cons_succ, Option.some.injEq, V.int.injEq, V.bl.injEq, V.ref.injEq, V.str.injEq, V.ty.injEq, List.cons.injEq, HO.tup.injEq, HO.lst.injEq, and_true, true_and, and_assoc, exists_eq_left, exists_eq_left', exists_and_left, exists_eq', atI0, atI1, atI2, atI3, Int.cast_ofNat_Int, Int.reduceToNat, scal_ii, scal_in, scal_ni, scal_nn, scal_bb, scal_ss, scal_sn, scal_ns, scal_bn, scal_nb, ite_iff, decide_eq_true_eq, decide_eq_false_iff_not, Bool.not_eq_true', Classical.not_not, ne_eq, not_false_eq_true, not_true_eq_false, forall_const, true_implies, false_implies, imp_self, sizeLine_eq, Nat.reduceLeDiff, reduceCtorEq, decide_true, decide_false]
  refine ⟨wide_div (by omega) gS (by decide) (by decide), wide_mul e1S b1S (by decide) (by decide) (by decide), wide_div (by omega) gS (by decide) (by decide), wide_mul e2S b2S (by decide) (by decide) (by decide), wh_int, fun h => (by cases h), fun _ => ⟨wh_int, fun h => (by cases h)⟩, ?_⟩
  rintro _ _ rfl rfl
  have x1S : (d2 / (Int.gcd d1 d2 : Int) * b1).natAbs < 2 ^ 120 := by rw [Int.natAbs_mul, show (120 : Nat) = 60 + 60 from rfl, Nat.pow_add]; exact Nat.mul_lt_mul'' e1S b1S
  have x2S : (d1 / (Int.gcd d1 d2 : Int) * b2).natAbs < 2 ^ 120 := by rw [Int.natAbs_mul, show (120 : Nat) = 60 + 60 from rfl, Nat.pow_add]; exact Nat.mul_lt_mul'' e2S b2S
  have ga : 1 ≤ (Int.gcd a1 a2 : Int) := gpos A2
  have gaS : (Int.gcd a1 a2 : Int).natAbs < 2 ^ 60 := gcd_small A2 ba2
  refine ⟨pow_small ba1 (by decide), pow_small ba2 (by decide), fun H2 s2 => ⟨wh_int, fun h => (by cases h), fun _ => ⟨wh_int, fun h => (by cases h)⟩, ?_⟩⟩
  rintro _ _ rfl rfl
  refine ⟨pow_small gaS (by decide), by omega, fun H3 s3 => ?_⟩
  have hp3 := s3 _ _ (s2 _ _ hp1)
  have hq3 := s3 _ _ (s2 _ _ hq1)
  have gs : 1 ≤ (Int.gcd (Int.gcd a1 a2 : Int) (d2 / (Int.gcd d1 d2 : Int) * b1 - d1 / (Int.gcd d1 d2 : Int) * b2) : Int) := by rw [Int.gcd_comm]; exact gpos ga
  have gsS : (Int.gcd (Int.gcd a1 a2 : Int) (d2 / (Int.gcd d1 d2 : Int) * b1 - d1 / (Int.gcd d1 d2 : Int) * b2) : Int).natAbs < 2 ^ 60 := by rw [Int.gcd_comm]; exact gcd_small ga gaS
  refine ⟨dx, _, hp3, _, lkLb, b1, rfl, wide_mul hu' b1S (by decide) (by decide) (by decide), dy, _, hq3, _, lkLb, b2, rfl, wide_mul hv' b2S (by decide) (by decide) (by decide), by omega, ?_⟩
  generalize hA : (Int.gcd (Int.gcd a1 a2 : Int) (d2 / (Int.gcd d1 d2 : Int) * b1 - d1 / (Int.gcd d1 d2 : Int) * b2) : Int) = A at *
  have c0 := Int.emod_nonneg (u * b1 + v * b2) (b := A) (by omega)
  have c1 := Int.emod_lt_of_pos (u * b1 + v * b2) (b := A) (by omega)
  refine ⟨_, _, _, rfl, RL.ints gs c0 c1 hg ?_⟩
  intro l dz H8 _ s8 h8
  exact k A _ ⟨gs, c0, c1, hg, pow_small gsS (by decide), pow_small gS (by decide)⟩ rfl (ji A _ rfl rfl) l dz H8 ((s1.trans s2).trans (s3.trans s8)) h8

end
end Iz
/-! k09_e -/
set_option Elab.async false
set_option linter.all false
set_option maxRecDepth 100000
set_option maxHeartbeats 4000000
namespace Iz
open PySem PySem.Spec PyProof.Rows L2
open He (ga)
local macro_rules | `(tactic| walk_at "wp") => `(tactic| simp only [tSl, tPart, tNoPart, rSlLN, rMax2, rMin2, gUnlN, tYes, rLenS, rRepN, cx_K, Value.ref.injEq, HO.xd.injEq, lk0, tSeq, tPar3, tPar, tCons, tNil, tVar, tC, tAsg, gName, gCons, gNil, gTupN, gSub, tOp, rI, rI0, rU, tTest, rNe, rEq, rIxTN, rIxLN, rLenL, rLenT, rIntI, rIntB, rAbs, rSetLN, tTruL, tRaiseX, rIsTy, rIsOw, ixN0, ixN1, tRet, tIf, tIfS, tNext, tBreak, tCont, tDrop, tTupN, tLstN, tUn, tCB, tCall, tNot, tAnd, tOr, tB, tAndV, tOrV, tNotV, tChain, tApp, LamX.tLam, tRevLN, rCatN, rInTN, rInLN, flatV, inV, List.all_cons, List.all_nil, List.any_cons, List.any_nil, Bool.and_self, Bool.and_true, if_true, Bool.false_eq_true, if_false, tMt, tFldN, tSto, HO.ins.injEq, lkh, List.drop_zero, List.drop_succ_cons, List.drop_nil, rListS, wipe, L2.start, List.map_cons, List.map_nil, List.length_cons, List.length_nil, List.replicate, List.cons_append, List.nil_append, List.append_nil, Nat.reduceAdd, Nat.reduceSub, Nat.zero_add, List.replicate_succ, List.replicate_zero, List.getElem?_cons_zero, List.getElem?_cons_succ, List.set_cons_zero, List.set_cons_succ, Option.some.injEq, V.int.injEq, V.bl.injEq, V.ref.injEq, V.str.injEq, V.ty.injEq, List.cons.injEq, HO.tup.injEq, HO.lst.injEq, and_true, true_and, and_assoc, exists_eq_left, exists_eq_left', exists_and_left, exists_eq', atI0, atI1, atI2, atI3, Int.cast_ofNat_Int, Int.reduceToNat, scal_ii, scal_in, scal_ni, scal_nn, scal_bb, scal_ss, scal_sn, scal_ns, scal_bn, scal_nb, ite_iff, decide_eq_true_eq, decide_eq_false_iff_not, Bool.not_eq_true', Classical.not_not, ne_eq, not_false_eq_true, not_true_eq_false, forall_const, true_implies, false_implies, imp_self, sizeLine_eq, Nat.reduceLeDiff, reduceCtorEq, decide_true, decide_false])
section
variable {P : Program} {w : World} {K : PySem.W.Frag} {mg : Str → Option Value} {base : Heap}
/-! ### the law's pool of draws -/
def Po (H : Hp) (a : Addr) : Prop := ∃ g s : Int, H a = some (.lst [.int g, .int s])
/-- all but the pool stays -/
def StpP (a : Addr) (H H' : Hp) : Prop := ∀ b o, H b = some o → b ≠ a → H' b = some o
theorem StpP.trans {a : Addr} {H H1 H2 : Hp} (x : StpP a H H1) (y : StpP a H1 H2) : StpP a H H2 := fun b o h n => y b o (x b o h n) n
theorem StpP.refl {a : Addr} {H : Hp} : StpP a H H := fun _ _ h _ => h
theorem StpP.of {a : Addr} {H H1 : Hp} (x : Same H H1) : StpP a H H1 := fun b o h _ => x b o h
theorem Po.same {H H1 : Hp} {a : Addr} (x : Po H a) (s : Same H H1) : Po H1 a := let ⟨g, n, h⟩ := x; ⟨g, n, s _ _ h⟩
/-- what is no list of two ints stays -/
theorem StpP.at {a b : Addr} {H H' : Hp} {o : HO} (t : StpP a H H') (p : Po H a) (h : H b = some o) (n : ∀ g s : Int, o ≠ .lst [.int g, .int s]) : H' b = some o := t b o h fun e => by
  obtain ⟨g, s, e2⟩ := p
  subst e
  exact n g s (Option.some.inj (h.symm.trans e2))
def spDraw : Sp := fun vs H Q _ => ∃ a lim, vs = [.ref a, .int lim] ∧ Po H a ∧ 1 ≤ lim ∧ lim.natAbs < 2 ^ 250 ∧ ∀ d H', 0 ≤ d → d < lim → Po H' a → StpP a H H' → Q (.int d) H'
theorem o__law_draw (T : Txt K mg) : OkF P w K mg base CX0 1 "_law_draw" ["_law_pool", "_law_many"] spDraw := by
  obtain ⟨f, fd, g, F⟩ := T.d__law_draw
  refine ⟨f, fd, g, F.kp, F.binds (fun _ _ _ _ _ _ us hl => match us, hl with | [_, _], _ => rfl), F.ok sc__law_draw (fun vs H Q E h => ?_) (fun cdv A outer s H vs Q E hr h => ?_)⟩
  · first | (obtain ⟨_, rfl, _⟩ := h; rfl) | (obtain ⟨_, _, rfl, _⟩ := h; rfl) | (obtain ⟨_, _, _, rfl, _⟩ := h; rfl) | (obtain ⟨_, _, _, _, rfl, _⟩ := h; rfl) | (obtain ⟨_, _, _, _, _, rfl, _⟩ := h; rfl) | (obtain ⟨_, _, _, _, _, _, rfl, _⟩ := h; rfl) | (obtain ⟨_, _, _, _, _, _, _, rfl, _⟩ := h; rfl)
  have hu64 := hr.units
  refine ⟨_, pss_cons (ps_if (pt_cmpR op_gt (pe_ix ix_listN (pv 0) (pe_int) (fun _ _ => rfl)) (pe_int) (nomark _)) (pss_cons (ps_set (i := 2) sc__law_draw.nd rfl (Or.inl rfl) (pe_op op_mod (pe_callTy call_intI (by rfl) T.m_int (by decide +kernel) (pa_cons (pe_ix ix_listN (pv 0) (pe_int) (fun _ _ => rfl)) pa_nil)) (pv 1)))
      (pss_cons (ps_asg (pe_op op_fdivW (pe_ix ix_listN (pv 0) (pe_int) (fun _ _ => rfl)) (pv 1)) (pg_sub (pv 0) (pe_int) set_listN))
      (pss_one (ps_ret (pv 2))))) (pss_nil))
      (pss_cons (ps_asg (pe_op op_mod (pe_callTy call_intI (by rfl) T.m_int (by decide +kernel) (pa_cons (pe_op op_add (pe_op op_mul (pe_ix ix_listN (pv 0) (pe_int) (fun _ _ => rfl)) (pe_int)) (pe_int)) pa_nil)) (pe_int)) (pg_sub (pv 0) (pe_int) set_listN))
      (pss_one (ps_ret (pe_op op_mod (pe_op op_fdivW (pe_op op_mod (pe_callTy call_intI (by rfl) T.m_int (by decide +kernel) (pa_cons (pe_op op_mulW (pe_ix ix_listN (pv 0) (pe_int) (fun _ _ => rfl)) (pe_ix ix_listN (pv 0) (pe_int) (fun _ _ => rfl))) pa_nil)) (pe_int)) (pe_int)) (pv 1))))), ?_⟩
  obtain ⟨a, lim, rfl, ⟨g, n, ha⟩, l1, lb, k⟩ := h
  simp only [ha, exists_and_left, tSl, tPart, tNoPart, rSlLN, rMax2, rMin2, gUnlN, tYes, rLenS, rRepN, cx_K, Value.ref.injEq, HO.xd.injEq, lk0, tSeq, tPar3, tPar, tCons, tNil, tVar, tC, tAsg, gName, gCons, gNil, gTupN, gSub, tOp, rI, rI0, rU, tTest, rNe, rEq, rIxTN, rIxLN, rLenL, rLenT, rIntI, rIntB, rAbs, rSetLN, tTruL, tRaiseX, rIsTy, rIsOw, ixN0, ixN1, tRet, tIf, tIfS, tNext, tBreak, tCont, tDrop, tTupN, tLstN, tUn, tCB, tCall, tNot, tAnd, tOr, tB, tAndV, tOrV, tNotV, tChain, tApp, LamX.tLam, tRevLN, rCatN, rInTN, rInLN, flatV, inV, List.all_cons, List.all_nil, List.any_cons, List.any_nil, Bool.and_self, Bool.and_true, if_true, Bool.false_eq_true, if_false, tMt, tFldN, tSto, HO.ins.injEq, lkh, List.drop_zero, List.drop_succ_cons, List.drop_nil, rListS, wipe, L2.start, List.map_cons, List.map_nil, List.length_cons, List.length_nil, List.replicate, List.cons_append, List.nil_append, List.append_nil, Nat.reduceAdd, Nat.reduceSub, Nat.zero_add, List.replicate_succ, List.replicate_zero, List.getElem?_cons_zero, List.getElem?_cons_succ, List.set_cons_zero, List.set_cons_succ, Option.some.injEq, V.int.injEq, V.bl.injEq, V.ref.injEq, V.str.injEq, V.ty.injEq, List.cons.injEq, HO.tup.injEq, HO.lst.injEq, and_true, true_and, and_assoc, exists_eq_left, exists_eq_left', exists_and_left, exists_eq', atI0, atI1, atI2, atI3, Int.cast_ofNat_Int, Int.reduceToNat, scal_ii, scal_in, scal_ni, scal_nn, scal_bb, scal_ss, scal_sn, scal_ns, scal_bn, scal_nb, ite_iff, decide_eq_true_eq, decide_eq_false_iff_not, Bool.not_eq_true', Classical.not_not, ne_eq, not_false_eq_true, not_true_eq_false, forall_const, true_implies, false_implies, imp_self, sizeLine_eq, Nat.reduceLeDiff, reduceCtorEq, decide_true, decide_false]
  refine ⟨fun h0 => ?_, fun h0 => ?_⟩
  · exact ⟨by omega, wide_div (by omega) lb (by decide) (by decide), fun H2 p => k _ H2 (Int.emod_nonneg _ (by omega)) (Int.emod_lt_of_pos _ (by omega)) ⟨_, _, p.1⟩ fun b o e nb => by rw [p.2 b nb]; exact e⟩
  · refine ⟨.inr ⟨by decide, by decide⟩, by decide, fun H2 p => ?_⟩
    have h2 := p.1
    simp only [h2, exists_and_left, tSl, tPart, tNoPart, rSlLN, rMax2, rMin2, gUnlN, tYes, rLenS, rRepN, cx_K, Value.ref.injEq, HO.xd.injEq, lk0, tSeq, tPar3, tPar, tCons, tNil, tVar, tC, tAsg, gName, gCons, gNil, gTupN, gSub, tOp, rI, rI0, rU, tTest, rNe, rEq, rIxTN, rIxLN, rLenL, rLenT, rIntI, rIntB, rAbs, rSetLN, tTruL, tRaiseX, rIsTy, rIsOw, ixN0, ixN1, tRet, tIf, tIfS, tNext, tBreak, tCont, tDrop, tTupN, tLstN, tUn, tCB, tCall, tNot, tAnd, tOr, tB, tAndV, tOrV, tNotV, tChain, tApp, LamX.tLam, tRevLN, rCatN, rInTN, rInLN, flatV, inV, List.all_cons, List.all_nil, List.any_cons, List.any_nil, Bool.and_self, Bool.and_true, if_true, Bool.false_eq_true, if_false, tMt, tFldN, tSto, HO.ins.injEq, lkh, List.drop_zero, List.drop_succ_cons, List.drop_nil, rListS, wipe, L2.start, List.map_cons, List.map_nil, List.length_cons, List.length_nil, List.replicate, List.cons_append, List.nil_append, List.append_nil, Nat.reduceAdd, Nat.reduceSub, Nat.zero_add, List.replicate_succ, List.replicate_zero, List.getElem?_cons_zero, List.getElem?_cons_succ, List.set_cons_zero, List.set_cons_succ, Option.some.injEq, V.int.injEq, V.bl.injEq, V.ref.injEq, V.str.injEq, V.ty.injEq, List.cons.injEq, HO.tup.injEq, HO.lst.injEq, and_true, true_and, and_assoc, exists_eq_left, exists_eq_left', exists_and_left, exists_eq', atI0, atI1, atI2, atI3, Int.cast_ofNat_Int, Int.reduceToNat, scal_ii, scal_in, scal_ni, scal_nn, scal_bb, scal_ss, scal_sn, scal_ns, scal_bn, scal_nb, ite_iff, decide_eq_true_eq, decide_eq_false_iff_not, Bool.not_eq_true', Classical.not_not, ne_eq, not_false_eq_true, not_true_eq_false, forall_const, true_implies, false_implies, imp_self, sizeLine_eq, Nat.reduceLeDiff, reduceCtorEq, decide_true, decide_false]
    have b0 := Int.emod_nonneg (n * 48271 + 11) (b := 2147483647) (by decide)
    have b1 := Int.emod_lt_of_pos (n * 48271 + 11) (b := 2147483647) (by decide)
    refine ⟨wide_mul (a := 31) (b := 31) (by omega) (by omega) (by decide) (by decide) (by decide), by decide, wide_div (show (0 : Int) < 32 by decide) (b := 6) (by decide) (by decide) (by decide), by omega, k _ H2 (Int.emod_nonneg _ (by omega)) (Int.emod_lt_of_pos _ (by omega)) ⟨_, _, h2⟩ fun b o e nb => by rw [p.2 b nb]; exact e⟩
def spPick : Sp := fun vs H Q _ => ∃ a l, vs = [.ref a, .ref l] ∧ Po H a ∧ l ≠ a ∧ ∃ xs, H l = some (.lst xs) ∧ 1 ≤ xs.length ∧ xs.length ≤ 1000 ∧ ∀ x H', x ∈ xs → Po H' a → StpP a H H' → Q x H'
theorem o__law_pick (T : Txt K mg) : OkF P w K mg base CX0 2 "_law_pick" ["_law_pool", "_law_some"] spPick := by
  have o__law_draw := o__law_draw (P := P) (w := w) (base := base) T
  obtain ⟨f, fd, g, F⟩ := T.d__law_pick
  refine ⟨f, fd, g, F.kp, F.binds (fun _ _ _ _ _ _ us hl => match us, hl with | [_, _], _ => rfl), F.ok sc__law_pick (fun vs H Q E h => ?_) (fun cdv A outer s H vs Q E hr h => ?_)⟩
  · first | (obtain ⟨_, rfl, _⟩ := h; rfl) | (obtain ⟨_, _, rfl, _⟩ := h; rfl) | (obtain ⟨_, _, _, rfl, _⟩ := h; rfl) | (obtain ⟨_, _, _, _, rfl, _⟩ := h; rfl) | (obtain ⟨_, _, _, _, _, rfl, _⟩ := h; rfl) | (obtain ⟨_, _, _, _, _, _, rfl, _⟩ := h; rfl) | (obtain ⟨_, _, _, _, _, _, _, rfl, _⟩ := h; rfl)
  have hu64 := hr.units
  refine ⟨_, pss_one (ps_ret (pe_ix ix_listN (pv 1) (pcl o__law_draw (hr.mono (by decide)) pass0 (pa_cons (pv 0) (pa_cons (pe_callB call_lenL (by rfl) T.m_len (by decide +kernel) (pa_cons (pv 1) pa_nil)) pa_nil))) (fun _ _ => rfl))), ?_⟩
  obtain ⟨a, l, rfl, hP, la, xs, hl, l1, l2, k⟩ := h
  simp only [spDraw, hl, exists_and_left, tSl, tPart, tNoPart, rSlLN, rMax2, rMin2, gUnlN, tYes, rLenS, rRepN, cx_K, Value.ref.injEq, HO.xd.injEq, lk0, tSeq, tPar3, tPar, tCons, tNil, tVar, tC, tAsg, gName, gCons, gNil, gTupN, gSub, tOp, rI, rI0, rU, tTest, rNe, rEq, rIxTN, rIxLN, rLenL, rLenT, rIntI, rIntB, rAbs, rSetLN, tTruL, tRaiseX, rIsTy, rIsOw, ixN0, ixN1, tRet, tIf, tIfS, tNext, tBreak, tCont, tDrop, tTupN, tLstN, tUn, tCB, tCall, tNot, tAnd, tOr, tB, tAndV, tOrV, tNotV, tChain, tApp, LamX.tLam, tRevLN, rCatN, rInTN, rInLN, flatV, inV, List.all_cons, List.all_nil, List.any_cons, List.any_nil, Bool.and_self, Bool.and_true, if_true, Bool.false_eq_true, if_false, tMt, tFldN, tSto, HO.ins.injEq, lkh, List.drop_zero, List.drop_succ_cons, List.drop_nil, rListS, wipe, L2.start, List.map_cons, List.map_nil, List.length_cons, List.length_nil, List.replicate, List.cons_append, List.nil_append, List.append_nil, Nat.reduceAdd, Nat.reduceSub, Nat.zero_add, List.replicate_succ, List.replicate_zero, List.getElem?_cons_zero, List.getElem?_cons_succ, List.set_cons_zero, List.set_cons_succ, Option.some.injEq, V.int.injEq, V.bl.injEq, V.ref.injEq, V.str.injEq, V.ty.injEq, List.cons.injEq, HO.tup.injEq, HO.lst.injEq, and_true, true_and, and_assoc, exists_eq_left, exists_eq_left', exists_and_left, exists_eq', atI0, atI1, atI2, atI3, Int.cast_ofNat_Int, Int.reduceToNat, scal_ii, scal_in, scal_ni, scal_nn, scal_bb, scal_ss, scal_sn, scal_ns, scal_bn, scal_nb, ite_iff, decide_eq_true_eq, decide_eq_false_iff_not, Bool.not_eq_true', Classical.not_not, ne_eq, not_false_eq_true, not_true_eq_false, forall_const, true_implies, false_implies, imp_self, sizeLine_eq, Nat.reduceLeDiff, reduceCtorEq, decide_true, decide_false]
  refine ⟨hP, by omega, by omega, fun d H1 d0 d1 hP1 t1 => ?_⟩
  have h1 := t1 _ _ hl la
  simp only [h1, exists_and_left, tSl, tPart, tNoPart, rSlLN, rMax2, rMin2, gUnlN, tYes, rLenS, rRepN, cx_K, Value.ref.injEq, HO.xd.injEq, lk0, tSeq, tPar3, tPar, tCons, tNil, tVar, tC, tAsg, gName, gCons, gNil, gTupN, gSub, tOp, rI, rI0, rU, tTest, rNe, rEq, rIxTN, rIxLN, rLenL, rLenT, rIntI, rIntB, rAbs, rSetLN, tTruL, tRaiseX, rIsTy, rIsOw, ixN0, ixN1, tRet, tIf, tIfS, tNext, tBreak, tCont, tDrop, tTupN, tLstN, tUn, tCB, tCall, tNot, tAnd, tOr, tB, tAndV, tOrV, tNotV, tChain, tApp, LamX.tLam, tRevLN, rCatN, rInTN, rInLN, flatV, inV, List.all_cons, List.all_nil, List.any_cons, List.any_nil, Bool.and_self, Bool.and_true, if_true, Bool.false_eq_true, if_false, tMt, tFldN, tSto, HO.ins.injEq, lkh, List.drop_zero, List.drop_succ_cons, List.drop_nil, rListS, wipe, L2.start, List.map_cons, List.map_nil, List.length_cons, List.length_nil, List.replicate, List.cons_append, List.nil_append, List.append_nil, Nat.reduceAdd, Nat.reduceSub, Nat.zero_add, List.replicate_succ, List.replicate_zero, List.getElem?_cons_zero, List.getElem?_cons_succ, List.set_cons_zero, List.set_cons_succ, Option.some.injEq, V.int.injEq, V.bl.injEq, V.ref.injEq, V.str.injEq, V.ty.injEq, List.cons.injEq, HO.tup.injEq, HO.lst.injEq, and_true, true_and, and_assoc, exists_eq_left, exists_eq_left', exists_and_left, exists_eq', atI0, atI1, atI2, atI3, Int.cast_ofNat_Int, Int.reduceToNat, scal_ii, scal_in, scal_ni, scal_nn, scal_bb, scal_ss, scal_sn, scal_ns, scal_bn, scal_nb, ite_iff, decide_eq_true_eq, decide_eq_false_iff_not, Bool.not_eq_true', Classical.not_not, ne_eq, not_false_eq_true, not_true_eq_false, forall_const, true_implies, false_implies, imp_self, sizeLine_eq, Nat.reduceLeDiff, reduceCtorEq, decide_true, decide_false]
  have hd : d.toNat < xs.length := by omega
  exact ⟨xs[d.toNat], atI_ok d0 (List.getElem?_eq_getElem hd), k _ H1 (List.getElem_mem hd) hP1 t1⟩

/-- three ints in a list -/
abbrev T3 (H : Hp) (t : Addr) (w s h : Int) : Prop := H t = some (.lst [.int w, .int s, .int h])
theorem T3.stp {H H' : Hp} {t a : Addr} {w s h : Int} (e : T3 H t w s h) (p : Po H a) (x : StpP a H H') : T3 H' t w s h := x.at p e (fun g s z => by cases z)
def spThree : Sp := fun vs H Q _ => ∃ a most, vs = [.ref a, .int most] ∧ Po H a ∧ 1 ≤ most ∧ most ≤ 100000000000000000000 ∧ ∀ t w s h H', 1 ≤ w → w ≤ most → 0 ≤ s → s < w → 1 ≤ h → h ≤ most → Po H' a → StpP a H H' → T3 H' t w s h → Q (.ref t) H'
theorem o__law_three (T : Txt K mg) : OkF P w K mg base CX0 2 "_law_three" ["_law_pool", "_law_most"] spThree := by
  have o__law_draw := o__law_draw (P := P) (w := w) (base := base) T
  obtain ⟨f, fd, g, F⟩ := T.d__law_three
  refine ⟨f, fd, g, F.kp, F.binds (fun _ _ _ _ _ _ us hl => match us, hl with | [_, _], _ => rfl), F.ok sc__law_three (fun vs H Q E h => ?_) (fun cdv A outer s H vs Q E hr h => ?_)⟩
  · first | (obtain ⟨_, rfl, _⟩ := h; rfl) | (obtain ⟨_, _, rfl, _⟩ := h; rfl) | (obtain ⟨_, _, _, rfl, _⟩ := h; rfl) | (obtain ⟨_, _, _, _, rfl, _⟩ := h; rfl) | (obtain ⟨_, _, _, _, _, rfl, _⟩ := h; rfl) | (obtain ⟨_, _, _, _, _, _, rfl, _⟩ := h; rfl) | (obtain ⟨_, _, _, _, _, _, _, rfl, _⟩ := h; rfl)
  have hu64 := hr.units
  refine ⟨_, pss_cons (ps_set (i := 2) sc__law_three.nd rfl (Or.inl rfl) (pe_op op_add (pe_int) (pcl o__law_draw (hr.mono (by decide)) pass0 (pa_cons (pv 0) (pa_cons (pv 1) pa_nil)))))
      (pss_one (ps_ret (pe_lstN (pa_cons (pv 2) (pa_cons (pcl o__law_draw (hr.mono (by decide)) pass0 (pa_cons (pv 0) (pa_cons (pv 2) pa_nil))) (pa_cons (pe_op op_add (pe_int) (pcl o__law_draw (hr.mono (by decide)) pass0 (pa_cons (pv 0) (pa_cons (pv 1) pa_nil)))) pa_nil)))))), ?_⟩
  obtain ⟨a, most, rfl, hP, m1, m2, k⟩ := h
  simp only [spDraw, exists_and_left, tSl, tPart, tNoPart, rSlLN, rMax2, rMin2, gUnlN, tYes, rLenS, rRepN, cx_K, Value.ref.injEq, HO.xd.injEq, lk0, tSeq, tPar3, tPar, tCons, tNil, tVar, tC, tAsg, gName, gCons, gNil, gTupN, gSub, tOp, rI, rI0, rU, tTest, rNe, rEq, rIxTN, rIxLN, rLenL, rLenT, rIntI, rIntB, rAbs, rSetLN, tTruL, tRaiseX, rIsTy, rIsOw, ixN0, ixN1, tRet, tIf, tIfS, tNext, tBreak, tCont, tDrop, tTupN, tLstN, tUn, tCB, tCall, tNot, tAnd, tOr, tB, tAndV, tOrV, tNotV, tChain, tApp, LamX.tLam, tRevLN, rCatN, rInTN, rInLN, flatV, inV, List.all_cons, List.all_nil, List.any_cons, List.any_nil, Bool.and_self, Bool.and_true, if_true, Bool.false_eq_true, if_false, tMt, tFldN, tSto, HO.ins.injEq, lkh, List.drop_zero, List.drop_succ_cons, List.drop_nil, rListS, wipe, L2.start, List.map_cons, List.map_nil, List.length_cons, List.length_nil, List.replicate, List.cons_append, List.nil_append, List.append_nil, Nat.reduceAdd, Nat.reduceSub, Nat.zero_add, List.replicate_succ, List.replicate_zero, List.getElem?_cons_zero, List.getElem?_cons_succ, List.set_cons_zero, List.set_cons_succ, Option.some.injEq, V.int.injEq, V.bl.injEq, V.ref.injEq, V.str.injEq, V.ty.injEq, List.cons.injEq, HO.tup.injEq, HO.lst.injEq, and_true, true_and, and_assoc, exists_eq_left, exists_eq_left', exists_and_left, exists_eq', atI0, atI1, atI2, atI3, Int.cast_ofNat_Int, Int.reduceToNat, scal_ii, scal_in, scal_ni, scal_nn, scal_bb, scal_ss, scal_sn, scal_ns, scal_bn, scal_nb, ite_iff, decide_eq_true_eq, decide_eq_false_iff_not, Bool.not_eq_true', Classical.not_not, ne_eq, not_false_eq_true, not_true_eq_false, forall_const, true_implies, false_implies, imp_self, sizeLine_eq, Nat.reduceLeDiff, reduceCtorEq, decide_true, decide_false]
  refine ⟨hP, m1, by omega, fun d H1 d0 d1 hP1 t1 => ⟨hP1, by omega, by omega, fun e H2 e0 e1 hP2 t2 => ⟨hP2, by omega, by omega, fun f H3 f0 f1 hP3 t3 => ?_⟩⟩⟩
  intro t H4 ht s4 h4
  exact k t _ _ _ H4 (by omega) (by omega) e0 (by omega) (by omega) (by omega) (hP3.same s4) ((t1.trans t2).trans (t3.trans (StpP.of s4))) h4
def spOpened (K : PySem.W.Frag) : Sp := fun vs H Q _ => ∃ sc i, vs = [.ref sc, .int i] ∧ ∃ ns : List Int, SqL K H sc (ns.map V.int) ∧ 0 ≤ i ∧ i < 100 ∧ ∀ p H', H p = none → Same H H' → Po H' p → Q (.ref p) H'
theorem o__law_opened (T : Txt K mg) : OkF P w K mg base CX0 1 "_law_opened" ["_law_script", "_law_k"] (spOpened K) := by
  obtain ⟨f, fd, g, F⟩ := T.d__law_opened
  refine ⟨f, fd, g, F.kp, F.binds (fun _ _ _ _ _ _ us hl => match us, hl with | [_, _], _ => rfl), F.ok sc__law_opened (fun vs H Q E h => ?_) (fun cdv A outer s H vs Q E hr h => ?_)⟩
  · first | (obtain ⟨_, rfl, _⟩ := h; rfl) | (obtain ⟨_, _, rfl, _⟩ := h; rfl) | (obtain ⟨_, _, _, rfl, _⟩ := h; rfl) | (obtain ⟨_, _, _, _, rfl, _⟩ := h; rfl) | (obtain ⟨_, _, _, _, _, rfl, _⟩ := h; rfl) | (obtain ⟨_, _, _, _, _, _, rfl, _⟩ := h; rfl) | (obtain ⟨_, _, _, _, _, _, _, rfl, _⟩ := h; rfl)
  have hu64 := hr.units
  refine ⟨_, pss_cons (ps_set (i := 2) sc__law_opened.nd rfl (Or.inl rfl) (pe_ix ix_listN (pe_op op_catN (pe_slice sl_listN (pv 0) (po_some (pv 1)) (po_some (pe_op op_add (pv 1) (pe_int)))) (pe_lstN (pa_cons (pe_int) pa_nil))) (pe_int) (fun _ _ => rfl)))
      (pss_cons (ps_set (i := 3) sc__law_opened.nd rfl (Or.inl rfl) (pe_callB (call_max2N rfl) (by rfl) T.m_max (by decide +kernel) (pa_cons (pe_callTy call_intI (by rfl) T.m_int (by decide +kernel) (pa_cons (pv 2) pa_nil)) (pa_cons (pe_callTy call_intI (by rfl) T.m_int (by decide +kernel) (pa_cons (pe_op op_sub (pe_un un_neg (pe_int)) (pv 2)) pa_nil)) pa_nil))))
      (pss_cons (ps_set (i := 4) sc__law_opened.nd rfl (Or.inl rfl) (pe_op op_mod (pe_op op_mul (pe_op op_add (pe_op op_add (pe_op op_mod (pe_callTy call_intI (by rfl) T.m_int (by decide +kernel) (pa_cons (pv 3) pa_nil)) (pe_int)) (pe_op op_mul (pe_int) (pv 1))) (pe_int)) (pe_int)) (pe_int)))
      (pss_one (ps_ret (pe_lstN (pa_cons (pe_op op_mul (pe_callTy call_intB (by rfl) T.m_int (by decide +kernel) (pa_cons (pe_cmpR op_ge (pv 3) (pe_op op_pow (pe_int) (pe_int)) (nomark _)) pa_nil)) (pv 3)) (pa_cons (pv 4) pa_nil))))))), ?_⟩
  obtain ⟨sc, i, rfl, ns, hs, i0, i1, k⟩ := h
  simp only [exists_and_left, tSl, tPart, tNoPart, rSlLN, rMax2, rMin2, gUnlN, tYes, rLenS, rRepN, cx_K, Value.ref.injEq, HO.xd.injEq, lk0, tSeq, tPar3, tPar, tCons, tNil, tVar, tC, tAsg, gName, gCons, gNil, gTupN, gSub, tOp, rI, rI0, rU, tTest, rNe, rEq, rIxTN, rIxLN, rLenL, rLenT, rIntI, rIntB, rAbs, rSetLN, tTruL, tRaiseX, rIsTy, rIsOw, ixN0, ixN1, tRet, tIf, tIfS, tNext, tBreak, tCont, tDrop, tTupN, tLstN, tUn, tCB, tCall, tNot, tAnd, tOr, tB, tAndV, tOrV, tNotV, tChain, tApp, LamX.tLam, tRevLN, rCatN, rInTN, rInLN, flatV, inV, List.all_cons, List.all_nil, List.any_cons, List.any_nil, Bool.and_self, Bool.and_true, if_true, Bool.false_eq_true, if_false, tMt, tFldN, tSto, HO.ins.injEq, lkh, List.drop_zero, List.drop_succ_cons, List.drop_nil, rListS, wipe, L2.start, List.map_cons, List.map_nil, List.length_cons, List.length_nil, List.replicate, List.cons_append, List.nil_append, List.append_nil, Nat.reduceAdd, Nat.reduceSub, Nat.zero_add, List.replicate_succ, List.replicate_zero, List.getElem?_cons_zero, List.getElem?_cons_succ, List.set_cons_zero, List.set_cons_succ, Option.some.injEq, V.int.injEq, V.bl.injEq, V.ref.injEq, V.str.injEq, V.ty.injEq, List.cons.injEq, HO.tup.injEq, HO.lst.injEq, and_true, true_and, and_assoc, exists_eq_left, exists_eq_left', exists_and_left, exists_eq', atI0, atI1, atI2, atI3, Int.cast_ofNat_Int, Int.reduceToNat, scal_ii, scal_in, scal_ni, scal_nn, scal_bb, scal_ss, scal_sn, scal_ns, scal_bn, scal_nb, ite_iff, decide_eq_true_eq, decide_eq_false_iff_not, Bool.not_eq_true', Classical.not_not, ne_eq, not_false_eq_true, not_true_eq_false, forall_const, true_implies, false_implies, imp_self, sizeLine_eq, Nat.reduceLeDiff, reduceCtorEq, decide_true, decide_false]
  refine ⟨_, hs, fun p H1 hp s1 h1 => ?_⟩
  intro q H2 hq s2 h2
  have h12 := s2 _ _ h1
  have hsm : (cutV (ns.map V.int) (some i) (some (i + 1))).length ≤ 1000 := by
    unfold cutV
    rw [List.length_take]
    have c0 : ∀ n : Nat, HT.sIx n n (some (i + 1)) ≤ 1000 := fun n => by
      show (if i + 1 < 0 then (i + 1 + (n : Int)).toNat else min (i + 1).toNat n) ≤ 1000
      rw [if_neg (by omega)]
      omega
    exact Nat.le_trans (Nat.min_le_left _ _) (by have := c0 (ns.map V.int).length; omega)
  obtain ⟨z, zs, e⟩ : ∃ (z : Int) (zs : List V), cutV (ns.map V.int) (some i) (some (i + 1)) ++ [.int 0] = .int z :: zs := by
    cases e : cutV (ns.map V.int) (some i) (some (i + 1)) with
    | nil => exact ⟨0, [], rfl⟩
    | cons v vs =>
      have hm : v ∈ ns.map V.int := by
        have : v ∈ cutV (ns.map V.int) (some i) (some (i + 1)) := by rw [e]; simp
        exact List.mem_of_mem_drop (List.mem_of_mem_take this)
      obtain ⟨z, _, rfl⟩ := List.mem_map.mp hm
      exact ⟨z, _, rfl⟩
  refine ⟨p, rfl, q, rfl, _, h12, _, h2, by simp; omega, ?_⟩
  intro r H3 hr s3 h3
  rw [e] at h3
  refine ⟨r, rfl, _, h3, _, atI0, z, rfl, z, rfl, by decide, .inl ⟨by decide, by decide⟩, .inr ⟨by decide, by decide⟩, by decide, ⟨by decide, by decide, by decide⟩, .inl (by split <;> decide), ?_⟩
  intro u H4 hu s4 h4
  exact k u H4 ((s1.trans (s2.trans s3)).free hu) (s1.trans ((s2.trans s3).trans s4)) ⟨_, _, h4⟩
def spPl : Sp := fun vs H Q _ => ∃ t x y, vs = [.ref t, .int x, .int y] ∧ ∃ w s h, T3 H t w s h ∧ LB w s h ∧ x.natAbs < 2 ^ 2000 ∧ y.natAbs < 2 ^ 2000 ∧ ∀ p H', Same H H' → P2 H' p (plX w s h x y) (plY h y) → Q (.ref p) H'
theorem o__law_place (T : Txt K mg) : OkF P w K mg base CX0 1 "_law_place" ["_law_three_here", "_law_x", "_law_y"] spPl := by
  obtain ⟨f, fd, g, F⟩ := T.d__law_place
  refine ⟨f, fd, g, F.kp, F.binds (fun _ _ _ _ _ _ us hl => match us, hl with | [_, _, _], _ => rfl), F.ok sc__law_place (fun vs H Q E h => ?_) (fun cdv A outer s H vs Q E hr h => ?_)⟩
  · first | (obtain ⟨_, rfl, _⟩ := h; rfl) | (obtain ⟨_, _, rfl, _⟩ := h; rfl) | (obtain ⟨_, _, _, rfl, _⟩ := h; rfl) | (obtain ⟨_, _, _, _, rfl, _⟩ := h; rfl) | (obtain ⟨_, _, _, _, _, rfl, _⟩ := h; rfl) | (obtain ⟨_, _, _, _, _, _, rfl, _⟩ := h; rfl) | (obtain ⟨_, _, _, _, _, _, _, rfl, _⟩ := h; rfl)
  have hu64 := hr.units
  refine ⟨_, pss_cons (ps_asg (pv 0) (pg_unlN (n := 3) (by rfl) (pgs_cons (pg_name (i := 3) sc__law_place.nd rfl (Or.inl rfl)) (pgs_cons (pg_name (i := 4) sc__law_place.nd rfl (Or.inl rfl)) (pgs_cons (pg_name (i := 5) sc__law_place.nd rfl (Or.inl rfl)) pgs_nil)))))
      (pss_one (ps_ret (pe_tupN (pa_cons (pe_op op_mod (pe_op op_sub (pv 1) (pe_op op_mulW (pv 4) (pe_op op_fdivW (pv 2) (pv 5)))) (pv 3)) (pa_cons (pe_op op_mod (pv 2) (pv 5)) pa_nil))))), ?_⟩
  obtain ⟨t, x, y, rfl, w, s, h, ht, B, xs, ys, k⟩ := h
  have d0 : 0 < h := by have := B.d1; omega
  have a0 : 0 < w := by have := B.a1; omega
  have hq : (y / h).natAbs < 2 ^ 2000 := Nat.lt_of_le_of_lt (Int.natAbs_ediv_le_natAbs _ _) ys
  have e : y % h = plY h y := Int.emod_def y h
  simp only [ht, exists_and_left, tSl, tPart, tNoPart, rSlLN, rMax2, rMin2, gUnlN, tYes, rLenS, rRepN, cx_K, Value.ref.injEq, HO.xd.injEq, lk0, tSeq, tPar3, tPar, tCons, tNil, tVar, tC, tAsg, gName, gCons, gNil, gTupN, gSub, tOp, rI, rI0, rU, tTest, rNe, rEq, rIxTN, rIxLN, rLenL, rLenT, rIntI, rIntB, rAbs, rSetLN, tTruL, tRaiseX, rIsTy, rIsOw, ixN0, ixN1, tRet, tIf, tIfS, tNext, tBreak, tCont, tDrop, tTupN, tLstN, tUn, tCB, tCall, tNot, tAnd, tOr, tB, tAndV, tOrV, tNotV, tChain, tApp, LamX.tLam, tRevLN, rCatN, rInTN, rInLN, flatV, inV, List.all_cons, List.all_nil, List.any_cons, List.any_nil, Bool.and_self, Bool.and_true, if_true, Bool.false_eq_true, if_false, tMt, tFldN, tSto, HO.ins.injEq, lkh, List.drop_zero, List.drop_succ_cons, List.drop_nil, rListS, wipe, L2.start, List.map_cons, List.map_nil, List.length_cons, List.length_nil, List.replicate, List.cons_append, List.nil_append, List.append_nil, Nat.reduceAdd, Nat.reduceSub, Nat.zero_add, List.replicate_succ, List.replicate_zero, List.getElem?_cons_zero, List.getElem?_cons_succ, List.set_cons_zero, List.set_cons_succ, Option.some.injEq, V.int.injEq, V.bl.injEq, V.ref.injEq, V.str.injEq, V.ty.injEq, List.cons.injEq, HO.tup.injEq, HO.lst.injEq, and_true, true_and, and_assoc, exists_eq_left, exists_eq_left', exists_and_left, exists_eq', atI0, atI1, atI2, atI3, Int.cast_ofNat_Int, Int.reduceToNat, scal_ii, scal_in, scal_ni, scal_nn, scal_bb, scal_ss, scal_sn, scal_ns, scal_bn, scal_nb, ite_iff, decide_eq_true_eq, decide_eq_false_iff_not, Bool.not_eq_true', Classical.not_not, ne_eq, not_false_eq_true, not_true_eq_false, forall_const, true_implies, false_implies, imp_self, sizeLine_eq, Nat.reduceLeDiff, reduceCtorEq, decide_true, decide_false]
  refine ⟨wide_div d0 B.dS (by decide) (by decide), wide_mul B.bS hq (by decide) (by decide) (by decide), a0, d0, ?_⟩
  rw [e]
  exact fun q H' _ s hq => k q H' s hq
def spHo : Sp := fun vs H Q _ => ∃ t x y, vs = [.ref t, .int x, .int y] ∧ ∃ w s h, T3 H t w s h ∧ LB w s h ∧ x.natAbs < 2 ^ 2000 ∧ y.natAbs < 2 ^ 2000 ∧ ∀ H', Same H H' → Q (.bl (inL w s h (some (x, y)))) H'
theorem o__law_holds (T : Txt K mg) : OkF P w K mg base CX0 2 "_law_holds" ["_law_three_here", "_law_x", "_law_y"] spHo := by
  have o__law_place := o__law_place (P := P) (w := w) (base := base) T
  obtain ⟨f, fd, g, F⟩ := T.d__law_holds
  refine ⟨f, fd, g, F.kp, F.binds (fun _ _ _ _ _ _ us hl => match us, hl with | [_, _, _], _ => rfl), F.ok sc__law_holds (fun vs H Q E h => ?_) (fun cdv A outer s H vs Q E hr h => ?_)⟩
  · first | (obtain ⟨_, rfl, _⟩ := h; rfl) | (obtain ⟨_, _, rfl, _⟩ := h; rfl) | (obtain ⟨_, _, _, rfl, _⟩ := h; rfl) | (obtain ⟨_, _, _, _, rfl, _⟩ := h; rfl) | (obtain ⟨_, _, _, _, _, rfl, _⟩ := h; rfl) | (obtain ⟨_, _, _, _, _, _, rfl, _⟩ := h; rfl) | (obtain ⟨_, _, _, _, _, _, _, rfl, _⟩ := h; rfl)
  have hu64 := hr.units
  refine ⟨_, pss_one (ps_ret (pe_cmpR (op_eqDk (K := K) rfl hu64) (pcl o__law_place (hr.mono (by decide)) pass0 (pa_cons (pv 0) (pa_cons (pv 1) (pa_cons (pv 2) pa_nil)))) (pe_tupN (pa_cons (pe_int) (pa_cons (pe_int) pa_nil))) (nomark _))), ?_⟩
  obtain ⟨t, x, y, rfl, w, s, h, ht, B, xs, ys, k⟩ := h
  simp only [spPl, exists_and_left, tSl, tPart, tNoPart, rSlLN, rMax2, rMin2, gUnlN, tYes, rLenS, rRepN, cx_K, Value.ref.injEq, HO.xd.injEq, lk0, tSeq, tPar3, tPar, tCons, tNil, tVar, tC, tAsg, gName, gCons, gNil, gTupN, gSub, tOp, rI, rI0, rU, tTest, rNe, rEq, rIxTN, rIxLN, rLenL, rLenT, rIntI, rIntB, rAbs, rSetLN, tTruL, tRaiseX, rIsTy, rIsOw, ixN0, ixN1, tRet, tIf, tIfS, tNext, tBreak, tCont, tDrop, tTupN, tLstN, tUn, tCB, tCall, tNot, tAnd, tOr, tB, tAndV, tOrV, tNotV, tChain, tApp, LamX.tLam, tRevLN, rCatN, rInTN, rInLN, flatV, inV, List.all_cons, List.all_nil, List.any_cons, List.any_nil, Bool.and_self, Bool.and_true, if_true, Bool.false_eq_true, if_false, tMt, tFldN, tSto, HO.ins.injEq, lkh, List.drop_zero, List.drop_succ_cons, List.drop_nil, rListS, wipe, L2.start, List.map_cons, List.map_nil, List.length_cons, List.length_nil, List.replicate, List.cons_append, List.nil_append, List.append_nil, Nat.reduceAdd, Nat.reduceSub, Nat.zero_add, List.replicate_succ, List.replicate_zero, List.getElem?_cons_zero, List.getElem?_cons_succ, List.set_cons_zero, List.set_cons_succ, Option.some.injEq, V.int.injEq, V.bl.injEq, V.ref.injEq, V.str.injEq, V.ty.injEq, List.cons.injEq, HO.tup.injEq, HO.lst.injEq, and_true, true_and, and_assoc, exists_eq_left, exists_eq_left', exists_and_left, exists_eq', atI0, atI1, atI2, atI3, Int.cast_ofNat_Int, Int.reduceToNat, scal_ii, scal_in, scal_ni, scal_nn, scal_bb, scal_ss, scal_sn, scal_ns, scal_bn, scal_nb, ite_iff, decide_eq_true_eq, decide_eq_false_iff_not, Bool.not_eq_true', Classical.not_not, ne_eq, not_false_eq_true, not_true_eq_false, forall_const, true_implies, false_implies, imp_self, sizeLine_eq, Nat.reduceLeDiff, reduceCtorEq, decide_true, decide_false]
  refine ⟨w, s, h, ht, B, xs, ys, fun p H1 s1 h1 => ?_⟩
  intro q H2 _ s2 h2
  exact eq_P2 (s2 _ _ h1) h2 (k H2 (s1.trans s2))

def spSum : Sp := fun vs H Q _ => ∃ t1 t2 x y, vs = [.ref t1, .ref t2, .int x, .int y] ∧ ∃ p q r s, P2 H t1 p q ∧ P2 H t2 r s ∧ p * s - r * q ≠ 0 ∧ p.natAbs < 2 ^ 100 ∧ q.natAbs < 2 ^ 100 ∧ r.natAbs < 2 ^ 100 ∧ s.natAbs < 2 ^ 100 ∧ x.natAbs < 2 ^ 1000 ∧ y.natAbs < 2 ^ 1000 ∧
  ∀ b : Bool, (b = true ↔ Sp2 p q r s x y) → Q (.bl b) H
theorem o__law_is_sum (T : Txt K mg) : OkF P w K mg base CX0 1 "_law_is_sum" ["_law_one", "_law_other", "_law_x", "_law_y"] spSum := by
  obtain ⟨f, fd, g, F⟩ := T.d__law_is_sum
  refine ⟨f, fd, g, F.kp, F.binds (fun _ _ _ _ _ _ us hl => match us, hl with | [_, _, _, _], _ => rfl), F.ok sc__law_is_sum (fun vs H Q E h => ?_) (fun cdv A outer s H vs Q E hr h => ?_)⟩
  · first | (obtain ⟨_, rfl, _⟩ := h; rfl) | (obtain ⟨_, _, rfl, _⟩ := h; rfl) | (obtain ⟨_, _, _, rfl, _⟩ := h; rfl) | (obtain ⟨_, _, _, _, rfl, _⟩ := h; rfl) | (obtain ⟨_, _, _, _, _, rfl, _⟩ := h; rfl) | (obtain ⟨_, _, _, _, _, _, rfl, _⟩ := h; rfl) | (obtain ⟨_, _, _, _, _, _, _, rfl, _⟩ := h; rfl)
  have hu64 := hr.units
  refine ⟨_, pss_cons (ps_set (i := 4) sc__law_is_sum.nd rfl (Or.inl rfl) (pe_op op_sub (pe_op op_mulW (pe_ix ix_tupN (pv 0) (pe_int) (fun _ _ => rfl)) (pe_ix ix_tupN (pv 1) (pe_int) (fun _ _ => rfl))) (pe_op op_mulW (pe_ix ix_tupN (pv 1) (pe_int) (fun _ _ => rfl)) (pe_ix ix_tupN (pv 0) (pe_int) (fun _ _ => rfl)))))
      (pss_one (ps_ret (pe_and (pe_cmpR op_eq (pe_op op_modN (pe_op op_sub (pe_op op_mulW (pv 2) (pe_ix ix_tupN (pv 1) (pe_int) (fun _ _ => rfl))) (pe_op op_mulW (pv 3) (pe_ix ix_tupN (pv 1) (pe_int) (fun _ _ => rfl)))) (pv 4)) (pe_int) (nomark _)) (pe_one (pe_cmpR op_eq (pe_op op_modN (pe_op op_sub (pe_op op_mulW (pv 3) (pe_ix ix_tupN (pv 0) (pe_int) (fun _ _ => rfl))) (pe_op op_mulW (pv 2) (pe_ix ix_tupN (pv 0) (pe_int) (fun _ _ => rfl)))) (pv 4)) (pe_int) (nomark _)))))), ?_⟩
  obtain ⟨t1, t2, x, y, rfl, p, q, r, s, h1, h2, hW, bp, bq, br, bs, bx, yb, k⟩ := h
  have h1 : H t1 = some (.tup [.int p, .int q]) := h1
  have h2 : H t2 = some (.tup [.int r, .int s]) := h2
  simp only [h1, h2, exists_and_left, tSl, tPart, tNoPart, rSlLN, rMax2, rMin2, gUnlN, tYes, rLenS, rRepN, cx_K, Value.ref.injEq, HO.xd.injEq, lk0, tSeq, tPar3, tPar, tCons, tNil, tVar, tC, tAsg, gName, gCons, gNil, gTupN, gSub, tOp, rI, rI0, rU, tTest, rNe, rEq, rIxTN, rIxLN, rLenL, rLenT, rIntI, rIntB, rAbs, rSetLN, tTruL, tRaiseX, rIsTy, rIsOw, ixN0, ixN1, tRet, tIf, tIfS, tNext, tBreak, tCont, tDrop, tTupN, tLstN, tUn, tCB, tCall, tNot, tAnd, tOr, tB, tAndV, tOrV, tNotV, tChain, tApp, LamX.tLam, tRevLN, rCatN, rInTN, rInLN, flatV, inV, List.all_cons, List.all_nil, List.any_cons, List.any_nil, Bool.and_self, Bool.and_true, if_true, Bool.false_eq_true, if_false, tMt, tFldN, tSto, HO.ins.injEq, lkh, List.drop_zero, List.drop_succ_cons, List.drop_nil, rListS, wipe, L2.start, List.map_cons, List.map_nil, List.length_cons, List.length_nil, List.replicate, List.cons_append, List.nil_append, List.append_nil, Nat.reduceAdd, Nat.reduceSub, Nat.zero_add, List.replicate_succ, List.replicate_zero, List.getElem?_cons_zero, List.getElem?_cons_succ, List.set_cons_zero, List.set_cons_succ, Option.some.injEq, V.int.injEq, V.bl.injEq, V.ref.injEq, V.str.injEq, V.ty.injEq, List.cons.injEq, HO.tup.injEq, HO.lst.injEq, and_true, true_and, and_assoc, exists_eq_left, exists_eq_left', exists_and_left, exists_eq', atI0, atI1, atI2, atI3, Int.cast_ofNat_Int, Int.reduceToNat, scal_ii, scal_in, scal_ni, scal_nn, scal_bb, scal_ss, scal_sn, scal_ns, scal_bn, scal_nb, ite_iff, decide_eq_true_eq, decide_eq_false_iff_not, Bool.not_eq_true', Classical.not_not, ne_eq, not_false_eq_true, not_true_eq_false, forall_const, true_implies, false_implies, imp_self, sizeLine_eq, Nat.reduceLeDiff, reduceCtorEq, decide_true, decide_false]
  have eqv : ∀ z : Int, z.fmod (p * s - r * q) = 0 ↔ z % (p * s - r * q) = 0 := fun z => ⟨fun e => Int.emod_eq_zero_of_dvd (Int.dvd_of_fmod_eq_zero e), fun e => Int.fmod_eq_zero_of_dvd (Int.dvd_of_emod_eq_zero e)⟩
  have si := sum_iff (p := p) (q := q) (r := r) (s := s) (x := x) (y := y) hW
  rw [← eqv, ← eqv] at si
  refine ⟨wide_mul bp bs (by decide) (by decide) (by decide), wide_mul br bq (by decide) (by decide) (by decide), wide_mul bx bs (by decide) (by decide) (by decide), wide_mul yb br (by decide) (by decide) (by decide), hW, fun e => ⟨wide_mul yb bp (by decide) (by decide) (by decide), wide_mul bx bq (by decide) (by decide) (by decide), hW, k _ ?_⟩, fun e => k false ?_⟩
  · rw [← si, decide_eq_true_eq]; exact ⟨fun h => ⟨e, h⟩, fun h => h.2⟩
  · rw [← si]; exact ⟨fun h => (by cases h), fun h => absurd h.1 e⟩

end
end Iz
/-! k09_f -/
set_option Elab.async false
set_option linter.all false
set_option maxRecDepth 100000
set_option maxHeartbeats 4000000
namespace Iz
open PySem PySem.Spec PyProof.Rows L2
open He (ga)
local macro_rules | `(tactic| walk_at "wp") => `(tactic| simp only [tSl, tPart, tNoPart, rSlLN, rMax2, rMin2, gUnlN, tYes, rLenS, rRepN, cx_K, Value.ref.injEq, HO.xd.injEq, lk0, tSeq, tPar3, tPar, tCons, tNil, tVar, tC, tAsg, gName, gCons, gNil, gTupN, gSub, tOp, rI, rI0, rU, tTest, rNe, rEq, rIxTN, rIxLN, rLenL, rLenT, rIntI, rIntB, rAbs, rSetLN, tTruL, tRaiseX, rIsTy, rIsOw, ixN0, ixN1, tRet, tIf, tIfS, tNext, tBreak, tCont, tDrop, tTupN, tLstN, tUn, tCB, tCall, tNot, tAnd, tOr, tB, tAndV, tOrV, tNotV, tChain, tApp, LamX.tLam, tRevLN, rCatN, rInTN, rInLN, flatV, inV, List.all_cons, List.all_nil, List.any_cons, List.any_nil, Bool.and_self, Bool.and_true, if_true, Bool.false_eq_true, if_false, tMt, tFldN, tSto, HO.ins.injEq, lkh, List.drop_zero, List.drop_succ_cons, List.drop_nil, rListS, wipe, L2.start, List.map_cons, List.map_nil, List.length_cons, List.length_nil, List.replicate, List.cons_append, List.nil_append, List.append_nil, Nat.reduceAdd, Nat.reduceSub, Nat.zero_add, List.replicate_succ, List.replicate_zero, List.getElem?_cons_zero, List.getElem?_cons_succ, List.set_cons_zero, List.set_cons_succ, Option.some.injEq, V.int.injEq, V.bl.injEq, V.ref.injEq, V.str.injEq, V.ty.injEq, List.cons.injEq, HO.tup.injEq, HO.lst.injEq, and_true, true_and, and_assoc, exists_eq_left, exists_eq_left', exists_and_left, exists_eq', atI0, atI1, atI2, atI3, Int.cast_ofNat_Int, Int.reduceToNat, scal_ii, scal_in, scal_ni, scal_nn, scal_bb, scal_ss, scal_sn, scal_ns, scal_bn, scal_nb, ite_iff, decide_eq_true_eq, decide_eq_false_iff_not, Bool.not_eq_true', Classical.not_not, ne_eq, not_false_eq_true, not_true_eq_false, forall_const, true_implies, false_implies, imp_self, sizeLine_eq, Nat.reduceLeDiff, reduceCtorEq, decide_true, decide_false])
section
variable {P : Program} {w : World} {K : PySem.W.Frag} {mg : Str → Option Value} {base : Heap}
/-! ### what is refused -/
open LamX
def qn__law_spanned_right : Str := (("_law_spanned_right" : Str) ++ ".<locals>.") ++ "<lambda>"
def qn_law : Str := (("law" : Str) ++ ".<locals>.") ++ "<lambda>"
abbrev Tb2 (K : PySem.W.Frag) : List (Addr × Str) := [(pOf K "_law_spanned_right", qn__law_spanned_right), (pOf K "law", qn_law)]
theorem hu_sp (T : Txt K mg) : ∀ q ∈ Tb2 K, q.1 = pOf K "_law_spanned_right" → q.2 = qn__law_spanned_right := by
  intro q hq e
  simp only [List.mem_cons, List.not_mem_nil, or_false] at hq
  rcases hq with rfl | rfl
  · rfl
  · exact absurd e.symm T.pne
theorem hu_law (T : Txt K mg) : ∀ q ∈ Tb2 K, q.1 = pOf K "law" → q.2 = qn_law := by
  intro q hq e
  simp only [List.mem_cons, List.not_mem_nil, or_false] at hq
  rcases hq with rfl | rfl
  · exact absurd e T.pne
  · rfl
/-- what _law_refused makes of an error -/
def RefQ (K : PySem.W.Frag) (Q : VK) : XK := fun cls d H' => ∃ dd, d = some dd ∧ ((cls = .ref (ga K "BadPart") ∧ ∃ v, H' dd = some (.xd [("part", v)]) ∧ News H' (.lst [.str "part", v]) Q) ∨ (cls = .ref (ga K "NotSo") ∧ ∃ v, H' dd = some (.xd [("word", v)]) ∧ News H' (.lst [.str "so", v]) Q))
def TTr (K : PySem.W.Frag) : (XK → Hp → VK → Prop) → Hp → VK → Prop := fun tl H Q => tl (RefQ K Q) H fun _ H' => News H' (.lst [.str "none"]) Q
theorem refused_gives {X : Cx} {g : Addr} {cdg : Value} {q : Str} (T : Txt X.K X.mg) : GivesTo X ["_law_call", "e"] "_law_refused" (defScope s__law_refused) g cdg (defBody s__law_refused) "_law_call" q (TTr X.K) := by
  intro f c' s H Q tl act hc h
  refine ⟨_, pss_cons (ps_try_named (X := (cxOf C8.CX0 X.prog X.w X.K X.mg X.base ["_law_call", "e"] "_law_refused" (defScope s__law_refused) g cdg X.A X.stack s H C8.E0).nox)
    (tb := fun W D σ H => ∃ Ech : XK, (∀ cls d σ' H', Ech cls d H' → W cls d σ' H') ∧ σ[0]? = some (some (.ref f)) ∧ H c' = some (CodeO c' q) ∧ tl Ech H fun _ H1 => D.nx σ H1)
    sc__law_refused.nd (fun W pn xe tk _ => ?_)
    (.cons (q := (.ref (ga X.K "BadPart"), 1, fun a cls d => _)) ⟨rfl, rfl, ⟨rfl, by decide, .inl T.x_BadPart.g⟩, fun a oe cls d pn hz hf => pss_len (n := 2) (pss_one (ps_ret (pe_lstN (pa_cons pe_str (pa_cons (pe_xf T.x_BadPart.xf T.x_BadPart.no hz hf (pv 1)) pa_nil))))) rfl⟩
      (.cons (q := (.ref (ga X.K "BadNumber"), 1, fun _ _ _ _ _ _ => False)) ⟨rfl, rfl, ⟨rfl, by decide, .inl T.x_BadNumber.g⟩, fun _ _ _ _ _ _ _ => pss_one ps_never⟩
        (.cons (q := (.ref (ga X.K "BadIndex"), 1, fun _ _ _ _ _ _ => False)) ⟨rfl, rfl, ⟨rfl, by decide, .inl T.gI⟩, fun _ _ _ _ _ _ _ => pss_one ps_never⟩
          (.cons (q := (.ref (ga X.K "NotSo"), 1, fun a cls d => _)) ⟨rfl, rfl, ⟨rfl, by decide, .inl T.x_NotSo.g⟩, fun a oe cls d pn hz hf => pss_len (n := 2) (pss_one (ps_ret (pe_lstN (pa_cons pe_str (pa_cons (pe_xf T.x_NotSo.xf T.x_NotSo.no hz hf (pv 1)) pa_nil))))) rfl⟩
            (.cons (q := (.ref (ga X.K "TooMany"), 1, fun _ _ _ _ _ _ => False)) ⟨rfl, rfl, ⟨rfl, by decide, .inl T.gM⟩, fun _ _ _ _ _ _ _ => pss_one ps_never⟩ .nil))))))
    (pss_one (ps_ret (pe_lstN (pa_cons pe_str pa_nil)))), ?_⟩
  · refine ⟨fun pins s' σ H' D I h' => ?_⟩
    obtain ⟨Ech, hW, h1, h2, h3⟩ := h'
    exact (pss_one (ps_expr (act W pn xe Ech _ _ tk hW))).run pins s' σ H' D I ⟨h1, h2, h3⟩
  · refine ⟨RefQ X.K Q, fun cls d σ' H' hh => ?_, rfl, hc, ?_⟩
    · obtain ⟨dd, rfl, ⟨rfl, v, hd, n⟩ | ⟨rfl, v, hd, n⟩⟩ := hh
      · refine ⟨true, T.mPP, fun _ a ha hlen => ?_, fun z => nomatch z⟩
        rw [List.length_set] at hlen
        have hs1 : (σ'.set 1 (some (V.ref a)))[1]? = some (some (V.ref a)) := by simp [hlen]
        simp only [rIsX, tXf, hs1, hd, exists_and_left, unset, tSl, tPart, tNoPart, rSlLN, rMax2, rMin2, gUnlN, tYes, rLenS, rRepN, cx_K, Value.ref.injEq, HO.xd.injEq, lk0, tSeq, tPar3, tPar, tCons, tNil, tVar, tC, tAsg, gName, gCons, gNil, gTupN, gSub, tOp, rI, rI0, rU, tTest, rNe, rEq, rIxTN, rIxLN, rLenL, rLenT, rIntI, rIntB, rAbs, rSetLN, tTruL, tRaiseX, rIsTy, rIsOw, ixN0, ixN1, tRet, tIf, tIfS, tNext, tBreak, tCont, tDrop, tTupN, tLstN, tUn, tCB, tCall, tNot, tAnd, tOr, tB, tAndV, tOrV, tNotV, tChain, tApp, LamX.tLam, tRevLN, rCatN, rInTN, rInLN, flatV, inV, List.all_cons, List.all_nil, List.any_cons, List.any_nil, Bool.and_self, Bool.and_true, if_true, Bool.false_eq_true, if_false, tMt, tFldN, tSto, HO.ins.injEq, lkh, List.drop_zero, List.drop_succ_cons, List.drop_nil, rListS, wipe, L2.start, List.map_cons, List.map_nil, List.length_cons, List.length_nil, List.replicate, List.cons_append, List.nil_append, List.append_nil, Nat.reduceAdd, Nat.reduceSub, Nat.zero_add, List.replicate_succ, List.replicate_zero, List.getElem?_cons_zero, List.getElem?_cons_succ, List.set_cons_zero, List.set_cons_succ, Option.some.injEq, V.int.injEq, V.bl.injEq, V.ref.injEq, V.str.injEq, V.ty.injEq, List.cons.injEq, HO.tup.injEq, HO.lst.injEq, and_true, true_and, and_assoc, exists_eq_left, exists_eq_left', exists_and_left, exists_eq', atI0, atI1, atI2, atI3, Int.cast_ofNat_Int, Int.reduceToNat, scal_ii, scal_in, scal_ni, scal_nn, scal_bb, scal_ss, scal_sn, scal_ns, scal_bn, scal_nb, ite_iff, decide_eq_true_eq, decide_eq_false_iff_not, Bool.not_eq_true', Classical.not_not, ne_eq, not_false_eq_true, not_true_eq_false, forall_const, true_implies, false_implies, imp_self, sizeLine_eq, Nat.reduceLeDiff, reduceCtorEq, decide_true, decide_false]
        exact n
      · refine ⟨false, T.mSP, (fun z => nomatch z), fun _ => ⟨false, T.mSN, (fun z => nomatch z), fun _ => ⟨false, T.mSI, (fun z => nomatch z), fun _ => ⟨true, T.mSS, fun _ a ha hlen => ?_, fun z => nomatch z⟩⟩⟩⟩
        rw [List.length_set] at hlen
        have hs1 : (σ'.set 1 (some (V.ref a)))[1]? = some (some (V.ref a)) := by simp [hlen]
        simp only [rIsX, tXf, hs1, hd, exists_and_left, unset, tSl, tPart, tNoPart, rSlLN, rMax2, rMin2, gUnlN, tYes, rLenS, rRepN, cx_K, Value.ref.injEq, HO.xd.injEq, lk0, tSeq, tPar3, tPar, tCons, tNil, tVar, tC, tAsg, gName, gCons, gNil, gTupN, gSub, tOp, rI, rI0, rU, tTest, rNe, rEq, rIxTN, rIxLN, rLenL, rLenT, rIntI, rIntB, rAbs, rSetLN, tTruL, tRaiseX, rIsTy, rIsOw, ixN0, ixN1, tRet, tIf, tIfS, tNext, tBreak, tCont, tDrop, tTupN, tLstN, tUn, tCB, tCall, tNot, tAnd, tOr, tB, tAndV, tOrV, tNotV, tChain, tApp, LamX.tLam, tRevLN, rCatN, rInTN, rInLN, flatV, inV, List.all_cons, List.all_nil, List.any_cons, List.any_nil, Bool.and_self, Bool.and_true, if_true, Bool.false_eq_true, if_false, tMt, tFldN, tSto, HO.ins.injEq, lkh, List.drop_zero, List.drop_succ_cons, List.drop_nil, rListS, wipe, L2.start, List.map_cons, List.map_nil, List.length_cons, List.length_nil, List.replicate, List.cons_append, List.nil_append, List.append_nil, Nat.reduceAdd, Nat.reduceSub, Nat.zero_add, List.replicate_succ, List.replicate_zero, List.getElem?_cons_zero, List.getElem?_cons_succ, List.set_cons_zero, List.set_cons_succ, Option.some.injEq, V.int.injEq, V.bl.injEq, V.ref.injEq, V.str.injEq, V.ty.injEq, List.cons.injEq, HO.tup.injEq, HO.lst.injEq, and_true, true_and, and_assoc, exists_eq_left, exists_eq_left', exists_and_left, exists_eq', atI0, atI1, atI2, atI3, Int.cast_ofNat_Int, Int.reduceToNat, scal_ii, scal_in, scal_ni, scal_nn, scal_bb, scal_ss, scal_sn, scal_ns, scal_bn, scal_nb, ite_iff, decide_eq_true_eq, decide_eq_false_iff_not, Bool.not_eq_true', Classical.not_not, ne_eq, not_false_eq_true, not_true_eq_false, forall_const, true_implies, false_implies, imp_self, sizeLine_eq, Nat.reduceLeDiff, reduceCtorEq, decide_true, decide_false]
        exact n
    · simp only [exists_and_left, tSl, tPart, tNoPart, rSlLN, rMax2, rMin2, gUnlN, tYes, rLenS, rRepN, cx_K, Value.ref.injEq, HO.xd.injEq, lk0, tSeq, tPar3, tPar, tCons, tNil, tVar, tC, tAsg, gName, gCons, gNil, gTupN, gSub, tOp, rI, rI0, rU, tTest, rNe, rEq, rIxTN, rIxLN, rLenL, rLenT, rIntI, rIntB, rAbs, rSetLN, tTruL, tRaiseX, rIsTy, rIsOw, ixN0, ixN1, tRet, tIf, tIfS, tNext, tBreak, tCont, tDrop, tTupN, tLstN, tUn, tCB, tCall, tNot, tAnd, tOr, tB, tAndV, tOrV, tNotV, tChain, tApp, LamX.tLam, tRevLN, rCatN, rInTN, rInLN, flatV, inV, List.all_cons, List.all_nil, List.any_cons, List.any_nil, Bool.and_self, Bool.and_true, if_true, Bool.false_eq_true, if_false, tMt, tFldN, tSto, HO.ins.injEq, lkh, List.drop_zero, List.drop_succ_cons, List.drop_nil, rListS, wipe, L2.start, List.map_cons, List.map_nil, List.length_cons, List.length_nil, List.replicate, List.cons_append, List.nil_append, List.append_nil, Nat.reduceAdd, Nat.reduceSub, Nat.zero_add, List.replicate_succ, List.replicate_zero, List.getElem?_cons_zero, List.getElem?_cons_succ, List.set_cons_zero, List.set_cons_succ, Option.some.injEq, V.int.injEq, V.bl.injEq, V.ref.injEq, V.str.injEq, V.ty.injEq, List.cons.injEq, HO.tup.injEq, HO.lst.injEq, and_true, true_and, and_assoc, exists_eq_left, exists_eq_left', exists_and_left, exists_eq', atI0, atI1, atI2, atI3, Int.cast_ofNat_Int, Int.reduceToNat, scal_ii, scal_in, scal_ni, scal_nn, scal_bb, scal_ss, scal_sn, scal_ns, scal_bn, scal_nb, ite_iff, decide_eq_true_eq, decide_eq_false_iff_not, Bool.not_eq_true', Classical.not_not, ne_eq, not_false_eq_true, not_true_eq_false, forall_const, true_implies, false_implies, imp_self, sizeLine_eq, Nat.reduceLeDiff, reduceCtorEq, decide_true, decide_false]
      exact h
theorem told_part {H : Hp} {v : V} {T : List (Addr × Str)} {tl : XK → Hp → VK → Prop} {R : VK} (hT : Tabs T H) (hsp : ∀ H1 (Q : VK) (E : XK), ExtN H H1 → Rse K E H1 "BadPart" "part" v → tl E H1 Q)
    (k : ∀ H2 q, ExtN H H2 → Tabs T H2 → H2 q = some (.lst [.str "part", v]) → R (.ref q) H2) : Tabs T H ∧ ∀ H1, ExtN H H1 → Tabs T H1 → TTr K tl H1 R :=
  ⟨hT, fun H1 e1 hT1 => hsp H1 _ _ e1 (fun d H' hd hs h2 => ⟨d, rfl, .inl ⟨rfl, v, h2, fun q H3 hq s3 h3 => k H3 q (e1.trans (extS (hs.trans s3))) (hT1.ext (hs.trans s3)) h3⟩⟩)⟩
theorem told_so {H : Hp} {v : V} {T : List (Addr × Str)} {tl : XK → Hp → VK → Prop} {R : VK} (hT : Tabs T H) (hsp : ∀ H1 (Q : VK) (E : XK), ExtN H H1 → Rse K E H1 "NotSo" "word" v → tl E H1 Q)
    (k : ∀ H2 q, ExtN H H2 → Tabs T H2 → H2 q = some (.lst [.str "so", v]) → R (.ref q) H2) : Tabs T H ∧ ∀ H1, ExtN H H1 → Tabs T H1 → TTr K tl H1 R :=
  ⟨hT, fun H1 e1 hT1 => hsp H1 _ _ e1 (fun d H' hd hs h2 => ⟨d, rfl, .inr ⟨rfl, v, h2, fun q H3 hq s3 h3 => k H3 q (e1.trans (extS (hs.trans s3))) (hT1.ext (hs.trans s3)) h3⟩⟩)⟩

end
end Iz
/-! k09_g -/
set_option Elab.async false
set_option linter.all false
set_option maxRecDepth 100000
set_option maxHeartbeats 4000000
namespace Iz
open PySem PySem.Spec PyProof.Rows L2
open He (ga)
local macro_rules | `(tactic| walk_at "wp") => `(tactic| simp only [tSl, tPart, tNoPart, rSlLN, rMax2, rMin2, gUnlN, tYes, rLenS, rRepN, cx_K, Value.ref.injEq, HO.xd.injEq, lk0, tSeq, tPar3, tPar, tCons, tNil, tVar, tC, tAsg, gName, gCons, gNil, gTupN, gSub, tOp, rI, rI0, rU, tTest, rNe, rEq, rIxTN, rIxLN, rLenL, rLenT, rIntI, rIntB, rAbs, rSetLN, tTruL, tRaiseX, rIsTy, rIsOw, ixN0, ixN1, tRet, tIf, tIfS, tNext, tBreak, tCont, tDrop, tTupN, tLstN, tUn, tCB, tCall, tNot, tAnd, tOr, tB, tAndV, tOrV, tNotV, tChain, tApp, LamX.tLam, tRevLN, rCatN, rInTN, rInLN, flatV, inV, List.all_cons, List.all_nil, List.any_cons, List.any_nil, Bool.and_self, Bool.and_true, if_true, Bool.false_eq_true, if_false, tMt, tFldN, tSto, HO.ins.injEq, lkh, List.drop_zero, List.drop_succ_cons, List.drop_nil, rListS, wipe, L2.start, List.map_cons, List.map_nil, List.length_cons, List.length_nil, List.replicate, List.cons_append, List.nil_append, List.append_nil, Nat.reduceAdd, Nat.reduceSub, Nat.zero_add, List.replicate_succ, List.replicate_zero, List.getElem?_cons_zero, List.getElem?_cons_succ, List.set_cons_zero, List.set_cons_succ, Option.some.injEq, V.int.injEq, V.bl.injEq, V.ref.injEq, V.str.injEq, V.ty.injEq, List.cons.injEq, HO.tup.injEq, HO.lst.injEq, and_true, true_and, and_assoc, exists_eq_left, exists_eq_left', exists_and_left, exists_eq', atI0, atI1, atI2, atI3, Int.cast_ofNat_Int, Int.reduceToNat, scal_ii, scal_in, scal_ni, scal_nn, scal_bb, scal_ss, scal_sn, scal_ns, scal_bn, scal_nb, ite_iff, decide_eq_true_eq, decide_eq_false_iff_not, Bool.not_eq_true', Classical.not_not, ne_eq, not_false_eq_true, not_true_eq_false, forall_const, true_implies, false_implies, imp_self, sizeLine_eq, Nat.reduceLeDiff, reduceCtorEq, decide_true, decide_false])
section
variable {P : Program} {w : World} {K : PySem.W.Frag} {mg : Str → Option Value} {base : Heap}
open LamX
theorem spn_mk {H : Hp} {Q : VK} {E : XK} {t1 t2 : Addr} {p q r s : Int} (h1 : P2 H t1 p q) (h2 : P2 H t2 r s) (bp : p.natAbs < 2 ^ 100) (bq : q.natAbs < 2 ^ 100) (br : r.natAbs < 2 ^ 100) (bs : s.natAbs < 2 ^ 100)
    (h0 : p * s - r * q = 0 → Rse K E H "NotSo" "word" (.str "parallel")) (h : p * s - r * q ≠ 0 → ∀ a b d, LB a b d → a * d = ((p * s - r * q).natAbs : Int) → (∀ x y, Ml a b d x y ↔ Sp2 p q r s x y) → NewL K H a b d Q) : spSpn K [.ref t1, .ref t2] H Q E := by
  refine ⟨_, _, rfl, P2.k h1, fun e => (by rw [pairV_of h1] at e; cases e), fun _ => ⟨P2.k h2, fun e => (by rw [pairV_of h2] at e; cases e)⟩, fun p' q' r' s' e1 e2 => ?_⟩
  rw [pairV_of h1] at e1
  rw [pairV_of h2] at e2
  cases e1; cases e2
  exact ⟨bp, bq, br, bs, h0, h⟩
theorem Tabs.stpP {a : Addr} {T : List (Addr × Str)} {H H' : Hp} (hT : Tabs T H) (hP : Po H a) (e : StpP a H H') : Tabs T H' := by
  intro p hp
  obtain ⟨ps, h1, h2, h3⟩ := hT p hp
  refine ⟨ps, e.at hP h1 (fun g s z => by cases z), h2, fun pos cv hcv => ?_⟩
  obtain ⟨c0, e1, e2⟩ := h3 pos cv hcv
  exact ⟨c0, e1, e.at hP e2 (fun g s z => by unfold CodeO at z; cases z)⟩
structure SR (K : PySem.W.Frag) (H0 H : Hp) (a t1 t2 l dx : Addr) (p q r s A B D : Int) : Prop where
  P : Po H a
  hT : Tabs (Tb2 K) H
  T1 : P2 H t1 p q
  T2 : P2 H t2 r s
  L : LAt K H l dx A B D
  S : StpP a H0 H
section
variable {H0 H H' : Hp} {a t1 t2 l dx : Addr} {p q r s A B D : Int}
theorem SR.same (x : SR K H0 H a t1 t2 l dx p q r s A B D) (e : Same H H') : SR K H0 H' a t1 t2 l dx p q r s A B D := ⟨x.P.same e, Tabs.ext x.hT e, e _ _ x.T1, e _ _ x.T2, e _ _ x.L, x.S.trans (StpP.of e)⟩
theorem SR.stp (x : SR K H0 H a t1 t2 l dx p q r s A B D) (P : Po H' a) (e : StpP a H H') : SR K H0 H' a t1 t2 l dx p q r s A B D :=
  ⟨P, Tabs.stpP x.hT x.P e, e.at x.P x.T1 (fun g n z => by cases z), e.at x.P x.T2 (fun g n z => by cases z), e.at x.P x.L (fun g n z => by cases z), x.S.trans e⟩
end
def spSR (K : PySem.W.Frag) : Sp := fun vs H Q _ => ∃ a t1 t2, vs = [.ref a, .ref t1, .ref t2] ∧ Po H a ∧ Tabs (Tb2 K) H ∧ ∃ p q r s, P2 H t1 p q ∧ P2 H t2 r s ∧ p.natAbs < 2 ^ 10 ∧ q.natAbs < 2 ^ 10 ∧ r.natAbs < 2 ^ 10 ∧ s.natAbs < 2 ^ 10 ∧
  ∀ H', Po H' a → Tabs (Tb2 K) H' → (∀ b o, H b = some o → b ≠ a → (∀ ps, o ≠ .tbl ps) → H' b = some o) → Q (.bl true) H'
theorem o__law_spanned_right (T : Txt K mg) (TB : TabB base mg (cOf K "_law_spanned_right") (pOf K "_law_spanned_right")) : OkF P w K mg base (L2.CX P w) 11 "_law_spanned_right" ["_law_pool", "_law_one", "_law_other"] (spSR K) := by
  have o_spanned := o_spanned (P := P) (w := w) (base := base) T
  have o_Lattice_area := o_Lattice_area (P := P) (w := w) (base := base) T
  have o_Lattice___eq__ := o_Lattice___eq__ (P := P) (w := w) (base := base) T
  have o_Lattice___contains__ := o_Lattice___contains__ (P := P) (w := w) (base := base) T
  have o__law_draw := o__law_draw (P := P) (w := w) (base := base) T
  have o__law_is_sum := o__law_is_sum (P := P) (w := w) (base := base) T
  refine T.lam__law_spanned_right.okF sc__law_spanned_right (fun _ _ _ _ _ _ us hl => match us, hl with | [_, _, _], _ => rfl) (fun vs H Q E h => ?_) (fun f A outer s H vs Q E hr h => ?_)
  · first | (obtain ⟨_, rfl, _⟩ := h; rfl) | (obtain ⟨_, _, rfl, _⟩ := h; rfl) | (obtain ⟨_, _, _, rfl, _⟩ := h; rfl) | (obtain ⟨_, _, _, _, rfl, _⟩ := h; rfl) | (obtain ⟨_, _, _, _, _, rfl, _⟩ := h; rfl) | (obtain ⟨_, _, _, _, _, _, rfl, _⟩ := h; rfl) | (obtain ⟨_, _, _, _, _, _, _, rfl, _⟩ := h; rfl)
  have hu64 := hr.units
  refine ⟨_, pss_cons (ps_set (i := 3) sc__law_spanned_right.nd rfl (Or.inl rfl) (pe_op op_sub (pe_op op_mulW (pe_ix ix_tupN (pv 1) (pe_int) (fun _ _ => rfl)) (pe_ix ix_tupN (pv 2) (pe_int) (fun _ _ => rfl))) (pe_op op_mulW (pe_ix ix_tupN (pv 2) (pe_int) (fun _ _ => rfl)) (pe_ix ix_tupN (pv 1) (pe_int) (fun _ _ => rfl)))))
      (pss_cons (ps_cut (ps_if (pt_cmpR op_eq (pv 3) (pe_int) (nomark _)) (pss_one (ps_ret (pe_cmpR (op_eqDk (K := K) rfl hu64) (plamT (k := 7) (qn := qn__law_spanned_right) (TS := (Tb2 K)) T.d__law_refused sc__law_refused (fun _ _ _ _ _ _ us hl => match us, hl with | [_], _ => rfl) (fun g cdg => refused_gives T) (.head _) (hu_sp T) TB rfl rfl (hr.mono (by decide)) (by show lamSB (defScope s__law_spanned_right) _ = true; decide +kernel) (fun A outer s H E f c hr2 => by exact (pcl o_spanned (hr2.mono (by decide)) passLam (pa_cons (pv 1) (pa_cons (pv 2) pa_nil))))) (pe_lstN (pa_cons (pe_str) (pa_cons (pe_str) pa_nil))) (nomark _)))) (pss_nil)))
      (pss_cons (ps_set (i := 4) sc__law_spanned_right.nd rfl (Or.inl rfl) (pcl o_spanned (hr.mono (by decide)) passE (pa_cons (pv 1) (pa_cons (pv 2) pa_nil))))
      (pss_cons (ps_cut (ps_if (PW.pt (pw_or (pt_cmpR op_ne (pmt0 (j := 0) o_Lattice_area T.c_Lattice (pv 4) (by decide) (hr.mono (by decide)) pass0) (pe_callB (call_max2N rfl) (by rfl) T.m_max (by decide +kernel) (pa_cons (pe_callTy call_intI (by rfl) T.m_int (by decide +kernel) (pa_cons (pv 3) pa_nil)) (pa_cons (pe_callTy call_intI (by rfl) T.m_int (by decide +kernel) (pa_cons (pe_op op_sub (pe_int) (pv 3)) pa_nil)) pa_nil))) (nomark _)) (pw_or1 (pt_cmpR (op_ownNe o_Lattice___eq__ T.ci_Lattice.hm T.ne_Lattice (hr.mono (by decide)) pass0) (pcl o_spanned (hr.mono (by decide)) passE (pa_cons (pv 2) (pa_cons (pv 1) pa_nil))) (pv 4) (nomark _))))) (pss_one (ps_ret (pe_bl))) (pss_nil)))
      (pss_cons (ps_cut (ps_if (PW.pt (pw_or (pt_cmpR (op_ownNotIn o_Lattice___contains__ (hr.mono (by decide)) passE) (pv 1) (pv 4) (by rfl)) (pw_or (pt_cmpR (op_ownNotIn o_Lattice___contains__ (hr.mono (by decide)) passE) (pv 2) (pv 4) (by rfl)) (pw_or1 (pt_cmpR (op_ownNotIn o_Lattice___contains__ (hr.mono (by decide)) passE) (pe_tupN (pa_cons (pe_int) (pa_cons (pe_int) pa_nil))) (pv 4) (by rfl)))))) (pss_one (ps_ret (pe_bl))) (pss_nil)))
      (pss_cons (ps_for (passes_of rfl) rfl (pi_range1 rfl T.m_range (pa_cons (pe_int) pa_nil)) (pg_name (i := 5) sc__law_spanned_right.nd rfl (Or.inl rfl)) (pss_cons (ps_par (i := 6) (j := 7) (by rfl) sc__law_spanned_right.nd rfl rfl (by decide) rfl rfl (pa_cons (pe_op op_sub (pcl o__law_draw (hr.mono (by decide)) pass0 (pa_cons (pv 0) (pa_cons (pe_int) pa_nil))) (pe_int)) (pa_cons (pe_op op_sub (pcl o__law_draw (hr.mono (by decide)) pass0 (pa_cons (pv 0) (pa_cons (pe_int) pa_nil))) (pe_int)) pa_nil)) (by rfl))
      (pss_cons (ps_cut (ps_if (pt_cmpR op_eq (pe_op op_mod (pv 5) (pe_int)) (pe_int) (nomark _)) (pss_cons (ps_set (i := 8) sc__law_spanned_right.nd rfl (Or.inl rfl) (pe_tupN (pa_cons (pe_op op_add (pe_op op_mulW (pe_ix ix_tupN (pv 1) (pe_int) (fun _ _ => rfl)) (pv 6)) (pe_op op_mulW (pe_ix ix_tupN (pv 2) (pe_int) (fun _ _ => rfl)) (pv 7))) (pa_cons (pe_op op_add (pe_op op_mulW (pe_ix ix_tupN (pv 1) (pe_int) (fun _ _ => rfl)) (pv 6)) (pe_op op_mulW (pe_ix ix_tupN (pv 2) (pe_int) (fun _ _ => rfl)) (pv 7))) pa_nil))))
      (pss_one (ps_asg (pv 8) (pg_tupN (n := 2) (by rfl) (pgs_cons (pg_name (i := 6) sc__law_spanned_right.nd rfl (Or.inl rfl)) (pgs_cons (pg_name (i := 7) sc__law_spanned_right.nd rfl (Or.inl rfl)) pgs_nil)))))) (pss_nil)))
      (pss_cons (ps_cut (ps_if (pt_cmpR op_eq (pe_op op_mod (pv 5) (pe_int)) (pe_int) (nomark _)) (pss_one (ps_par (i := 6) (j := 7) (by rfl) sc__law_spanned_right.nd rfl rfl (by decide) rfl rfl (pa_cons (pe_op op_add (pv 6) (pe_op op_mulW (pe_op op_pow (pe_int) (pe_int)) (pv 3))) (pa_cons (pe_op op_sub (pv 7) (pe_op op_mulW (pe_op op_pow (pe_int) (pe_int)) (pv 3))) pa_nil)) (by rfl))) (pss_nil)))
      (pss_one (ps_if (pt_cmpR op_ne (pe_cmpR (op_ownIn o_Lattice___contains__ (hr.mono (by decide)) passE) (pe_tupN (pa_cons (pv 6) (pa_cons (pv 7) pa_nil))) (pv 4) (by rfl)) (pcl o__law_is_sum (hr.mono (by decide)) pass0 (pa_cons (pv 1) (pa_cons (pv 2) (pa_cons (pv 6) (pa_cons (pv 7) pa_nil))))) (nomark _)) (pss_one (ps_ret (pe_bl))) (pss_nil)))))))
      (pss_one (ps_ret (pe_cmpR (op_own (fun _ _ => rfl) o_Lattice___eq__ rfl (hr.mono (by decide)) pass0) (pcl o_spanned (hr.mono (by decide)) passE (pa_cons (pe_tupN (pa_cons (pe_op op_add (pe_ix ix_tupN (pv 1) (pe_int) (fun _ _ => rfl)) (pe_ix ix_tupN (pv 2) (pe_int) (fun _ _ => rfl))) (pa_cons (pe_op op_add (pe_ix ix_tupN (pv 1) (pe_int) (fun _ _ => rfl)) (pe_ix ix_tupN (pv 2) (pe_int) (fun _ _ => rfl))) pa_nil))) (pa_cons (pe_tupN (pa_cons (pe_op op_sub (pe_int) (pe_ix ix_tupN (pv 2) (pe_int) (fun _ _ => rfl))) (pa_cons (pe_op op_sub (pe_int) (pe_ix ix_tupN (pv 2) (pe_int) (fun _ _ => rfl))) pa_nil))) pa_nil))) (pv 4) (nomark _))))))))), ?_⟩
  obtain ⟨a, t1, t2, rfl, hP, hT, p, q, r, s, h1, h2, bp, bq, br, bs, k⟩ := h
  have h1' : H t1 = some (.tup [.int p, .int q]) := h1
  have h2' : H t2 = some (.tup [.int r, .int s]) := h2
  simp only [h1', h2', exists_and_left, tSl, tPart, tNoPart, rSlLN, rMax2, rMin2, gUnlN, tYes, rLenS, rRepN, cx_K, Value.ref.injEq, HO.xd.injEq, lk0, tSeq, tPar3, tPar, tCons, tNil, tVar, tC, tAsg, gName, gCons, gNil, gTupN, gSub, tOp, rI, rI0, rU, tTest, rNe, rEq, rIxTN, rIxLN, rLenL, rLenT, rIntI, rIntB, rAbs, rSetLN, tTruL, tRaiseX, rIsTy, rIsOw, ixN0, ixN1, tRet, tIf, tIfS, tNext, tBreak, tCont, tDrop, tTupN, tLstN, tUn, tCB, tCall, tNot, tAnd, tOr, tB, tAndV, tOrV, tNotV, tChain, tApp, LamX.tLam, tRevLN, rCatN, rInTN, rInLN, flatV, inV, List.all_cons, List.all_nil, List.any_cons, List.any_nil, Bool.and_self, Bool.and_true, if_true, Bool.false_eq_true, if_false, tMt, tFldN, tSto, HO.ins.injEq, lkh, List.drop_zero, List.drop_succ_cons, List.drop_nil, rListS, wipe, L2.start, List.map_cons, List.map_nil, List.length_cons, List.length_nil, List.replicate, List.cons_append, List.nil_append, List.append_nil, Nat.reduceAdd, Nat.reduceSub, Nat.zero_add, List.replicate_succ, List.replicate_zero, List.getElem?_cons_zero, List.getElem?_cons_succ, List.set_cons_zero, List.set_cons_succ, Option.some.injEq, V.int.injEq, V.bl.injEq, V.ref.injEq, V.str.injEq, V.ty.injEq, List.cons.injEq, HO.tup.injEq, HO.lst.injEq, and_true, true_and, and_assoc, exists_eq_left, exists_eq_left', exists_and_left, exists_eq', atI0, atI1, atI2, atI3, Int.cast_ofNat_Int, Int.reduceToNat, scal_ii, scal_in, scal_ni, scal_nn, scal_bb, scal_ss, scal_sn, scal_ns, scal_bn, scal_nb, ite_iff, decide_eq_true_eq, decide_eq_false_iff_not, Bool.not_eq_true', Classical.not_not, ne_eq, not_false_eq_true, not_true_eq_false, forall_const, true_implies, false_implies, imp_self, sizeLine_eq, Nat.reduceLeDiff, reduceCtorEq, decide_true, decide_false]
  refine ⟨wide_mul bp bs (by decide) (by decide) (by decide), wide_mul br bq (by decide) (by decide) (by decide), ?_⟩
  have up : ∀ {z : Int}, z.natAbs < 2 ^ 10 → z.natAbs < 2 ^ 100 := fun h => pow_small h (by decide)
  refine ⟨fun σ' H' => σ' = [some (V.ref a), some (V.ref t1), some (V.ref t2), some (V.int (p * s - r * q)), none, none, none, none, none] ∧ H = H' ∧ p * s - r * q ≠ 0, ?_, ?_⟩
  · simp only [exists_and_left, tSl, tPart, tNoPart, rSlLN, rMax2, rMin2, gUnlN, tYes, rLenS, rRepN, cx_K, Value.ref.injEq, HO.xd.injEq, lk0, tSeq, tPar3, tPar, tCons, tNil, tVar, tC, tAsg, gName, gCons, gNil, gTupN, gSub, tOp, rI, rI0, rU, tTest, rNe, rEq, rIxTN, rIxLN, rLenL, rLenT, rIntI, rIntB, rAbs, rSetLN, tTruL, tRaiseX, rIsTy, rIsOw, ixN0, ixN1, tRet, tIf, tIfS, tNext, tBreak, tCont, tDrop, tTupN, tLstN, tUn, tCB, tCall, tNot, tAnd, tOr, tB, tAndV, tOrV, tNotV, tChain, tApp, LamX.tLam, tRevLN, rCatN, rInTN, rInLN, flatV, inV, List.all_cons, List.all_nil, List.any_cons, List.any_nil, Bool.and_self, Bool.and_true, if_true, Bool.false_eq_true, if_false, tMt, tFldN, tSto, HO.ins.injEq, lkh, List.drop_zero, List.drop_succ_cons, List.drop_nil, rListS, wipe, L2.start, List.map_cons, List.map_nil, List.length_cons, List.length_nil, List.replicate, List.cons_append, List.nil_append, List.append_nil, Nat.reduceAdd, Nat.reduceSub, Nat.zero_add, List.replicate_succ, List.replicate_zero, List.getElem?_cons_zero, List.getElem?_cons_succ, List.set_cons_zero, List.set_cons_succ, Option.some.injEq, V.int.injEq, V.bl.injEq, V.ref.injEq, V.str.injEq, V.ty.injEq, List.cons.injEq, HO.tup.injEq, HO.lst.injEq, and_true, true_and, and_assoc, exists_eq_left, exists_eq_left', exists_and_left, exists_eq', atI0, atI1, atI2, atI3, Int.cast_ofNat_Int, Int.reduceToNat, scal_ii, scal_in, scal_ni, scal_nn, scal_bb, scal_ss, scal_sn, scal_ns, scal_bn, scal_nb, ite_iff, decide_eq_true_eq, decide_eq_false_iff_not, Bool.not_eq_true', Classical.not_not, ne_eq, not_false_eq_true, not_true_eq_false, forall_const, true_implies, false_implies, imp_self, sizeLine_eq, Nat.reduceLeDiff, reduceCtorEq, decide_true, decide_false]
    intro h0
    refine told_so hT (fun H1 Q E e x => spn_mk (extT e h1) (extT e h2) (up bp) (up bq) (up br) (up bs) (fun _ => x) (fun h => absurd h0 h)) (fun H2 z e2 hT2 hz => ?_)
    intro u H3 _ s3 h3
    exact eq_sameN (dp_l2 (s3 _ _ hz)) (dp_l2 h3) (sh_l2 (n := 0) (by decide +kernel) (by decide +kernel)) (k H3 ((let ⟨g, n, z⟩ := hP; ⟨g, n, s3 _ _ (extL e2 z)⟩)) (Tabs.ext hT2 s3) fun b o hb _ hn => s3 _ _ (e2 b o hb hn))
  · rintro _ _ ⟨rfl, rfl, hW⟩
    simp only [exists_and_left, tSl, tPart, tNoPart, rSlLN, rMax2, rMin2, gUnlN, tYes, rLenS, rRepN, cx_K, Value.ref.injEq, HO.xd.injEq, lk0, tSeq, tPar3, tPar, tCons, tNil, tVar, tC, tAsg, gName, gCons, gNil, gTupN, gSub, tOp, rI, rI0, rU, tTest, rNe, rEq, rIxTN, rIxLN, rLenL, rLenT, rIntI, rIntB, rAbs, rSetLN, tTruL, tRaiseX, rIsTy, rIsOw, ixN0, ixN1, tRet, tIf, tIfS, tNext, tBreak, tCont, tDrop, tTupN, tLstN, tUn, tCB, tCall, tNot, tAnd, tOr, tB, tAndV, tOrV, tNotV, tChain, tApp, LamX.tLam, tRevLN, rCatN, rInTN, rInLN, flatV, inV, List.all_cons, List.all_nil, List.any_cons, List.any_nil, Bool.and_self, Bool.and_true, if_true, Bool.false_eq_true, if_false, tMt, tFldN, tSto, HO.ins.injEq, lkh, List.drop_zero, List.drop_succ_cons, List.drop_nil, rListS, wipe, L2.start, List.map_cons, List.map_nil, List.length_cons, List.length_nil, List.replicate, List.cons_append, List.nil_append, List.append_nil, Nat.reduceAdd, Nat.reduceSub, Nat.zero_add, List.replicate_succ, List.replicate_zero, List.getElem?_cons_zero, List.getElem?_cons_succ, List.set_cons_zero, List.set_cons_succ, Option.some.injEq, V.int.injEq, V.bl.injEq, V.ref.injEq, V.str.injEq, V.ty.injEq, List.cons.injEq, HO.tup.injEq, HO.lst.injEq, and_true, true_and, and_assoc, exists_eq_left, exists_eq_left', exists_and_left, exists_eq', atI0, atI1, atI2, atI3, Int.cast_ofNat_Int, Int.reduceToNat, scal_ii, scal_in, scal_ni, scal_nn, scal_bb, scal_ss, scal_sn, scal_ns, scal_bn, scal_nb, ite_iff, decide_eq_true_eq, decide_eq_false_iff_not, Bool.not_eq_true', Classical.not_not, ne_eq, not_false_eq_true, not_true_eq_false, forall_const, true_implies, false_implies, imp_self, sizeLine_eq, Nat.reduceLeDiff, reduceCtorEq, decide_true, decide_false]
    refine spn_mk h1 h2 (up bp) (up bq) (up br) (up bs) (fun h => absurd h hW) (fun _ A B D LBs hA mem l dx H1 s1 hl => ?_)
    have R1 : SR K H H1 a t1 t2 l dx p q r s A B D := ⟨hP.same s1, Tabs.ext hT s1, s1 _ _ h1, s1 _ _ h2, hl, StpP.of s1⟩
    clear h1 h2 hP hT s1 hl h1' h2'
    have inS : ∀ {x y}, Sp2 p q r s x y → inL A B D (some (x, y)) = true := fun h => (inL_iff LBs.a1 LBs.d1).mpr ((mem _ _).mpr h)
    have m1 : (p * s).natAbs < 2 ^ 20 := by rw [Int.natAbs_mul, show (20 : Nat) = 10 + 10 from rfl, Nat.pow_add]; exact Nat.mul_lt_mul'' bp bs
    have m2 : (r * q).natAbs < 2 ^ 20 := by rw [Int.natAbs_mul, show (20 : Nat) = 10 + 10 from rfl, Nat.pow_add]; exact Nat.mul_lt_mul'' br bq
    have mW : (p * s - r * q).natAbs < 2 ^ 21 := by omega
    refine ⟨fun σ' H' => σ' = [some (V.ref a), some (V.ref t1), some (V.ref t2), some (V.int (p * s - r * q)), some (V.ref l), none, none, none, none] ∧ SR K H H' a t1 t2 l dx p q r s A B D, ?_, ?_⟩
    · have hL := R1.L
      simp only [spArea, hL, lkLa, lkLb, lkLd, lkLn_area, lkLn_place, lkLn_order, lkLn_places, exists_and_left, tSl, tPart, tNoPart, rSlLN, rMax2, rMin2, gUnlN, tYes, rLenS, rRepN, cx_K, Value.ref.injEq, HO.xd.injEq, lk0, tSeq, tPar3, tPar, tCons, tNil, tVar, tC, tAsg, gName, gCons, gNil, gTupN, gSub, tOp, rI, rI0, rU, tTest, rNe, rEq, rIxTN, rIxLN, rLenL, rLenT, rIntI, rIntB, rAbs, rSetLN, tTruL, tRaiseX, rIsTy, rIsOw, ixN0, ixN1, tRet, tIf, tIfS, tNext, tBreak, tCont, tDrop, tTupN, tLstN, tUn, tCB, tCall, tNot, tAnd, tOr, tB, tAndV, tOrV, tNotV, tChain, tApp, LamX.tLam, tRevLN, rCatN, rInTN, rInLN, flatV, inV, List.all_cons, List.all_nil, List.any_cons, List.any_nil, Bool.and_self, Bool.and_true, if_true, Bool.false_eq_true, if_false, tMt, tFldN, tSto, HO.ins.injEq, lkh, List.drop_zero, List.drop_succ_cons, List.drop_nil, rListS, wipe, L2.start, List.map_cons, List.map_nil, List.length_cons, List.length_nil, List.replicate, List.cons_append, List.nil_append, List.append_nil, Nat.reduceAdd, Nat.reduceSub, Nat.zero_add, List.replicate_succ, List.replicate_zero, List.getElem?_cons_zero, List.getElem?_cons_succ, List.set_cons_zero, List.set_cons_succ, Option.some.injEq, V.int.injEq, V.bl.injEq, V.ref.injEq, V.str.injEq, V.ty.injEq, List.cons.injEq, HO.tup.injEq, HO.lst.injEq, and_true, true_and, and_assoc, exists_eq_left, exists_eq_left', exists_and_left, exists_eq', atI0, atI1, atI2, atI3, Int.cast_ofNat_Int, Int.reduceToNat, scal_ii, scal_in, scal_ni, scal_nn, scal_bb, scal_ss, scal_sn, scal_ns, scal_bn, scal_nb, ite_iff, decide_eq_true_eq, decide_eq_false_iff_not, Bool.not_eq_true', Classical.not_not, ne_eq, not_false_eq_true, not_true_eq_false, forall_const, true_implies, false_implies, imp_self, sizeLine_eq, Nat.reduceLeDiff, reduceCtorEq, decide_true, decide_false]
      refine ⟨dx, A, B, D, hL, LBs, fun e => absurd (show A * D = max (p * s - r * q) (0 - (p * s - r * q)) by rw [hA]; omega) e, fun _ => spn_mk R1.T2 R1.T1 (up br) (up bs) (up bp) (up bq) (fun h => absurd (by omega) hW) (fun _ A' B' D' LB' hA' mem' l' dx' H2 s2 hl' => ?_)⟩
      have R2 := R1.same s2
      refine own_ne hl' (T.ci_Lattice.ty R2.L) notFirst_self ⟨l', _, rfl, dx', A', B', D', hl', .inr ⟨l, dx, A, B, D, rfl, R2.L, ⟨_, rfl, ?_⟩⟩⟩
      have u := Ml.uniq LB' LBs (fun x y => (mem' x y).trans (Sp2.swap.trans (mem x y).symm))
      exact ⟨false, by simp [u], fun e => (by cases e), fun _ => R2⟩
    · clear R1
      rintro _ H1 ⟨rfl, R1⟩
      simp only [exists_and_left, tSl, tPart, tNoPart, rSlLN, rMax2, rMin2, gUnlN, tYes, rLenS, rRepN, cx_K, Value.ref.injEq, HO.xd.injEq, lk0, tSeq, tPar3, tPar, tCons, tNil, tVar, tC, tAsg, gName, gCons, gNil, gTupN, gSub, tOp, rI, rI0, rU, tTest, rNe, rEq, rIxTN, rIxLN, rLenL, rLenT, rIntI, rIntB, rAbs, rSetLN, tTruL, tRaiseX, rIsTy, rIsOw, ixN0, ixN1, tRet, tIf, tIfS, tNext, tBreak, tCont, tDrop, tTupN, tLstN, tUn, tCB, tCall, tNot, tAnd, tOr, tB, tAndV, tOrV, tNotV, tChain, tApp, LamX.tLam, tRevLN, rCatN, rInTN, rInLN, flatV, inV, List.all_cons, List.all_nil, List.any_cons, List.any_nil, Bool.and_self, Bool.and_true, if_true, Bool.false_eq_true, if_false, tMt, tFldN, tSto, HO.ins.injEq, lkh, List.drop_zero, List.drop_succ_cons, List.drop_nil, rListS, wipe, L2.start, List.map_cons, List.map_nil, List.length_cons, List.length_nil, List.replicate, List.cons_append, List.nil_append, List.append_nil, Nat.reduceAdd, Nat.reduceSub, Nat.zero_add, List.replicate_succ, List.replicate_zero, List.getElem?_cons_zero, List.getElem?_cons_succ, List.set_cons_zero, List.set_cons_succ, Option.some.injEq, V.int.injEq, V.bl.injEq, V.ref.injEq, V.str.injEq, V.ty.injEq, List.cons.injEq, HO.tup.injEq, HO.lst.injEq, and_true, true_and, and_assoc, exists_eq_left, exists_eq_left', exists_and_left, exists_eq', atI0, atI1, atI2, atI3, Int.cast_ofNat_Int, Int.reduceToNat, scal_ii, scal_in, scal_ni, scal_nn, scal_bb, scal_ss, scal_sn, scal_ns, scal_bn, scal_nb, ite_iff, decide_eq_true_eq, decide_eq_false_iff_not, Bool.not_eq_true', Classical.not_not, ne_eq, not_false_eq_true, not_true_eq_false, forall_const, true_implies, false_implies, imp_self, sizeLine_eq, Nat.reduceLeDiff, reduceCtorEq, decide_true, decide_false]
      refine ⟨fun σ' H' => σ' = [some (V.ref a), some (V.ref t1), some (V.ref t2), some (V.int (p * s - r * q)), some (V.ref l), none, none, none, none] ∧ SR K H H' a t1 t2 l dx p q r s A B D, ?_, ?_⟩
      · simp only [exists_and_left, tSl, tPart, tNoPart, rSlLN, rMax2, rMin2, gUnlN, tYes, rLenS, rRepN, cx_K, Value.ref.injEq, HO.xd.injEq, lk0, tSeq, tPar3, tPar, tCons, tNil, tVar, tC, tAsg, gName, gCons, gNil, gTupN, gSub, tOp, rI, rI0, rU, tTest, rNe, rEq, rIxTN, rIxLN, rLenL, rLenT, rIntI, rIntB, rAbs, rSetLN, tTruL, tRaiseX, rIsTy, rIsOw, ixN0, ixN1, tRet, tIf, tIfS, tNext, tBreak, tCont, tDrop, tTupN, tLstN, tUn, tCB, tCall, tNot, tAnd, tOr, tB, tAndV, tOrV, tNotV, tChain, tApp, LamX.tLam, tRevLN, rCatN, rInTN, rInLN, flatV, inV, List.all_cons, List.all_nil, List.any_cons, List.any_nil, Bool.and_self, Bool.and_true, if_true, Bool.false_eq_true, if_false, tMt, tFldN, tSto, HO.ins.injEq, lkh, List.drop_zero, List.drop_succ_cons, List.drop_nil, rListS, wipe, L2.start, List.map_cons, List.map_nil, List.length_cons, List.length_nil, List.replicate, List.cons_append, List.nil_append, List.append_nil, Nat.reduceAdd, Nat.reduceSub, Nat.zero_add, List.replicate_succ, List.replicate_zero, List.getElem?_cons_zero, List.getElem?_cons_succ, List.set_cons_zero, List.set_cons_succ, Option.some.injEq, V.int.injEq, V.bl.injEq, V.ref.injEq, V.str.injEq, V.ty.injEq, List.cons.injEq, HO.tup.injEq, HO.lst.injEq, and_true, true_and, and_assoc, exists_eq_left, exists_eq_left', exists_and_left, exists_eq', atI0, atI1, atI2, atI3, Int.cast_ofNat_Int, Int.reduceToNat, scal_ii, scal_in, scal_ni, scal_nn, scal_bb, scal_ss, scal_sn, scal_ns, scal_bn, scal_nb, ite_iff, decide_eq_true_eq, decide_eq_false_iff_not, Bool.not_eq_true', Classical.not_not, ne_eq, not_false_eq_true, not_true_eq_false, forall_const, true_implies, false_implies, imp_self, sizeLine_eq, Nat.reduceLeDiff, reduceCtorEq, decide_true, decide_false]
        refine own_in R1.L ⟨l, _, rfl, dx, A, B, D, R1.L, LBs, P2.k R1.T1, fun x y e => (by rw [pairV_of R1.T1] at e; cases e; exact ⟨pow_small bp (by decide), pow_small bq (by decide)⟩), fun H2 s2 => ?_⟩
        rw [pairV_of R1.T1, inS ⟨1, 0, by omega, by omega⟩]
        have R2 := R1.same s2
        refine ⟨true, rfl, false, rfl, fun e => (by cases e), fun _ => ?_⟩
        refine own_in R2.L ⟨l, _, rfl, dx, A, B, D, R2.L, LBs, P2.k R2.T2, fun x y e => (by rw [pairV_of R2.T2] at e; cases e; exact ⟨pow_small br (by decide), pow_small bs (by decide)⟩), fun H3 s3 => ?_⟩
        rw [pairV_of R2.T2, inS ⟨0, 1, by omega, by omega⟩]
        have R3 := R2.same s3
        refine ⟨true, rfl, false, rfl, fun e => (by cases e), fun _ => ?_⟩
        intro z H4 _ s4 h4
        have R4 := R3.same s4
        refine own_in R4.L ⟨l, _, rfl, dx, A, B, D, R4.L, LBs, P2.k h4, fun x y e => (by rw [pairV_of h4] at e; cases e; exact ⟨by decide +kernel, by decide +kernel⟩), fun H5 s5 => ?_⟩
        rw [pairV_of h4, inS ⟨0, 0, by omega, by omega⟩]
        exact ⟨true, rfl, false, rfl, fun e => (by cases e), fun _ => R4.same s5⟩
      · clear R1
        rintro _ H1 ⟨rfl, R1⟩
        simp only [exists_and_left, tSl, tPart, tNoPart, rSlLN, rMax2, rMin2, gUnlN, tYes, rLenS, rRepN, cx_K, Value.ref.injEq, HO.xd.injEq, lk0, tSeq, tPar3, tPar, tCons, tNil, tVar, tC, tAsg, gName, gCons, gNil, gTupN, gSub, tOp, rI, rI0, rU, tTest, rNe, rEq, rIxTN, rIxLN, rLenL, rLenT, rIntI, rIntB, rAbs, rSetLN, tTruL, tRaiseX, rIsTy, rIsOw, ixN0, ixN1, tRet, tIf, tIfS, tNext, tBreak, tCont, tDrop, tTupN, tLstN, tUn, tCB, tCall, tNot, tAnd, tOr, tB, tAndV, tOrV, tNotV, tChain, tApp, LamX.tLam, tRevLN, rCatN, rInTN, rInLN, flatV, inV, List.all_cons, List.all_nil, List.any_cons, List.any_nil, Bool.and_self, Bool.and_true, if_true, Bool.false_eq_true, if_false, tMt, tFldN, tSto, HO.ins.injEq, lkh, List.drop_zero, List.drop_succ_cons, List.drop_nil, rListS, wipe, L2.start, List.map_cons, List.map_nil, List.length_cons, List.length_nil, List.replicate, List.cons_append, List.nil_append, List.append_nil, Nat.reduceAdd, Nat.reduceSub, Nat.zero_add, List.replicate_succ, List.replicate_zero, List.getElem?_cons_zero, List.getElem?_cons_succ, List.set_cons_zero, List.set_cons_succ, Option.some.injEq, V.int.injEq, V.bl.injEq, V.ref.injEq, V.str.injEq, V.ty.injEq, List.cons.injEq, HO.tup.injEq, HO.lst.injEq, and_true, true_and, and_assoc, exists_eq_left, exists_eq_left', exists_and_left, exists_eq', atI0, atI1, atI2, atI3, Int.cast_ofNat_Int, Int.reduceToNat, scal_ii, scal_in, scal_ni, scal_nn, scal_bb, scal_ss, scal_sn, scal_ns, scal_bn, scal_nb, ite_iff, decide_eq_true_eq, decide_eq_false_iff_not, Bool.not_eq_true', Classical.not_not, ne_eq, not_false_eq_true, not_true_eq_false, forall_const, true_implies, false_implies, imp_self, sizeLine_eq, Nat.reduceLeDiff, reduceCtorEq, decide_true, decide_false]
        refine st_forR1 30 (by decide) (fun Q q => q) (fun i σ' H' => ∃ u x y z, σ' = [some (V.ref a), some (V.ref t1), some (V.ref t2), some (V.int (p * s - r * q)), some (V.ref l), u, x, y, z] ∧ SR K H H' a t1 t2 l dx p q r s A B D) ⟨_, _, _, _, rfl, R1⟩ ?_ ?_
        · clear R1
          rintro i _ H1 hi ⟨u, x, y, z, rfl, R1⟩
          simp only [spDraw, exists_and_left, tSl, tPart, tNoPart, rSlLN, rMax2, rMin2, gUnlN, tYes, rLenS, rRepN, cx_K, Value.ref.injEq, HO.xd.injEq, lk0, tSeq, tPar3, tPar, tCons, tNil, tVar, tC, tAsg, gName, gCons, gNil, gTupN, gSub, tOp, rI, rI0, rU, tTest, rNe, rEq, rIxTN, rIxLN, rLenL, rLenT, rIntI, rIntB, rAbs, rSetLN, tTruL, tRaiseX, rIsTy, rIsOw, ixN0, ixN1, tRet, tIf, tIfS, tNext, tBreak, tCont, tDrop, tTupN, tLstN, tUn, tCB, tCall, tNot, tAnd, tOr, tB, tAndV, tOrV, tNotV, tChain, tApp, LamX.tLam, tRevLN, rCatN, rInTN, rInLN, flatV, inV, List.all_cons, List.all_nil, List.any_cons, List.any_nil, Bool.and_self, Bool.and_true, if_true, Bool.false_eq_true, if_false, tMt, tFldN, tSto, HO.ins.injEq, lkh, List.drop_zero, List.drop_succ_cons, List.drop_nil, rListS, wipe, L2.start, List.map_cons, List.map_nil, List.length_cons, List.length_nil, List.replicate, List.cons_append, List.nil_append, List.append_nil, Nat.reduceAdd, Nat.reduceSub, Nat.zero_add, List.replicate_succ, List.replicate_zero, List.getElem?_cons_zero, List.getElem?_cons_succ, List.set_cons_zero, List.set_cons_succ, Option.some.injEq, V.int.injEq, V.bl.injEq, V.ref.injEq, V.str.injEq, V.ty.injEq, List.cons.injEq, HO.tup.injEq, HO.lst.injEq, and_true, true_and, and_assoc, exists_eq_left, exists_eq_left', exists_and_left, exists_eq', atI0, atI1, atI2, atI3, Int.cast_ofNat_Int, Int.reduceToNat, scal_ii, scal_in, scal_ni, scal_nn, scal_bb, scal_ss, scal_sn, scal_ns, scal_bn, scal_nb, ite_iff, decide_eq_true_eq, decide_eq_false_iff_not, Bool.not_eq_true', Classical.not_not, ne_eq, not_false_eq_true, not_true_eq_false, forall_const, true_implies, false_implies, imp_self, sizeLine_eq, Nat.reduceLeDiff, reduceCtorEq, decide_true, decide_false]
          refine ⟨R1.P, by decide, by decide, fun d H2 d0 d1 Q2 w2 => ⟨Q2, by decide, by decide, fun e H3 e0 e1 Q3 w3 => ?_⟩⟩
          have R3 := (R1.stp Q2 w2).stp Q3 w3
          clear R1 Q2 w2 Q3 w3
          refine ⟨fun σ' H' => ∃ (x y : Int) (z : Option V), σ' = [some (V.ref a), some (V.ref t1), some (V.ref t2), some (V.int (p * s - r * q)), some (V.ref l), some (V.int i), some (V.int x), some (V.int y), z] ∧ x.natAbs < 2 ^ 20 ∧ y.natAbs < 2 ^ 20 ∧ SR K H H' a t1 t2 l dx p q r s A B D, ?_, ?_⟩
          · have g1 : H3 t1 = some (.tup [.int p, .int q]) := R3.T1
            have g2 : H3 t2 = some (.tup [.int r, .int s]) := R3.T2
            simp only [g1, g2, exists_and_left, tSl, tPart, tNoPart, rSlLN, rMax2, rMin2, gUnlN, tYes, rLenS, rRepN, cx_K, Value.ref.injEq, HO.xd.injEq, lk0, tSeq, tPar3, tPar, tCons, tNil, tVar, tC, tAsg, gName, gCons, gNil, gTupN, gSub, tOp, rI, rI0, rU, tTest, rNe, rEq, rIxTN, rIxLN, rLenL, rLenT, rIntI, rIntB, rAbs, rSetLN, tTruL, tRaiseX, rIsTy, rIsOw, ixN0, ixN1, tRet, tIf, tIfS, tNext, tBreak, tCont, tDrop, tTupN, tLstN, tUn, tCB, tCall, tNot, tAnd, tOr, tB, tAndV, tOrV, tNotV, tChain, tApp, LamX.tLam, tRevLN, rCatN, rInTN, rInLN, flatV, inV, List.all_cons, List.all_nil, List.any_cons, List.any_nil, Bool.and_self, Bool.and_true, if_true, Bool.false_eq_true, if_false, tMt, tFldN, tSto, HO.ins.injEq, lkh, List.drop_zero, List.drop_succ_cons, List.drop_nil, rListS, wipe, L2.start, List.map_cons, List.map_nil, List.length_cons, List.length_nil, List.replicate, List.cons_append, List.nil_append, List.append_nil, Nat.reduceAdd, Nat.reduceSub, Nat.zero_add, List.replicate_succ, List.replicate_zero, List.getElem?_cons_zero, List.getElem?_cons_succ, List.set_cons_zero, List.set_cons_succ, Option.some.injEq, V.int.injEq, V.bl.injEq, V.ref.injEq, V.str.injEq, V.ty.injEq, List.cons.injEq, HO.tup.injEq, HO.lst.injEq, and_true, true_and, and_assoc, exists_eq_left, exists_eq_left', exists_and_left, exists_eq', atI0, atI1, atI2, atI3, Int.cast_ofNat_Int, Int.reduceToNat, scal_ii, scal_in, scal_ni, scal_nn, scal_bb, scal_ss, scal_sn, scal_ns, scal_bn, scal_nb, ite_iff, decide_eq_true_eq, decide_eq_false_iff_not, Bool.not_eq_true', Classical.not_not, ne_eq, not_false_eq_true, not_true_eq_false, forall_const, true_implies, false_implies, imp_self, sizeLine_eq, Nat.reduceLeDiff, reduceCtorEq, decide_true, decide_false]
            have dS : (d - 12).natAbs < 2 ^ 5 := by omega
            have eS : (e - 12).natAbs < 2 ^ 5 := by omega
            have pm : ∀ {u v : Int}, u.natAbs < 2 ^ 10 → v.natAbs < 2 ^ 5 → (u * v).natAbs < 2 ^ 15 := fun h1 h2 => by rw [Int.natAbs_mul, show (15 : Nat) = 10 + 5 from rfl, Nat.pow_add]; exact Nat.mul_lt_mul'' h1 h2
            have n1 := pm bp dS
            have n2 := pm br eS
            have n3 := pm bq dS
            have n4 := pm bs eS
            refine ⟨by decide, fun _ => ⟨wide_mul bp dS (by decide) (by decide) (by decide), wide_mul br eS (by decide) (by decide) (by decide), wide_mul bq dS (by decide) (by decide) (by decide), wide_mul bs eS (by decide) (by decide) (by decide), ?_⟩, fun _ => ⟨by omega, by omega, R3⟩⟩
            intro z H4 _ s4 h4
            simp only [h4, exists_and_left, tSl, tPart, tNoPart, rSlLN, rMax2, rMin2, gUnlN, tYes, rLenS, rRepN, cx_K, Value.ref.injEq, HO.xd.injEq, lk0, tSeq, tPar3, tPar, tCons, tNil, tVar, tC, tAsg, gName, gCons, gNil, gTupN, gSub, tOp, rI, rI0, rU, tTest, rNe, rEq, rIxTN, rIxLN, rLenL, rLenT, rIntI, rIntB, rAbs, rSetLN, tTruL, tRaiseX, rIsTy, rIsOw, ixN0, ixN1, tRet, tIf, tIfS, tNext, tBreak, tCont, tDrop, tTupN, tLstN, tUn, tCB, tCall, tNot, tAnd, tOr, tB, tAndV, tOrV, tNotV, tChain, tApp, LamX.tLam, tRevLN, rCatN, rInTN, rInLN, flatV, inV, List.all_cons, List.all_nil, List.any_cons, List.any_nil, Bool.and_self, Bool.and_true, if_true, Bool.false_eq_true, if_false, tMt, tFldN, tSto, HO.ins.injEq, lkh, List.drop_zero, List.drop_succ_cons, List.drop_nil, rListS, wipe, L2.start, List.map_cons, List.map_nil, List.length_cons, List.length_nil, List.replicate, List.cons_append, List.nil_append, List.append_nil, Nat.reduceAdd, Nat.reduceSub, Nat.zero_add, List.replicate_succ, List.replicate_zero, List.getElem?_cons_zero, List.getElem?_cons_succ, List.set_cons_zero, List.set_cons_succ, Option.some.injEq, V.int.injEq, V.bl.injEq, V.ref.injEq, V.str.injEq, V.ty.injEq, List.cons.injEq, HO.tup.injEq, HO.lst.injEq, and_true, true_and, and_assoc, exists_eq_left, exists_eq_left', exists_and_left, exists_eq', atI0, atI1, atI2, atI3, Int.cast_ofNat_Int, Int.reduceToNat, scal_ii, scal_in, scal_ni, scal_nn, scal_bb, scal_ss, scal_sn, scal_ns, scal_bn, scal_nb, ite_iff, decide_eq_true_eq, decide_eq_false_iff_not, Bool.not_eq_true', Classical.not_not, ne_eq, not_false_eq_true, not_true_eq_false, forall_const, true_implies, false_implies, imp_self, sizeLine_eq, Nat.reduceLeDiff, reduceCtorEq, decide_true, decide_false]
            exact ⟨by omega, by omega, R3.same s4⟩
          · clear R3
            rintro _ H3 ⟨x, y, z, rfl, bx, yb, R3⟩
            refine ⟨fun σ' H' => ∃ (x y : Int) (z : Option V), σ' = [some (V.ref a), some (V.ref t1), some (V.ref t2), some (V.int (p * s - r * q)), some (V.ref l), some (V.int i), some (V.int x), some (V.int y), z] ∧ x.natAbs < 2 ^ 200 ∧ y.natAbs < 2 ^ 200 ∧ SR K H H' a t1 t2 l dx p q r s A B D, ?_, ?_⟩
            · simp only [exists_and_left, tSl, tPart, tNoPart, rSlLN, rMax2, rMin2, gUnlN, tYes, rLenS, rRepN, cx_K, Value.ref.injEq, HO.xd.injEq, lk0, tSeq, tPar3, tPar, tCons, tNil, tVar, tC, tAsg, gName, gCons, gNil, gTupN, gSub, tOp, rI, rI0, rU, tTest, rNe, rEq, rIxTN, rIxLN, rLenL, rLenT, rIntI, rIntB, rAbs, rSetLN, tTruL, tRaiseX, rIsTy, rIsOw, ixN0, ixN1, tRet, tIf, tIfS, tNext, tBreak, tCont, tDrop, tTupN, tLstN, tUn, tCB, tCall, tNot, tAnd, tOr, tB, tAndV, tOrV, tNotV, tChain, tApp, LamX.tLam, tRevLN, rCatN, rInTN, rInLN, flatV, inV, List.all_cons, List.all_nil, List.any_cons, List.any_nil, Bool.and_self, Bool.and_true, if_true, Bool.false_eq_true, if_false, tMt, tFldN, tSto, HO.ins.injEq, lkh, List.drop_zero, List.drop_succ_cons, List.drop_nil, rListS, wipe, L2.start, List.map_cons, List.map_nil, List.length_cons, List.length_nil, List.replicate, List.cons_append, List.nil_append, List.append_nil, Nat.reduceAdd, Nat.reduceSub, Nat.zero_add, List.replicate_succ, List.replicate_zero, List.getElem?_cons_zero, List.getElem?_cons_succ, List.set_cons_zero, List.set_cons_succ, Option.some.injEq, V.int.injEq, V.bl.injEq, V.ref.injEq, V.str.injEq, V.ty.injEq, List.cons.injEq, HO.tup.injEq, HO.lst.injEq, and_true, true_and, and_assoc, exists_eq_left, exists_eq_left', exists_and_left, exists_eq', atI0, atI1, atI2, atI3, Int.cast_ofNat_Int, Int.reduceToNat, scal_ii, scal_in, scal_ni, scal_nn, scal_bb, scal_ss, scal_sn, scal_ns, scal_bn, scal_nb, ite_iff, decide_eq_true_eq, decide_eq_false_iff_not, Bool.not_eq_true', Classical.not_not, ne_eq, not_false_eq_true, not_true_eq_false, forall_const, true_implies, false_implies, imp_self, sizeLine_eq, Nat.reduceLeDiff, reduceCtorEq, decide_true, decide_false]
              have e25 : (10 : Int) ^ (25 : Int).toNat = 10000000000000000000000000 := rfl
              have e24 : (10 : Int) ^ (24 : Int).toNat = 1000000000000000000000000 := rfl
              have w1 : ((10 : Int) ^ (25 : Int).toNat).natAbs < 2 ^ 84 := by decide +kernel
              have w2 : ((10 : Int) ^ (24 : Int).toNat).natAbs < 2 ^ 84 := by decide +kernel
              refine ⟨by decide, fun _ => ⟨⟨by decide, by decide, by decide⟩, wide_mul w1 mW (by decide) (by decide) (by decide), ⟨by decide, by decide, by decide⟩, wide_mul w2 mW (by decide) (by decide) (by decide), ?_, ?_, R3⟩, fun _ => ⟨pow_small bx (by decide), pow_small yb (by decide), R3⟩⟩
              · show (x + (10 : Int) ^ (25 : Int).toNat * (p * s - r * q)).natAbs < 2 ^ 200
                rw [e25]; omega
              · show (y - (10 : Int) ^ (24 : Int).toNat * (p * s - r * q)).natAbs < 2 ^ 200
                rw [e24]; omega
            · clear R3 bx yb
              rintro _ H3 ⟨x, y, z, rfl, bx, yb, R3⟩
              simp only [spSum, exists_and_left, tSl, tPart, tNoPart, rSlLN, rMax2, rMin2, gUnlN, tYes, rLenS, rRepN, cx_K, Value.ref.injEq, HO.xd.injEq, lk0, tSeq, tPar3, tPar, tCons, tNil, tVar, tC, tAsg, gName, gCons, gNil, gTupN, gSub, tOp, rI, rI0, rU, tTest, rNe, rEq, rIxTN, rIxLN, rLenL, rLenT, rIntI, rIntB, rAbs, rSetLN, tTruL, tRaiseX, rIsTy, rIsOw, ixN0, ixN1, tRet, tIf, tIfS, tNext, tBreak, tCont, tDrop, tTupN, tLstN, tUn, tCB, tCall, tNot, tAnd, tOr, tB, tAndV, tOrV, tNotV, tChain, tApp, LamX.tLam, tRevLN, rCatN, rInTN, rInLN, flatV, inV, List.all_cons, List.all_nil, List.any_cons, List.any_nil, Bool.and_self, Bool.and_true, if_true, Bool.false_eq_true, if_false, tMt, tFldN, tSto, HO.ins.injEq, lkh, List.drop_zero, List.drop_succ_cons, List.drop_nil, rListS, wipe, L2.start, List.map_cons, List.map_nil, List.length_cons, List.length_nil, List.replicate, List.cons_append, List.nil_append, List.append_nil, Nat.reduceAdd, Nat.reduceSub, Nat.zero_add, List.replicate_succ, List.replicate_zero, List.getElem?_cons_zero, List.getElem?_cons_succ, List.set_cons_zero, List.set_cons_succ, Option.some.injEq, V.int.injEq, V.bl.injEq, V.ref.injEq, V.str.injEq, V.ty.injEq, List.cons.injEq, HO.tup.injEq, HO.lst.injEq, and_true, true_and, and_assoc, exists_eq_left, exists_eq_left', exists_and_left, exists_eq', atI0, atI1, atI2, atI3, Int.cast_ofNat_Int, Int.reduceToNat, scal_ii, scal_in, scal_ni, scal_nn, scal_bb, scal_ss, scal_sn, scal_ns, scal_bn, scal_nb, ite_iff, decide_eq_true_eq, decide_eq_false_iff_not, Bool.not_eq_true', Classical.not_not, ne_eq, not_false_eq_true, not_true_eq_false, forall_const, true_implies, false_implies, imp_self, sizeLine_eq, Nat.reduceLeDiff, reduceCtorEq, decide_true, decide_false]
              intro c H4 _ s4 h4
              have R4 := R3.same s4
              refine own_in R4.L ⟨l, _, rfl, dx, A, B, D, R4.L, LBs, P2.k h4, fun u v e => (by rw [pairV_of h4] at e; cases e; exact ⟨pow_small bx (by decide), pow_small yb (by decide)⟩), fun H5 s5 => ?_⟩
              rw [pairV_of h4]
              have R5 := R4.same s5
              refine ⟨_, rfl, p, q, R5.T1, r, s, R5.T2, hW, up bp, up bq, up br, up bs, pow_small bx (by decide), pow_small yb (by decide), fun b hb => ?_⟩
              have : inL A B D (some (x, y)) = b := by
                rw [Bool.eq_iff_iff, inL_iff LBs.a1 LBs.d1, mem, hb]
              rw [this]
              exact ⟨rfl, fun e => absurd rfl e, fun _ => R5⟩
        · clear R1
          rintro _ H1 ⟨u, x, y, z, rfl, R1⟩
          have g1 : H1 t1 = some (.tup [.int p, .int q]) := R1.T1
          have g2 : H1 t2 = some (.tup [.int r, .int s]) := R1.T2
          simp only [g1, g2, exists_and_left, tSl, tPart, tNoPart, rSlLN, rMax2, rMin2, gUnlN, tYes, rLenS, rRepN, cx_K, Value.ref.injEq, HO.xd.injEq, lk0, tSeq, tPar3, tPar, tCons, tNil, tVar, tC, tAsg, gName, gCons, gNil, gTupN, gSub, tOp, rI, rI0, rU, tTest, rNe, rEq, rIxTN, rIxLN, rLenL, rLenT, rIntI, rIntB, rAbs, rSetLN, tTruL, tRaiseX, rIsTy, rIsOw, ixN0, ixN1, tRet, tIf, tIfS, tNext, tBreak, tCont, tDrop, tTupN, tLstN, tUn, tCB, tCall, tNot, tAnd, tOr, tB, tAndV, tOrV, tNotV, tChain, tApp, LamX.tLam, tRevLN, rCatN, rInTN, rInLN, flatV, inV, List.all_cons, List.all_nil, List.any_cons, List.any_nil, Bool.and_self, Bool.and_true, if_true, Bool.false_eq_true, if_false, tMt, tFldN, tSto, HO.ins.injEq, lkh, List.drop_zero, List.drop_succ_cons, List.drop_nil, rListS, wipe, L2.start, List.map_cons, List.map_nil, List.length_cons, List.length_nil, List.replicate, List.cons_append, List.nil_append, List.append_nil, Nat.reduceAdd, Nat.reduceSub, Nat.zero_add, List.replicate_succ, List.replicate_zero, List.getElem?_cons_zero, List.getElem?_cons_succ, List.set_cons_zero, List.set_cons_succ, Option.some.injEq, V.int.injEq, V.bl.injEq, V.ref.injEq, V.str.injEq, V.ty.injEq, List.cons.injEq, HO.tup.injEq, HO.lst.injEq, and_true, true_and, and_assoc, exists_eq_left, exists_eq_left', exists_and_left, exists_eq', atI0, atI1, atI2, atI3, Int.cast_ofNat_Int, Int.reduceToNat, scal_ii, scal_in, scal_ni, scal_nn, scal_bb, scal_ss, scal_sn, scal_ns, scal_bn, scal_nb, ite_iff, decide_eq_true_eq, decide_eq_false_iff_not, Bool.not_eq_true', Classical.not_not, ne_eq, not_false_eq_true, not_true_eq_false, forall_const, true_implies, false_implies, imp_self, sizeLine_eq, Nat.reduceLeDiff, reduceCtorEq, decide_true, decide_false]
          intro z1 H2 _ s2 k1
          have g3 := s2 _ _ g2
          simp only [g3, exists_and_left, tSl, tPart, tNoPart, rSlLN, rMax2, rMin2, gUnlN, tYes, rLenS, rRepN, cx_K, Value.ref.injEq, HO.xd.injEq, lk0, tSeq, tPar3, tPar, tCons, tNil, tVar, tC, tAsg, gName, gCons, gNil, gTupN, gSub, tOp, rI, rI0, rU, tTest, rNe, rEq, rIxTN, rIxLN, rLenL, rLenT, rIntI, rIntB, rAbs, rSetLN, tTruL, tRaiseX, rIsTy, rIsOw, ixN0, ixN1, tRet, tIf, tIfS, tNext, tBreak, tCont, tDrop, tTupN, tLstN, tUn, tCB, tCall, tNot, tAnd, tOr, tB, tAndV, tOrV, tNotV, tChain, tApp, LamX.tLam, tRevLN, rCatN, rInTN, rInLN, flatV, inV, List.all_cons, List.all_nil, List.any_cons, List.any_nil, Bool.and_self, Bool.and_true, if_true, Bool.false_eq_true, if_false, tMt, tFldN, tSto, HO.ins.injEq, lkh, List.drop_zero, List.drop_succ_cons, List.drop_nil, rListS, wipe, L2.start, List.map_cons, List.map_nil, List.length_cons, List.length_nil, List.replicate, List.cons_append, List.nil_append, List.append_nil, Nat.reduceAdd, Nat.reduceSub, Nat.zero_add, List.replicate_succ, List.replicate_zero, List.getElem?_cons_zero, List.getElem?_cons_succ, List.set_cons_zero, List.set_cons_succ, Option.some.injEq, V.int.injEq, V.bl.injEq, V.ref.injEq, V.str.injEq, V.ty.injEq, List.cons.injEq, HO.tup.injEq, HO.lst.injEq, and_true, true_and, and_assoc, exists_eq_left, exists_eq_left', exists_and_left, exists_eq', atI0, atI1, atI2, atI3, Int.cast_ofNat_Int, Int.reduceToNat, scal_ii, scal_in, scal_ni, scal_nn, scal_bb, scal_ss, scal_sn, scal_ns, scal_bn, scal_nb, ite_iff, decide_eq_true_eq, decide_eq_false_iff_not, Bool.not_eq_true', Classical.not_not, ne_eq, not_false_eq_true, not_true_eq_false, forall_const, true_implies, false_implies, imp_self, sizeLine_eq, Nat.reduceLeDiff, reduceCtorEq, decide_true, decide_false]
          intro z2 H3 _ s3 k2
          have R3 := (R1.same s2).same s3
          have eW : (p + r) * (0 - s) - (0 - r) * (q + s) = -(p * s - r * q) := by grind
          refine spn_mk (s3 _ _ k1) k2 (by omega) (by omega) (by omega) (by omega) (fun h => absurd (by omega) hW) (fun _ A' B' D' LB' hA' mem' l' dx' H4 s4 hl' => ?_)
          have R4 := R3.same s4
          refine own_op hl' (T.ci_Lattice.ty R4.L) notFirst_self ⟨l', _, rfl, dx', A', B', D', hl', .inr ⟨l, dx, A, B, D, rfl, R4.L, ⟨_, rfl, ?_⟩⟩⟩
          have u := Ml.uniq LB' LBs (fun x y => (mem' x y).trans (Sp2.turn.trans (mem x y).symm))
          rw [decide_eq_true u]
          exact k _ R4.P R4.hT fun b o hb nb _ => R4.S b o hb nb

end
end Iz
/-! k09_h -/
set_option Elab.async false
set_option linter.all false
set_option maxRecDepth 100000
set_option maxHeartbeats 4000000
namespace Iz
open PySem PySem.Spec PyProof.Rows L2
open He (ga)
local macro_rules | `(tactic| walk_at "wp") => `(tactic| simp only [tSl, tPart, tNoPart, rSlLN, rMax2, rMin2, gUnlN, tYes, rLenS, rRepN, cx_K, Value.ref.injEq, HO.xd.injEq, lk0, tSeq, tPar3, tPar, tCons, tNil, tVar, tC, tAsg, gName, gCons, gNil, gTupN, gSub, tOp, rI, rI0, rU, tTest, rNe, rEq, rIxTN, rIxLN, rLenL, rLenT, rIntI, rIntB, rAbs, rSetLN, tTruL, tRaiseX, rIsTy, rIsOw, ixN0, ixN1, tRet, tIf, tIfS, tNext, tBreak, tCont, tDrop, tTupN, tLstN, tUn, tCB, tCall, tNot, tAnd, tOr, tB, tAndV, tOrV, tNotV, tChain, tApp, LamX.tLam, tRevLN, rCatN, rInTN, rInLN, flatV, inV, List.all_cons, List.all_nil, List.any_cons, List.any_nil, Bool.and_self, Bool.and_true, if_true, Bool.false_eq_true, if_false, tMt, tFldN, tSto, HO.ins.injEq, lkh, List.drop_zero, List.drop_succ_cons, List.drop_nil, rListS, wipe, L2.start, List.map_cons, List.map_nil, List.length_cons, List.length_nil, List.replicate, List.cons_append, List.nil_append, List.append_nil, Nat.reduceAdd, Nat.reduceSub, Nat.zero_add, List.replicate_succ, List.replicate_zero, List.getElem?_cons_zero, List.getElem?_cons_succ, List.set_cons_zero, List.set_cons_succ, Option.some.injEq, V.int.injEq, V.bl.injEq, V.ref.injEq, V.str.injEq, V.ty.injEq, List.cons.injEq, HO.tup.injEq, HO.lst.injEq, and_true, true_and, and_assoc, exists_eq_left, exists_eq_left', exists_and_left, exists_eq', atI0, atI1, atI2, atI3, Int.cast_ofNat_Int, Int.reduceToNat, scal_ii, scal_in, scal_ni, scal_nn, scal_bb, scal_ss, scal_sn, scal_ns, scal_bn, scal_nb, ite_iff, decide_eq_true_eq, decide_eq_false_iff_not, Bool.not_eq_true', Classical.not_not, ne_eq, not_false_eq_true, not_true_eq_false, forall_const, true_implies, false_implies, imp_self, sizeLine_eq, Nat.reduceLeDiff, reduceCtorEq, decide_true, decide_false])
section
variable {P : Program} {w : World} {K : PySem.W.Frag} {mg : Str → Option Value} {base : Heap}
theorem com_mk {H : Hp} {Q : VK} {E : XK} {p dx q dy : Addr} {a1 b1 d1 a2 b2 d2 : Int} (hp : LAt K H p dx a1 b1 d1) (hq : LAt K H q dy a2 b2 d2) (B1 : LB a1 b1 d1) (B2 : LB a2 b2 d2) (x1 : a1.natAbs < 2 ^ 60) (y1 : d1.natAbs < 2 ^ 60) (x2 : a2.natAbs < 2 ^ 60) (y2 : d2.natAbs < 2 ^ 60)
    (k : ∀ a b d, LB a b d → a = a1 * (a2 / (Int.gcd a1 a2 : Int)) → d = (Int.gcd a1 a2 : Int) / (Int.gcd (Int.gcd a1 a2 : Int) (d2 / (Int.gcd d1 d2 : Int) * b1 - d1 / (Int.gcd d1 d2 : Int) * b2) : Int) * (d1 * (d2 / (Int.gcd d1 d2 : Int))) →
      (∀ x y, Ml a b d x y ↔ Ml a1 b1 d1 x y ∧ Ml a2 b2 d2 x y) → NewL K H a b d Q) : spCom K [.ref p, .ref q] H Q E :=
  ⟨_, _, rfl, .inr ⟨p, dx, a1, b1, d1, rfl, hp, .inr ⟨q, dy, a2, b2, d2, rfl, hq, B1, B2, x1, y1, x2, y2, k⟩⟩⟩
theorem joi_mk {H : Hp} {Q : VK} {E : XK} {p dx q dy : Addr} {a1 b1 d1 a2 b2 d2 : Int} (hp : LAt K H p dx a1 b1 d1) (hq : LAt K H q dy a2 b2 d2) (B1 : LB a1 b1 d1) (B2 : LB a2 b2 d2) (x1 : a1.natAbs < 2 ^ 60) (y1 : d1.natAbs < 2 ^ 60) (x2 : a2.natAbs < 2 ^ 60) (y2 : d2.natAbs < 2 ^ 60)
    (k : ∀ a b, LB a b (Int.gcd d1 d2 : Int) → a = (Int.gcd (Int.gcd a1 a2 : Int) (d2 / (Int.gcd d1 d2 : Int) * b1 - d1 / (Int.gcd d1 d2 : Int) * b2) : Int) →
      (∀ x y, Ml a b (Int.gcd d1 d2 : Int) x y ↔ ∃ x1 y1 x2 y2, Ml a1 b1 d1 x1 y1 ∧ Ml a2 b2 d2 x2 y2 ∧ x = x1 + x2 ∧ y = y1 + y2) → NewL K H a b (Int.gcd d1 d2 : Int) Q) : spJoi K [.ref p, .ref q] H Q E :=
  ⟨_, _, rfl, .inr ⟨p, dx, a1, b1, d1, rfl, hp, .inr ⟨q, dy, a2, b2, d2, rfl, hq, B1, B2, x1, y1, x2, y2, k⟩⟩⟩
structure TS (K : PySem.W.Frag) (H0 H : Hp) (a t u p dx q dy c dc j dj : Addr) (w s h w2 s2 h2 A C D J I G : Int) : Prop where
  P : Po H a
  T1 : T3 H t w s h
  T2 : T3 H u w2 s2 h2
  L1 : LAt K H p dx w s h
  L2 : LAt K H q dy w2 s2 h2
  LC : LAt K H c dc A C D
  LJ : LAt K H j dj J I G
  S : StpP a H0 H
section
variable {H0 H H' : Hp} {a t u p dx q dy c dc j dj : Addr} {w s h w2 s2 h2 A C D J I G : Int}
theorem TS.same (x : TS K H0 H a t u p dx q dy c dc j dj w s h w2 s2 h2 A C D J I G) (e : Same H H') : TS K H0 H' a t u p dx q dy c dc j dj w s h w2 s2 h2 A C D J I G :=
  ⟨x.P.same e, e _ _ x.T1, e _ _ x.T2, e _ _ x.L1, e _ _ x.L2, e _ _ x.LC, e _ _ x.LJ, x.S.trans (StpP.of e)⟩
theorem TS.stp (x : TS K H0 H a t u p dx q dy c dc j dj w s h w2 s2 h2 A C D J I G) (P : Po H' a) (e : StpP a H H') : TS K H0 H' a t u p dx q dy c dc j dj w s h w2 s2 h2 A C D J I G :=
  ⟨P, x.T1.stp x.P e, x.T2.stp x.P e, e.at x.P x.L1 (fun g n z => by cases z), e.at x.P x.L2 (fun g n z => by cases z), e.at x.P x.LC (fun g n z => by cases z), e.at x.P x.LJ (fun g n z => by cases z), x.S.trans e⟩
end
def spTwo (K : PySem.W.Frag) : Sp := fun vs H Q _ => ∃ a t u, vs = [.ref a, .ref t, .ref u] ∧ Po H a ∧ ∃ w s h w2 s2 h2, T3 H t w s h ∧ LB w s h ∧ T3 H u w2 s2 h2 ∧ LB w2 s2 h2 ∧ w.natAbs < 2 ^ 20 ∧ h.natAbs < 2 ^ 20 ∧ w2.natAbs < 2 ^ 20 ∧ h2.natAbs < 2 ^ 20 ∧
  ∀ H', Po H' a → StpP a H H' → Q (.bl true) H'
theorem o__law_two_right (T : Txt K mg) : OkF P w K mg base CX0 8 "_law_two_right" ["_law_pool", "_law_one", "_law_other"] (spTwo K) := by
  have o_Lattice := o_Lattice (P := P) (w := w) (base := base) T
  have o_Lattice_area := o_Lattice_area (P := P) (w := w) (base := base) T
  have o_Lattice___eq__ := o_Lattice___eq__ (P := P) (w := w) (base := base) T
  have o_Lattice___le__ := o_Lattice___le__ (P := P) (w := w) (base := base) T
  have o_Lattice___contains__ := o_Lattice___contains__ (P := P) (w := w) (base := base) T
  have o_common_lattice := o_common_lattice (P := P) (w := w) (base := base) T
  have o_joined_lattice := o_joined_lattice (P := P) (w := w) (base := base) T
  have o__law_draw := o__law_draw (P := P) (w := w) (base := base) T
  have o__law_holds := o__law_holds (P := P) (w := w) (base := base) T
  obtain ⟨f, fd, g, F⟩ := T.d__law_two_right
  refine ⟨f, fd, g, F.kp, F.binds (fun _ _ _ _ _ _ us hl => match us, hl with | [_, _, _], _ => rfl), F.ok sc__law_two_right (fun vs H Q E h => ?_) (fun cdv A outer s H vs Q E hr h => ?_)⟩
  · first | (obtain ⟨_, rfl, _⟩ := h; rfl) | (obtain ⟨_, _, rfl, _⟩ := h; rfl) | (obtain ⟨_, _, _, rfl, _⟩ := h; rfl) | (obtain ⟨_, _, _, _, rfl, _⟩ := h; rfl) | (obtain ⟨_, _, _, _, _, rfl, _⟩ := h; rfl) | (obtain ⟨_, _, _, _, _, _, rfl, _⟩ := h; rfl) | (obtain ⟨_, _, _, _, _, _, _, rfl, _⟩ := h; rfl)
  have hu64 := hr.units
  refine ⟨_, pss_cons (ps_par (i := 3) (j := 4) (by rfl) sc__law_two_right.nd rfl rfl (by decide) rfl rfl (pa_cons (pmk (j := 0) o_Lattice (by decide) (hr.mono (by decide)) passL (pa_cons (pe_ix ix_listN (pv 1) (pe_int) (fun _ _ => rfl)) (pa_cons (pe_ix ix_listN (pv 1) (pe_int) (fun _ _ => rfl)) (pa_cons (pe_ix ix_listN (pv 1) (pe_int) (fun _ _ => rfl)) pa_nil)))) (pa_cons (pmk (j := 0) o_Lattice (by decide) (hr.mono (by decide)) passL (pa_cons (pe_ix ix_listN (pv 2) (pe_int) (fun _ _ => rfl)) (pa_cons (pe_ix ix_listN (pv 2) (pe_int) (fun _ _ => rfl)) (pa_cons (pe_ix ix_listN (pv 2) (pe_int) (fun _ _ => rfl)) pa_nil)))) pa_nil)) (by rfl))
      (pss_cons (ps_par (i := 5) (j := 6) (by rfl) sc__law_two_right.nd rfl rfl (by decide) rfl rfl (pa_cons (pcl o_common_lattice (hr.mono (by decide)) passL (pa_cons (pv 3) (pa_cons (pv 4) pa_nil))) (pa_cons (pcl o_joined_lattice (hr.mono (by decide)) passL (pa_cons (pv 3) (pa_cons (pv 4) pa_nil))) pa_nil)) (by rfl))
      (pss_cons (ps_cut (ps_if (PW.pt (pw_or (pt_cmpR (op_ownNe o_Lattice___eq__ T.ci_Lattice.hm T.ne_Lattice (hr.mono (by decide)) pass0) (pcl o_common_lattice (hr.mono (by decide)) passL (pa_cons (pv 4) (pa_cons (pv 3) pa_nil))) (pv 5) (nomark _)) (pw_or1 (pt_cmpR (op_ownNe o_Lattice___eq__ T.ci_Lattice.hm T.ne_Lattice (hr.mono (by decide)) pass0) (pcl o_joined_lattice (hr.mono (by decide)) passL (pa_cons (pv 4) (pa_cons (pv 3) pa_nil))) (pv 6) (nomark _))))) (pss_one (ps_ret (pe_bl))) (pss_nil)))
      (pss_cons (ps_cut (ps_if (pt_cmpR op_ne (pe_op op_mulW (pmt0 (j := 0) o_Lattice_area T.c_Lattice (pv 5) (by decide) (hr.mono (by decide)) pass0) (pmt0 (j := 0) o_Lattice_area T.c_Lattice (pv 6) (by decide) (hr.mono (by decide)) pass0)) (pe_op op_mulW (pmt0 (j := 0) o_Lattice_area T.c_Lattice (pv 3) (by decide) (hr.mono (by decide)) pass0) (pmt0 (j := 0) o_Lattice_area T.c_Lattice (pv 4) (by decide) (hr.mono (by decide)) pass0)) (nomark _)) (pss_one (ps_ret (pe_bl))) (pss_nil)))
      (pss_cons (ps_cut (ps_if (pt_not (PW.pt (pw_and (pt_cmpR (op_own (fun _ _ => rfl) o_Lattice___le__ rfl (hr.mono (by decide)) passL) (pv 5) (pv 3) (nomark _)) (pw_and (pt_cmpR (op_own (fun _ _ => rfl) o_Lattice___le__ rfl (hr.mono (by decide)) passL) (pv 5) (pv 4) (nomark _)) (pw_and (pt_cmpR (op_own (fun _ _ => rfl) o_Lattice___le__ rfl (hr.mono (by decide)) passL) (pv 3) (pv 6) (nomark _)) (pw_and1 (pt_cmpR (op_own (fun _ _ => rfl) o_Lattice___le__ rfl (hr.mono (by decide)) passL) (pv 4) (pv 6) (nomark _)))))))) (pss_one (ps_ret (pe_bl))) (pss_nil)))
      (pss_cons (ps_for PassesOwn.never rfl (pi_range1 rfl T.m_range (pa_cons (pe_int) pa_nil)) (pg_name (i := 7) sc__law_two_right.nd rfl (Or.inl rfl)) (pss_cons (ps_par (i := 8) (j := 9) (by rfl) sc__law_two_right.nd rfl rfl (by decide) rfl rfl (pa_cons (pe_op op_sub (pcl o__law_draw (hr.mono (by decide)) pass0 (pa_cons (pv 0) (pa_cons (pe_int) pa_nil))) (pe_int)) (pa_cons (pe_op op_sub (pcl o__law_draw (hr.mono (by decide)) pass0 (pa_cons (pv 0) (pa_cons (pe_int) pa_nil))) (pe_int)) pa_nil)) (by rfl))
      (pss_cons (ps_cut (ps_if (pt_cmpR op_eq (pe_op op_mod (pv 7) (pe_int)) (pe_int) (nomark _)) (pss_one (ps_par (i := 8) (j := 9) (by rfl) sc__law_two_right.nd rfl rfl (by decide) rfl rfl (pa_cons (pe_op op_add (pe_op op_mulW (pv 8) (pe_ix ix_listN (pv 1) (pe_int) (fun _ _ => rfl))) (pe_op op_mulW (pv 9) (pe_ix ix_listN (pv 1) (pe_int) (fun _ _ => rfl)))) (pa_cons (pe_op op_mulW (pv 9) (pe_ix ix_listN (pv 1) (pe_int) (fun _ _ => rfl))) pa_nil)) (by rfl))) (pss_nil)))
      (pss_cons (ps_set (i := 10) sc__law_two_right.nd rfl (Or.inl rfl) (pe_lstN (pa_cons (pcl o__law_holds (hr.mono (by decide)) pass0 (pa_cons (pv 1) (pa_cons (pv 8) (pa_cons (pv 9) pa_nil)))) (pa_cons (pcl o__law_holds (hr.mono (by decide)) pass0 (pa_cons (pv 2) (pa_cons (pv 8) (pa_cons (pv 9) pa_nil)))) pa_nil))))
      (pss_cons (ps_cut (ps_if (pt_cmpR op_ne (pe_cmpR (op_ownIn o_Lattice___contains__ (hr.mono (by decide)) passL) (pe_tupN (pa_cons (pv 8) (pa_cons (pv 9) pa_nil))) (pv 5) (by rfl)) (pe_cmpR (op_eqDk (K := K) rfl hu64) (pv 10) (pe_lstN (pa_cons (pe_bl) (pa_cons (pe_bl) pa_nil))) (nomark _)) (nomark _)) (pss_one (ps_ret (pe_bl))) (pss_nil)))
      (pss_one (ps_if (PW.pt (pw_and (pt_cmpR op_inLN (pe_bl) (pv 10) (by rfl)) (pw_and1 (pt_cmpR (op_ownNotIn o_Lattice___contains__ (hr.mono (by decide)) passL) (pe_tupN (pa_cons (pv 8) (pa_cons (pv 9) pa_nil))) (pv 6) (by rfl))))) (pss_one (ps_ret (pe_bl))) (pss_nil))))))))
      (pss_cons (ps_par (i := 8) (j := 9) (by rfl) sc__law_two_right.nd rfl rfl (by decide) rfl rfl (pa_cons (pe_op op_sub (pcl o__law_draw (hr.mono (by decide)) pass0 (pa_cons (pv 0) (pa_cons (pe_int) pa_nil))) (pe_int)) (pa_cons (pe_op op_sub (pcl o__law_draw (hr.mono (by decide)) pass0 (pa_cons (pv 0) (pa_cons (pe_int) pa_nil))) (pe_int)) pa_nil)) (by rfl))
      (pss_cons (ps_set (i := 11) sc__law_two_right.nd rfl (Or.inl rfl) (pe_tupN (pa_cons (pe_op op_add (pe_op op_add (pe_op op_mulW (pv 8) (pe_ix ix_listN (pv 1) (pe_int) (fun _ _ => rfl))) (pe_op op_mulW (pv 9) (pe_ix ix_listN (pv 2) (pe_int) (fun _ _ => rfl)))) (pe_ix ix_listN (pv 2) (pe_int) (fun _ _ => rfl))) (pa_cons (pe_op op_mulW (pv 9) (pe_ix ix_listN (pv 2) (pe_int) (fun _ _ => rfl))) pa_nil))))
      (pss_one (ps_ret (pe_and (pe_cmpR (op_ownIn o_Lattice___contains__ (hr.mono (by decide)) passL) (pv 11) (pv 6) (by rfl)) (pe_and (pe_cmpR op_eq (pe_cmpR (op_own (fun _ _ => rfl) o_Lattice___eq__ rfl (hr.mono (by decide)) pass0) (pv 5) (pv 3) (nomark _)) (pe_cmpR (op_own (fun _ _ => rfl) o_Lattice___le__ rfl (hr.mono (by decide)) passL) (pv 3) (pv 4) (nomark _)) (nomark _)) (pe_one (pe_cmpR op_eq (pe_cmpR (op_own (fun _ _ => rfl) o_Lattice___eq__ rfl (hr.mono (by decide)) pass0) (pv 6) (pv 3) (nomark _)) (pe_cmpR (op_own (fun _ _ => rfl) o_Lattice___le__ rfl (hr.mono (by decide)) passL) (pv 4) (pv 3) (nomark _)) (nomark _)))))))))))))), ?_⟩
  obtain ⟨a, t, u, rfl, hP, w, s, h, w2, s2, h2, hT, B1, hU, B2, bw, bh, bw2, bh2, k⟩ := h
  have up : ∀ {z : Int}, z.natAbs < 2 ^ 20 → z.natAbs < 2 ^ 60 := fun h => pow_small h (by decide)
  simp only [spLat, hT, hU, exists_and_left, tSl, tPart, tNoPart, rSlLN, rMax2, rMin2, gUnlN, tYes, rLenS, rRepN, cx_K, Value.ref.injEq, HO.xd.injEq, lk0, tSeq, tPar3, tPar, tCons, tNil, tVar, tC, tAsg, gName, gCons, gNil, gTupN, gSub, tOp, rI, rI0, rU, tTest, rNe, rEq, rIxTN, rIxLN, rLenL, rLenT, rIntI, rIntB, rAbs, rSetLN, tTruL, tRaiseX, rIsTy, rIsOw, ixN0, ixN1, tRet, tIf, tIfS, tNext, tBreak, tCont, tDrop, tTupN, tLstN, tUn, tCB, tCall, tNot, tAnd, tOr, tB, tAndV, tOrV, tNotV, tChain, tApp, LamX.tLam, tRevLN, rCatN, rInTN, rInLN, flatV, inV, List.all_cons, List.all_nil, List.any_cons, List.any_nil, Bool.and_self, Bool.and_true, if_true, Bool.false_eq_true, if_false, tMt, tFldN, tSto, HO.ins.injEq, lkh, List.drop_zero, List.drop_succ_cons, List.drop_nil, rListS, wipe, L2.start, List.map_cons, List.map_nil, List.length_cons, List.length_nil, List.replicate, List.cons_append, List.nil_append, List.append_nil, Nat.reduceAdd, Nat.reduceSub, Nat.zero_add, List.replicate_succ, List.replicate_zero, List.getElem?_cons_zero, List.getElem?_cons_succ, List.set_cons_zero, List.set_cons_succ, Option.some.injEq, V.int.injEq, V.bl.injEq, V.ref.injEq, V.str.injEq, V.ty.injEq, List.cons.injEq, HO.tup.injEq, HO.lst.injEq, and_true, true_and, and_assoc, exists_eq_left, exists_eq_left', exists_and_left, exists_eq', atI0, atI1, atI2, atI3, Int.cast_ofNat_Int, Int.reduceToNat, scal_ii, scal_in, scal_ni, scal_nn, scal_bb, scal_ss, scal_sn, scal_ns, scal_bn, scal_nb, ite_iff, decide_eq_true_eq, decide_eq_false_iff_not, Bool.not_eq_true', Classical.not_not, ne_eq, not_false_eq_true, not_true_eq_false, forall_const, true_implies, false_implies, imp_self, sizeLine_eq, Nat.reduceLeDiff, reduceCtorEq, decide_true, decide_false]
  refine RL.ints B1.a1 B1.b0 B1.ba B1.d1 ?_
  intro p dx H1 _ s1 hp1
  have hU1 := s1 _ _ hU
  simp only [hU1, exists_and_left, tSl, tPart, tNoPart, rSlLN, rMax2, rMin2, gUnlN, tYes, rLenS, rRepN, cx_K, Value.ref.injEq, HO.xd.injEq, lk0, tSeq, tPar3, tPar, tCons, tNil, tVar, tC, tAsg, gName, gCons, gNil, gTupN, gSub, tOp, rI, rI0, rU, tTest, rNe, rEq, rIxTN, rIxLN, rLenL, rLenT, rIntI, rIntB, rAbs, rSetLN, tTruL, tRaiseX, rIsTy, rIsOw, ixN0, ixN1, tRet, tIf, tIfS, tNext, tBreak, tCont, tDrop, tTupN, tLstN, tUn, tCB, tCall, tNot, tAnd, tOr, tB, tAndV, tOrV, tNotV, tChain, tApp, LamX.tLam, tRevLN, rCatN, rInTN, rInLN, flatV, inV, List.all_cons, List.all_nil, List.any_cons, List.any_nil, Bool.and_self, Bool.and_true, if_true, Bool.false_eq_true, if_false, tMt, tFldN, tSto, HO.ins.injEq, lkh, List.drop_zero, List.drop_succ_cons, List.drop_nil, rListS, wipe, L2.start, List.map_cons, List.map_nil, List.length_cons, List.length_nil, List.replicate, List.cons_append, List.nil_append, List.append_nil, Nat.reduceAdd, Nat.reduceSub, Nat.zero_add, List.replicate_succ, List.replicate_zero, List.getElem?_cons_zero, List.getElem?_cons_succ, List.set_cons_zero, List.set_cons_succ, Option.some.injEq, V.int.injEq, V.bl.injEq, V.ref.injEq, V.str.injEq, V.ty.injEq, List.cons.injEq, HO.tup.injEq, HO.lst.injEq, and_true, true_and, and_assoc, exists_eq_left, exists_eq_left', exists_and_left, exists_eq', atI0, atI1, atI2, atI3, Int.cast_ofNat_Int, Int.reduceToNat, scal_ii, scal_in, scal_ni, scal_nn, scal_bb, scal_ss, scal_sn, scal_ns, scal_bn, scal_nb, ite_iff, decide_eq_true_eq, decide_eq_false_iff_not, Bool.not_eq_true', Classical.not_not, ne_eq, not_false_eq_true, not_true_eq_false, forall_const, true_implies, false_implies, imp_self, sizeLine_eq, Nat.reduceLeDiff, reduceCtorEq, decide_true, decide_false]
  refine RL.ints B2.a1 B2.b0 B2.ba B2.d1 ?_
  intro q dy H2 _ s2' hq2
  refine com_mk (s2' _ _ hp1) hq2 B1 B2 (up bw) (up bh) (up bw2) (up bh2) (fun A C D BC eA eD memC c dc H3 s3 hc3 => ?_)
  refine joi_mk (s3 _ _ (s2' _ _ hp1)) (s3 _ _ hq2) B1 B2 (up bw) (up bh) (up bw2) (up bh2) (fun J I BJ eJ memJ j dj H4 s4 hj4 => ?_)
  have S4 := (s1.trans s2').trans (s3.trans s4)
  have Z : TS K H H4 a t u p dx q dy c dc j dj w s h w2 s2 h2 A C D J I (Int.gcd h h2 : Int) := ⟨hP.same S4, S4 _ _ hT, S4 _ _ hU, s4 _ _ (s3 _ _ (s2' _ _ hp1)), s4 _ _ (s3 _ _ hq2), s4 _ _ hc3, hj4, StpP.of S4⟩
  clear hP hT hU s1 hp1 hU1 s2' hq2 s3 hc3 s4 hj4 S4
  have ub : ∀ {z : Int}, z.natAbs < 2 ^ 500 → z.natAbs < 2 ^ 2000 := fun h => pow_small h (by decide)
  have sub1 : ∀ x y, Ml A C D x y → Ml w s h x y := fun x y m => ((memC x y).mp m).1
  have sub2 : ∀ x y, Ml A C D x y → Ml w2 s2 h2 x y := fun x y m => ((memC x y).mp m).2
  have sub3 : ∀ x y, Ml w s h x y → Ml J I (Int.gcd h h2 : Int) x y := fun x y m => (memJ x y).mpr ⟨x, y, 0, 0, m, Ml.zero, by omega, by omega⟩
  have sub4 : ∀ x y, Ml w2 s2 h2 x y → Ml J I (Int.gcd h h2 : Int) x y := fun x y m => (memJ x y).mpr ⟨0, 0, x, y, Ml.zero, m, by omega, by omega⟩
  refine ⟨fun σ' H' => σ' = [some (V.ref a), some (V.ref t), some (V.ref u), some (V.ref p), some (V.ref q), some (V.ref c), some (V.ref j), none, none, none, none, none] ∧ TS K H H' a t u p dx q dy c dc j dj w s h w2 s2 h2 A C D J I (Int.gcd h h2 : Int), ?_, ?_⟩
  · simp only [exists_and_left, tSl, tPart, tNoPart, rSlLN, rMax2, rMin2, gUnlN, tYes, rLenS, rRepN, cx_K, Value.ref.injEq, HO.xd.injEq, lk0, tSeq, tPar3, tPar, tCons, tNil, tVar, tC, tAsg, gName, gCons, gNil, gTupN, gSub, tOp, rI, rI0, rU, tTest, rNe, rEq, rIxTN, rIxLN, rLenL, rLenT, rIntI, rIntB, rAbs, rSetLN, tTruL, tRaiseX, rIsTy, rIsOw, ixN0, ixN1, tRet, tIf, tIfS, tNext, tBreak, tCont, tDrop, tTupN, tLstN, tUn, tCB, tCall, tNot, tAnd, tOr, tB, tAndV, tOrV, tNotV, tChain, tApp, LamX.tLam, tRevLN, rCatN, rInTN, rInLN, flatV, inV, List.all_cons, List.all_nil, List.any_cons, List.any_nil, Bool.and_self, Bool.and_true, if_true, Bool.false_eq_true, if_false, tMt, tFldN, tSto, HO.ins.injEq, lkh, List.drop_zero, List.drop_succ_cons, List.drop_nil, rListS, wipe, L2.start, List.map_cons, List.map_nil, List.length_cons, List.length_nil, List.replicate, List.cons_append, List.nil_append, List.append_nil, Nat.reduceAdd, Nat.reduceSub, Nat.zero_add, List.replicate_succ, List.replicate_zero, List.getElem?_cons_zero, List.getElem?_cons_succ, List.set_cons_zero, List.set_cons_succ, Option.some.injEq, V.int.injEq, V.bl.injEq, V.ref.injEq, V.str.injEq, V.ty.injEq, List.cons.injEq, HO.tup.injEq, HO.lst.injEq, and_true, true_and, and_assoc, exists_eq_left, exists_eq_left', exists_and_left, exists_eq', atI0, atI1, atI2, atI3, Int.cast_ofNat_Int, Int.reduceToNat, scal_ii, scal_in, scal_ni, scal_nn, scal_bb, scal_ss, scal_sn, scal_ns, scal_bn, scal_nb, ite_iff, decide_eq_true_eq, decide_eq_false_iff_not, Bool.not_eq_true', Classical.not_not, ne_eq, not_false_eq_true, not_true_eq_false, forall_const, true_implies, false_implies, imp_self, sizeLine_eq, Nat.reduceLeDiff, reduceCtorEq, decide_true, decide_false]
    refine com_mk Z.L2 Z.L1 B2 B1 (up bw2) (up bh2) (up bw) (up bh) (fun A' C' D' BC' _ _ mem' c' dc' G1 g1 hc' => ?_)
    have Z1 := Z.same g1
    refine own_ne hc' (T.ci_Lattice.ty Z1.LC) notFirst_self ⟨c', _, rfl, dc', A', C', D', hc', .inr ⟨c, dc, A, C, D, rfl, Z1.LC, ⟨_, rfl, ?_⟩⟩⟩
    have e1 := Ml.uniq BC' BC (fun x y => (mem' x y).trans (Iff.trans And.comm (memC x y).symm))
    refine ⟨false, by simp [e1], fun e => (by cases e), fun _ => ?_⟩
    refine joi_mk Z1.L2 Z1.L1 B2 B1 (up bw2) (up bh2) (up bw) (up bh) (fun J' I' BJ' _ memj j' dj' G2 g2 hj' => ?_)
    have Z2 := Z1.same g2
    refine own_ne hj' (T.ci_Lattice.ty Z2.LJ) notFirst_self ⟨j', _, rfl, dj', J', I', _, hj', .inr ⟨j, dj, J, I, _, rfl, Z2.LJ, ⟨_, rfl, ?_⟩⟩⟩
    have e2 := Ml.uniq BJ' BJ (fun x y => (memj x y).trans (Iff.trans ⟨fun ⟨x1, y1, x2, y2, m1, m2, ex, ey⟩ => ⟨x2, y2, x1, y1, m2, m1, by omega, by omega⟩, fun ⟨x1, y1, x2, y2, m1, m2, ex, ey⟩ => ⟨x2, y2, x1, y1, m2, m1, by omega, by omega⟩⟩ (memJ x y).symm))
    exact ⟨false, by rw [decide_eq_true e2]; rfl, fun e => (by cases e), fun _ => Z2⟩
  · clear Z
    rintro _ H4 ⟨rfl, Z⟩
    simp only [exists_and_left, tSl, tPart, tNoPart, rSlLN, rMax2, rMin2, gUnlN, tYes, rLenS, rRepN, cx_K, Value.ref.injEq, HO.xd.injEq, lk0, tSeq, tPar3, tPar, tCons, tNil, tVar, tC, tAsg, gName, gCons, gNil, gTupN, gSub, tOp, rI, rI0, rU, tTest, rNe, rEq, rIxTN, rIxLN, rLenL, rLenT, rIntI, rIntB, rAbs, rSetLN, tTruL, tRaiseX, rIsTy, rIsOw, ixN0, ixN1, tRet, tIf, tIfS, tNext, tBreak, tCont, tDrop, tTupN, tLstN, tUn, tCB, tCall, tNot, tAnd, tOr, tB, tAndV, tOrV, tNotV, tChain, tApp, LamX.tLam, tRevLN, rCatN, rInTN, rInLN, flatV, inV, List.all_cons, List.all_nil, List.any_cons, List.any_nil, Bool.and_self, Bool.and_true, if_true, Bool.false_eq_true, if_false, tMt, tFldN, tSto, HO.ins.injEq, lkh, List.drop_zero, List.drop_succ_cons, List.drop_nil, rListS, wipe, L2.start, List.map_cons, List.map_nil, List.length_cons, List.length_nil, List.replicate, List.cons_append, List.nil_append, List.append_nil, Nat.reduceAdd, Nat.reduceSub, Nat.zero_add, List.replicate_succ, List.replicate_zero, List.getElem?_cons_zero, List.getElem?_cons_succ, List.set_cons_zero, List.set_cons_succ, Option.some.injEq, V.int.injEq, V.bl.injEq, V.ref.injEq, V.str.injEq, V.ty.injEq, List.cons.injEq, HO.tup.injEq, HO.lst.injEq, and_true, true_and, and_assoc, exists_eq_left, exists_eq_left', exists_and_left, exists_eq', atI0, atI1, atI2, atI3, Int.cast_ofNat_Int, Int.reduceToNat, scal_ii, scal_in, scal_ni, scal_nn, scal_bb, scal_ss, scal_sn, scal_ns, scal_bn, scal_nb, ite_iff, decide_eq_true_eq, decide_eq_false_iff_not, Bool.not_eq_true', Classical.not_not, ne_eq, not_false_eq_true, not_true_eq_false, forall_const, true_implies, false_implies, imp_self, sizeLine_eq, Nat.reduceLeDiff, reduceCtorEq, decide_true, decide_false]
    refine ⟨fun σ' H' => σ' = [some (V.ref a), some (V.ref t), some (V.ref u), some (V.ref p), some (V.ref q), some (V.ref c), some (V.ref j), none, none, none, none, none] ∧ TS K H H' a t u p dx q dy c dc j dj w s h w2 s2 h2 A C D J I (Int.gcd h h2 : Int), ?_, ?_⟩
    · have k1 := Z.L1; have k2 := Z.L2; have k3 := Z.LC; have k4 := Z.LJ
      simp only [spArea, k1, k2, k3, k4, lkLa, lkLb, lkLd, lkLn_area, lkLn_place, lkLn_order, lkLn_places, exists_and_left, tSl, tPart, tNoPart, rSlLN, rMax2, rMin2, gUnlN, tYes, rLenS, rRepN, cx_K, Value.ref.injEq, HO.xd.injEq, lk0, tSeq, tPar3, tPar, tCons, tNil, tVar, tC, tAsg, gName, gCons, gNil, gTupN, gSub, tOp, rI, rI0, rU, tTest, rNe, rEq, rIxTN, rIxLN, rLenL, rLenT, rIntI, rIntB, rAbs, rSetLN, tTruL, tRaiseX, rIsTy, rIsOw, ixN0, ixN1, tRet, tIf, tIfS, tNext, tBreak, tCont, tDrop, tTupN, tLstN, tUn, tCB, tCall, tNot, tAnd, tOr, tB, tAndV, tOrV, tNotV, tChain, tApp, LamX.tLam, tRevLN, rCatN, rInTN, rInLN, flatV, inV, List.all_cons, List.all_nil, List.any_cons, List.any_nil, Bool.and_self, Bool.and_true, if_true, Bool.false_eq_true, if_false, tMt, tFldN, tSto, HO.ins.injEq, lkh, List.drop_zero, List.drop_succ_cons, List.drop_nil, rListS, wipe, L2.start, List.map_cons, List.map_nil, List.length_cons, List.length_nil, List.replicate, List.cons_append, List.nil_append, List.append_nil, Nat.reduceAdd, Nat.reduceSub, Nat.zero_add, List.replicate_succ, List.replicate_zero, List.getElem?_cons_zero, List.getElem?_cons_succ, List.set_cons_zero, List.set_cons_succ, Option.some.injEq, V.int.injEq, V.bl.injEq, V.ref.injEq, V.str.injEq, V.ty.injEq, List.cons.injEq, HO.tup.injEq, HO.lst.injEq, and_true, true_and, and_assoc, exists_eq_left, exists_eq_left', exists_and_left, exists_eq', atI0, atI1, atI2, atI3, Int.cast_ofNat_Int, Int.reduceToNat, scal_ii, scal_in, scal_ni, scal_nn, scal_bb, scal_ss, scal_sn, scal_ns, scal_bn, scal_nb, ite_iff, decide_eq_true_eq, decide_eq_false_iff_not, Bool.not_eq_true', Classical.not_not, ne_eq, not_false_eq_true, not_true_eq_false, forall_const, true_implies, false_implies, imp_self, sizeLine_eq, Nat.reduceLeDiff, reduceCtorEq, decide_true, decide_false]
      have ml : ∀ {u v : Int}, u.natAbs < 2 ^ 500 → v.natAbs < 2 ^ 500 → (u * v).natAbs < 2 ^ 1000 := fun h1 h2 => by rw [Int.natAbs_mul, show (1000 : Nat) = 500 + 500 from rfl, Nat.pow_add]; exact Nat.mul_lt_mul'' h1 h2
      have ar : A * D * (J * (Int.gcd h h2 : Int)) = w * h * (w2 * h2) := by rw [eA, eD, eJ]; exact areas B1.a1 B1.d1
      exact ⟨dc, A, C, D, k3, BC, dj, J, I, _, k4, BJ, wide_mul (ml BC.aS BC.dS) (ml BJ.aS BJ.dS) (by decide) (by decide) (by decide), dx, w, s, h, k1, B1, dy, w2, s2, h2, k2, B2, wide_mul (ml B1.aS B1.dS) (ml B2.aS B2.dS) (by decide) (by decide) (by decide), fun e => absurd ar e, fun _ => Z⟩
    · clear Z
      rintro _ H4 ⟨rfl, Z⟩
      simp only [exists_and_left, tSl, tPart, tNoPart, rSlLN, rMax2, rMin2, gUnlN, tYes, rLenS, rRepN, cx_K, Value.ref.injEq, HO.xd.injEq, lk0, tSeq, tPar3, tPar, tCons, tNil, tVar, tC, tAsg, gName, gCons, gNil, gTupN, gSub, tOp, rI, rI0, rU, tTest, rNe, rEq, rIxTN, rIxLN, rLenL, rLenT, rIntI, rIntB, rAbs, rSetLN, tTruL, tRaiseX, rIsTy, rIsOw, ixN0, ixN1, tRet, tIf, tIfS, tNext, tBreak, tCont, tDrop, tTupN, tLstN, tUn, tCB, tCall, tNot, tAnd, tOr, tB, tAndV, tOrV, tNotV, tChain, tApp, LamX.tLam, tRevLN, rCatN, rInTN, rInLN, flatV, inV, List.all_cons, List.all_nil, List.any_cons, List.any_nil, Bool.and_self, Bool.and_true, if_true, Bool.false_eq_true, if_false, tMt, tFldN, tSto, HO.ins.injEq, lkh, List.drop_zero, List.drop_succ_cons, List.drop_nil, rListS, wipe, L2.start, List.map_cons, List.map_nil, List.length_cons, List.length_nil, List.replicate, List.cons_append, List.nil_append, List.append_nil, Nat.reduceAdd, Nat.reduceSub, Nat.zero_add, List.replicate_succ, List.replicate_zero, List.getElem?_cons_zero, List.getElem?_cons_succ, List.set_cons_zero, List.set_cons_succ, Option.some.injEq, V.int.injEq, V.bl.injEq, V.ref.injEq, V.str.injEq, V.ty.injEq, List.cons.injEq, HO.tup.injEq, HO.lst.injEq, and_true, true_and, and_assoc, exists_eq_left, exists_eq_left', exists_and_left, exists_eq', atI0, atI1, atI2, atI3, Int.cast_ofNat_Int, Int.reduceToNat, scal_ii, scal_in, scal_ni, scal_nn, scal_bb, scal_ss, scal_sn, scal_ns, scal_bn, scal_nb, ite_iff, decide_eq_true_eq, decide_eq_false_iff_not, Bool.not_eq_true', Classical.not_not, ne_eq, not_false_eq_true, not_true_eq_false, forall_const, true_implies, false_implies, imp_self, sizeLine_eq, Nat.reduceLeDiff, reduceCtorEq, decide_true, decide_false]
      refine ⟨fun σ' H' => σ' = [some (V.ref a), some (V.ref t), some (V.ref u), some (V.ref p), some (V.ref q), some (V.ref c), some (V.ref j), none, none, none, none, none] ∧ TS K H H' a t u p dx q dy c dc j dj w s h w2 s2 h2 A C D J I (Int.gcd h h2 : Int), ?_, ?_⟩
      · simp only [exists_and_left, tSl, tPart, tNoPart, rSlLN, rMax2, rMin2, gUnlN, tYes, rLenS, rRepN, cx_K, Value.ref.injEq, HO.xd.injEq, lk0, tSeq, tPar3, tPar, tCons, tNil, tVar, tC, tAsg, gName, gCons, gNil, gTupN, gSub, tOp, rI, rI0, rU, tTest, rNe, rEq, rIxTN, rIxLN, rLenL, rLenT, rIntI, rIntB, rAbs, rSetLN, tTruL, tRaiseX, rIsTy, rIsOw, ixN0, ixN1, tRet, tIf, tIfS, tNext, tBreak, tCont, tDrop, tTupN, tLstN, tUn, tCB, tCall, tNot, tAnd, tOr, tB, tAndV, tOrV, tNotV, tChain, tApp, LamX.tLam, tRevLN, rCatN, rInTN, rInLN, flatV, inV, List.all_cons, List.all_nil, List.any_cons, List.any_nil, Bool.and_self, Bool.and_true, if_true, Bool.false_eq_true, if_false, tMt, tFldN, tSto, HO.ins.injEq, lkh, List.drop_zero, List.drop_succ_cons, List.drop_nil, rListS, wipe, L2.start, List.map_cons, List.map_nil, List.length_cons, List.length_nil, List.replicate, List.cons_append, List.nil_append, List.append_nil, Nat.reduceAdd, Nat.reduceSub, Nat.zero_add, List.replicate_succ, List.replicate_zero, List.getElem?_cons_zero, List.getElem?_cons_succ, List.set_cons_zero, List.set_cons_succ, Option.some.injEq, V.int.injEq, V.bl.injEq, V.ref.injEq, V.str.injEq, V.ty.injEq, List.cons.injEq, HO.tup.injEq, HO.lst.injEq, and_true, true_and, and_assoc, exists_eq_left, exists_eq_left', exists_and_left, exists_eq', atI0, atI1, atI2, atI3, Int.cast_ofNat_Int, Int.reduceToNat, scal_ii, scal_in, scal_ni, scal_nn, scal_bb, scal_ss, scal_sn, scal_ns, scal_bn, scal_nb, ite_iff, decide_eq_true_eq, decide_eq_false_iff_not, Bool.not_eq_true', Classical.not_not, ne_eq, not_false_eq_true, not_true_eq_false, forall_const, true_implies, false_implies, imp_self, sizeLine_eq, Nat.reduceLeDiff, reduceCtorEq, decide_true, decide_false]
        refine own_op Z.LC (T.ci_Lattice.ty Z.L1) notFirst_self ⟨c, _, rfl, dc, A, C, D, Z.LC, BC, .inr ⟨p, dx, w, s, h, rfl, Z.L1, B1, fun G1 g1 => ⟨_, rfl, ?_⟩⟩⟩
        rw [(le_iff B1).mpr sub1]
        have Z1 := Z.same g1
        refine ⟨true, rfl, fun _ => ?_, fun e => absurd rfl e⟩
        refine own_op Z1.LC (T.ci_Lattice.ty Z1.L2) notFirst_self ⟨c, _, rfl, dc, A, C, D, Z1.LC, BC, .inr ⟨q, dy, w2, s2, h2, rfl, Z1.L2, B2, fun G2 g2 => ⟨_, rfl, ?_⟩⟩⟩
        rw [(le_iff B2).mpr sub2]
        have Z2 := Z1.same g2
        refine ⟨true, rfl, fun _ => ?_, fun e => absurd rfl e⟩
        refine own_op Z2.L1 (T.ci_Lattice.ty Z2.LJ) notFirst_self ⟨p, _, rfl, dx, w, s, h, Z2.L1, B1, .inr ⟨j, dj, J, I, _, rfl, Z2.LJ, BJ, fun G3 g3 => ⟨_, rfl, ?_⟩⟩⟩
        rw [(le_iff BJ).mpr sub3]
        have Z3 := Z2.same g3
        refine ⟨true, rfl, fun _ => ?_, fun e => absurd rfl e⟩
        refine own_op Z3.L2 (T.ci_Lattice.ty Z3.LJ) notFirst_self ⟨q, _, rfl, dy, w2, s2, h2, Z3.L2, B2, .inr ⟨j, dj, J, I, _, rfl, Z3.LJ, BJ, fun G4 g4 => ⟨_, rfl, ?_⟩⟩⟩
        rw [(le_iff BJ).mpr sub4]
        exact ⟨true, rfl, fun e => (by cases e), fun _ => Z3.same g4⟩
      · clear Z
        rintro _ H4 ⟨rfl, Z⟩
        simp only [exists_and_left, tSl, tPart, tNoPart, rSlLN, rMax2, rMin2, gUnlN, tYes, rLenS, rRepN, cx_K, Value.ref.injEq, HO.xd.injEq, lk0, tSeq, tPar3, tPar, tCons, tNil, tVar, tC, tAsg, gName, gCons, gNil, gTupN, gSub, tOp, rI, rI0, rU, tTest, rNe, rEq, rIxTN, rIxLN, rLenL, rLenT, rIntI, rIntB, rAbs, rSetLN, tTruL, tRaiseX, rIsTy, rIsOw, ixN0, ixN1, tRet, tIf, tIfS, tNext, tBreak, tCont, tDrop, tTupN, tLstN, tUn, tCB, tCall, tNot, tAnd, tOr, tB, tAndV, tOrV, tNotV, tChain, tApp, LamX.tLam, tRevLN, rCatN, rInTN, rInLN, flatV, inV, List.all_cons, List.all_nil, List.any_cons, List.any_nil, Bool.and_self, Bool.and_true, if_true, Bool.false_eq_true, if_false, tMt, tFldN, tSto, HO.ins.injEq, lkh, List.drop_zero, List.drop_succ_cons, List.drop_nil, rListS, wipe, L2.start, List.map_cons, List.map_nil, List.length_cons, List.length_nil, List.replicate, List.cons_append, List.nil_append, List.append_nil, Nat.reduceAdd, Nat.reduceSub, Nat.zero_add, List.replicate_succ, List.replicate_zero, List.getElem?_cons_zero, List.getElem?_cons_succ, List.set_cons_zero, List.set_cons_succ, Option.some.injEq, V.int.injEq, V.bl.injEq, V.ref.injEq, V.str.injEq, V.ty.injEq, List.cons.injEq, HO.tup.injEq, HO.lst.injEq, and_true, true_and, and_assoc, exists_eq_left, exists_eq_left', exists_and_left, exists_eq', atI0, atI1, atI2, atI3, Int.cast_ofNat_Int, Int.reduceToNat, scal_ii, scal_in, scal_ni, scal_nn, scal_bb, scal_ss, scal_sn, scal_ns, scal_bn, scal_nb, ite_iff, decide_eq_true_eq, decide_eq_false_iff_not, Bool.not_eq_true', Classical.not_not, ne_eq, not_false_eq_true, not_true_eq_false, forall_const, true_implies, false_implies, imp_self, sizeLine_eq, Nat.reduceLeDiff, reduceCtorEq, decide_true, decide_false]
        refine st_forR1 40 (by decide) (fun Q q => q) (fun i σ' H' => ∃ x7 x8 x9 x10, σ' = [some (V.ref a), some (V.ref t), some (V.ref u), some (V.ref p), some (V.ref q), some (V.ref c), some (V.ref j), x7, x8, x9, x10, none] ∧ TS K H H' a t u p dx q dy c dc j dj w s h w2 s2 h2 A C D J I (Int.gcd h h2 : Int)) ⟨_, _, _, _, rfl, Z⟩ ?_ ?_
        · clear Z
          rintro i _ H4 hi ⟨x7, x8, x9, x10, rfl, Z⟩
          simp only [spDraw, exists_and_left, tSl, tPart, tNoPart, rSlLN, rMax2, rMin2, gUnlN, tYes, rLenS, rRepN, cx_K, Value.ref.injEq, HO.xd.injEq, lk0, tSeq, tPar3, tPar, tCons, tNil, tVar, tC, tAsg, gName, gCons, gNil, gTupN, gSub, tOp, rI, rI0, rU, tTest, rNe, rEq, rIxTN, rIxLN, rLenL, rLenT, rIntI, rIntB, rAbs, rSetLN, tTruL, tRaiseX, rIsTy, rIsOw, ixN0, ixN1, tRet, tIf, tIfS, tNext, tBreak, tCont, tDrop, tTupN, tLstN, tUn, tCB, tCall, tNot, tAnd, tOr, tB, tAndV, tOrV, tNotV, tChain, tApp, LamX.tLam, tRevLN, rCatN, rInTN, rInLN, flatV, inV, List.all_cons, List.all_nil, List.any_cons, List.any_nil, Bool.and_self, Bool.and_true, if_true, Bool.false_eq_true, if_false, tMt, tFldN, tSto, HO.ins.injEq, lkh, List.drop_zero, List.drop_succ_cons, List.drop_nil, rListS, wipe, L2.start, List.map_cons, List.map_nil, List.length_cons, List.length_nil, List.replicate, List.cons_append, List.nil_append, List.append_nil, Nat.reduceAdd, Nat.reduceSub, Nat.zero_add, List.replicate_succ, List.replicate_zero, List.getElem?_cons_zero, List.getElem?_cons_succ, List.set_cons_zero, List.set_cons_succ, Option.some.injEq, V.int.injEq, V.bl.injEq, V.ref.injEq, V.str.injEq, V.ty.injEq, List.cons.injEq, HO.tup.injEq, HO.lst.injEq, and_true, true_and, and_assoc, exists_eq_left, exists_eq_left', exists_and_left, exists_eq', atI0, atI1, atI2, atI3, Int.cast_ofNat_Int, Int.reduceToNat, scal_ii, scal_in, scal_ni, scal_nn, scal_bb, scal_ss, scal_sn, scal_ns, scal_bn, scal_nb, ite_iff, decide_eq_true_eq, decide_eq_false_iff_not, Bool.not_eq_true', Classical.not_not, ne_eq, not_false_eq_true, not_true_eq_false, forall_const, true_implies, false_implies, imp_self, sizeLine_eq, Nat.reduceLeDiff, reduceCtorEq, decide_true, decide_false]
          refine ⟨Z.P, by decide, by decide, fun d H5 d0 d1 Q2 w5 => ⟨Q2, by decide, by decide, fun e H6 e0 e1 Q3 w6 => ?_⟩⟩
          have Z6 := (Z.stp Q2 w5).stp Q3 w6
          clear Z Q2 w5 Q3 w6
          refine ⟨fun σ' H' => ∃ x y : Int, σ' = [some (V.ref a), some (V.ref t), some (V.ref u), some (V.ref p), some (V.ref q), some (V.ref c), some (V.ref j), some (V.int i), some (V.int x), some (V.int y), x10, none] ∧ x.natAbs < 2 ^ 100 ∧ y.natAbs < 2 ^ 100 ∧ TS K H H' a t u p dx q dy c dc j dj w s h w2 s2 h2 A C D J I (Int.gcd h h2 : Int), ?_, ?_⟩
          · have g1 := Z6.T1
            simp only [g1, exists_and_left, tSl, tPart, tNoPart, rSlLN, rMax2, rMin2, gUnlN, tYes, rLenS, rRepN, cx_K, Value.ref.injEq, HO.xd.injEq, lk0, tSeq, tPar3, tPar, tCons, tNil, tVar, tC, tAsg, gName, gCons, gNil, gTupN, gSub, tOp, rI, rI0, rU, tTest, rNe, rEq, rIxTN, rIxLN, rLenL, rLenT, rIntI, rIntB, rAbs, rSetLN, tTruL, tRaiseX, rIsTy, rIsOw, ixN0, ixN1, tRet, tIf, tIfS, tNext, tBreak, tCont, tDrop, tTupN, tLstN, tUn, tCB, tCall, tNot, tAnd, tOr, tB, tAndV, tOrV, tNotV, tChain, tApp, LamX.tLam, tRevLN, rCatN, rInTN, rInLN, flatV, inV, List.all_cons, List.all_nil, List.any_cons, List.any_nil, Bool.and_self, Bool.and_true, if_true, Bool.false_eq_true, if_false, tMt, tFldN, tSto, HO.ins.injEq, lkh, List.drop_zero, List.drop_succ_cons, List.drop_nil, rListS, wipe, L2.start, List.map_cons, List.map_nil, List.length_cons, List.length_nil, List.replicate, List.cons_append, List.nil_append, List.append_nil, Nat.reduceAdd, Nat.reduceSub, Nat.zero_add, List.replicate_succ, List.replicate_zero, List.getElem?_cons_zero, List.getElem?_cons_succ, List.set_cons_zero, List.set_cons_succ, Option.some.injEq, V.int.injEq, V.bl.injEq, V.ref.injEq, V.str.injEq, V.ty.injEq, List.cons.injEq, HO.tup.injEq, HO.lst.injEq, and_true, true_and, and_assoc, exists_eq_left, exists_eq_left', exists_and_left, exists_eq', atI0, atI1, atI2, atI3, Int.cast_ofNat_Int, Int.reduceToNat, scal_ii, scal_in, scal_ni, scal_nn, scal_bb, scal_ss, scal_sn, scal_ns, scal_bn, scal_nb, ite_iff, decide_eq_true_eq, decide_eq_false_iff_not, Bool.not_eq_true', Classical.not_not, ne_eq, not_false_eq_true, not_true_eq_false, forall_const, true_implies, false_implies, imp_self, sizeLine_eq, Nat.reduceLeDiff, reduceCtorEq, decide_true, decide_false]
            have dS : (d - 12).natAbs < 2 ^ 6 := by omega
            have eS : (e - 12).natAbs < 2 ^ 6 := by omega
            have sS : s.natAbs < 2 ^ 20 := by have := B1.ba; have := B1.b0; omega
            have pm : ∀ {u v : Int}, u.natAbs < 2 ^ 6 → v.natAbs < 2 ^ 20 → (u * v).natAbs < 2 ^ 26 := fun h1 h2 => by rw [Int.natAbs_mul, show (26 : Nat) = 6 + 20 from rfl, Nat.pow_add]; exact Nat.mul_lt_mul'' h1 h2
            have n1 := pm dS bw
            have n2 := pm eS sS
            have n3 := pm eS bh
            exact ⟨by decide, fun _ => ⟨wide_mul dS bw (by decide) (by decide) (by decide), wide_mul eS sS (by decide) (by decide) (by decide), wide_mul eS bh (by decide) (by decide) (by decide), by omega, by omega, Z6⟩, fun _ => ⟨by omega, by omega, Z6⟩⟩
          · clear Z6
            rintro _ H4 ⟨x, y, rfl, bx, yb, Z⟩
            simp only [spHo, exists_and_left, tSl, tPart, tNoPart, rSlLN, rMax2, rMin2, gUnlN, tYes, rLenS, rRepN, cx_K, Value.ref.injEq, HO.xd.injEq, lk0, tSeq, tPar3, tPar, tCons, tNil, tVar, tC, tAsg, gName, gCons, gNil, gTupN, gSub, tOp, rI, rI0, rU, tTest, rNe, rEq, rIxTN, rIxLN, rLenL, rLenT, rIntI, rIntB, rAbs, rSetLN, tTruL, tRaiseX, rIsTy, rIsOw, ixN0, ixN1, tRet, tIf, tIfS, tNext, tBreak, tCont, tDrop, tTupN, tLstN, tUn, tCB, tCall, tNot, tAnd, tOr, tB, tAndV, tOrV, tNotV, tChain, tApp, LamX.tLam, tRevLN, rCatN, rInTN, rInLN, flatV, inV, List.all_cons, List.all_nil, List.any_cons, List.any_nil, Bool.and_self, Bool.and_true, if_true, Bool.false_eq_true, if_false, tMt, tFldN, tSto, HO.ins.injEq, lkh, List.drop_zero, List.drop_succ_cons, List.drop_nil, rListS, wipe, L2.start, List.map_cons, List.map_nil, List.length_cons, List.length_nil, List.replicate, List.cons_append, List.nil_append, List.append_nil, Nat.reduceAdd, Nat.reduceSub, Nat.zero_add, List.replicate_succ, List.replicate_zero, List.getElem?_cons_zero, List.getElem?_cons_succ, List.set_cons_zero, List.set_cons_succ, Option.some.injEq, V.int.injEq, V.bl.injEq, V.ref.injEq, V.str.injEq, V.ty.injEq, List.cons.injEq, HO.tup.injEq, HO.lst.injEq, and_true, true_and, and_assoc, exists_eq_left, exists_eq_left', exists_and_left, exists_eq', atI0, atI1, atI2, atI3, Int.cast_ofNat_Int, Int.reduceToNat, scal_ii, scal_in, scal_ni, scal_nn, scal_bb, scal_ss, scal_sn, scal_ns, scal_bn, scal_nb, ite_iff, decide_eq_true_eq, decide_eq_false_iff_not, Bool.not_eq_true', Classical.not_not, ne_eq, not_false_eq_true, not_true_eq_false, forall_const, true_implies, false_implies, imp_self, sizeLine_eq, Nat.reduceLeDiff, reduceCtorEq, decide_true, decide_false]
            have ux : x.natAbs < 2 ^ 2000 := pow_small bx (by decide)
            have uy : y.natAbs < 2 ^ 2000 := pow_small yb (by decide)
            refine ⟨w, s, h, Z.T1, B1, ux, uy, fun G1 g1 => ⟨w2, s2, h2, (Z.same g1).T2, B2, ux, uy, fun G2 g2 => ?_⟩⟩
            intro hl G3 _ g3 k3
            have Z3 := ((Z.same g1).same g2).same g3
            clear Z g1 g2 g3
            refine ⟨fun σ' H' => σ' = [some (V.ref a), some (V.ref t), some (V.ref u), some (V.ref p), some (V.ref q), some (V.ref c), some (V.ref j), some (V.int i), some (V.int x), some (V.int y), some (V.ref hl), none] ∧ TS K H H' a t u p dx q dy c dc j dj w s h w2 s2 h2 A C D J I (Int.gcd h h2 : Int) ∧ H' hl = some (.lst [.bl (inL w s h (some (x, y))), .bl (inL w2 s2 h2 (some (x, y)))]), ?_, ?_⟩
            · simp only [exists_and_left, tSl, tPart, tNoPart, rSlLN, rMax2, rMin2, gUnlN, tYes, rLenS, rRepN, cx_K, Value.ref.injEq, HO.xd.injEq, lk0, tSeq, tPar3, tPar, tCons, tNil, tVar, tC, tAsg, gName, gCons, gNil, gTupN, gSub, tOp, rI, rI0, rU, tTest, rNe, rEq, rIxTN, rIxLN, rLenL, rLenT, rIntI, rIntB, rAbs, rSetLN, tTruL, tRaiseX, rIsTy, rIsOw, ixN0, ixN1, tRet, tIf, tIfS, tNext, tBreak, tCont, tDrop, tTupN, tLstN, tUn, tCB, tCall, tNot, tAnd, tOr, tB, tAndV, tOrV, tNotV, tChain, tApp, LamX.tLam, tRevLN, rCatN, rInTN, rInLN, flatV, inV, List.all_cons, List.all_nil, List.any_cons, List.any_nil, Bool.and_self, Bool.and_true, if_true, Bool.false_eq_true, if_false, tMt, tFldN, tSto, HO.ins.injEq, lkh, List.drop_zero, List.drop_succ_cons, List.drop_nil, rListS, wipe, L2.start, List.map_cons, List.map_nil, List.length_cons, List.length_nil, List.replicate, List.cons_append, List.nil_append, List.append_nil, Nat.reduceAdd, Nat.reduceSub, Nat.zero_add, List.replicate_succ, List.replicate_zero, List.getElem?_cons_zero, List.getElem?_cons_succ, List.set_cons_zero, List.set_cons_succ, Option.some.injEq, V.int.injEq, V.bl.injEq, V.ref.injEq, V.str.injEq, V.ty.injEq, List.cons.injEq, HO.tup.injEq, HO.lst.injEq, and_true, true_and, and_assoc, exists_eq_left, exists_eq_left', exists_and_left, exists_eq', atI0, atI1, atI2, atI3, Int.cast_ofNat_Int, Int.reduceToNat, scal_ii, scal_in, scal_ni, scal_nn, scal_bb, scal_ss, scal_sn, scal_ns, scal_bn, scal_nb, ite_iff, decide_eq_true_eq, decide_eq_false_iff_not, Bool.not_eq_true', Classical.not_not, ne_eq, not_false_eq_true, not_true_eq_false, forall_const, true_implies, false_implies, imp_self, sizeLine_eq, Nat.reduceLeDiff, reduceCtorEq, decide_true, decide_false]
              intro z G4 _ g4 k4
              have Z4 := Z3.same g4
              refine own_in Z4.LC ⟨c, _, rfl, dc, A, C, D, Z4.LC, BC, P2.k k4, fun u v e => (by rw [pairV_of k4] at e; cases e; exact ⟨ux, uy⟩), fun G5 g5 => ?_⟩
              rw [pairV_of k4]
              refine ⟨_, rfl, ?_⟩
              intro y2 G6 _ g6 k6
              have k36 := g6 _ _ (g5 _ _ (g4 _ _ k3))
              refine ⟨_, _, dp_bb k36, dp_bb k6, (sh_bb (n := 0)).ok, (sh_bb (n := 0)).ok, ?_⟩
              have ec : inL A C D (some (x, y)) = (inL w s h (some (x, y)) && inL w2 s2 h2 (some (x, y))) := by
                rw [Bool.eq_iff_iff, Bool.and_eq_true, inL_iff BC.a1 BC.d1, inL_iff B1.a1 B1.d1, inL_iff B2.a1 B2.d1]; exact memC x y
              rw [eqv_bb, ec]
              exact ⟨rfl, fun e => absurd rfl e, fun _ => ⟨(Z4.same g5).same g6, k36⟩⟩
            · clear Z3 k3
              rintro _ G3 ⟨rfl, Z3, k3⟩
              simp only [k3, exists_and_left, tSl, tPart, tNoPart, rSlLN, rMax2, rMin2, gUnlN, tYes, rLenS, rRepN, cx_K, Value.ref.injEq, HO.xd.injEq, lk0, tSeq, tPar3, tPar, tCons, tNil, tVar, tC, tAsg, gName, gCons, gNil, gTupN, gSub, tOp, rI, rI0, rU, tTest, rNe, rEq, rIxTN, rIxLN, rLenL, rLenT, rIntI, rIntB, rAbs, rSetLN, tTruL, tRaiseX, rIsTy, rIsOw, ixN0, ixN1, tRet, tIf, tIfS, tNext, tBreak, tCont, tDrop, tTupN, tLstN, tUn, tCB, tCall, tNot, tAnd, tOr, tB, tAndV, tOrV, tNotV, tChain, tApp, LamX.tLam, tRevLN, rCatN, rInTN, rInLN, flatV, inV, List.all_cons, List.all_nil, List.any_cons, List.any_nil, Bool.and_self, Bool.and_true, if_true, Bool.false_eq_true, if_false, tMt, tFldN, tSto, HO.ins.injEq, lkh, List.drop_zero, List.drop_succ_cons, List.drop_nil, rListS, wipe, L2.start, List.map_cons, List.map_nil, List.length_cons, List.length_nil, List.replicate, List.cons_append, List.nil_append, List.append_nil, Nat.reduceAdd, Nat.reduceSub, Nat.zero_add, List.replicate_succ, List.replicate_zero, List.getElem?_cons_zero, List.getElem?_cons_succ, List.set_cons_zero, List.set_cons_succ, Option.some.injEq, V.int.injEq, V.bl.injEq, V.ref.injEq, V.str.injEq, V.ty.injEq, List.cons.injEq, HO.tup.injEq, HO.lst.injEq, and_true, true_and, and_assoc, exists_eq_left, exists_eq_left', exists_and_left, exists_eq', atI0, atI1, atI2, atI3, Int.cast_ofNat_Int, Int.reduceToNat, scal_ii, scal_in, scal_ni, scal_nn, scal_bb, scal_ss, scal_sn, scal_ns, scal_bn, scal_nb, ite_iff, decide_eq_true_eq, decide_eq_false_iff_not, Bool.not_eq_true', Classical.not_not, ne_eq, not_false_eq_true, not_true_eq_false, forall_const, true_implies, false_implies, imp_self, sizeLine_eq, Nat.reduceLeDiff, reduceCtorEq, decide_true, decide_false]
              refine ⟨fun e => ?_, fun _ => Z3⟩
              have hj : inL J I (Int.gcd h h2 : Int) (some (x, y)) = true := by
                have : inL w s h (some (x, y)) = true ∨ inL w2 s2 h2 (some (x, y)) = true := by
                  cases e1 : inL w s h (some (x, y)) <;> cases e2 : inL w2 s2 h2 (some (x, y)) <;> simp_all [eqV]
                rcases this with m | m
                · exact (inL_iff BJ.a1 BJ.d1).mpr (sub3 _ _ ((inL_iff B1.a1 B1.d1).mp m))
                · exact (inL_iff BJ.a1 BJ.d1).mpr (sub4 _ _ ((inL_iff B2.a1 B2.d1).mp m))
              intro z G4 _ g4 k4
              have Z4 := Z3.same g4
              refine own_in Z4.LJ ⟨j, _, rfl, dj, J, I, _, Z4.LJ, BJ, P2.k k4, fun u v e => (by rw [pairV_of k4] at e; cases e; exact ⟨ux, uy⟩), fun G5 g5 => ?_⟩
              rw [pairV_of k4, hj]
              exact ⟨true, rfl, false, rfl, fun e => (by cases e), fun _ => Z4.same g5⟩
        · clear Z
          rintro _ H4 ⟨x7, x8, x9, x10, rfl, Z⟩
          simp only [spDraw, exists_and_left, tSl, tPart, tNoPart, rSlLN, rMax2, rMin2, gUnlN, tYes, rLenS, rRepN, cx_K, Value.ref.injEq, HO.xd.injEq, lk0, tSeq, tPar3, tPar, tCons, tNil, tVar, tC, tAsg, gName, gCons, gNil, gTupN, gSub, tOp, rI, rI0, rU, tTest, rNe, rEq, rIxTN, rIxLN, rLenL, rLenT, rIntI, rIntB, rAbs, rSetLN, tTruL, tRaiseX, rIsTy, rIsOw, ixN0, ixN1, tRet, tIf, tIfS, tNext, tBreak, tCont, tDrop, tTupN, tLstN, tUn, tCB, tCall, tNot, tAnd, tOr, tB, tAndV, tOrV, tNotV, tChain, tApp, LamX.tLam, tRevLN, rCatN, rInTN, rInLN, flatV, inV, List.all_cons, List.all_nil, List.any_cons, List.any_nil, Bool.and_self, Bool.and_true, if_true, Bool.false_eq_true, if_false, tMt, tFldN, tSto, HO.ins.injEq, lkh, List.drop_zero, List.drop_succ_cons, List.drop_nil, rListS, wipe, L2.start, List.map_cons, List.map_nil, List.length_cons, List.length_nil, List.replicate, List.cons_append, List.nil_append, List.append_nil, Nat.reduceAdd, Nat.reduceSub, Nat.zero_add, List.replicate_succ, List.replicate_zero, List.getElem?_cons_zero, List.getElem?_cons_succ, List.set_cons_zero, List.set_cons_succ, Option.some.injEq, V.int.injEq, V.bl.injEq, V.ref.injEq, V.str.injEq, V.ty.injEq, List.cons.injEq, HO.tup.injEq, HO.lst.injEq, and_true, true_and, and_assoc, exists_eq_left, exists_eq_left', exists_and_left, exists_eq', atI0, atI1, atI2, atI3, Int.cast_ofNat_Int, Int.reduceToNat, scal_ii, scal_in, scal_ni, scal_nn, scal_bb, scal_ss, scal_sn, scal_ns, scal_bn, scal_nb, ite_iff, decide_eq_true_eq, decide_eq_false_iff_not, Bool.not_eq_true', Classical.not_not, ne_eq, not_false_eq_true, not_true_eq_false, forall_const, true_implies, false_implies, imp_self, sizeLine_eq, Nat.reduceLeDiff, reduceCtorEq, decide_true, decide_false]
          refine ⟨Z.P, by decide, by decide, fun d H5 d0 d1 Q2 w5 => ⟨Q2, by decide, by decide, fun e H6 e0 e1 Q3 w6 => ?_⟩⟩
          have Z6 := (Z.stp Q2 w5).stp Q3 w6
          clear Z Q2 w5 Q3 w6
          have g1 := Z6.T1
          have g2 := Z6.T2
          simp only [g1, g2, exists_and_left, tSl, tPart, tNoPart, rSlLN, rMax2, rMin2, gUnlN, tYes, rLenS, rRepN, cx_K, Value.ref.injEq, HO.xd.injEq, lk0, tSeq, tPar3, tPar, tCons, tNil, tVar, tC, tAsg, gName, gCons, gNil, gTupN, gSub, tOp, rI, rI0, rU, tTest, rNe, rEq, rIxTN, rIxLN, rLenL, rLenT, rIntI, rIntB, rAbs, rSetLN, tTruL, tRaiseX, rIsTy, rIsOw, ixN0, ixN1, tRet, tIf, tIfS, tNext, tBreak, tCont, tDrop, tTupN, tLstN, tUn, tCB, tCall, tNot, tAnd, tOr, tB, tAndV, tOrV, tNotV, tChain, tApp, LamX.tLam, tRevLN, rCatN, rInTN, rInLN, flatV, inV, List.all_cons, List.all_nil, List.any_cons, List.any_nil, Bool.and_self, Bool.and_true, if_true, Bool.false_eq_true, if_false, tMt, tFldN, tSto, HO.ins.injEq, lkh, List.drop_zero, List.drop_succ_cons, List.drop_nil, rListS, wipe, L2.start, List.map_cons, List.map_nil, List.length_cons, List.length_nil, List.replicate, List.cons_append, List.nil_append, List.append_nil, Nat.reduceAdd, Nat.reduceSub, Nat.zero_add, List.replicate_succ, List.replicate_zero, List.getElem?_cons_zero, List.getElem?_cons_succ, List.set_cons_zero, List.set_cons_succ, Option.some.injEq, V.int.injEq, V.bl.injEq, V.ref.injEq, V.str.injEq, V.ty.injEq, List.cons.injEq, HO.tup.injEq, HO.lst.injEq, and_true, true_and, and_assoc, exists_eq_left, exists_eq_left', exists_and_left, exists_eq', atI0, atI1, atI2, atI3, Int.cast_ofNat_Int, Int.reduceToNat, scal_ii, scal_in, scal_ni, scal_nn, scal_bb, scal_ss, scal_sn, scal_ns, scal_bn, scal_nb, ite_iff, decide_eq_true_eq, decide_eq_false_iff_not, Bool.not_eq_true', Classical.not_not, ne_eq, not_false_eq_true, not_true_eq_false, forall_const, true_implies, false_implies, imp_self, sizeLine_eq, Nat.reduceLeDiff, reduceCtorEq, decide_true, decide_false]
          have dS : (d - 4).natAbs < 2 ^ 6 := by omega
          have eS : (e - 4).natAbs < 2 ^ 6 := by omega
          have sS : s2.natAbs < 2 ^ 20 := by have := B2.ba; have := B2.b0; omega
          have pm : ∀ {u v : Int}, u.natAbs < 2 ^ 6 → v.natAbs < 2 ^ 20 → (u * v).natAbs < 2 ^ 26 := fun h1 h2 => by rw [Int.natAbs_mul, show (26 : Nat) = 6 + 20 from rfl, Nat.pow_add]; exact Nat.mul_lt_mul'' h1 h2
          have n1 := pm dS bw
          have n2 := pm eS sS
          have n3 := pm eS bh2
          have n4 : ((d - 4) * w + (e - 4) * s2 + w2).natAbs < 2 ^ 30 := by omega
          refine ⟨wide_mul dS bw (by decide) (by decide) (by decide), wide_mul eS sS (by decide) (by decide) (by decide), wide_mul eS bh2 (by decide) (by decide) (by decide), ?_⟩
          intro z H7 _ s7 k7
          have Z7 := Z6.same s7
          have hj : inL J I (Int.gcd h h2 : Int) (some ((d - 4) * w + (e - 4) * s2 + w2, (e - 4) * h2)) = true := by
            refine (inL_iff BJ.a1 BJ.d1).mpr ((memJ _ _).mpr ⟨(d - 4) * w, 0, (e - 4) * s2 + w2, (e - 4) * h2, ⟨d - 4, 0, by rw [Int.mul_comm]; omega, by omega⟩, ⟨1, e - 4, by rw [Int.mul_comm s2]; omega, by rw [Int.mul_comm]⟩, by omega, by omega⟩)
          refine own_in Z7.LJ ⟨j, _, rfl, dj, J, I, _, Z7.LJ, BJ, P2.k k7, fun u v e => (by rw [pairV_of k7] at e; cases e; exact ⟨pow_small n4 (by decide), pow_small n3 (by decide)⟩), fun G1 g1 => ?_⟩
          rw [pairV_of k7, hj]
          have Y1 := Z7.same g1
          refine ⟨true, rfl, true, rfl, fun _ => ?_, fun e => absurd rfl e⟩
          refine own_op Y1.LC (T.ci_Lattice.ty Y1.L1) notFirst_self ⟨c, _, rfl, dc, A, C, D, Y1.LC, .inr ⟨p, dx, w, s, h, rfl, Y1.L1, ⟨_, rfl, ?_⟩⟩⟩
          refine own_op Y1.L1 (T.ci_Lattice.ty Y1.L2) notFirst_self ⟨p, _, rfl, dx, w, s, h, Y1.L1, B1, .inr ⟨q, dy, w2, s2, h2, rfl, Y1.L2, B2, fun G2 g2 => ⟨_, rfl, ?_⟩⟩⟩
          have Y2 := Y1.same g2
          rw [com_eq BC B1 B2 memC]
          refine ⟨rfl, fun _ => ?_, fun e => absurd rfl e⟩
          refine own_op Y2.LJ (T.ci_Lattice.ty Y2.L1) notFirst_self ⟨j, _, rfl, dj, J, I, _, Y2.LJ, .inr ⟨p, dx, w, s, h, rfl, Y2.L1, ⟨_, rfl, ?_⟩⟩⟩
          refine own_op Y2.L2 (T.ci_Lattice.ty Y2.L1) notFirst_self ⟨q, _, rfl, dy, w2, s2, h2, Y2.L2, B2, .inr ⟨p, dx, w, s, h, rfl, Y2.L1, B1, fun G3 g3 => ⟨_, rfl, ?_⟩⟩⟩
          have Y3 := Y2.same g3
          rw [joi_eq BJ B1 memJ]
          refine ⟨rfl, ?_⟩
          rw [decide_eq_true rfl]
          exact k _ Y3.P Y3.S

end
end Iz
/-! k09_i -/
set_option Elab.async false
set_option linter.all false
set_option maxRecDepth 100000
set_option maxHeartbeats 4000000
namespace Iz
open PySem PySem.Spec PyProof.Rows L2
open He (ga)
local macro_rules | `(tactic| walk_at "wp") => `(tactic| simp only [tSl, tPart, tNoPart, rSlLN, rMax2, rMin2, gUnlN, tYes, rLenS, rRepN, cx_K, Value.ref.injEq, HO.xd.injEq, lk0, tSeq, tPar3, tPar, tCons, tNil, tVar, tC, tAsg, gName, gCons, gNil, gTupN, gSub, tOp, rI, rI0, rU, tTest, rNe, rEq, rIxTN, rIxLN, rLenL, rLenT, rIntI, rIntB, rAbs, rSetLN, tTruL, tRaiseX, rIsTy, rIsOw, ixN0, ixN1, tRet, tIf, tIfS, tNext, tBreak, tCont, tDrop, tTupN, tLstN, tUn, tCB, tCall, tNot, tAnd, tOr, tB, tAndV, tOrV, tNotV, tChain, tApp, LamX.tLam, tRevLN, rCatN, rInTN, rInLN, flatV, inV, List.all_cons, List.all_nil, List.any_cons, List.any_nil, Bool.and_self, Bool.and_true, if_true, Bool.false_eq_true, if_false, tMt, tFldN, tSto, HO.ins.injEq, lkh, List.drop_zero, List.drop_succ_cons, List.drop_nil, rListS, wipe, L2.start, List.map_cons, List.map_nil, List.length_cons, List.length_nil, List.replicate, List.cons_append, List.nil_append, List.append_nil, Nat.reduceAdd, Nat.reduceSub, Nat.zero_add, List.replicate_succ, List.replicate_zero, List.getElem?_cons_zero, List.getElem?_cons_succ, List.set_cons_zero, List.set_cons_succ, Option.some.injEq, V.int.injEq, V.bl.injEq, V.ref.injEq, V.str.injEq, V.ty.injEq, List.cons.injEq, HO.tup.injEq, HO.lst.injEq, and_true, true_and, and_assoc, exists_eq_left, exists_eq_left', exists_and_left, exists_eq', atI0, atI1, atI2, atI3, Int.cast_ofNat_Int, Int.reduceToNat, scal_ii, scal_in, scal_ni, scal_nn, scal_bb, scal_ss, scal_sn, scal_ns, scal_bn, scal_nb, ite_iff, decide_eq_true_eq, decide_eq_false_iff_not, Bool.not_eq_true', Classical.not_not, ne_eq, not_false_eq_true, not_true_eq_false, forall_const, true_implies, false_implies, imp_self, sizeLine_eq, Nat.reduceLeDiff, reduceCtorEq, decide_true, decide_false])
section
variable {P : Program} {w : World} {K : PySem.W.Frag} {mg : Str → Option Value} {base : Heap}
open LamX
/-- all but the pool and the tables stays -/
def ExP (a : Addr) (H H' : Hp) : Prop := ∀ b o, H b = some o → b ≠ a → (∀ ps, o ≠ .tbl ps) → H' b = some o
theorem ExP.at {a b : Addr} {H H' : Hp} {o : HO} (t : ExP a H H') (p : Po H a) (h : H b = some o) (n : ∀ g s : Int, o ≠ .lst [.int g, .int s]) (m : ∀ ps, o ≠ .tbl ps) : H' b = some o := t b o h (fun e => by
  obtain ⟨g, s, e2⟩ := p
  subst e
  exact n g s (Option.some.inj (h.symm.trans e2))) m
theorem ExP.of {a : Addr} {H H' : Hp} (e : ExtN H H') : ExP a H H' := fun b o h _ m => e b o h m
theorem ExP.stp {a : Addr} {H H' : Hp} (e : StpP a H H') : ExP a H H' := fun b o h n _ => e b o h n
structure LQ (K : PySem.W.Frag) (H0 H : Hp) (a : Addr) : Prop where
  P : Po H a
  n : ∀ b o, H0 b = some o → (∀ ps, o ≠ .tbl ps) → b ≠ a
  E : ExtN H0 H
  hT : Tabs (Tb2 K) H
section
variable {H0 H H' : Hp} {a : Addr}
theorem LQ.same (x : LQ K H0 H a) (s : Same H H') : LQ K H0 H' a := ⟨x.P.same s, x.n, x.E.trans (extS s), Tabs.ext x.hT s⟩
theorem LQ.stp (x : LQ K H0 H a) (P : Po H' a) (s : StpP a H H') : LQ K H0 H' a := ⟨P, x.n, fun b o h n => s b o (x.E b o h n) (x.n b o h n), Tabs.stpP x.hT x.P s⟩
theorem LQ.exp (x : LQ K H0 H a) (P : Po H' a) (hT : Tabs (Tb2 K) H') (s : ExP a H H') : LQ K H0 H' a := ⟨P, x.n, fun b o h n => s b o (x.E b o h n) (x.n b o h n) n, hT⟩
theorem LQ.ext (x : LQ K H0 H a) (hT : Tabs (Tb2 K) H') (s : ExtN H H') : LQ K H0 H' a := ⟨(let ⟨g, n, z⟩ := x.P; ⟨g, n, extL s z⟩), x.n, x.E.trans s, hT⟩
end
/-- a list of two pairs, small -/
def Pr (H : Hp) (v : V) : Prop := ∃ z x y p q r s, v = V.ref z ∧ H z = some (.lst [.ref x, .ref y]) ∧ P2 H x p q ∧ P2 H y r s ∧ p.natAbs < 2 ^ 10 ∧ q.natAbs < 2 ^ 10 ∧ r.natAbs < 2 ^ 10 ∧ s.natAbs < 2 ^ 10
theorem Pr.exp {H H' : Hp} {a : Addr} {v : V} (h : Pr H v) (P : Po H a) (e : ExP a H H') : Pr H' v := by
  obtain ⟨z, x, y, p, q, r, s, rfl, h1, h2, h3, b⟩ := h
  exact ⟨z, x, y, p, q, r, s, rfl, e.at P h1 (fun g s z => by cases z) (fun _ z => by cases z), e.at P h2 (fun g s z => by cases z) (fun _ z => by cases z), e.at P h3 (fun g s z => by cases z) (fun _ z => by cases z), b⟩
theorem LB.of {w s h : Int} (w1 : 1 ≤ w) (w2 : w ≤ 1000) (s0 : 0 ≤ s) (s1 : s < w) (h1 : 1 ≤ h) (h2 : h ≤ 1000) : LB w s h ∧ w.natAbs < 2 ^ 20 ∧ h.natAbs < 2 ^ 20 := by
  have a : w.natAbs < 2 ^ 20 := by omega
  have b : h.natAbs < 2 ^ 20 := by omega
  exact ⟨⟨w1, s0, s1, h1, pow_small a (by decide), pow_small b (by decide)⟩, a, b⟩
structure Sm (w s h : Int) : Prop where
  B : LB w s h
  x : w.natAbs < 2 ^ 20
  y : h.natAbs < 2 ^ 20
def Two (H : Hp) (v : V) : Prop := ∃ q x y w s h w2 s2 h2, v = V.ref q ∧ H q = some (.lst [.ref x, .ref y]) ∧ T3 H x w s h ∧ Sm w s h ∧ T3 H y w2 s2 h2 ∧ Sm w2 s2 h2
theorem Two.stp {H H' : Hp} {a : Addr} {v : V} (t : Two H v) (P : Po H a) (e : StpP a H H') : Two H' v := by
  obtain ⟨q, x, y, w, s, h, w2, s2, h2, rfl, b, c, d, f, g⟩ := t
  exact ⟨q, x, y, w, s, h, w2, s2, h2, rfl, e.at P b (fun g s z => by cases z), c.stp P e, d, f.stp P e, g⟩
theorem LQ.put {H0 H H' : Hp} {a R : Addr} {xs ys : List V} (x : LQ K H0 H a) (hR : H R = some (.lst xs)) (n : ∀ b o, H0 b = some o → (∀ ps, o ≠ .tbl ps) → b ≠ R) (na : a ≠ R) (p : Put H H' R (.lst ys)) : LQ K H0 H' a :=
  ⟨(let ⟨g, m, z⟩ := x.P; ⟨g, m, p.other z na⟩), x.n, fun b o h m => p.other (x.E b o h m) (n b o h m), Tabs.put x.hT hR p⟩
/-- what stands by in the third loop -/
structure OD (K : PySem.W.Frag) (H0 H : Hp) (a good dg L3 p0 : Addr) : Prop where
  W : LQ K H0 H a
  mL : H L3 = some (.lst [V.non, .ref p0, .str "lattice", .int 1])
  mp : H p0 = some (.tup [.int 1, .int 0, .int 1])
  hg : LAt K H good dg 1 0 1
section
variable {H0 H H' : Hp} {a good dg L3 p0 : Addr}
theorem OD.same (x : OD K H0 H a good dg L3 p0) (s : Same H H') : OD K H0 H' a good dg L3 p0 := ⟨x.W.same s, s _ _ x.mL, s _ _ x.mp, s _ _ x.hg⟩
theorem OD.ext (x : OD K H0 H a good dg L3 p0) (hT : Tabs (Tb2 K) H') (e : ExtN H H') : OD K H0 H' a good dg L3 p0 := ⟨x.W.ext hT e, extL e x.mL, extT e x.mp, extI e x.hg⟩
theorem OD.put {R : Addr} {xs ys : List V} (x : OD K H0 H a good dg L3 p0) (hR : H R = some (.lst xs)) (n : ∀ b o, H0 b = some o → (∀ ps, o ≠ .tbl ps) → b ≠ R) (na : a ≠ R) (nL : L3 ≠ R) (p : Put H H' R (.lst ys)) : OD K H0 H' a good dg L3 p0 :=
  ⟨x.W.put hR n na p, p.other x.mL nL, p.other x.mp (ne_of x.mp hR (by intro z; cases z)), p.other x.hg (ne_of x.hg hR (by intro z; cases z))⟩
theorem OD.no (T : Txt K mg) (x : OD K H0 H a good dg L3 p0) {v : V} (hv : v ∈ [V.non, .ref p0, .str "lattice", .int 1]) : NoL K H v := by
  simp only [List.mem_cons, List.not_mem_nil, or_false] at hv
  rcases hv with rfl | rfl | rfl | rfl
  · exact ⟨_, .base .non, T.kNL⟩
  · exact ⟨_, .base (.tup x.mp), T.kTL⟩
  · exact ⟨_, .base (.str _), T.kSL⟩
  · exact ⟨_, .base (.int _), T.kIL⟩
theorem OD.na (x : OD K H0 H a good dg L3 p0) {R : Addr} (hR : H R = none) : a ≠ R ∧ L3 ≠ R ∧ ∀ b o, H0 b = some o → (∀ ps, o ≠ .tbl ps) → b ≠ R := ⟨(let ⟨_, _, z⟩ := x.W.P; ne_of_none z hR), ne_of_none x.mL hR, fun b o h m => ne_of_none (x.W.E b o h m) hR⟩
end
theorem sr_ne {H : Hp} {q R : Addr} {x y : Str} {b : Addr} {ys : List V} (h : H q = some (.lst [.str x, .str y])) (k : H R = some (.lst (.ref b :: ys))) : q ≠ R := fun z => by subst z; rw [h] at k; cases k
theorem sh_3 {x y : Str} (hx : PyData.strOk x = true) (hy : PyData.strOk y = true) : ShN 2 (.list [.list [.str x, .str y], .list [.str x, .str y], .list [.str x, .str y]]) := ShN.list (n := 1) fun d h => by
  simp only [List.mem_cons, List.not_mem_nil, or_false] at h
  rcases h with rfl | rfl | rfl <;> exact sh_l2 (n := 0) hx hy
def spLaw (K : PySem.W.Frag) : Sp := fun vs H Q _ => ∃ sc, vs = [.ref sc] ∧ ∃ ns : List Int, SqL K H sc (ns.map V.int) ∧ ns.length ≤ 63 ∧ Tabs (Tb2 K) H ∧ ∀ H', Q (.bl true) H'
theorem o_law (T : Txt K mg) (TB : TabB base mg (cOf K "law") (pOf K "law")) (TB1 : TabB base mg (cOf K "_law_spanned_right") (pOf K "_law_spanned_right")) (f : Addr) (A : Around) (outer : List Env) (s : Shared) (H : Hp) (vs : List V) (Q : VK) (E : XK) (hr : Room 11 (A.deeper (envOfC "law" (defScope s_law) s.heap.objs.size f (.ref (cOf K "law"))))) (h : (spLaw K) vs H Q E) : ∃ t, PSs (cxOf (L2.CX P w) P w K mg base ["_law_script", "_law_k", "_law_pool", "_law_one", "_law_other", "_law_pair", "_law_first", "_law_second", "_law_inner", "_law_rows", "_law_good", "_law_odd"] "law" (defScope s_law) f (.ref (cOf K "law")) A outer s H E) (defBody s_law) t ∧ t { nx := fun _ H' => Q .non H', rt := Q } (L2.start ["_law_script", "_law_k", "_law_pool", "_law_one", "_law_other", "_law_pair", "_law_first", "_law_second", "_law_inner", "_law_rows", "_law_good", "_law_odd"] vs) H := by
  have o__law_opened := o__law_opened (P := P) (w := w) (base := base) T
  have o__law_draw := o__law_draw (P := P) (w := w) (base := base) T
  have o__law_pick := o__law_pick (P := P) (w := w) (base := base) T
  have o__law_three := o__law_three (P := P) (w := w) (base := base) T
  have o__law_spanned_right := o__law_spanned_right (P := P) (w := w) (base := base) T TB1
  have o__law_two_right := o__law_two_right (P := P) (w := w) (base := base) T
  have o_Lattice := o_Lattice (P := P) (w := w) (base := base) T
  have o_common_lattice := o_common_lattice (P := P) (w := w) (base := base) T
  have o_joined_lattice := o_joined_lattice (P := P) (w := w) (base := base) T
  have o_spanned := o_spanned (P := P) (w := w) (base := base) T
  have hu64 := hr.units
  refine ⟨_, pss_cons (ps_for (passes_of rfl) rfl (pi_range1 rfl T.m_range (pa_cons (pe_callB (call_max2N rfl) (by rfl) T.m_max (by decide +kernel) (pa_cons (pe_int) (pa_cons (pe_callB (call_min2N rfl) (by rfl) T.m_min (by decide +kernel) (pa_cons (pe_int) (pa_cons (pe_callB call_lenS (by rfl) T.m_len (by decide +kernel) (pa_cons (pv 0) pa_nil)) pa_nil))) pa_nil))) pa_nil)) (pg_name (i := 1) sc_law.nd rfl (Or.inl rfl)) (pss_cons (ps_set (i := 2) sc_law.nd rfl (Or.inl rfl) (pcl o__law_opened (hr.mono (by decide)) pass0 (pa_cons (pv 0) (pa_cons (pv 1) pa_nil))))
      (pss_cons (ps_set (i := 3) sc_law.nd rfl (Or.inl rfl) (pe_tupN (pa_cons (pe_op op_sub (pcl o__law_draw (hr.mono (by decide)) pass0 (pa_cons (pv 2) (pa_cons (pe_int) pa_nil))) (pe_int)) (pa_cons (pe_op op_sub (pcl o__law_draw (hr.mono (by decide)) pass0 (pa_cons (pv 2) (pa_cons (pe_int) pa_nil))) (pe_int)) pa_nil))))
      (pss_cons (ps_set (i := 4) sc_law.nd rfl (Or.inl rfl) (pe_tupN (pa_cons (pe_op op_sub (pcl o__law_draw (hr.mono (by decide)) pass0 (pa_cons (pv 2) (pa_cons (pe_int) pa_nil))) (pe_int)) (pa_cons (pe_op op_sub (pcl o__law_draw (hr.mono (by decide)) pass0 (pa_cons (pv 2) (pa_cons (pe_int) pa_nil))) (pe_int)) pa_nil))))
      (pss_cons (ps_for (passes_of rfl) rfl (pi_list (pe_lstN (pa_cons (pe_lstN (pa_cons (pv 3) (pa_cons (pv 4) pa_nil))) (pa_cons (pe_lstN (pa_cons (pv 3) (pa_cons (pe_tupN (pa_cons (pe_op op_mul (pe_ix ix_tupN (pv 3) (pe_int) (fun _ _ => rfl)) (pe_int)) (pa_cons (pe_op op_mul (pe_ix ix_tupN (pv 3) (pe_int) (fun _ _ => rfl)) (pe_int)) pa_nil))) pa_nil))) (pa_cons (pe_lstN (pa_cons (pe_tupN (pa_cons (pe_int) (pa_cons (pe_int) pa_nil))) (pa_cons (pv 4) pa_nil))) (pa_cons (pe_lstN (pa_cons (pe_tupN (pa_cons (pe_int) (pa_cons (pe_int) pa_nil))) (pa_cons (pv 4) pa_nil))) pa_nil)))))) (pg_name (i := 5) sc_law.nd rfl (Or.inl rfl)) (pss_one (ps_if (pt_not (pt_val (pcl o__law_spanned_right (hr.mono (by decide)) passE (pa_cons (pv 2) (pa_cons (pe_ix ix_listN (pv 5) (pe_int) (fun _ _ => rfl)) (pa_cons (pe_ix ix_listN (pv 5) (pe_int) (fun _ _ => rfl)) pa_nil)))))) (pss_one (ps_ret (pe_bl))) (pss_nil))))
      (pss_cons (ps_par (i := 6) (j := 7) (by rfl) sc_law.nd rfl rfl (by decide) rfl rfl (pa_cons (pcl o__law_three (hr.mono (by decide)) pass0 (pa_cons (pv 2) (pa_cons (pe_int) pa_nil))) (pa_cons (pcl o__law_three (hr.mono (by decide)) pass0 (pa_cons (pv 2) (pa_cons (pcl o__law_pick (hr.mono (by decide)) pass0 (pa_cons (pv 2) (pa_cons (pe_lstN (pa_cons (pe_int) (pa_cons (pe_int) pa_nil))) pa_nil))) pa_nil))) pa_nil)) (by rfl))
      (pss_cons (ps_set (i := 8) sc_law.nd rfl (Or.inl rfl) (pe_lstN (pa_cons (pe_op op_mul (pe_ix ix_listN (pv 6) (pe_int) (fun _ _ => rfl)) (pe_int)) (pa_cons (pe_op op_mod (pe_op op_add (pe_ix ix_listN (pv 6) (pe_int) (fun _ _ => rfl)) (pe_op op_mulW (pe_ix ix_listN (pv 6) (pe_int) (fun _ _ => rfl)) (pcl o__law_draw (hr.mono (by decide)) pass0 (pa_cons (pv 2) (pa_cons (pe_int) pa_nil))))) (pe_op op_mul (pe_ix ix_listN (pv 6) (pe_int) (fun _ _ => rfl)) (pe_int))) (pa_cons (pe_ix ix_listN (pv 6) (pe_int) (fun _ _ => rfl)) pa_nil)))))
      (pss_cons (ps_for (passes_of rfl) rfl (pi_list (pe_lstN (pa_cons (pe_lstN (pa_cons (pv 6) (pa_cons (pv 7) pa_nil))) (pa_cons (pe_lstN (pa_cons (pv 6) (pa_cons (pv 6) pa_nil))) (pa_cons (pe_lstN (pa_cons (pv 8) (pa_cons (pv 6) pa_nil))) (pa_cons (pe_lstN (pa_cons (pv 6) (pa_cons (pv 8) pa_nil))) pa_nil)))))) (pg_name (i := 5) sc_law.nd rfl (Or.inl rfl)) (pss_one (ps_if (pt_not (pt_val (pcl o__law_two_right (hr.mono (by decide)) pass0 (pa_cons (pv 2) (pa_cons (pe_ix ix_listN (pv 5) (pe_int) (fun _ _ => rfl)) (pa_cons (pe_ix ix_listN (pv 5) (pe_int) (fun _ _ => rfl)) pa_nil)))))) (pss_one (ps_ret (pe_bl))) (pss_nil))))
      (pss_cons (ps_set (i := 10) sc_law.nd rfl (Or.inr rfl) (pmk (j := 0) o_Lattice (by decide) (hr.mono (by decide)) passE (pa_cons (pe_int) (pa_cons (pe_int) (pa_cons (pe_int) pa_nil)))))
      (pss_cons (ps_for (passes_of rfl) rfl (pi_list (pe_lstN (pa_cons (pe_non) (pa_cons (pe_tupN (pa_cons (pe_int) (pa_cons (pe_int) (pa_cons (pe_int) pa_nil)))) (pa_cons (pe_str) (pa_cons (pe_int) pa_nil)))))) (pg_name (i := 11) sc_law.nd rfl (Or.inr rfl)) (pss_cons (ps_set (i := 9) sc_law.nd rfl (Or.inl rfl) (pe_lstN (pa_cons (plamT (k := 7) (qn := qn_law) (TS := (Tb2 K)) T.d__law_refused sc__law_refused (fun _ _ _ _ _ _ us hl => match us, hl with | [_], _ => rfl) (fun g cdg => refused_gives T) (.tail _ (.head _)) (hu_law T) TB rfl rfl (hr.mono (by decide)) (by show lamSB (defScope s_law) _ = true; decide +kernel) (fun A outer s H E f c hr2 => by exact (pcl o_common_lattice (hr2.mono (by decide)) passLam (pa_cons (pv 11) (pa_cons (pv 10) pa_nil))))) pa_nil)))
      (pss_cons (ps_expr (pe_appN (pv 9) (pa_cons (plamT (k := 7) (qn := qn_law) (TS := (Tb2 K)) T.d__law_refused sc__law_refused (fun _ _ _ _ _ _ us hl => match us, hl with | [_], _ => rfl) (fun g cdg => refused_gives T) (.tail _ (.head _)) (hu_law T) TB rfl rfl (hr.mono (by decide)) (by show lamSB (defScope s_law) _ = true; decide +kernel) (fun A outer s H E f c hr2 => by exact (pcl o_common_lattice (hr2.mono (by decide)) passLam (pa_cons (pv 10) (pa_cons (pv 11) pa_nil))))) pa_nil)))
      (pss_cons (ps_expr (pe_appN (pv 9) (pa_cons (plamT (k := 7) (qn := qn_law) (TS := (Tb2 K)) T.d__law_refused sc__law_refused (fun _ _ _ _ _ _ us hl => match us, hl with | [_], _ => rfl) (fun g cdg => refused_gives T) (.tail _ (.head _)) (hu_law T) TB rfl rfl (hr.mono (by decide)) (by show lamSB (defScope s_law) _ = true; decide +kernel) (fun A outer s H E f c hr2 => by exact (pcl o_joined_lattice (hr2.mono (by decide)) passLam (pa_cons (pv 10) (pa_cons (pv 11) pa_nil))))) pa_nil)))
      (pss_one (ps_if (pt_cmpR (op_neDk (K := K) rfl hu64) (pv 9) (pe_op op_repN (pe_lstN (pa_cons (pe_lstN (pa_cons (pe_str) (pa_cons (pe_str) pa_nil))) pa_nil)) (pe_int)) (nomark _)) (pss_one (ps_ret (pe_bl))) (pss_nil)))))))
      (pss_one (ps_for (passes_of rfl) rfl (pi_list (pe_lstN (pa_cons (pe_non) (pa_cons (pe_tupN (pa_cons (pe_int) pa_nil)) (pa_cons (pe_lstN (pa_cons (pe_int) (pa_cons (pe_int) pa_nil))) (pa_cons (pe_tupN (pa_cons (pe_int) (pa_cons (pe_bl) pa_nil))) (pa_cons (pe_str) (pa_cons (pe_tupN (pa_cons (pe_int) (pa_cons (pe_int) (pa_cons (pe_int) pa_nil)))) pa_nil)))))))) (pg_name (i := 11) sc_law.nd rfl (Or.inr rfl)) (pss_cons (ps_set (i := 9) sc_law.nd rfl (Or.inl rfl) (pe_lstN (pa_cons (plamT (k := 7) (qn := qn_law) (TS := (Tb2 K)) T.d__law_refused sc__law_refused (fun _ _ _ _ _ _ us hl => match us, hl with | [_], _ => rfl) (fun g cdg => refused_gives T) (.tail _ (.head _)) (hu_law T) TB rfl rfl (hr.mono (by decide)) (by show lamSB (defScope s_law) _ = true; decide +kernel) (fun A outer s H E f c hr2 => by exact (pcl o_spanned (hr2.mono (by decide)) passLam (pa_cons (pv 11) (pa_cons (pe_non) pa_nil))))) (pa_cons (pe_lstN (pa_cons (pe_str) (pa_cons (pe_str) pa_nil))) pa_nil))))
      (pss_one (ps_if (PW.pt (pw_or (pt_cmpR (op_neDk (K := K) rfl hu64) (pe_ix ix_listN (pv 9) (pe_int) (fun _ _ => rfl)) (pe_ix ix_listN (pv 9) (pe_int) (fun _ _ => rfl)) (nomark _)) (pw_or1 (pt_cmpR (op_neDk (K := K) rfl hu64) (plamT (k := 7) (qn := qn_law) (TS := (Tb2 K)) T.d__law_refused sc__law_refused (fun _ _ _ _ _ _ us hl => match us, hl with | [_], _ => rfl) (fun g cdg => refused_gives T) (.tail _ (.head _)) (hu_law T) TB rfl rfl (hr.mono (by decide)) (by show lamSB (defScope s_law) _ = true; decide +kernel) (fun A outer s H E f c hr2 => by exact (pcl o_spanned (hr2.mono (by decide)) passLam (pa_cons (pe_tupN (pa_cons (pe_int) (pa_cons (pe_int) pa_nil))) (pa_cons (pv 11) pa_nil))))) (pe_ix ix_listN (pv 9) (pe_int) (fun _ _ => rfl)) (nomark _))))) (pss_one (ps_ret (pe_bl))) (pss_nil))))))))))))))))
      (pss_one (ps_ret (pe_bl))), ?_⟩
  obtain ⟨sc, rfl, ns, hsc, hns, hT, k⟩ := h
  simp only [exists_and_left, tSl, tPart, tNoPart, rSlLN, rMax2, rMin2, gUnlN, tYes, rLenS, rRepN, cx_K, Value.ref.injEq, HO.xd.injEq, lk0, tSeq, tPar3, tPar, tCons, tNil, tVar, tC, tAsg, gName, gCons, gNil, gTupN, gSub, tOp, rI, rI0, rU, tTest, rNe, rEq, rIxTN, rIxLN, rLenL, rLenT, rIntI, rIntB, rAbs, rSetLN, tTruL, tRaiseX, rIsTy, rIsOw, ixN0, ixN1, tRet, tIf, tIfS, tNext, tBreak, tCont, tDrop, tTupN, tLstN, tUn, tCB, tCall, tNot, tAnd, tOr, tB, tAndV, tOrV, tNotV, tChain, tApp, LamX.tLam, tRevLN, rCatN, rInTN, rInLN, flatV, inV, List.all_cons, List.all_nil, List.any_cons, List.any_nil, Bool.and_self, Bool.and_true, if_true, Bool.false_eq_true, if_false, tMt, tFldN, tSto, HO.ins.injEq, lkh, List.drop_zero, List.drop_succ_cons, List.drop_nil, rListS, wipe, L2.start, List.map_cons, List.map_nil, List.length_cons, List.length_nil, List.replicate, List.cons_append, List.nil_append, List.append_nil, Nat.reduceAdd, Nat.reduceSub, Nat.zero_add, List.replicate_succ, List.replicate_zero, List.getElem?_cons_zero, List.getElem?_cons_succ, List.set_cons_zero, List.set_cons_succ, Option.some.injEq, V.int.injEq, V.bl.injEq, V.ref.injEq, V.str.injEq, V.ty.injEq, List.cons.injEq, HO.tup.injEq, HO.lst.injEq, and_true, true_and, and_assoc, exists_eq_left, exists_eq_left', exists_and_left, exists_eq', atI0, atI1, atI2, atI3, Int.cast_ofNat_Int, Int.reduceToNat, scal_ii, scal_in, scal_ni, scal_nn, scal_bb, scal_ss, scal_sn, scal_ns, scal_bn, scal_nb, ite_iff, decide_eq_true_eq, decide_eq_false_iff_not, Bool.not_eq_true', Classical.not_not, ne_eq, not_false_eq_true, not_true_eq_false, forall_const, true_implies, false_implies, imp_self, sizeLine_eq, Nat.reduceLeDiff, reduceCtorEq, decide_true, decide_false]
  refine st_forR1 (max 1 (min 5 (ns.length : Int))) (by omega) (fun R r => ?_) (fun i σ' H' => ExtN H H' ∧ Tabs (Tb2 K) H' ∧ ∃ x1 x2 x3 x4 x5 x6 x7 x8 x9 x10 x11, σ' = [some (V.ref sc), x1, x2, x3, x4, x5, x6, x7, x8, x9, x10, x11]) ⟨ExtN.refl H, hT, _, _, _, _, _, _, _, _, _, _, _, rfl⟩ ?_ ?_
  · simp only [exists_and_left, tSl, tPart, tNoPart, rSlLN, rMax2, rMin2, gUnlN, tYes, rLenS, rRepN, cx_K, Value.ref.injEq, HO.xd.injEq, lk0, tSeq, tPar3, tPar, tCons, tNil, tVar, tC, tAsg, gName, gCons, gNil, gTupN, gSub, tOp, rI, rI0, rU, tTest, rNe, rEq, rIxTN, rIxLN, rLenL, rLenT, rIntI, rIntB, rAbs, rSetLN, tTruL, tRaiseX, rIsTy, rIsOw, ixN0, ixN1, tRet, tIf, tIfS, tNext, tBreak, tCont, tDrop, tTupN, tLstN, tUn, tCB, tCall, tNot, tAnd, tOr, tB, tAndV, tOrV, tNotV, tChain, tApp, LamX.tLam, tRevLN, rCatN, rInTN, rInLN, flatV, inV, List.all_cons, List.all_nil, List.any_cons, List.any_nil, Bool.and_self, Bool.and_true, if_true, Bool.false_eq_true, if_false, tMt, tFldN, tSto, HO.ins.injEq, lkh, List.drop_zero, List.drop_succ_cons, List.drop_nil, rListS, wipe, L2.start, List.map_cons, List.map_nil, List.length_cons, List.length_nil, List.replicate, List.cons_append, List.nil_append, List.append_nil, Nat.reduceAdd, Nat.reduceSub, Nat.zero_add, List.replicate_succ, List.replicate_zero, List.getElem?_cons_zero, List.getElem?_cons_succ, List.set_cons_zero, List.set_cons_succ, Option.some.injEq, V.int.injEq, V.bl.injEq, V.ref.injEq, V.str.injEq, V.ty.injEq, List.cons.injEq, HO.tup.injEq, HO.lst.injEq, and_true, true_and, and_assoc, exists_eq_left, exists_eq_left', exists_and_left, exists_eq', atI0, atI1, atI2, atI3, Int.cast_ofNat_Int, Int.reduceToNat, scal_ii, scal_in, scal_ni, scal_nn, scal_bb, scal_ss, scal_sn, scal_ns, scal_bn, scal_nb, ite_iff, decide_eq_true_eq, decide_eq_false_iff_not, Bool.not_eq_true', Classical.not_not, ne_eq, not_false_eq_true, not_true_eq_false, forall_const, true_implies, false_implies, imp_self, sizeLine_eq, Nat.reduceLeDiff, reduceCtorEq, decide_true, decide_false]
    exact ⟨_, hsc, by simpa using r⟩
  · rintro i _ H3 hi ⟨E3, T3', x1, x2, x3, x4, x5, x6, x7, x8, x9, x10, x11, rfl⟩
    simp only [spOpened, spDraw, exists_and_left, tSl, tPart, tNoPart, rSlLN, rMax2, rMin2, gUnlN, tYes, rLenS, rRepN, cx_K, Value.ref.injEq, HO.xd.injEq, lk0, tSeq, tPar3, tPar, tCons, tNil, tVar, tC, tAsg, gName, gCons, gNil, gTupN, gSub, tOp, rI, rI0, rU, tTest, rNe, rEq, rIxTN, rIxLN, rLenL, rLenT, rIntI, rIntB, rAbs, rSetLN, tTruL, tRaiseX, rIsTy, rIsOw, ixN0, ixN1, tRet, tIf, tIfS, tNext, tBreak, tCont, tDrop, tTupN, tLstN, tUn, tCB, tCall, tNot, tAnd, tOr, tB, tAndV, tOrV, tNotV, tChain, tApp, LamX.tLam, tRevLN, rCatN, rInTN, rInLN, flatV, inV, List.all_cons, List.all_nil, List.any_cons, List.any_nil, Bool.and_self, Bool.and_true, if_true, Bool.false_eq_true, if_false, tMt, tFldN, tSto, HO.ins.injEq, lkh, List.drop_zero, List.drop_succ_cons, List.drop_nil, rListS, wipe, L2.start, List.map_cons, List.map_nil, List.length_cons, List.length_nil, List.replicate, List.cons_append, List.nil_append, List.append_nil, Nat.reduceAdd, Nat.reduceSub, Nat.zero_add, List.replicate_succ, List.replicate_zero, List.getElem?_cons_zero, List.getElem?_cons_succ, List.set_cons_zero, List.set_cons_succ, Option.some.injEq, V.int.injEq, V.bl.injEq, V.ref.injEq, V.str.injEq, V.ty.injEq, List.cons.injEq, HO.tup.injEq, HO.lst.injEq, and_true, true_and, and_assoc, exists_eq_left, exists_eq_left', exists_and_left, exists_eq', atI0, atI1, atI2, atI3, Int.cast_ofNat_Int, Int.reduceToNat, scal_ii, scal_in, scal_ni, scal_nn, scal_bb, scal_ss, scal_sn, scal_ns, scal_bn, scal_nb, ite_iff, decide_eq_true_eq, decide_eq_false_iff_not, Bool.not_eq_true', Classical.not_not, ne_eq, not_false_eq_true, not_true_eq_false, forall_const, true_implies, false_implies, imp_self, sizeLine_eq, Nat.reduceLeDiff, reduceCtorEq, decide_true, decide_false]
    refine ⟨ns, sqL_ext hsc E3, by omega, by omega, fun a H4 ha s4 P4 => ?_⟩
    have W4 : LQ K H H4 a := ⟨P4, fun b o h n => ne_of_none (E3 b o h n) ha, E3.trans (extS s4), Tabs.ext T3' s4⟩
    clear E3 T3' ha s4
    refine ⟨P4, by decide, by decide, fun d1 H5 d10 d11 P5 t5 => ⟨P5, by decide, by decide, fun d2 H6 d20 d21 P6 t6 => ?_⟩⟩
    have W6 := (W4.stp P5 t5).stp P6 t6
    intro one H7 _ s7 h7
    have W7 := W6.same s7
    clear W4 P4 P5 t5 P6 t6 W6 s7
    refine ⟨W7.P, by decide, by decide, fun d3 H8 d30 d31 P8 t8 => ⟨P8, by decide, by decide, fun d4 H9 d40 d41 P9 t9 => ?_⟩⟩
    have W9 := (W7.stp P8 t8).stp P9 t9
    have h9 : P2 H9 one (d1 - 6) (d2 - 6) := t9.at P8 (t8.at W7.P h7 (fun g s z => by cases z)) (fun g s z => by cases z)
    intro oth H10 _ s10 k10
    have W10 := W9.same s10
    have h10 := s10 _ _ h9
    clear W7 h7 P8 t8 P9 t9 W9 h9 s10
    refine for_inL ?_
    simp only [h10, k10, exists_and_left, tSl, tPart, tNoPart, rSlLN, rMax2, rMin2, gUnlN, tYes, rLenS, rRepN, cx_K, Value.ref.injEq, HO.xd.injEq, lk0, tSeq, tPar3, tPar, tCons, tNil, tVar, tC, tAsg, gName, gCons, gNil, gTupN, gSub, tOp, rI, rI0, rU, tTest, rNe, rEq, rIxTN, rIxLN, rLenL, rLenT, rIntI, rIntB, rAbs, rSetLN, tTruL, tRaiseX, rIsTy, rIsOw, ixN0, ixN1, tRet, tIf, tIfS, tNext, tBreak, tCont, tDrop, tTupN, tLstN, tUn, tCB, tCall, tNot, tAnd, tOr, tB, tAndV, tOrV, tNotV, tChain, tApp, LamX.tLam, tRevLN, rCatN, rInTN, rInLN, flatV, inV, List.all_cons, List.all_nil, List.any_cons, List.any_nil, Bool.and_self, Bool.and_true, if_true, Bool.false_eq_true, if_false, tMt, tFldN, tSto, HO.ins.injEq, lkh, List.drop_zero, List.drop_succ_cons, List.drop_nil, rListS, wipe, L2.start, List.map_cons, List.map_nil, List.length_cons, List.length_nil, List.replicate, List.cons_append, List.nil_append, List.append_nil, Nat.reduceAdd, Nat.reduceSub, Nat.zero_add, List.replicate_succ, List.replicate_zero, List.getElem?_cons_zero, List.getElem?_cons_succ, List.set_cons_zero, List.set_cons_succ, Option.some.injEq, V.int.injEq, V.bl.injEq, V.ref.injEq, V.str.injEq, V.ty.injEq, List.cons.injEq, HO.tup.injEq, HO.lst.injEq, and_true, true_and, and_assoc, exists_eq_left, exists_eq_left', exists_and_left, exists_eq', atI0, atI1, atI2, atI3, Int.cast_ofNat_Int, Int.reduceToNat, scal_ii, scal_in, scal_ni, scal_nn, scal_bb, scal_ss, scal_sn, scal_ns, scal_bn, scal_nb, ite_iff, decide_eq_true_eq, decide_eq_false_iff_not, Bool.not_eq_true', Classical.not_not, ne_eq, not_false_eq_true, not_true_eq_false, forall_const, true_implies, false_implies, imp_self, sizeLine_eq, Nat.reduceLeDiff, reduceCtorEq, decide_true, decide_false]
    intro b1 G1 _ g1 m1
    refine ⟨_, g1 _ _ h10, _, atI0, _, rfl, .inr ⟨by decide, by decide⟩, _, g1 _ _ h10, _, atI1, _, rfl, .inr ⟨by decide, by decide⟩, ?_⟩
    intro o3 G2 _ g2 m2
    intro b2 G3 _ g3 m3
    intro z0 G4 _ g4 m4
    intro b3 G5 _ g5 m5
    intro z1 G6 _ g6 m6
    intro b4 G7 _ g7 m7
    intro L G8 _ g8 m8
    have R7 := g8
    have R6 := g7.trans R7
    have R5 := g6.trans R6
    have R4 := g5.trans R5
    have R3 := g4.trans R4
    have R2 := g3.trans R3
    have R1 := g2.trans R2
    have R0 := g1.trans R1
    have W8 := W10.same R0
    have prs : ∀ v ∈ [V.ref b1, .ref b2, .ref b3, .ref b4], Pr G8 v := by
      intro v hv
      simp only [List.mem_cons, List.not_mem_nil, or_false] at hv
      rcases hv with rfl | rfl | rfl | rfl
      · exact ⟨_, _, _, _, _, _, _, rfl, R1 _ _ m1, R0 _ _ h10, R0 _ _ k10, by omega, by omega, by omega, by omega⟩
      · exact ⟨_, _, _, _, _, _, _, rfl, R3 _ _ m3, R0 _ _ h10, R2 _ _ m2, by omega, by omega, by omega, by omega⟩
      · exact ⟨_, _, _, _, _, _, _, rfl, R5 _ _ m5, R4 _ _ m4, R0 _ _ k10, by omega, by omega, by omega, by omega⟩
      · exact ⟨_, _, _, _, _, _, _, rfl, R7 _ _ m7, R6 _ _ m6, R0 _ _ k10, by omega, by omega, by omega, by omega⟩
    clear R7 R6 R5 R4 R3 R2 R1 R0 g1 g2 g3 g4 g5 g6 g7 g8 m1 m2 m3 m4 m5 m6 m7 W10 h10 k10
    refine st_forL (fun R r => r) m8 (fun j σ' H' => ∃ x, σ' = [some (V.ref sc), some (V.int i), some (V.ref a), some (V.ref one), some (V.ref oth), x, x6, x7, x8, x9, x10, x11] ∧ LQ K H H' a ∧ H' L = some (.lst [V.ref b1, .ref b2, .ref b3, .ref b4]) ∧ ∀ v ∈ [V.ref b1, .ref b2, .ref b3, .ref b4], Pr H' v) ⟨_, rfl, W8, m8, prs⟩ (fun _ _ _ h => by obtain ⟨_, _, _, h, _⟩ := h; exact h) ?_ ?_
    · clear W8 m8 prs
      rintro j v _ G hv ⟨x, rfl, W, mL, pr⟩
      obtain ⟨z, x', y', p, q, r, s, rfl, e1, e2, e3, bp, bq, br, bs⟩ := pr v (List.mem_of_getElem? hv)
      simp only [e1, spSR, exists_and_left, tSl, tPart, tNoPart, rSlLN, rMax2, rMin2, gUnlN, tYes, rLenS, rRepN, cx_K, Value.ref.injEq, HO.xd.injEq, lk0, tSeq, tPar3, tPar, tCons, tNil, tVar, tC, tAsg, gName, gCons, gNil, gTupN, gSub, tOp, rI, rI0, rU, tTest, rNe, rEq, rIxTN, rIxLN, rLenL, rLenT, rIntI, rIntB, rAbs, rSetLN, tTruL, tRaiseX, rIsTy, rIsOw, ixN0, ixN1, tRet, tIf, tIfS, tNext, tBreak, tCont, tDrop, tTupN, tLstN, tUn, tCB, tCall, tNot, tAnd, tOr, tB, tAndV, tOrV, tNotV, tChain, tApp, LamX.tLam, tRevLN, rCatN, rInTN, rInLN, flatV, inV, List.all_cons, List.all_nil, List.any_cons, List.any_nil, Bool.and_self, Bool.and_true, if_true, Bool.false_eq_true, if_false, tMt, tFldN, tSto, HO.ins.injEq, lkh, List.drop_zero, List.drop_succ_cons, List.drop_nil, rListS, wipe, L2.start, List.map_cons, List.map_nil, List.length_cons, List.length_nil, List.replicate, List.cons_append, List.nil_append, List.append_nil, Nat.reduceAdd, Nat.reduceSub, Nat.zero_add, List.replicate_succ, List.replicate_zero, List.getElem?_cons_zero, List.getElem?_cons_succ, List.set_cons_zero, List.set_cons_succ, Option.some.injEq, V.int.injEq, V.bl.injEq, V.ref.injEq, V.str.injEq, V.ty.injEq, List.cons.injEq, HO.tup.injEq, HO.lst.injEq, and_true, true_and, and_assoc, exists_eq_left, exists_eq_left', exists_and_left, exists_eq', atI0, atI1, atI2, atI3, Int.cast_ofNat_Int, Int.reduceToNat, scal_ii, scal_in, scal_ni, scal_nn, scal_bb, scal_ss, scal_sn, scal_ns, scal_bn, scal_nb, ite_iff, decide_eq_true_eq, decide_eq_false_iff_not, Bool.not_eq_true', Classical.not_not, ne_eq, not_false_eq_true, not_true_eq_false, forall_const, true_implies, false_implies, imp_self, sizeLine_eq, Nat.reduceLeDiff, reduceCtorEq, decide_true, decide_false]
      exact ⟨W.P, W.hT, p, q, e2, r, s, e3, bp, bq, br, bs, fun G' P' T' X' => ⟨W.exp P' T' X', ExP.at X' W.P mL (fun g s z => by cases z) (fun _ z => by cases z), fun v' hv' => (pr v' hv').exp W.P X'⟩⟩
    · clear W8 m8 prs
      rintro _ G ⟨x, rfl, W, _, _⟩
      simp only [spThree, exists_and_left, tSl, tPart, tNoPart, rSlLN, rMax2, rMin2, gUnlN, tYes, rLenS, rRepN, cx_K, Value.ref.injEq, HO.xd.injEq, lk0, tSeq, tPar3, tPar, tCons, tNil, tVar, tC, tAsg, gName, gCons, gNil, gTupN, gSub, tOp, rI, rI0, rU, tTest, rNe, rEq, rIxTN, rIxLN, rLenL, rLenT, rIntI, rIntB, rAbs, rSetLN, tTruL, tRaiseX, rIsTy, rIsOw, ixN0, ixN1, tRet, tIf, tIfS, tNext, tBreak, tCont, tDrop, tTupN, tLstN, tUn, tCB, tCall, tNot, tAnd, tOr, tB, tAndV, tOrV, tNotV, tChain, tApp, LamX.tLam, tRevLN, rCatN, rInTN, rInLN, flatV, inV, List.all_cons, List.all_nil, List.any_cons, List.any_nil, Bool.and_self, Bool.and_true, if_true, Bool.false_eq_true, if_false, tMt, tFldN, tSto, HO.ins.injEq, lkh, List.drop_zero, List.drop_succ_cons, List.drop_nil, rListS, wipe, L2.start, List.map_cons, List.map_nil, List.length_cons, List.length_nil, List.replicate, List.cons_append, List.nil_append, List.append_nil, Nat.reduceAdd, Nat.reduceSub, Nat.zero_add, List.replicate_succ, List.replicate_zero, List.getElem?_cons_zero, List.getElem?_cons_succ, List.set_cons_zero, List.set_cons_succ, Option.some.injEq, V.int.injEq, V.bl.injEq, V.ref.injEq, V.str.injEq, V.ty.injEq, List.cons.injEq, HO.tup.injEq, HO.lst.injEq, and_true, true_and, and_assoc, exists_eq_left, exists_eq_left', exists_and_left, exists_eq', atI0, atI1, atI2, atI3, Int.cast_ofNat_Int, Int.reduceToNat, scal_ii, scal_in, scal_ni, scal_nn, scal_bb, scal_ss, scal_sn, scal_ns, scal_bn, scal_nb, ite_iff, decide_eq_true_eq, decide_eq_false_iff_not, Bool.not_eq_true', Classical.not_not, ne_eq, not_false_eq_true, not_true_eq_false, forall_const, true_implies, false_implies, imp_self, sizeLine_eq, Nat.reduceLeDiff, reduceCtorEq, decide_true, decide_false]
      refine ⟨W.P, by decide, by decide, fun t1 w s h G1 w1 w6 s0 s1 h1 h6 P1 r1 e1 => ?_⟩
      have W1 := W.stp P1 r1
      intro L0 G2 n2 r2 m2
      have W2 := W1.same r2
      have La : L0 ≠ a := by obtain ⟨_, _, z⟩ := W1.P; exact (ne_of_none z n2).symm
      refine ⟨_, _, rfl, W2.P, La, _, m2, by simp, by simp, fun v G3 hv P3 r3 => ?_⟩
      have W3 := W2.stp P3 r3
      obtain ⟨m, rfl, n1, n30⟩ : ∃ m : Int, v = .int m ∧ 1 ≤ m ∧ m ≤ 30 := by
        simp only [List.mem_cons, List.not_mem_nil, or_false] at hv
        rcases hv with rfl | rfl <;> exact ⟨_, rfl, by decide, by decide⟩
      refine ⟨m, rfl, P3, n1, by omega, fun t2 w2 s2 h2 G4 w21 w26 s20 s21 h21 h26 P4 r4 e4 => ?_⟩
      have W4 := W3.stp P4 r4
      have f1 : T3 G4 t1 w s h := T3.stp (T3.stp (r2 _ _ e1) W2.P r3) P3 r4
      clear W P1 r1 W1 e1 n2 r2 m2 W2 La hv P3 r3 W3 P4 r4
      simp only [f1, spDraw, exists_and_left, tSl, tPart, tNoPart, rSlLN, rMax2, rMin2, gUnlN, tYes, rLenS, rRepN, cx_K, Value.ref.injEq, HO.xd.injEq, lk0, tSeq, tPar3, tPar, tCons, tNil, tVar, tC, tAsg, gName, gCons, gNil, gTupN, gSub, tOp, rI, rI0, rU, tTest, rNe, rEq, rIxTN, rIxLN, rLenL, rLenT, rIntI, rIntB, rAbs, rSetLN, tTruL, tRaiseX, rIsTy, rIsOw, ixN0, ixN1, tRet, tIf, tIfS, tNext, tBreak, tCont, tDrop, tTupN, tLstN, tUn, tCB, tCall, tNot, tAnd, tOr, tB, tAndV, tOrV, tNotV, tChain, tApp, LamX.tLam, tRevLN, rCatN, rInTN, rInLN, flatV, inV, List.all_cons, List.all_nil, List.any_cons, List.any_nil, Bool.and_self, Bool.and_true, if_true, Bool.false_eq_true, if_false, tMt, tFldN, tSto, HO.ins.injEq, lkh, List.drop_zero, List.drop_succ_cons, List.drop_nil, rListS, wipe, L2.start, List.map_cons, List.map_nil, List.length_cons, List.length_nil, List.replicate, List.cons_append, List.nil_append, List.append_nil, Nat.reduceAdd, Nat.reduceSub, Nat.zero_add, List.replicate_succ, List.replicate_zero, List.getElem?_cons_zero, List.getElem?_cons_succ, List.set_cons_zero, List.set_cons_succ, Option.some.injEq, V.int.injEq, V.bl.injEq, V.ref.injEq, V.str.injEq, V.ty.injEq, List.cons.injEq, HO.tup.injEq, HO.lst.injEq, and_true, true_and, and_assoc, exists_eq_left, exists_eq_left', exists_and_left, exists_eq', atI0, atI1, atI2, atI3, Int.cast_ofNat_Int, Int.reduceToNat, scal_ii, scal_in, scal_ni, scal_nn, scal_bb, scal_ss, scal_sn, scal_ns, scal_bn, scal_nb, ite_iff, decide_eq_true_eq, decide_eq_false_iff_not, Bool.not_eq_true', Classical.not_not, ne_eq, not_false_eq_true, not_true_eq_false, forall_const, true_implies, false_implies, imp_self, sizeLine_eq, Nat.reduceLeDiff, reduceCtorEq, decide_true, decide_false]
      refine ⟨.inr ⟨by decide, by decide⟩, W4.P, by decide, by decide, fun d G5 d0 d1 P5 r5 => ?_⟩
      have W5 := W4.stp P5 r5
      have q1 := f1.stp W4.P r5
      have q2 := e4.stp W4.P r5
      clear W4 f1 e4 P5 r5
      obtain ⟨B1, bw1, bh1⟩ := LB.of w1 (by omega) s0 s1 h1 (by omega)
      obtain ⟨B2, bw2, bh2⟩ := LB.of w21 (by omega) s20 s21 h21 (by omega)
      refine ⟨wide_mul (b := 1) bw1 (by omega) (by decide) (by decide) (by decide), _, q1, _, atI0, _, rfl, .inr ⟨by decide, by decide⟩, by omega, _, q1, _, atI2, ?_⟩
      intro t6 G6 _ r6 k6
      have W6 := W5.same r6
      have q1 := r6 _ _ q1
      have q2 := r6 _ _ q2
      obtain ⟨B6, bw6, bh6⟩ := LB.of (w := w * 2) (s := (s + w * d) % (w * 2)) (h := h) (by omega) (by omega) (Int.emod_nonneg _ (by omega)) (Int.emod_lt_of_pos _ (by omega)) h1 (by omega)
      clear W5 r6
      refine for_inL ?_
      simp only [exists_and_left, tSl, tPart, tNoPart, rSlLN, rMax2, rMin2, gUnlN, tYes, rLenS, rRepN, cx_K, Value.ref.injEq, HO.xd.injEq, lk0, tSeq, tPar3, tPar, tCons, tNil, tVar, tC, tAsg, gName, gCons, gNil, gTupN, gSub, tOp, rI, rI0, rU, tTest, rNe, rEq, rIxTN, rIxLN, rLenL, rLenT, rIntI, rIntB, rAbs, rSetLN, tTruL, tRaiseX, rIsTy, rIsOw, ixN0, ixN1, tRet, tIf, tIfS, tNext, tBreak, tCont, tDrop, tTupN, tLstN, tUn, tCB, tCall, tNot, tAnd, tOr, tB, tAndV, tOrV, tNotV, tChain, tApp, LamX.tLam, tRevLN, rCatN, rInTN, rInLN, flatV, inV, List.all_cons, List.all_nil, List.any_cons, List.any_nil, Bool.and_self, Bool.and_true, if_true, Bool.false_eq_true, if_false, tMt, tFldN, tSto, HO.ins.injEq, lkh, List.drop_zero, List.drop_succ_cons, List.drop_nil, rListS, wipe, L2.start, List.map_cons, List.map_nil, List.length_cons, List.length_nil, List.replicate, List.cons_append, List.nil_append, List.append_nil, Nat.reduceAdd, Nat.reduceSub, Nat.zero_add, List.replicate_succ, List.replicate_zero, List.getElem?_cons_zero, List.getElem?_cons_succ, List.set_cons_zero, List.set_cons_succ, Option.some.injEq, V.int.injEq, V.bl.injEq, V.ref.injEq, V.str.injEq, V.ty.injEq, List.cons.injEq, HO.tup.injEq, HO.lst.injEq, and_true, true_and, and_assoc, exists_eq_left, exists_eq_left', exists_and_left, exists_eq', atI0, atI1, atI2, atI3, Int.cast_ofNat_Int, Int.reduceToNat, scal_ii, scal_in, scal_ni, scal_nn, scal_bb, scal_ss, scal_sn, scal_ns, scal_bn, scal_nb, ite_iff, decide_eq_true_eq, decide_eq_false_iff_not, Bool.not_eq_true', Classical.not_not, ne_eq, not_false_eq_true, not_true_eq_false, forall_const, true_implies, false_implies, imp_self, sizeLine_eq, Nat.reduceLeDiff, reduceCtorEq, decide_true, decide_false]
      intro l1 K1 _ c1 m1
      intro l2 K2 _ c2 m2
      intro l3 K3 _ c3 m3
      intro l4 K4 _ c4 m4
      intro LL K5 _ c5 m5
      have C4 := c5
      have C3 := c4.trans C4
      have C2 := c3.trans C3
      have C1 := c2.trans C2
      have C0 := c1.trans C1
      have W := W6.same C0
      have two : ∀ v ∈ [V.ref l1, .ref l2, .ref l3, .ref l4], Two K5 v := by
        intro v hv
        simp only [List.mem_cons, List.not_mem_nil, or_false] at hv
        rcases hv with rfl | rfl | rfl | rfl
        · exact ⟨_, _, _, _, _, _, _, _, _, rfl, C1 _ _ m1, C0 _ _ q1, ⟨B1, bw1, bh1⟩, C0 _ _ q2, ⟨B2, bw2, bh2⟩⟩
        · exact ⟨_, _, _, _, _, _, _, _, _, rfl, C2 _ _ m2, C0 _ _ q1, ⟨B1, bw1, bh1⟩, C0 _ _ q1, ⟨B1, bw1, bh1⟩⟩
        · exact ⟨_, _, _, _, _, _, _, _, _, rfl, C3 _ _ m3, C0 _ _ k6, ⟨B6, bw6, bh6⟩, C0 _ _ q1, ⟨B1, bw1, bh1⟩⟩
        · exact ⟨_, _, _, _, _, _, _, _, _, rfl, C4 _ _ m4, C0 _ _ q1, ⟨B1, bw1, bh1⟩, C0 _ _ k6, ⟨B6, bw6, bh6⟩⟩
      clear W6 c1 c2 c3 c4 c5 C0 C1 C2 C3 C4 m1 m2 m3 m4 k6 q1 q2
      refine st_forL (fun R r => r) m5 (fun j σ' H' => ∃ x, σ' = [some (V.ref sc), some (V.int i), some (V.ref a), some (V.ref one), some (V.ref oth), x, some (V.ref t1), some (V.ref t2), some (V.ref t6), x9, x10, x11] ∧ LQ K H H' a ∧ H' LL = some (.lst [V.ref l1, .ref l2, .ref l3, .ref l4]) ∧ ∀ v ∈ [V.ref l1, .ref l2, .ref l3, .ref l4], Two H' v) ⟨_, rfl, W, m5, two⟩ (fun _ _ _ h => by obtain ⟨_, _, _, h, _⟩ := h; exact h) ?_ ?_
      · clear W m5 two
        rintro j v _ G hv ⟨x, rfl, W, mL, pr⟩
        obtain ⟨z, x', y', p, q, r, p', q', r', rfl, e1, e2, S1, e3, S2⟩ := pr v (List.mem_of_getElem? hv)
        simp only [e1, spTwo, exists_and_left, tSl, tPart, tNoPart, rSlLN, rMax2, rMin2, gUnlN, tYes, rLenS, rRepN, cx_K, Value.ref.injEq, HO.xd.injEq, lk0, tSeq, tPar3, tPar, tCons, tNil, tVar, tC, tAsg, gName, gCons, gNil, gTupN, gSub, tOp, rI, rI0, rU, tTest, rNe, rEq, rIxTN, rIxLN, rLenL, rLenT, rIntI, rIntB, rAbs, rSetLN, tTruL, tRaiseX, rIsTy, rIsOw, ixN0, ixN1, tRet, tIf, tIfS, tNext, tBreak, tCont, tDrop, tTupN, tLstN, tUn, tCB, tCall, tNot, tAnd, tOr, tB, tAndV, tOrV, tNotV, tChain, tApp, LamX.tLam, tRevLN, rCatN, rInTN, rInLN, flatV, inV, List.all_cons, List.all_nil, List.any_cons, List.any_nil, Bool.and_self, Bool.and_true, if_true, Bool.false_eq_true, if_false, tMt, tFldN, tSto, HO.ins.injEq, lkh, List.drop_zero, List.drop_succ_cons, List.drop_nil, rListS, wipe, L2.start, List.map_cons, List.map_nil, List.length_cons, List.length_nil, List.replicate, List.cons_append, List.nil_append, List.append_nil, Nat.reduceAdd, Nat.reduceSub, Nat.zero_add, List.replicate_succ, List.replicate_zero, List.getElem?_cons_zero, List.getElem?_cons_succ, List.set_cons_zero, List.set_cons_succ, Option.some.injEq, V.int.injEq, V.bl.injEq, V.ref.injEq, V.str.injEq, V.ty.injEq, List.cons.injEq, HO.tup.injEq, HO.lst.injEq, and_true, true_and, and_assoc, exists_eq_left, exists_eq_left', exists_and_left, exists_eq', atI0, atI1, atI2, atI3, Int.cast_ofNat_Int, Int.reduceToNat, scal_ii, scal_in, scal_ni, scal_nn, scal_bb, scal_ss, scal_sn, scal_ns, scal_bn, scal_nb, ite_iff, decide_eq_true_eq, decide_eq_false_iff_not, Bool.not_eq_true', Classical.not_not, ne_eq, not_false_eq_true, not_true_eq_false, forall_const, true_implies, false_implies, imp_self, sizeLine_eq, Nat.reduceLeDiff, reduceCtorEq, decide_true, decide_false]
        exact ⟨W.P, p, q, r, e2, S1.B, p', q', r', e3, S2.B, S1.x, S1.y, S2.x, S2.y, fun G' P' X' => ⟨W.stp P' X', X'.at W.P mL (fun g s z => by cases z), fun v' hv' => (pr v' hv').stp W.P X'⟩⟩
      · clear W m5 two
        rintro _ G ⟨x, rfl, W, _, _⟩
        simp only [spLat, exists_and_left, tSl, tPart, tNoPart, rSlLN, rMax2, rMin2, gUnlN, tYes, rLenS, rRepN, cx_K, Value.ref.injEq, HO.xd.injEq, lk0, tSeq, tPar3, tPar, tCons, tNil, tVar, tC, tAsg, gName, gCons, gNil, gTupN, gSub, tOp, rI, rI0, rU, tTest, rNe, rEq, rIxTN, rIxLN, rLenL, rLenT, rIntI, rIntB, rAbs, rSetLN, tTruL, tRaiseX, rIsTy, rIsOw, ixN0, ixN1, tRet, tIf, tIfS, tNext, tBreak, tCont, tDrop, tTupN, tLstN, tUn, tCB, tCall, tNot, tAnd, tOr, tB, tAndV, tOrV, tNotV, tChain, tApp, LamX.tLam, tRevLN, rCatN, rInTN, rInLN, flatV, inV, List.all_cons, List.all_nil, List.any_cons, List.any_nil, Bool.and_self, Bool.and_true, if_true, Bool.false_eq_true, if_false, tMt, tFldN, tSto, HO.ins.injEq, lkh, List.drop_zero, List.drop_succ_cons, List.drop_nil, rListS, wipe, L2.start, List.map_cons, List.map_nil, List.length_cons, List.length_nil, List.replicate, List.cons_append, List.nil_append, List.append_nil, Nat.reduceAdd, Nat.reduceSub, Nat.zero_add, List.replicate_succ, List.replicate_zero, List.getElem?_cons_zero, List.getElem?_cons_succ, List.set_cons_zero, List.set_cons_succ, Option.some.injEq, V.int.injEq, V.bl.injEq, V.ref.injEq, V.str.injEq, V.ty.injEq, List.cons.injEq, HO.tup.injEq, HO.lst.injEq, and_true, true_and, and_assoc, exists_eq_left, exists_eq_left', exists_and_left, exists_eq', atI0, atI1, atI2, atI3, Int.cast_ofNat_Int, Int.reduceToNat, scal_ii, scal_in, scal_ni, scal_nn, scal_bb, scal_ss, scal_sn, scal_ns, scal_bn, scal_nb, ite_iff, decide_eq_true_eq, decide_eq_false_iff_not, Bool.not_eq_true', Classical.not_not, ne_eq, not_false_eq_true, not_true_eq_false, forall_const, true_implies, false_implies, imp_self, sizeLine_eq, Nat.reduceLeDiff, reduceCtorEq, decide_true, decide_false]
        refine RL.ints (by decide) (by decide) (by decide) (by decide) ?_
        intro good dg G1 _ g1 hg
        have W1 := W.same g1
        clear W g1
        refine for_inL ?_
        simp only [exists_and_left, tSl, tPart, tNoPart, rSlLN, rMax2, rMin2, gUnlN, tYes, rLenS, rRepN, cx_K, Value.ref.injEq, HO.xd.injEq, lk0, tSeq, tPar3, tPar, tCons, tNil, tVar, tC, tAsg, gName, gCons, gNil, gTupN, gSub, tOp, rI, rI0, rU, tTest, rNe, rEq, rIxTN, rIxLN, rLenL, rLenT, rIntI, rIntB, rAbs, rSetLN, tTruL, tRaiseX, rIsTy, rIsOw, ixN0, ixN1, tRet, tIf, tIfS, tNext, tBreak, tCont, tDrop, tTupN, tLstN, tUn, tCB, tCall, tNot, tAnd, tOr, tB, tAndV, tOrV, tNotV, tChain, tApp, LamX.tLam, tRevLN, rCatN, rInTN, rInLN, flatV, inV, List.all_cons, List.all_nil, List.any_cons, List.any_nil, Bool.and_self, Bool.and_true, if_true, Bool.false_eq_true, if_false, tMt, tFldN, tSto, HO.ins.injEq, lkh, List.drop_zero, List.drop_succ_cons, List.drop_nil, rListS, wipe, L2.start, List.map_cons, List.map_nil, List.length_cons, List.length_nil, List.replicate, List.cons_append, List.nil_append, List.append_nil, Nat.reduceAdd, Nat.reduceSub, Nat.zero_add, List.replicate_succ, List.replicate_zero, List.getElem?_cons_zero, List.getElem?_cons_succ, List.set_cons_zero, List.set_cons_succ, Option.some.injEq, V.int.injEq, V.bl.injEq, V.ref.injEq, V.str.injEq, V.ty.injEq, List.cons.injEq, HO.tup.injEq, HO.lst.injEq, and_true, true_and, and_assoc, exists_eq_left, exists_eq_left', exists_and_left, exists_eq', atI0, atI1, atI2, atI3, Int.cast_ofNat_Int, Int.reduceToNat, scal_ii, scal_in, scal_ni, scal_nn, scal_bb, scal_ss, scal_sn, scal_ns, scal_bn, scal_nb, ite_iff, decide_eq_true_eq, decide_eq_false_iff_not, Bool.not_eq_true', Classical.not_not, ne_eq, not_false_eq_true, not_true_eq_false, forall_const, true_implies, false_implies, imp_self, sizeLine_eq, Nat.reduceLeDiff, reduceCtorEq, decide_true, decide_false]
        intro p0 G2 _ g2 m2
        intro L3 G3 _ g3 m3
        have W3 := (W1.same g2).same g3
        have hg3 : LAt K G3 good dg 1 0 1 := g3 _ _ (g2 _ _ hg)
        have Z3 : OD K H G3 a good dg L3 p0 := ⟨W3, m3, g3 _ _ m2, hg3⟩
        clear W1 g2 g3 m2 hg
        clear W3 hg3
        refine st_forL (fun R r => r) m3 (fun j σ' H' => ∃ x9 x11, σ' = [some (V.ref sc), some (V.int i), some (V.ref a), some (V.ref one), some (V.ref oth), x, some (V.ref t1), some (V.ref t2), some (V.ref t6), x9, some (V.ref good), x11] ∧ OD K H H' a good dg L3 p0) ⟨_, _, rfl, Z3⟩ (fun _ _ _ h => by obtain ⟨_, _, _, h⟩ := h; exact h.mL) ?_ ?_
        · clear Z3 m3
          rintro j v _ G hv ⟨x9, x11, rfl, Z⟩
          have hv := List.mem_of_getElem? hv
          simp only [exists_and_left, tSl, tPart, tNoPart, rSlLN, rMax2, rMin2, gUnlN, tYes, rLenS, rRepN, cx_K, Value.ref.injEq, HO.xd.injEq, lk0, tSeq, tPar3, tPar, tCons, tNil, tVar, tC, tAsg, gName, gCons, gNil, gTupN, gSub, tOp, rI, rI0, rU, tTest, rNe, rEq, rIxTN, rIxLN, rLenL, rLenT, rIntI, rIntB, rAbs, rSetLN, tTruL, tRaiseX, rIsTy, rIsOw, ixN0, ixN1, tRet, tIf, tIfS, tNext, tBreak, tCont, tDrop, tTupN, tLstN, tUn, tCB, tCall, tNot, tAnd, tOr, tB, tAndV, tOrV, tNotV, tChain, tApp, LamX.tLam, tRevLN, rCatN, rInTN, rInLN, flatV, inV, List.all_cons, List.all_nil, List.any_cons, List.any_nil, Bool.and_self, Bool.and_true, if_true, Bool.false_eq_true, if_false, tMt, tFldN, tSto, HO.ins.injEq, lkh, List.drop_zero, List.drop_succ_cons, List.drop_nil, rListS, wipe, L2.start, List.map_cons, List.map_nil, List.length_cons, List.length_nil, List.replicate, List.cons_append, List.nil_append, List.append_nil, Nat.reduceAdd, Nat.reduceSub, Nat.zero_add, List.replicate_succ, List.replicate_zero, List.getElem?_cons_zero, List.getElem?_cons_succ, List.set_cons_zero, List.set_cons_succ, Option.some.injEq, V.int.injEq, V.bl.injEq, V.ref.injEq, V.str.injEq, V.ty.injEq, List.cons.injEq, HO.tup.injEq, HO.lst.injEq, and_true, true_and, and_assoc, exists_eq_left, exists_eq_left', exists_and_left, exists_eq', atI0, atI1, atI2, atI3, Int.cast_ofNat_Int, Int.reduceToNat, scal_ii, scal_in, scal_ni, scal_nn, scal_bb, scal_ss, scal_sn, scal_ns, scal_bn, scal_nb, ite_iff, decide_eq_true_eq, decide_eq_false_iff_not, Bool.not_eq_true', Classical.not_not, ne_eq, not_false_eq_true, not_true_eq_false, forall_const, true_implies, false_implies, imp_self, sizeLine_eq, Nat.reduceLeDiff, reduceCtorEq, decide_true, decide_false]
          refine told_part Z.W.hT (fun H1 Q E e r => ⟨_, _, rfl, .inl ⟨(let ⟨t, ty, k⟩ := Z.no T hv; ⟨t, tyX_ext ty e, k⟩), r⟩⟩) (fun H1 q1 e1 hT1 k1 => ?_)
          have Z1 := Z.ext hT1 e1
          intro R H2 hR s2 k2
          obtain ⟨na, nL, n0⟩ := Z1.na hR
          have Z2 := Z1.same s2
          have k12 := s2 _ _ k1
          refine ⟨R, rfl, ⟨_, k2⟩, told_part Z2.W.hT (fun H3 Q E e r => ⟨_, _, rfl, .inr ⟨good, dg, 1, 0, 1, rfl, extI e Z2.hg, .inl ⟨(let ⟨t, ty, k⟩ := Z2.no T hv; ⟨t, tyX_ext ty e, k⟩), r⟩⟩⟩) (fun H3 q3 e3 hT3 k3 => ?_)⟩
          refine ⟨_, extL e3 k2, by simp, fun H4 pt => ?_⟩
          have Z4 := (Z2.ext hT3 e3).put (extL e3 k2) n0 na nL pt
          have k14 := pt.other (extL e3 k12) (sr_ne (extL e3 k12) (extL e3 k2))
          have k34 := pt.other k3 (sr_ne k3 (extL e3 k2))
          have kR := pt.1
          clear Z Z1 Z2 k1 k2 k12 k3 hR s2 e1 hT1 hT3 pt e3
          refine ⟨R, rfl, ⟨_, kR⟩, told_part Z4.W.hT (fun H3 Q E e r => ⟨_, _, rfl, .inr ⟨good, dg, 1, 0, 1, rfl, extI e Z4.hg, .inl ⟨(let ⟨t, ty, k⟩ := Z4.no T hv; ⟨t, tyX_ext ty e, k⟩), r⟩⟩⟩) (fun H5 q5 e5 hT5 k5 => ?_)⟩
          refine ⟨_, extL e5 kR, by simp, fun H6 pt => ?_⟩
          have Z6 := (Z4.ext hT5 e5).put (extL e5 kR) n0 na nL pt
          have k16 := pt.other (extL e5 k14) (sr_ne (extL e5 k14) (extL e5 kR))
          have k36 := pt.other (extL e5 k34) (sr_ne (extL e5 k34) (extL e5 kR))
          have k56 := pt.other k5 (sr_ne k5 (extL e5 kR))
          have kR6 := pt.1
          clear Z4 k14 k34 kR hT5 k5 pt e5
          intro u1 H7 _ s7 k7
          intro u2 H8 _ s8 k8
          refine ⟨u2, rfl, _, k8, by decide, by decide, by simp, ?_⟩
          intro u3 H9 _ s9 k9
          have S := (s7.trans s8).trans s9
          have k79 := s9 _ _ (s8 _ _ k7)
          have okp : PyData.strOk "part" = true := by decide +kernel
          have okl : PyData.strOk "lattice" = true := by decide +kernel
          exact ne_sameN (.lst (SqL.of (S _ _ kR6)) (.cons (dp_l2 (S _ _ k16)) (.cons (dp_l2 (S _ _ k36)) (.cons (dp_l2 (S _ _ k56)) .nil)))) (.lst (SqL.of k9) (.cons (dp_l2 k79) (.cons (dp_l2 k79) (.cons (dp_l2 k79) .nil)))) (sh_3 okp okl)
            ⟨false, rfl, fun e => (by cases e), fun _ => Z6.same S⟩
        · clear Z3 m3
          rintro _ G ⟨x9, x11, rfl, Z⟩
          have W := Z.W
          clear Z
          simp only [exists_and_left, tSl, tPart, tNoPart, rSlLN, rMax2, rMin2, gUnlN, tYes, rLenS, rRepN, cx_K, Value.ref.injEq, HO.xd.injEq, lk0, tSeq, tPar3, tPar, tCons, tNil, tVar, tC, tAsg, gName, gCons, gNil, gTupN, gSub, tOp, rI, rI0, rU, tTest, rNe, rEq, rIxTN, rIxLN, rLenL, rLenT, rIntI, rIntB, rAbs, rSetLN, tTruL, tRaiseX, rIsTy, rIsOw, ixN0, ixN1, tRet, tIf, tIfS, tNext, tBreak, tCont, tDrop, tTupN, tLstN, tUn, tCB, tCall, tNot, tAnd, tOr, tB, tAndV, tOrV, tNotV, tChain, tApp, LamX.tLam, tRevLN, rCatN, rInTN, rInLN, flatV, inV, List.all_cons, List.all_nil, List.any_cons, List.any_nil, Bool.and_self, Bool.and_true, if_true, Bool.false_eq_true, if_false, tMt, tFldN, tSto, HO.ins.injEq, lkh, List.drop_zero, List.drop_succ_cons, List.drop_nil, rListS, wipe, L2.start, List.map_cons, List.map_nil, List.length_cons, List.length_nil, List.replicate, List.cons_append, List.nil_append, List.append_nil, Nat.reduceAdd, Nat.reduceSub, Nat.zero_add, List.replicate_succ, List.replicate_zero, List.getElem?_cons_zero, List.getElem?_cons_succ, List.set_cons_zero, List.set_cons_succ, Option.some.injEq, V.int.injEq, V.bl.injEq, V.ref.injEq, V.str.injEq, V.ty.injEq, List.cons.injEq, HO.tup.injEq, HO.lst.injEq, and_true, true_and, and_assoc, exists_eq_left, exists_eq_left', exists_and_left, exists_eq', atI0, atI1, atI2, atI3, Int.cast_ofNat_Int, Int.reduceToNat, scal_ii, scal_in, scal_ni, scal_nn, scal_bb, scal_ss, scal_sn, scal_ns, scal_bn, scal_nb, ite_iff, decide_eq_true_eq, decide_eq_false_iff_not, Bool.not_eq_true', Classical.not_not, ne_eq, not_false_eq_true, not_true_eq_false, forall_const, true_implies, false_implies, imp_self, sizeLine_eq, Nat.reduceLeDiff, reduceCtorEq, decide_true, decide_false]
          refine for_inL ?_
          simp only [exists_and_left, tSl, tPart, tNoPart, rSlLN, rMax2, rMin2, gUnlN, tYes, rLenS, rRepN, cx_K, Value.ref.injEq, HO.xd.injEq, lk0, tSeq, tPar3, tPar, tCons, tNil, tVar, tC, tAsg, gName, gCons, gNil, gTupN, gSub, tOp, rI, rI0, rU, tTest, rNe, rEq, rIxTN, rIxLN, rLenL, rLenT, rIntI, rIntB, rAbs, rSetLN, tTruL, tRaiseX, rIsTy, rIsOw, ixN0, ixN1, tRet, tIf, tIfS, tNext, tBreak, tCont, tDrop, tTupN, tLstN, tUn, tCB, tCall, tNot, tAnd, tOr, tB, tAndV, tOrV, tNotV, tChain, tApp, LamX.tLam, tRevLN, rCatN, rInTN, rInLN, flatV, inV, List.all_cons, List.all_nil, List.any_cons, List.any_nil, Bool.and_self, Bool.and_true, if_true, Bool.false_eq_true, if_false, tMt, tFldN, tSto, HO.ins.injEq, lkh, List.drop_zero, List.drop_succ_cons, List.drop_nil, rListS, wipe, L2.start, List.map_cons, List.map_nil, List.length_cons, List.length_nil, List.replicate, List.cons_append, List.nil_append, List.append_nil, Nat.reduceAdd, Nat.reduceSub, Nat.zero_add, List.replicate_succ, List.replicate_zero, List.getElem?_cons_zero, List.getElem?_cons_succ, List.set_cons_zero, List.set_cons_succ, Option.some.injEq, V.int.injEq, V.bl.injEq, V.ref.injEq, V.str.injEq, V.ty.injEq, List.cons.injEq, HO.tup.injEq, HO.lst.injEq, and_true, true_and, and_assoc, exists_eq_left, exists_eq_left', exists_and_left, exists_eq', atI0, atI1, atI2, atI3, Int.cast_ofNat_Int, Int.reduceToNat, scal_ii, scal_in, scal_ni, scal_nn, scal_bb, scal_ss, scal_sn, scal_ns, scal_bn, scal_nb, ite_iff, decide_eq_true_eq, decide_eq_false_iff_not, Bool.not_eq_true', Classical.not_not, ne_eq, not_false_eq_true, not_true_eq_false, forall_const, true_implies, false_implies, imp_self, sizeLine_eq, Nat.reduceLeDiff, reduceCtorEq, decide_true, decide_false]
          intro p1 H5 _ s5 h5
          intro p2 H6 _ s6 h6
          intro p3 H7 _ s7 h7
          intro p4 H8 _ s8 h8
          intro M H9 _ s9 k9
          have S9 := (s6.trans s7).trans (s8.trans s9)
          have g1 := S9 _ _ h5
          have g2 := s9 _ _ (s8 _ _ (s7 _ _ h6))
          have g3 := s9 _ _ (s8 _ _ h7)
          have g4 := s9 _ _ h8
          have W9 := W.same (s5.trans S9)
          have OO : ∀ v ∈ [V.non, .ref p1, .ref p2, .ref p3, .str "10", .ref p4], PairK K H9 v ∧ pairV H9 v = none := by
            intro v hv
            simp only [List.mem_cons, List.not_mem_nil, or_false] at hv
            rcases hv with rfl | rfl | rfl | rfl | rfl | rfl
            · exact ⟨.non, rfl⟩
            · exact ⟨.tup g1 (fun z hz => by simp at hz; subst hz; exact wh_int), by simp only [pairV, g1]; rfl⟩
            · exact ⟨.lst g2, by simp only [pairV, g2]⟩
            · exact ⟨.tup g3 (fun z hz => by simp at hz; rcases hz with rfl | rfl; exact wh_int; exact wh_bl), by simp only [pairV, g3]; rfl⟩
            · exact ⟨.str _, rfl⟩
            · exact ⟨.tup g4 (fun z hz => by simp at hz; rcases hz with rfl | rfl; exact wh_int; exact wh_int), by simp only [pairV, g4]; rfl⟩
          clear W s5 h5 s6 h6 s7 h7 s8 h8 s9 S9 g1 g2 g3 g4
          refine st_forL (fun R r => r) k9 (fun j σ' H' => ∃ x9 x11, σ' = [some (V.ref sc), some (V.int i), some (V.ref a), some (V.ref one), some (V.ref oth), x, some (V.ref t1), some (V.ref t2), some (V.ref t6), x9, some (V.ref good), x11] ∧ LQ K H H' a ∧ H' M = some (.lst [V.non, .ref p1, .ref p2, .ref p3, .str "10", .ref p4]) ∧ ∀ v ∈ [V.non, .ref p1, .ref p2, .ref p3, .str "10", .ref p4], PairK K H' v ∧ pairV H' v = none) ⟨_, _, rfl, W9, k9, OO⟩ (fun _ _ _ h => by obtain ⟨_, _, _, _, h, _⟩ := h; exact h) ?_ ?_
          · clear W9 k9 OO
            rintro j v _ G hv ⟨x9, x11, rfl, W, mM, OO⟩
            obtain ⟨Ok, On⟩ := OO v (List.mem_of_getElem? hv)
            simp only [exists_and_left, tSl, tPart, tNoPart, rSlLN, rMax2, rMin2, gUnlN, tYes, rLenS, rRepN, cx_K, Value.ref.injEq, HO.xd.injEq, lk0, tSeq, tPar3, tPar, tCons, tNil, tVar, tC, tAsg, gName, gCons, gNil, gTupN, gSub, tOp, rI, rI0, rU, tTest, rNe, rEq, rIxTN, rIxLN, rLenL, rLenT, rIntI, rIntB, rAbs, rSetLN, tTruL, tRaiseX, rIsTy, rIsOw, ixN0, ixN1, tRet, tIf, tIfS, tNext, tBreak, tCont, tDrop, tTupN, tLstN, tUn, tCB, tCall, tNot, tAnd, tOr, tB, tAndV, tOrV, tNotV, tChain, tApp, LamX.tLam, tRevLN, rCatN, rInTN, rInLN, flatV, inV, List.all_cons, List.all_nil, List.any_cons, List.any_nil, Bool.and_self, Bool.and_true, if_true, Bool.false_eq_true, if_false, tMt, tFldN, tSto, HO.ins.injEq, lkh, List.drop_zero, List.drop_succ_cons, List.drop_nil, rListS, wipe, L2.start, List.map_cons, List.map_nil, List.length_cons, List.length_nil, List.replicate, List.cons_append, List.nil_append, List.append_nil, Nat.reduceAdd, Nat.reduceSub, Nat.zero_add, List.replicate_succ, List.replicate_zero, List.getElem?_cons_zero, List.getElem?_cons_succ, List.set_cons_zero, List.set_cons_succ, Option.some.injEq, V.int.injEq, V.bl.injEq, V.ref.injEq, V.str.injEq, V.ty.injEq, List.cons.injEq, HO.tup.injEq, HO.lst.injEq, and_true, true_and, and_assoc, exists_eq_left, exists_eq_left', exists_and_left, exists_eq', atI0, atI1, atI2, atI3, Int.cast_ofNat_Int, Int.reduceToNat, scal_ii, scal_in, scal_ni, scal_nn, scal_bb, scal_ss, scal_sn, scal_ns, scal_bn, scal_nb, ite_iff, decide_eq_true_eq, decide_eq_false_iff_not, Bool.not_eq_true', Classical.not_not, ne_eq, not_false_eq_true, not_true_eq_false, forall_const, true_implies, false_implies, imp_self, sizeLine_eq, Nat.reduceLeDiff, reduceCtorEq, decide_true, decide_false]
            refine told_part W.hT (fun H1 Q E e r => ⟨_, _, rfl, Ok.ext e, fun _ => r, fun h => (by rw [Ok.sameX e, On] at h; cases h), fun p q r s h => (by rw [Ok.sameX e, On] at h; cases h)⟩) (fun H1 q1 e1 hT1 k1 => ?_)
            have W1 := W.ext hT1 e1
            intro u H2 _ s2 k2
            intro R H3 _ s3 k3
            have W3 := (W1.same s2).same s3
            have k13 := s3 _ _ (s2 _ _ k1)
            have k23 := s3 _ _ k2
            have e3 := e1.trans (extS (s2.trans s3))
            have okp : PyData.strOk "part" = true := by decide +kernel
            have oks : PyData.strOk "shift" = true := by decide +kernel
            refine ⟨R, rfl, _, k3, _, atI0, R, rfl, _, k3, _, atI1, ?_⟩
            refine ne_sameN (dp_l2 k13) (dp_l2 k23) (sh_l2 (n := 0) okp oks) ⟨false, rfl, fun e => (by cases e), fun _ => ?_⟩
            refine told_part W3.hT (fun H5 Q E e r => fun z H6 _ s6 m6 => ⟨_, _, rfl, P2.k m6, fun h => (by rw [pairV_of m6] at h; cases h), fun _ => ⟨Ok.ext (e3.trans (e.trans (extS s6))), fun _ => r.mono s6⟩, fun p q r s _ h => (by rw [Ok.sameX (e3.trans (e.trans (extS s6))), On] at h; cases h)⟩) (fun H5 q5 e5 hT5 k5 => ?_)
            refine ⟨R, rfl, _, extL e5 k3, _, atI1, ?_⟩
            exact ne_sameN (dp_l2 k5) (dp_l2 (extL e5 k23)) (sh_l2 (n := 0) okp oks) ⟨false, rfl, fun e => (by cases e), fun _ => ⟨W3.ext hT5 e5, extL (e3.trans e5) mM, fun v' hv' => by
              obtain ⟨o1, o2⟩ := OO v' hv'
              exact ⟨o1.ext (e3.trans e5), by rw [o1.sameX (e3.trans e5), o2]⟩⟩⟩
          · rintro _ G ⟨x9, x11, rfl, W, _, _⟩
            exact ⟨W.E, W.hT, _, _, _, _, _, _, _, _, _, _, _, rfl⟩
  · rintro _ H3 ⟨_, _, x1, x2, x3, x4, x5, x6, x7, x8, x9, x10, x11, rfl⟩
    simp only [exists_and_left, tSl, tPart, tNoPart, rSlLN, rMax2, rMin2, gUnlN, tYes, rLenS, rRepN, cx_K, Value.ref.injEq, HO.xd.injEq, lk0, tSeq, tPar3, tPar, tCons, tNil, tVar, tC, tAsg, gName, gCons, gNil, gTupN, gSub, tOp, rI, rI0, rU, tTest, rNe, rEq, rIxTN, rIxLN, rLenL, rLenT, rIntI, rIntB, rAbs, rSetLN, tTruL, tRaiseX, rIsTy, rIsOw, ixN0, ixN1, tRet, tIf, tIfS, tNext, tBreak, tCont, tDrop, tTupN, tLstN, tUn, tCB, tCall, tNot, tAnd, tOr, tB, tAndV, tOrV, tNotV, tChain, tApp, LamX.tLam, tRevLN, rCatN, rInTN, rInLN, flatV, inV, List.all_cons, List.all_nil, List.any_cons, List.any_nil, Bool.and_self, Bool.and_true, if_true, Bool.false_eq_true, if_false, tMt, tFldN, tSto, HO.ins.injEq, lkh, List.drop_zero, List.drop_succ_cons, List.drop_nil, rListS, wipe, L2.start, List.map_cons, List.map_nil, List.length_cons, List.length_nil, List.replicate, List.cons_append, List.nil_append, List.append_nil, Nat.reduceAdd, Nat.reduceSub, Nat.zero_add, List.replicate_succ, List.replicate_zero, List.getElem?_cons_zero, List.getElem?_cons_succ, List.set_cons_zero, List.set_cons_succ, Option.some.injEq, V.int.injEq, V.bl.injEq, V.ref.injEq, V.str.injEq, V.ty.injEq, List.cons.injEq, HO.tup.injEq, HO.lst.injEq, and_true, true_and, and_assoc, exists_eq_left, exists_eq_left', exists_and_left, exists_eq', atI0, atI1, atI2, atI3, Int.cast_ofNat_Int, Int.reduceToNat, scal_ii, scal_in, scal_ni, scal_nn, scal_bb, scal_ss, scal_sn, scal_ns, scal_bn, scal_nb, ite_iff, decide_eq_true_eq, decide_eq_false_iff_not, Bool.not_eq_true', Classical.not_not, ne_eq, not_false_eq_true, not_true_eq_false, forall_const, true_implies, false_implies, imp_self, sizeLine_eq, Nat.reduceLeDiff, reduceCtorEq, decide_true, decide_false]
    exact k H3

end
end Iz
/-! k09_j -/
set_option Elab.async false
set_option linter.all false
set_option maxRecDepth 100000
set_option maxHeartbeats 4000000
namespace Iz
open PySem PySem.Spec PyProof.Rows L2
open He (ga)
local macro_rules | `(tactic| walk_at "wp") => `(tactic| simp only [tSl, tPart, tNoPart, rSlLN, rMax2, rMin2, gUnlN, tYes, rLenS, rRepN, cx_K, Value.ref.injEq, HO.xd.injEq, lk0, tSeq, tPar3, tPar, tCons, tNil, tVar, tC, tAsg, gName, gCons, gNil, gTupN, gSub, tOp, rI, rI0, rU, tTest, rNe, rEq, rIxTN, rIxLN, rLenL, rLenT, rIntI, rIntB, rAbs, rSetLN, tTruL, tRaiseX, rIsTy, rIsOw, ixN0, ixN1, tRet, tIf, tIfS, tNext, tBreak, tCont, tDrop, tTupN, tLstN, tUn, tCB, tCall, tNot, tAnd, tOr, tB, tAndV, tOrV, tNotV, tChain, tApp, LamX.tLam, tRevLN, rCatN, rInTN, rInLN, flatV, inV, List.all_cons, List.all_nil, List.any_cons, List.any_nil, Bool.and_self, Bool.and_true, if_true, Bool.false_eq_true, if_false, tMt, tFldN, tSto, HO.ins.injEq, lkh, List.drop_zero, List.drop_succ_cons, List.drop_nil, rListS, wipe, L2.start, List.map_cons, List.map_nil, List.length_cons, List.length_nil, List.replicate, List.cons_append, List.nil_append, List.append_nil, Nat.reduceAdd, Nat.reduceSub, Nat.zero_add, List.replicate_succ, List.replicate_zero, List.getElem?_cons_zero, List.getElem?_cons_succ, List.set_cons_zero, List.set_cons_succ, Option.some.injEq, V.int.injEq, V.bl.injEq, V.ref.injEq, V.str.injEq, V.ty.injEq, List.cons.injEq, HO.tup.injEq, HO.lst.injEq, and_true, true_and, and_assoc, exists_eq_left, exists_eq_left', exists_and_left, exists_eq', atI0, atI1, atI2, atI3, Int.cast_ofNat_Int, Int.reduceToNat, scal_ii, scal_in, scal_ni, scal_nn, scal_bb, scal_ss, scal_sn, scal_ns, scal_bn, scal_nb, ite_iff, decide_eq_true_eq, decide_eq_false_iff_not, Bool.not_eq_true', Classical.not_not, ne_eq, not_false_eq_true, not_true_eq_false, forall_const, true_implies, false_implies, imp_self, sizeLine_eq, Nat.reduceLeDiff, reduceCtorEq, decide_true, decide_false])
section
variable {P : Program} {w : World} {K : PySem.W.Frag} {mg : Str → Option Value} {base : Heap}
theorem txt_mk {h : Heap} (X : K.In h) (G : h.Ns mainGlobals mg) {f_is_whole f_is_from f_is_pair f_require_whole f_require_from f_require_pair f_greatest_divisor f_least_multiple f_weighed_divisor f_remainder_of f_both_remainders f__require_remainder f_is_shift f_Lattice___init__ f_Lattice___eq__ f_Lattice___le__ f_Lattice___contains__ f_Lattice_area f_Lattice_place f_require_lattice_numbers f_require_lattice f_spanned f_common_lattice f_joined_lattice f__law_opened f__law_draw f__law_pick f__law_three f__law_place f__law_holds f__law_refused f__law_is_sum f__law_spanned_right f__law_two_right f_law c__law_spanned_right P__law_spanned_right c_law P_law C_BadNumber N_BadNumber fi_BadNumber C_BadPart N_BadPart fi_BadPart C_NotSo N_NotSo fi_NotSo C_BadIndex C_TooMany : Addr} {od_is_whole an_is_whole od_is_from an_is_from od_is_pair an_is_pair od_require_whole an_require_whole od_require_from an_require_from od_require_pair an_require_pair od_greatest_divisor an_greatest_divisor od_least_multiple an_least_multiple od_weighed_divisor an_weighed_divisor od_remainder_of an_remainder_of od_both_remainders an_both_remainders od__require_remainder an__require_remainder od_is_shift an_is_shift od_Lattice___init__ an_Lattice___init__ od_Lattice___eq__ an_Lattice___eq__ od_Lattice___le__ an_Lattice___le__ od_Lattice___contains__ an_Lattice___contains__ od_Lattice_area an_Lattice_area od_Lattice_place an_Lattice_place od_require_lattice_numbers an_require_lattice_numbers od_require_lattice an_require_lattice od_spanned an_spanned od_common_lattice an_common_lattice od_joined_lattice an_joined_lattice od__law_opened an__law_opened od__law_draw an__law_draw od__law_pick an__law_pick od__law_three an__law_three od__law_place an__law_place od__law_holds an__law_holds od__law_refused an__law_refused od__law_is_sum an__law_is_sum od__law_spanned_right an__law_spanned_right od__law_two_right an__law_two_right od_law an_law : Option Addr} {sl_is_whole sl_is_from sl_is_pair sl_require_whole sl_require_from sl_require_pair sl_greatest_divisor sl_least_multiple sl_weighed_divisor sl_remainder_of sl_both_remainders sl__require_remainder sl_is_shift sl_Lattice___init__ sl_Lattice___eq__ sl_Lattice___le__ sl_Lattice___contains__ sl_Lattice_area sl_Lattice_place sl_require_lattice_numbers sl_require_lattice sl_spanned sl_common_lattice sl_joined_lattice sl__law_opened sl__law_draw sl__law_pick sl__law_three sl__law_place sl__law_holds sl__law_refused sl__law_is_sum sl__law_spanned_right sl__law_two_right sl_law : Array (Option Value)} {oc_is_whole kV_is_whole dc_is_whole pm_is_whole ct_is_whole oc_is_from kV_is_from dc_is_from pm_is_from ct_is_from oc_is_pair kV_is_pair dc_is_pair pm_is_pair ct_is_pair oc_require_whole kV_require_whole dc_require_whole pm_require_whole ct_require_whole oc_require_from kV_require_from dc_require_from pm_require_from ct_require_from oc_require_pair kV_require_pair dc_require_pair pm_require_pair ct_require_pair oc_greatest_divisor kV_greatest_divisor dc_greatest_divisor pm_greatest_divisor ct_greatest_divisor oc_least_multiple kV_least_multiple dc_least_multiple pm_least_multiple ct_least_multiple oc_weighed_divisor kV_weighed_divisor dc_weighed_divisor pm_weighed_divisor ct_weighed_divisor oc_remainder_of kV_remainder_of dc_remainder_of pm_remainder_of ct_remainder_of oc_both_remainders kV_both_remainders dc_both_remainders pm_both_remainders ct_both_remainders oc__require_remainder kV__require_remainder dc__require_remainder pm__require_remainder ct__require_remainder oc_is_shift kV_is_shift dc_is_shift pm_is_shift ct_is_shift oc_Lattice___init__ kV_Lattice___init__ dc_Lattice___init__ pm_Lattice___init__ ct_Lattice___init__ oc_Lattice___eq__ kV_Lattice___eq__ dc_Lattice___eq__ pm_Lattice___eq__ ct_Lattice___eq__ oc_Lattice___le__ kV_Lattice___le__ dc_Lattice___le__ pm_Lattice___le__ ct_Lattice___le__ oc_Lattice___contains__ kV_Lattice___contains__ dc_Lattice___contains__ pm_Lattice___contains__ ct_Lattice___contains__ oc_Lattice_area kV_Lattice_area dc_Lattice_area pm_Lattice_area ct_Lattice_area oc_Lattice_place kV_Lattice_place dc_Lattice_place pm_Lattice_place ct_Lattice_place oc_require_lattice_numbers kV_require_lattice_numbers dc_require_lattice_numbers pm_require_lattice_numbers ct_require_lattice_numbers oc_require_lattice kV_require_lattice dc_require_lattice pm_require_lattice ct_require_lattice oc_spanned kV_spanned dc_spanned pm_spanned ct_spanned oc_common_lattice kV_common_lattice dc_common_lattice pm_common_lattice ct_common_lattice oc_joined_lattice kV_joined_lattice dc_joined_lattice pm_joined_lattice ct_joined_lattice oc__law_opened kV__law_opened dc__law_opened pm__law_opened ct__law_opened oc__law_draw kV__law_draw dc__law_draw pm__law_draw ct__law_draw oc__law_pick kV__law_pick dc__law_pick pm__law_pick ct__law_pick oc__law_three kV__law_three dc__law_three pm__law_three ct__law_three oc__law_place kV__law_place dc__law_place pm__law_place ct__law_place oc__law_holds kV__law_holds dc__law_holds pm__law_holds ct__law_holds oc__law_refused kV__law_refused dc__law_refused pm__law_refused ct__law_refused oc__law_is_sum kV__law_is_sum dc__law_is_sum pm__law_is_sum ct__law_is_sum oc__law_spanned_right kV__law_spanned_right dc__law_spanned_right pm__law_spanned_right ct__law_spanned_right oc__law_two_right kV__law_two_right dc__law_two_right pm__law_two_right ct__law_two_right oc_law kV_law dc_law pm_law ct_law cd_is_whole cd_is_from cd_is_pair cd_require_whole cd_require_from cd_require_pair cd_greatest_divisor cd_least_multiple cd_weighed_divisor cd_remainder_of cd_both_remainders cd__require_remainder cd_is_shift cd_Lattice___init__ cd_Lattice___eq__ cd_Lattice___le__ cd_Lattice___contains__ cd_Lattice_area cd_Lattice_place cd_require_lattice_numbers cd_require_lattice cd_spanned cd_common_lattice cd_joined_lattice cd__law_opened cd__law_draw cd__law_pick cd__law_three cd__law_place cd__law_holds cd__law_refused cd__law_is_sum cd__law_two_right : Value} {C_Lattice : Addr} {dd_BadNumber odx_BadNumber anx_BadNumber dd_BadPart odx_BadPart anx_BadPart dd_NotSo odx_NotSo anx_NotSo : Option Addr} {nm_BadNumber q_BadNumber nm_BadPart q_BadPart nm_NotSo q_NotSo : Str} {bs_BadNumber bm_BadNumber sub_BadNumber bs_BadPart bm_BadPart sub_BadPart bs_NotSo bm_NotSo sub_NotSo : List Value} {sn_BadNumber sn_BadPart sn_NotSo : List Str} {ab_BadNumber ab_BadPart ab_NotSo : Bool} {col_BadNumber col_BadPart col_NotSo : Option Bool} {m0_BadNumber m1_BadNumber m2_BadNumber m3_BadNumber m5_BadNumber m0_BadPart m1_BadPart m2_BadPart m3_BadPart m5_BadPart m0_NotSo m1_NotSo m2_NotSo m3_NotSo m5_NotSo : Option Value} {ocx_BadNumber kVx_BadNumber dcx_BadNumber pmx_BadNumber cdx_BadNumber ctx_BadNumber ocx_BadPart kVx_BadPart dcx_BadPart pmx_BadPart cdx_BadPart ctx_BadPart ocx_NotSo kVx_NotSo dcx_NotSo pmx_NotSo cdx_NotSo ctx_NotSo : Value} {slx_BadNumber slx_BadPart slx_NotSo : Array (Option Value)}
    (a_is_whole : PySem.W.nsIn K mainGlobals "is_whole" = some (some (.ref f_is_whole)))
    (l_is_whole : K.lookup f_is_whole = some ⟨oc_is_whole, od_is_whole, .func (PySem.W.fnOf "is_whole" "is_whole" (defArgs s_is_whole) (defBody s_is_whole) (defScope s_is_whole) .none kV_is_whole dc_is_whole pm_is_whole an_is_whole cd_is_whole ct_is_whole), sl_is_whole⟩)
    (d_is_whole : PySem.W.codeIn K cd_is_whole "is_whole" = true)
    (k_is_whole : PySem.W.keepIn K (.ref f_is_whole) = true)
    (a_is_from : PySem.W.nsIn K mainGlobals "is_from" = some (some (.ref f_is_from)))
    (l_is_from : K.lookup f_is_from = some ⟨oc_is_from, od_is_from, .func (PySem.W.fnOf "is_from" "is_from" (defArgs s_is_from) (defBody s_is_from) (defScope s_is_from) .none kV_is_from dc_is_from pm_is_from an_is_from cd_is_from ct_is_from), sl_is_from⟩)
    (d_is_from : PySem.W.codeIn K cd_is_from "is_from" = true)
    (k_is_from : PySem.W.keepIn K (.ref f_is_from) = true)
    (a_is_pair : PySem.W.nsIn K mainGlobals "is_pair" = some (some (.ref f_is_pair)))
    (l_is_pair : K.lookup f_is_pair = some ⟨oc_is_pair, od_is_pair, .func (PySem.W.fnOf "is_pair" "is_pair" (defArgs s_is_pair) (defBody s_is_pair) (defScope s_is_pair) .none kV_is_pair dc_is_pair pm_is_pair an_is_pair cd_is_pair ct_is_pair), sl_is_pair⟩)
    (d_is_pair : PySem.W.codeIn K cd_is_pair "is_pair" = true)
    (k_is_pair : PySem.W.keepIn K (.ref f_is_pair) = true)
    (a_require_whole : PySem.W.nsIn K mainGlobals "require_whole" = some (some (.ref f_require_whole)))
    (l_require_whole : K.lookup f_require_whole = some ⟨oc_require_whole, od_require_whole, .func (PySem.W.fnOf "require_whole" "require_whole" (defArgs s_require_whole) (defBody s_require_whole) (defScope s_require_whole) .none kV_require_whole dc_require_whole pm_require_whole an_require_whole cd_require_whole ct_require_whole), sl_require_whole⟩)
    (d_require_whole : PySem.W.codeIn K cd_require_whole "require_whole" = true)
    (k_require_whole : PySem.W.keepIn K (.ref f_require_whole) = true)
    (a_require_from : PySem.W.nsIn K mainGlobals "require_from" = some (some (.ref f_require_from)))
    (l_require_from : K.lookup f_require_from = some ⟨oc_require_from, od_require_from, .func (PySem.W.fnOf "require_from" "require_from" (defArgs s_require_from) (defBody s_require_from) (defScope s_require_from) .none kV_require_from dc_require_from pm_require_from an_require_from cd_require_from ct_require_from), sl_require_from⟩)
    (d_require_from : PySem.W.codeIn K cd_require_from "require_from" = true)
    (k_require_from : PySem.W.keepIn K (.ref f_require_from) = true)
    (a_require_pair : PySem.W.nsIn K mainGlobals "require_pair" = some (some (.ref f_require_pair)))
    (l_require_pair : K.lookup f_require_pair = some ⟨oc_require_pair, od_require_pair, .func (PySem.W.fnOf "require_pair" "require_pair" (defArgs s_require_pair) (defBody s_require_pair) (defScope s_require_pair) .none kV_require_pair dc_require_pair pm_require_pair an_require_pair cd_require_pair ct_require_pair), sl_require_pair⟩)
    (d_require_pair : PySem.W.codeIn K cd_require_pair "require_pair" = true)
    (k_require_pair : PySem.W.keepIn K (.ref f_require_pair) = true)
    (a_greatest_divisor : PySem.W.nsIn K mainGlobals "greatest_divisor" = some (some (.ref f_greatest_divisor)))
    (l_greatest_divisor : K.lookup f_greatest_divisor = some ⟨oc_greatest_divisor, od_greatest_divisor, .func (PySem.W.fnOf "greatest_divisor" "greatest_divisor" (defArgs s_greatest_divisor) (defBody s_greatest_divisor) (defScope s_greatest_divisor) .none kV_greatest_divisor dc_greatest_divisor pm_greatest_divisor an_greatest_divisor cd_greatest_divisor ct_greatest_divisor), sl_greatest_divisor⟩)
    (d_greatest_divisor : PySem.W.codeIn K cd_greatest_divisor "greatest_divisor" = true)
    (k_greatest_divisor : PySem.W.keepIn K (.ref f_greatest_divisor) = true)
    (a_least_multiple : PySem.W.nsIn K mainGlobals "least_multiple" = some (some (.ref f_least_multiple)))
    (l_least_multiple : K.lookup f_least_multiple = some ⟨oc_least_multiple, od_least_multiple, .func (PySem.W.fnOf "least_multiple" "least_multiple" (defArgs s_least_multiple) (defBody s_least_multiple) (defScope s_least_multiple) .none kV_least_multiple dc_least_multiple pm_least_multiple an_least_multiple cd_least_multiple ct_least_multiple), sl_least_multiple⟩)
    (d_least_multiple : PySem.W.codeIn K cd_least_multiple "least_multiple" = true)
    (k_least_multiple : PySem.W.keepIn K (.ref f_least_multiple) = true)
    (a_weighed_divisor : PySem.W.nsIn K mainGlobals "weighed_divisor" = some (some (.ref f_weighed_divisor)))
    (l_weighed_divisor : K.lookup f_weighed_divisor = some ⟨oc_weighed_divisor, od_weighed_divisor, .func (PySem.W.fnOf "weighed_divisor" "weighed_divisor" (defArgs s_weighed_divisor) (defBody s_weighed_divisor) (defScope s_weighed_divisor) .none kV_weighed_divisor dc_weighed_divisor pm_weighed_divisor an_weighed_divisor cd_weighed_divisor ct_weighed_divisor), sl_weighed_divisor⟩)
    (d_weighed_divisor : PySem.W.codeIn K cd_weighed_divisor "weighed_divisor" = true)
    (k_weighed_divisor : PySem.W.keepIn K (.ref f_weighed_divisor) = true)
    (a_remainder_of : PySem.W.nsIn K mainGlobals "remainder_of" = some (some (.ref f_remainder_of)))
    (l_remainder_of : K.lookup f_remainder_of = some ⟨oc_remainder_of, od_remainder_of, .func (PySem.W.fnOf "remainder_of" "remainder_of" (defArgs s_remainder_of) (defBody s_remainder_of) (defScope s_remainder_of) .none kV_remainder_of dc_remainder_of pm_remainder_of an_remainder_of cd_remainder_of ct_remainder_of), sl_remainder_of⟩)
    (d_remainder_of : PySem.W.codeIn K cd_remainder_of "remainder_of" = true)
    (k_remainder_of : PySem.W.keepIn K (.ref f_remainder_of) = true)
    (a_both_remainders : PySem.W.nsIn K mainGlobals "both_remainders" = some (some (.ref f_both_remainders)))
    (l_both_remainders : K.lookup f_both_remainders = some ⟨oc_both_remainders, od_both_remainders, .func (PySem.W.fnOf "both_remainders" "both_remainders" (defArgs s_both_remainders) (defBody s_both_remainders) (defScope s_both_remainders) .none kV_both_remainders dc_both_remainders pm_both_remainders an_both_remainders cd_both_remainders ct_both_remainders), sl_both_remainders⟩)
    (d_both_remainders : PySem.W.codeIn K cd_both_remainders "both_remainders" = true)
    (k_both_remainders : PySem.W.keepIn K (.ref f_both_remainders) = true)
    (a__require_remainder : PySem.W.nsIn K mainGlobals "_require_remainder" = some (some (.ref f__require_remainder)))
    (l__require_remainder : K.lookup f__require_remainder = some ⟨oc__require_remainder, od__require_remainder, .func (PySem.W.fnOf "_require_remainder" "_require_remainder" (defArgs s__require_remainder) (defBody s__require_remainder) (defScope s__require_remainder) .none kV__require_remainder dc__require_remainder pm__require_remainder an__require_remainder cd__require_remainder ct__require_remainder), sl__require_remainder⟩)
    (d__require_remainder : PySem.W.codeIn K cd__require_remainder "_require_remainder" = true)
    (k__require_remainder : PySem.W.keepIn K (.ref f__require_remainder) = true)
    (a_is_shift : PySem.W.nsIn K mainGlobals "is_shift" = some (some (.ref f_is_shift)))
    (l_is_shift : K.lookup f_is_shift = some ⟨oc_is_shift, od_is_shift, .func (PySem.W.fnOf "is_shift" "is_shift" (defArgs s_is_shift) (defBody s_is_shift) (defScope s_is_shift) .none kV_is_shift dc_is_shift pm_is_shift an_is_shift cd_is_shift ct_is_shift), sl_is_shift⟩)
    (d_is_shift : PySem.W.codeIn K cd_is_shift "is_shift" = true)
    (k_is_shift : PySem.W.keepIn K (.ref f_is_shift) = true)
    (a_require_lattice_numbers : PySem.W.nsIn K mainGlobals "require_lattice_numbers" = some (some (.ref f_require_lattice_numbers)))
    (l_require_lattice_numbers : K.lookup f_require_lattice_numbers = some ⟨oc_require_lattice_numbers, od_require_lattice_numbers, .func (PySem.W.fnOf "require_lattice_numbers" "require_lattice_numbers" (defArgs s_require_lattice_numbers) (defBody s_require_lattice_numbers) (defScope s_require_lattice_numbers) .none kV_require_lattice_numbers dc_require_lattice_numbers pm_require_lattice_numbers an_require_lattice_numbers cd_require_lattice_numbers ct_require_lattice_numbers), sl_require_lattice_numbers⟩)
    (d_require_lattice_numbers : PySem.W.codeIn K cd_require_lattice_numbers "require_lattice_numbers" = true)
    (k_require_lattice_numbers : PySem.W.keepIn K (.ref f_require_lattice_numbers) = true)
    (a_require_lattice : PySem.W.nsIn K mainGlobals "require_lattice" = some (some (.ref f_require_lattice)))
    (l_require_lattice : K.lookup f_require_lattice = some ⟨oc_require_lattice, od_require_lattice, .func (PySem.W.fnOf "require_lattice" "require_lattice" (defArgs s_require_lattice) (defBody s_require_lattice) (defScope s_require_lattice) .none kV_require_lattice dc_require_lattice pm_require_lattice an_require_lattice cd_require_lattice ct_require_lattice), sl_require_lattice⟩)
    (d_require_lattice : PySem.W.codeIn K cd_require_lattice "require_lattice" = true)
    (k_require_lattice : PySem.W.keepIn K (.ref f_require_lattice) = true)
    (a_spanned : PySem.W.nsIn K mainGlobals "spanned" = some (some (.ref f_spanned)))
    (l_spanned : K.lookup f_spanned = some ⟨oc_spanned, od_spanned, .func (PySem.W.fnOf "spanned" "spanned" (defArgs s_spanned) (defBody s_spanned) (defScope s_spanned) .none kV_spanned dc_spanned pm_spanned an_spanned cd_spanned ct_spanned), sl_spanned⟩)
    (d_spanned : PySem.W.codeIn K cd_spanned "spanned" = true)
    (k_spanned : PySem.W.keepIn K (.ref f_spanned) = true)
    (a_common_lattice : PySem.W.nsIn K mainGlobals "common_lattice" = some (some (.ref f_common_lattice)))
    (l_common_lattice : K.lookup f_common_lattice = some ⟨oc_common_lattice, od_common_lattice, .func (PySem.W.fnOf "common_lattice" "common_lattice" (defArgs s_common_lattice) (defBody s_common_lattice) (defScope s_common_lattice) .none kV_common_lattice dc_common_lattice pm_common_lattice an_common_lattice cd_common_lattice ct_common_lattice), sl_common_lattice⟩)
    (d_common_lattice : PySem.W.codeIn K cd_common_lattice "common_lattice" = true)
    (k_common_lattice : PySem.W.keepIn K (.ref f_common_lattice) = true)
    (a_joined_lattice : PySem.W.nsIn K mainGlobals "joined_lattice" = some (some (.ref f_joined_lattice)))
    (l_joined_lattice : K.lookup f_joined_lattice = some ⟨oc_joined_lattice, od_joined_lattice, .func (PySem.W.fnOf "joined_lattice" "joined_lattice" (defArgs s_joined_lattice) (defBody s_joined_lattice) (defScope s_joined_lattice) .none kV_joined_lattice dc_joined_lattice pm_joined_lattice an_joined_lattice cd_joined_lattice ct_joined_lattice), sl_joined_lattice⟩)
    (d_joined_lattice : PySem.W.codeIn K cd_joined_lattice "joined_lattice" = true)
    (k_joined_lattice : PySem.W.keepIn K (.ref f_joined_lattice) = true)
    (a__law_opened : PySem.W.nsIn K mainGlobals "_law_opened" = some (some (.ref f__law_opened)))
    (l__law_opened : K.lookup f__law_opened = some ⟨oc__law_opened, od__law_opened, .func (PySem.W.fnOf "_law_opened" "_law_opened" (defArgs s__law_opened) (defBody s__law_opened) (defScope s__law_opened) .none kV__law_opened dc__law_opened pm__law_opened an__law_opened cd__law_opened ct__law_opened), sl__law_opened⟩)
    (d__law_opened : PySem.W.codeIn K cd__law_opened "_law_opened" = true)
    (k__law_opened : PySem.W.keepIn K (.ref f__law_opened) = true)
    (a__law_draw : PySem.W.nsIn K mainGlobals "_law_draw" = some (some (.ref f__law_draw)))
    (l__law_draw : K.lookup f__law_draw = some ⟨oc__law_draw, od__law_draw, .func (PySem.W.fnOf "_law_draw" "_law_draw" (defArgs s__law_draw) (defBody s__law_draw) (defScope s__law_draw) .none kV__law_draw dc__law_draw pm__law_draw an__law_draw cd__law_draw ct__law_draw), sl__law_draw⟩)
    (d__law_draw : PySem.W.codeIn K cd__law_draw "_law_draw" = true)
    (k__law_draw : PySem.W.keepIn K (.ref f__law_draw) = true)
    (a__law_pick : PySem.W.nsIn K mainGlobals "_law_pick" = some (some (.ref f__law_pick)))
    (l__law_pick : K.lookup f__law_pick = some ⟨oc__law_pick, od__law_pick, .func (PySem.W.fnOf "_law_pick" "_law_pick" (defArgs s__law_pick) (defBody s__law_pick) (defScope s__law_pick) .none kV__law_pick dc__law_pick pm__law_pick an__law_pick cd__law_pick ct__law_pick), sl__law_pick⟩)
    (d__law_pick : PySem.W.codeIn K cd__law_pick "_law_pick" = true)
    (k__law_pick : PySem.W.keepIn K (.ref f__law_pick) = true)
    (a__law_three : PySem.W.nsIn K mainGlobals "_law_three" = some (some (.ref f__law_three)))
    (l__law_three : K.lookup f__law_three = some ⟨oc__law_three, od__law_three, .func (PySem.W.fnOf "_law_three" "_law_three" (defArgs s__law_three) (defBody s__law_three) (defScope s__law_three) .none kV__law_three dc__law_three pm__law_three an__law_three cd__law_three ct__law_three), sl__law_three⟩)
    (d__law_three : PySem.W.codeIn K cd__law_three "_law_three" = true)
    (k__law_three : PySem.W.keepIn K (.ref f__law_three) = true)
    (a__law_place : PySem.W.nsIn K mainGlobals "_law_place" = some (some (.ref f__law_place)))
    (l__law_place : K.lookup f__law_place = some ⟨oc__law_place, od__law_place, .func (PySem.W.fnOf "_law_place" "_law_place" (defArgs s__law_place) (defBody s__law_place) (defScope s__law_place) .none kV__law_place dc__law_place pm__law_place an__law_place cd__law_place ct__law_place), sl__law_place⟩)
    (d__law_place : PySem.W.codeIn K cd__law_place "_law_place" = true)
    (k__law_place : PySem.W.keepIn K (.ref f__law_place) = true)
    (a__law_holds : PySem.W.nsIn K mainGlobals "_law_holds" = some (some (.ref f__law_holds)))
    (l__law_holds : K.lookup f__law_holds = some ⟨oc__law_holds, od__law_holds, .func (PySem.W.fnOf "_law_holds" "_law_holds" (defArgs s__law_holds) (defBody s__law_holds) (defScope s__law_holds) .none kV__law_holds dc__law_holds pm__law_holds an__law_holds cd__law_holds ct__law_holds), sl__law_holds⟩)
    (d__law_holds : PySem.W.codeIn K cd__law_holds "_law_holds" = true)
    (k__law_holds : PySem.W.keepIn K (.ref f__law_holds) = true)
    (a__law_refused : PySem.W.nsIn K mainGlobals "_law_refused" = some (some (.ref f__law_refused)))
    (l__law_refused : K.lookup f__law_refused = some ⟨oc__law_refused, od__law_refused, .func (PySem.W.fnOf "_law_refused" "_law_refused" (defArgs s__law_refused) (defBody s__law_refused) (defScope s__law_refused) .none kV__law_refused dc__law_refused pm__law_refused an__law_refused cd__law_refused ct__law_refused), sl__law_refused⟩)
    (d__law_refused : PySem.W.codeIn K cd__law_refused "_law_refused" = true)
    (k__law_refused : PySem.W.keepIn K (.ref f__law_refused) = true)
    (a__law_is_sum : PySem.W.nsIn K mainGlobals "_law_is_sum" = some (some (.ref f__law_is_sum)))
    (l__law_is_sum : K.lookup f__law_is_sum = some ⟨oc__law_is_sum, od__law_is_sum, .func (PySem.W.fnOf "_law_is_sum" "_law_is_sum" (defArgs s__law_is_sum) (defBody s__law_is_sum) (defScope s__law_is_sum) .none kV__law_is_sum dc__law_is_sum pm__law_is_sum an__law_is_sum cd__law_is_sum ct__law_is_sum), sl__law_is_sum⟩)
    (d__law_is_sum : PySem.W.codeIn K cd__law_is_sum "_law_is_sum" = true)
    (k__law_is_sum : PySem.W.keepIn K (.ref f__law_is_sum) = true)
    (a__law_spanned_right : PySem.W.nsIn K mainGlobals "_law_spanned_right" = some (some (.ref f__law_spanned_right)))
    (l__law_spanned_right : K.lookup f__law_spanned_right = some ⟨oc__law_spanned_right, od__law_spanned_right, .func (PySem.W.fnOf "_law_spanned_right" "_law_spanned_right" (defArgs s__law_spanned_right) (defBody s__law_spanned_right) (defScope s__law_spanned_right) .none kV__law_spanned_right dc__law_spanned_right pm__law_spanned_right an__law_spanned_right (.ref c__law_spanned_right) ct__law_spanned_right), sl__law_spanned_right⟩)
    (d__law_spanned_right : PySem.W.codeIn K (.ref c__law_spanned_right) "_law_spanned_right" = true)
    (k__law_spanned_right : PySem.W.keepIn K (.ref f__law_spanned_right) = true)
    (t__law_spanned_right : PySem.W.tabIn K "_law_spanned_right" = some (c__law_spanned_right, P__law_spanned_right))
    (a__law_two_right : PySem.W.nsIn K mainGlobals "_law_two_right" = some (some (.ref f__law_two_right)))
    (l__law_two_right : K.lookup f__law_two_right = some ⟨oc__law_two_right, od__law_two_right, .func (PySem.W.fnOf "_law_two_right" "_law_two_right" (defArgs s__law_two_right) (defBody s__law_two_right) (defScope s__law_two_right) .none kV__law_two_right dc__law_two_right pm__law_two_right an__law_two_right cd__law_two_right ct__law_two_right), sl__law_two_right⟩)
    (d__law_two_right : PySem.W.codeIn K cd__law_two_right "_law_two_right" = true)
    (k__law_two_right : PySem.W.keepIn K (.ref f__law_two_right) = true)
    (a_law : PySem.W.nsIn K mainGlobals "law" = some (some (.ref f_law)))
    (l_law : K.lookup f_law = some ⟨oc_law, od_law, .func (PySem.W.fnOf "law" "law" (defArgs s_law) (defBody s_law) (defScope s_law) .none kV_law dc_law pm_law an_law (.ref c_law) ct_law), sl_law⟩)
    (d_law : PySem.W.codeIn K (.ref c_law) "law" = true)
    (k_law : PySem.W.keepIn K (.ref f_law) = true)
    (t_law : PySem.W.tabIn K "law" = some (c_law, P_law))
    (xa_Lattice : PySem.W.nsIn K mainGlobals "Lattice" = some (some (.ref C_Lattice)))
    (pg_Lattice : PySem.W.plainGet K C_Lattice Str.empty = true)
    (hd_Lattice : PySem.W.hasDictIn K C_Lattice = true)
    (po_Lattice : PySem.W.plainOver K C_Lattice = true)
    (sa_Lattice : PySem.W.findIn K (.ref C_Lattice) "__setattr__" = some (some (.builtin "object.__setattr__")))
    (mm_Lattice : PySem.W.makesIn K C_Lattice = true)
    (kc_Lattice : PySem.W.keepIn K (.ref C_Lattice) = true)
    (ya_Lattice : PySem.W.findIn K (.ref C_Lattice) "__class__" = some (some (.builtin "object.__class__")))
    (ym_Lattice : PySem.W.mroIn K C_Lattice (.type "object") = some true)
    (na_Lattice_a : PySem.W.findIn K (.ref C_Lattice) "a" = some none)
    (na_Lattice_b : PySem.W.findIn K (.ref C_Lattice) "b" = some none)
    (na_Lattice_d : PySem.W.findIn K (.ref C_Lattice) "d" = some none)
    (ma_Lattice___init__ : PySem.W.findIn K (.ref C_Lattice) "__init__" = some (some (.ref f_Lattice___init__)))
    (mi_Lattice___init__ : PySem.W.isFn K (.ref f_Lattice___init__) = true)
    (mk_Lattice___init__ : PySem.W.keepIn K (.ref f_Lattice___init__) = true)
    (l_Lattice___init__ : K.lookup f_Lattice___init__ = some ⟨oc_Lattice___init__, od_Lattice___init__, .func (PySem.W.fnOf "__init__" "Lattice.__init__" (defArgs s_Lattice___init__) (defBody s_Lattice___init__) (defScope s_Lattice___init__) .none kV_Lattice___init__ dc_Lattice___init__ pm_Lattice___init__ an_Lattice___init__ cd_Lattice___init__ ct_Lattice___init__), sl_Lattice___init__⟩)
    (d_Lattice___init__ : PySem.W.codeIn K cd_Lattice___init__ "Lattice.__init__" = true)
    (ma_Lattice___eq__ : PySem.W.findIn K (.ref C_Lattice) "__eq__" = some (some (.ref f_Lattice___eq__)))
    (mi_Lattice___eq__ : PySem.W.isFn K (.ref f_Lattice___eq__) = true)
    (mk_Lattice___eq__ : PySem.W.keepIn K (.ref f_Lattice___eq__) = true)
    (l_Lattice___eq__ : K.lookup f_Lattice___eq__ = some ⟨oc_Lattice___eq__, od_Lattice___eq__, .func (PySem.W.fnOf "__eq__" "Lattice.__eq__" (defArgs s_Lattice___eq__) (defBody s_Lattice___eq__) (defScope s_Lattice___eq__) .none kV_Lattice___eq__ dc_Lattice___eq__ pm_Lattice___eq__ an_Lattice___eq__ cd_Lattice___eq__ ct_Lattice___eq__), sl_Lattice___eq__⟩)
    (d_Lattice___eq__ : PySem.W.codeIn K cd_Lattice___eq__ "Lattice.__eq__" = true)
    (ma_Lattice___le__ : PySem.W.findIn K (.ref C_Lattice) "__le__" = some (some (.ref f_Lattice___le__)))
    (mi_Lattice___le__ : PySem.W.isFn K (.ref f_Lattice___le__) = true)
    (mk_Lattice___le__ : PySem.W.keepIn K (.ref f_Lattice___le__) = true)
    (l_Lattice___le__ : K.lookup f_Lattice___le__ = some ⟨oc_Lattice___le__, od_Lattice___le__, .func (PySem.W.fnOf "__le__" "Lattice.__le__" (defArgs s_Lattice___le__) (defBody s_Lattice___le__) (defScope s_Lattice___le__) .none kV_Lattice___le__ dc_Lattice___le__ pm_Lattice___le__ an_Lattice___le__ cd_Lattice___le__ ct_Lattice___le__), sl_Lattice___le__⟩)
    (d_Lattice___le__ : PySem.W.codeIn K cd_Lattice___le__ "Lattice.__le__" = true)
    (ma_Lattice___contains__ : PySem.W.findIn K (.ref C_Lattice) "__contains__" = some (some (.ref f_Lattice___contains__)))
    (mi_Lattice___contains__ : PySem.W.isFn K (.ref f_Lattice___contains__) = true)
    (mk_Lattice___contains__ : PySem.W.keepIn K (.ref f_Lattice___contains__) = true)
    (l_Lattice___contains__ : K.lookup f_Lattice___contains__ = some ⟨oc_Lattice___contains__, od_Lattice___contains__, .func (PySem.W.fnOf "__contains__" "Lattice.__contains__" (defArgs s_Lattice___contains__) (defBody s_Lattice___contains__) (defScope s_Lattice___contains__) .none kV_Lattice___contains__ dc_Lattice___contains__ pm_Lattice___contains__ an_Lattice___contains__ cd_Lattice___contains__ ct_Lattice___contains__), sl_Lattice___contains__⟩)
    (d_Lattice___contains__ : PySem.W.codeIn K cd_Lattice___contains__ "Lattice.__contains__" = true)
    (ma_Lattice_area : PySem.W.findIn K (.ref C_Lattice) "area" = some (some (.ref f_Lattice_area)))
    (mi_Lattice_area : PySem.W.isFn K (.ref f_Lattice_area) = true)
    (mk_Lattice_area : PySem.W.keepIn K (.ref f_Lattice_area) = true)
    (l_Lattice_area : K.lookup f_Lattice_area = some ⟨oc_Lattice_area, od_Lattice_area, .func (PySem.W.fnOf "area" "Lattice.area" (defArgs s_Lattice_area) (defBody s_Lattice_area) (defScope s_Lattice_area) .none kV_Lattice_area dc_Lattice_area pm_Lattice_area an_Lattice_area cd_Lattice_area ct_Lattice_area), sl_Lattice_area⟩)
    (d_Lattice_area : PySem.W.codeIn K cd_Lattice_area "Lattice.area" = true)
    (ma_Lattice_place : PySem.W.findIn K (.ref C_Lattice) "place" = some (some (.ref f_Lattice_place)))
    (mi_Lattice_place : PySem.W.isFn K (.ref f_Lattice_place) = true)
    (mk_Lattice_place : PySem.W.keepIn K (.ref f_Lattice_place) = true)
    (l_Lattice_place : K.lookup f_Lattice_place = some ⟨oc_Lattice_place, od_Lattice_place, .func (PySem.W.fnOf "place" "Lattice.place" (defArgs s_Lattice_place) (defBody s_Lattice_place) (defScope s_Lattice_place) .none kV_Lattice_place dc_Lattice_place pm_Lattice_place an_Lattice_place cd_Lattice_place ct_Lattice_place), sl_Lattice_place⟩)
    (d_Lattice_place : PySem.W.codeIn K cd_Lattice_place "Lattice.place" = true)
    (xa_BadNumber : PySem.W.nsIn K mainGlobals "BadNumber" = some (some (.ref C_BadNumber)))
    (xl_BadNumber : K.lookup C_BadNumber = some (excClassObj nm_BadNumber q_BadNumber C_BadNumber N_BadNumber bs_BadNumber bm_BadNumber true sn_BadNumber sub_BadNumber ab_BadNumber col_BadNumber dd_BadNumber m0_BadNumber m1_BadNumber m2_BadNumber m3_BadNumber m5_BadNumber "ValueError.__new__"))
    (xr_BadNumber : PySem.HandSPX.refsVE bm_BadNumber = true)
    (xs_BadNumber : PySem.W.findIn K (.ref C_BadNumber) "__setattr__" = some (some (.builtin "object.__setattr__")))
    (xe_BadNumber : PySem.W.subIn K (.ref C_BadNumber) (.type "BaseException") = some true)
    (xt_BadNumber : PySem.W.typeIn K (.ref C_BadNumber) = some (.type "type"))
    (xk_BadNumber : PySem.W.keepIn K (.ref C_BadNumber) = true)
    (xg_BadNumber : PySem.W.findIn K (.ref C_BadNumber) "__getattribute__" = some (some (.builtin "BaseException.__getattribute__")))
    (xG_BadNumber : PySem.W.findIn K (.ref C_BadNumber) "__getattr__" = some none)
    (xd_BadNumber : PySem.W.hasDictIn K C_BadNumber = true)
    (xn_BadNumber : PySem.W.findIn K (.ref C_BadNumber) "number" = some none)
    (xi_BadNumber : PySem.W.findIn K (.ref C_BadNumber) "__init__" = some (some (.ref fi_BadNumber)))
    (xf_BadNumber : PySem.W.typeIn K (.ref fi_BadNumber) = some (.type "function"))
    (xL_BadNumber : K.lookup fi_BadNumber = some ⟨ocx_BadNumber, odx_BadNumber, .func (PySem.W.fnOf "__init__" "BadNumber.__init__" (defArgs s_BadNumber___init__) (defBody s_BadNumber___init__) (defScope s_BadNumber___init__) .none kVx_BadNumber dcx_BadNumber pmx_BadNumber anx_BadNumber cdx_BadNumber ctx_BadNumber), slx_BadNumber⟩)
    (xc_BadNumber : PySem.W.codeIn K cdx_BadNumber "BadNumber.__init__" = true)
    (xK_BadNumber : PySem.W.keepIn K (.ref fi_BadNumber) = true)
    (yc_BadNumber : (PySem.W.clsIn K C_BadNumber).isSome = true)
    (ya_BadNumber : PySem.W.findIn K (.ref C_BadNumber) "__class__" = some (some (.builtin "object.__class__")))
    (ym_BadNumber : PySem.W.mroIn K C_BadNumber (.type "object") = some true)
    (xa_BadPart : PySem.W.nsIn K mainGlobals "BadPart" = some (some (.ref C_BadPart)))
    (xl_BadPart : K.lookup C_BadPart = some (excClassObj nm_BadPart q_BadPart C_BadPart N_BadPart bs_BadPart bm_BadPart true sn_BadPart sub_BadPart ab_BadPart col_BadPart dd_BadPart m0_BadPart m1_BadPart m2_BadPart m3_BadPart m5_BadPart "ValueError.__new__"))
    (xr_BadPart : PySem.HandSPX.refsVE bm_BadPart = true)
    (xs_BadPart : PySem.W.findIn K (.ref C_BadPart) "__setattr__" = some (some (.builtin "object.__setattr__")))
    (xe_BadPart : PySem.W.subIn K (.ref C_BadPart) (.type "BaseException") = some true)
    (xt_BadPart : PySem.W.typeIn K (.ref C_BadPart) = some (.type "type"))
    (xk_BadPart : PySem.W.keepIn K (.ref C_BadPart) = true)
    (xg_BadPart : PySem.W.findIn K (.ref C_BadPart) "__getattribute__" = some (some (.builtin "BaseException.__getattribute__")))
    (xG_BadPart : PySem.W.findIn K (.ref C_BadPart) "__getattr__" = some none)
    (xd_BadPart : PySem.W.hasDictIn K C_BadPart = true)
    (xn_BadPart : PySem.W.findIn K (.ref C_BadPart) "part" = some none)
    (xi_BadPart : PySem.W.findIn K (.ref C_BadPart) "__init__" = some (some (.ref fi_BadPart)))
    (xf_BadPart : PySem.W.typeIn K (.ref fi_BadPart) = some (.type "function"))
    (xL_BadPart : K.lookup fi_BadPart = some ⟨ocx_BadPart, odx_BadPart, .func (PySem.W.fnOf "__init__" "BadPart.__init__" (defArgs s_BadPart___init__) (defBody s_BadPart___init__) (defScope s_BadPart___init__) .none kVx_BadPart dcx_BadPart pmx_BadPart anx_BadPart cdx_BadPart ctx_BadPart), slx_BadPart⟩)
    (xc_BadPart : PySem.W.codeIn K cdx_BadPart "BadPart.__init__" = true)
    (xK_BadPart : PySem.W.keepIn K (.ref fi_BadPart) = true)
    (yc_BadPart : (PySem.W.clsIn K C_BadPart).isSome = true)
    (ya_BadPart : PySem.W.findIn K (.ref C_BadPart) "__class__" = some (some (.builtin "object.__class__")))
    (ym_BadPart : PySem.W.mroIn K C_BadPart (.type "object") = some true)
    (xa_NotSo : PySem.W.nsIn K mainGlobals "NotSo" = some (some (.ref C_NotSo)))
    (xl_NotSo : K.lookup C_NotSo = some (excClassObj nm_NotSo q_NotSo C_NotSo N_NotSo bs_NotSo bm_NotSo true sn_NotSo sub_NotSo ab_NotSo col_NotSo dd_NotSo m0_NotSo m1_NotSo m2_NotSo m3_NotSo m5_NotSo "ValueError.__new__"))
    (xr_NotSo : PySem.HandSPX.refsVE bm_NotSo = true)
    (xs_NotSo : PySem.W.findIn K (.ref C_NotSo) "__setattr__" = some (some (.builtin "object.__setattr__")))
    (xe_NotSo : PySem.W.subIn K (.ref C_NotSo) (.type "BaseException") = some true)
    (xt_NotSo : PySem.W.typeIn K (.ref C_NotSo) = some (.type "type"))
    (xk_NotSo : PySem.W.keepIn K (.ref C_NotSo) = true)
    (xg_NotSo : PySem.W.findIn K (.ref C_NotSo) "__getattribute__" = some (some (.builtin "BaseException.__getattribute__")))
    (xG_NotSo : PySem.W.findIn K (.ref C_NotSo) "__getattr__" = some none)
    (xd_NotSo : PySem.W.hasDictIn K C_NotSo = true)
    (xn_NotSo : PySem.W.findIn K (.ref C_NotSo) "word" = some none)
    (xi_NotSo : PySem.W.findIn K (.ref C_NotSo) "__init__" = some (some (.ref fi_NotSo)))
    (xf_NotSo : PySem.W.typeIn K (.ref fi_NotSo) = some (.type "function"))
    (xL_NotSo : K.lookup fi_NotSo = some ⟨ocx_NotSo, odx_NotSo, .func (PySem.W.fnOf "__init__" "NotSo.__init__" (defArgs s_NotSo___init__) (defBody s_NotSo___init__) (defScope s_NotSo___init__) .none kVx_NotSo dcx_NotSo pmx_NotSo anx_NotSo cdx_NotSo ctx_NotSo), slx_NotSo⟩)
    (xc_NotSo : PySem.W.codeIn K cdx_NotSo "NotSo.__init__" = true)
    (xK_NotSo : PySem.W.keepIn K (.ref fi_NotSo) = true)
    (yc_NotSo : (PySem.W.clsIn K C_NotSo).isSome = true)
    (ya_NotSo : PySem.W.findIn K (.ref C_NotSo) "__class__" = some (some (.builtin "object.__class__")))
    (ym_NotSo : PySem.W.mroIn K C_NotSo (.type "object") = some true)
    (yn : PySem.W.specialIn K (.builtin "object.__class__") "__get__" = some (some (.builtin "getset_descriptor.__get__")))
    (yt : PySem.W.takesIn K (.builtin "object.__class__") = some true)
    (xa_BadIndex : PySem.W.nsIn K mainGlobals "BadIndex" = some (some (.ref C_BadIndex)))
    (xa_TooMany : PySem.W.nsIn K mainGlobals "TooMany" = some (some (.ref C_TooMany)))
    (ePP : PySem.W.exmOne K (.ref C_BadPart) (.ref C_BadPart) = some true)
    (eSP : PySem.W.exmOne K (.ref C_NotSo) (.ref C_BadPart) = some false)
    (eSN : PySem.W.exmOne K (.ref C_NotSo) (.ref C_BadNumber) = some false)
    (eSI : PySem.W.exmOne K (.ref C_NotSo) (.ref C_BadIndex) = some false)
    (eSS : PySem.W.exmOne K (.ref C_NotSo) (.ref C_NotSo) = some true)
    (kNL : PySem.W.kitOne K (.type "NoneType") (.ref C_Lattice) = some false)
    (kTL : PySem.W.kitOne K (.type "tuple") (.ref C_Lattice) = some false)
    (kSL : PySem.W.kitOne K (.type "str") (.ref C_Lattice) = some false)
    (kIL : PySem.W.kitOne K (.type "int") (.ref C_Lattice) = some false)
    (ne_Lattice : PySem.W.findIn K (.ref C_Lattice) "__ne__" = some (some (.builtin "object.__ne__")))
    (pne : P__law_spanned_right ≠ P_law)
    (z_isinstance : PySem.W.nsIn K mainGlobals "isinstance" = some none)
    (z_int : PySem.W.nsIn K mainGlobals "int" = some none)
    (z_bool : PySem.W.nsIn K mainGlobals "bool" = some none)
    (z_tuple : PySem.W.nsIn K mainGlobals "tuple" = some none)
    (z_len : PySem.W.nsIn K mainGlobals "len" = some none)
    (z_abs : PySem.W.nsIn K mainGlobals "abs" = some none)
    (z_list : PySem.W.nsIn K mainGlobals "list" = some none)
    (z_range : PySem.W.nsIn K mainGlobals "range" = some none)
    (z_repr : PySem.W.nsIn K mainGlobals "repr" = some none)
    (z_max : PySem.W.nsIn K mainGlobals "max" = some none)
    (z_min : PySem.W.nsIn K mainGlobals "min" = some none) : Txt K mg :=
  { d_is_whole := ⟨_, _, PySem.W.mg_of X G a_is_whole, fun_mk (st := s_is_whole) l_is_whole d_is_whole k_is_whole⟩,
    d_is_from := ⟨_, _, PySem.W.mg_of X G a_is_from, fun_mk (st := s_is_from) l_is_from d_is_from k_is_from⟩,
    d_is_pair := ⟨_, _, PySem.W.mg_of X G a_is_pair, fun_mk (st := s_is_pair) l_is_pair d_is_pair k_is_pair⟩,
    d_require_whole := ⟨_, _, PySem.W.mg_of X G a_require_whole, fun_mk (st := s_require_whole) l_require_whole d_require_whole k_require_whole⟩,
    d_require_from := ⟨_, _, PySem.W.mg_of X G a_require_from, fun_mk (st := s_require_from) l_require_from d_require_from k_require_from⟩,
    d_require_pair := ⟨_, _, PySem.W.mg_of X G a_require_pair, fun_mk (st := s_require_pair) l_require_pair d_require_pair k_require_pair⟩,
    d_greatest_divisor := ⟨_, _, PySem.W.mg_of X G a_greatest_divisor, fun_mk (st := s_greatest_divisor) l_greatest_divisor d_greatest_divisor k_greatest_divisor⟩,
    d_least_multiple := ⟨_, _, PySem.W.mg_of X G a_least_multiple, fun_mk (st := s_least_multiple) l_least_multiple d_least_multiple k_least_multiple⟩,
    d_weighed_divisor := ⟨_, _, PySem.W.mg_of X G a_weighed_divisor, fun_mk (st := s_weighed_divisor) l_weighed_divisor d_weighed_divisor k_weighed_divisor⟩,
    d_remainder_of := ⟨_, _, PySem.W.mg_of X G a_remainder_of, fun_mk (st := s_remainder_of) l_remainder_of d_remainder_of k_remainder_of⟩,
    d_both_remainders := ⟨_, _, PySem.W.mg_of X G a_both_remainders, fun_mk (st := s_both_remainders) l_both_remainders d_both_remainders k_both_remainders⟩,
    d__require_remainder := ⟨_, _, PySem.W.mg_of X G a__require_remainder, fun_mk (st := s__require_remainder) l__require_remainder d__require_remainder k__require_remainder⟩,
    d_is_shift := ⟨_, _, PySem.W.mg_of X G a_is_shift, fun_mk (st := s_is_shift) l_is_shift d_is_shift k_is_shift⟩,
    d_require_lattice_numbers := ⟨_, _, PySem.W.mg_of X G a_require_lattice_numbers, fun_mk (st := s_require_lattice_numbers) l_require_lattice_numbers d_require_lattice_numbers k_require_lattice_numbers⟩,
    d_require_lattice := ⟨_, _, PySem.W.mg_of X G a_require_lattice, fun_mk (st := s_require_lattice) l_require_lattice d_require_lattice k_require_lattice⟩,
    d_spanned := ⟨_, _, PySem.W.mg_of X G a_spanned, fun_mk (st := s_spanned) l_spanned d_spanned k_spanned⟩,
    d_common_lattice := ⟨_, _, PySem.W.mg_of X G a_common_lattice, fun_mk (st := s_common_lattice) l_common_lattice d_common_lattice k_common_lattice⟩,
    d_joined_lattice := ⟨_, _, PySem.W.mg_of X G a_joined_lattice, fun_mk (st := s_joined_lattice) l_joined_lattice d_joined_lattice k_joined_lattice⟩,
    d__law_opened := ⟨_, _, PySem.W.mg_of X G a__law_opened, fun_mk (st := s__law_opened) l__law_opened d__law_opened k__law_opened⟩,
    d__law_draw := ⟨_, _, PySem.W.mg_of X G a__law_draw, fun_mk (st := s__law_draw) l__law_draw d__law_draw k__law_draw⟩,
    d__law_pick := ⟨_, _, PySem.W.mg_of X G a__law_pick, fun_mk (st := s__law_pick) l__law_pick d__law_pick k__law_pick⟩,
    d__law_three := ⟨_, _, PySem.W.mg_of X G a__law_three, fun_mk (st := s__law_three) l__law_three d__law_three k__law_three⟩,
    d__law_place := ⟨_, _, PySem.W.mg_of X G a__law_place, fun_mk (st := s__law_place) l__law_place d__law_place k__law_place⟩,
    d__law_holds := ⟨_, _, PySem.W.mg_of X G a__law_holds, fun_mk (st := s__law_holds) l__law_holds d__law_holds k__law_holds⟩,
    d__law_refused := ⟨_, _, PySem.W.mg_of X G a__law_refused, fun_mk (st := s__law_refused) l__law_refused d__law_refused k__law_refused⟩,
    d__law_is_sum := ⟨_, _, PySem.W.mg_of X G a__law_is_sum, fun_mk (st := s__law_is_sum) l__law_is_sum d__law_is_sum k__law_is_sum⟩,
    lam__law_spanned_right := lamf_mk X G a__law_spanned_right l__law_spanned_right d__law_spanned_right k__law_spanned_right t__law_spanned_right,
    d__law_two_right := ⟨_, _, PySem.W.mg_of X G a__law_two_right, fun_mk (st := s__law_two_right) l__law_two_right d__law_two_right k__law_two_right⟩,
    lam_law := lamf_mk X G a_law l_law d_law k_law t_law,
    ci_Lattice := by rw [ga_of xa_Lattice]; exact ⟨⟨pg_Lattice, hd_Lattice, po_Lattice, sa_Lattice⟩, ya_Lattice, yn, yt, ym_Lattice⟩,
    c_Lattice := by rw [ga_of xa_Lattice]; exact ⟨pg_Lattice, hd_Lattice, po_Lattice, sa_Lattice⟩,
    g_Lattice := by rw [ga_of xa_Lattice]; exact PySem.W.mg_of X G xa_Lattice,
    na_Lattice_a := by rw [ga_of xa_Lattice]; exact na_Lattice_a,
    na_Lattice_b := by rw [ga_of xa_Lattice]; exact na_Lattice_b,
    na_Lattice_d := by rw [ga_of xa_Lattice]; exact na_Lattice_d,
    d_Lattice___init__ := by rw [ga_of xa_Lattice]; exact ⟨_, _, ⟨mm_Lattice, ma_Lattice___init__, mi_Lattice___init__, kc_Lattice⟩, ⟨⟨_, _, _, _, _, _, _, _, _, _, rfl, l_Lattice___init__, d_Lattice___init__, .inl ⟨rfl, rfl⟩, .inl rfl⟩, mk_Lattice___init__⟩⟩,
    d_Lattice___eq__ := by rw [ga_of xa_Lattice]; exact ⟨_, _, ⟨ma_Lattice___eq__, mi_Lattice___eq__, mk_Lattice___eq__⟩, ⟨⟨_, _, _, _, _, _, _, _, _, _, rfl, l_Lattice___eq__, d_Lattice___eq__, .inl ⟨rfl, rfl⟩, .inl rfl⟩, mk_Lattice___eq__⟩⟩,
    d_Lattice___le__ := by rw [ga_of xa_Lattice]; exact ⟨_, _, ⟨ma_Lattice___le__, mi_Lattice___le__, mk_Lattice___le__⟩, ⟨⟨_, _, _, _, _, _, _, _, _, _, rfl, l_Lattice___le__, d_Lattice___le__, .inl ⟨rfl, rfl⟩, .inl rfl⟩, mk_Lattice___le__⟩⟩,
    d_Lattice___contains__ := by rw [ga_of xa_Lattice]; exact ⟨_, _, ⟨ma_Lattice___contains__, mi_Lattice___contains__, mk_Lattice___contains__⟩, ⟨⟨_, _, _, _, _, _, _, _, _, _, rfl, l_Lattice___contains__, d_Lattice___contains__, .inl ⟨rfl, rfl⟩, .inl rfl⟩, mk_Lattice___contains__⟩⟩,
    d_Lattice_area := by rw [ga_of xa_Lattice]; exact ⟨_, _, ⟨ma_Lattice_area, mi_Lattice_area, mk_Lattice_area⟩, ⟨⟨_, _, _, _, _, _, _, _, _, _, rfl, l_Lattice_area, d_Lattice_area, .inl ⟨rfl, rfl⟩, .inl rfl⟩, mk_Lattice_area⟩⟩,
    d_Lattice_place := by rw [ga_of xa_Lattice]; exact ⟨_, _, ⟨ma_Lattice_place, mi_Lattice_place, mk_Lattice_place⟩, ⟨⟨_, _, _, _, _, _, _, _, _, _, rfl, l_Lattice_place, d_Lattice_place, .inl ⟨rfl, rfl⟩, .inl rfl⟩, mk_Lattice_place⟩⟩,
    x_BadNumber := ext_mk (st := s_BadNumber___init__) X G xa_BadNumber xl_BadNumber xr_BadNumber xs_BadNumber xe_BadNumber xt_BadNumber xk_BadNumber xg_BadNumber xG_BadNumber xd_BadNumber xn_BadNumber xi_BadNumber xf_BadNumber xL_BadNumber xc_BadNumber xK_BadNumber sc_BadNumber___init__ rfl (fun _ _ _ _ _ _ us hl => match us, hl with | [_, _], _ => rfl),
    x_BadPart := ext_mk (st := s_BadPart___init__) X G xa_BadPart xl_BadPart xr_BadPart xs_BadPart xe_BadPart xt_BadPart xk_BadPart xg_BadPart xG_BadPart xd_BadPart xn_BadPart xi_BadPart xf_BadPart xL_BadPart xc_BadPart xK_BadPart sc_BadPart___init__ rfl (fun _ _ _ _ _ _ us hl => match us, hl with | [_, _], _ => rfl),
    x_NotSo := ext_mk (st := s_NotSo___init__) X G xa_NotSo xl_NotSo xr_NotSo xs_NotSo xe_NotSo xt_NotSo xk_NotSo xg_NotSo xG_NotSo xd_NotSo xn_NotSo xi_NotSo xf_NotSo xL_NotSo xc_NotSo xK_NotSo sc_NotSo___init__ rfl (fun _ _ _ _ _ _ us hl => match us, hl with | [_, _], _ => rfl),
    kNL := by rw [ga_of xa_Lattice]; exact kNL,
    kTL := by rw [ga_of xa_Lattice]; exact kTL,
    kSL := by rw [ga_of xa_Lattice]; exact kSL,
    kIL := by rw [ga_of xa_Lattice]; exact kIL,
    ne_Lattice := by rw [ga_of xa_Lattice]; exact ne_Lattice,
    pne := by unfold pOf; rw [t__law_spanned_right, t_law]; exact pne,
    mPP := by rw [ga_of xa_BadPart]; exact ePP,
    mSP := by rw [ga_of xa_NotSo, ga_of xa_BadPart]; exact eSP,
    mSN := by rw [ga_of xa_NotSo, ga_of xa_BadNumber]; exact eSN,
    mSI := by rw [ga_of xa_NotSo, ga_of xa_BadIndex]; exact eSI,
    mSS := by rw [ga_of xa_NotSo]; exact eSS,
    gI := by rw [ga_of xa_BadIndex]; exact PySem.W.mg_of X G xa_BadIndex,
    gM := by rw [ga_of xa_TooMany]; exact PySem.W.mg_of X G xa_TooMany,
    m_isinstance := PySem.W.mg_none_of X G z_isinstance,
    m_int := PySem.W.mg_none_of X G z_int,
    m_bool := PySem.W.mg_none_of X G z_bool,
    m_tuple := PySem.W.mg_none_of X G z_tuple,
    m_len := PySem.W.mg_none_of X G z_len,
    m_abs := PySem.W.mg_none_of X G z_abs,
    m_list := PySem.W.mg_none_of X G z_list,
    m_range := PySem.W.mg_none_of X G z_range,
    m_repr := PySem.W.mg_none_of X G z_repr,
    m_max := PySem.W.mg_none_of X G z_max,
    m_min := PySem.W.mg_none_of X G z_min }
open LamX
theorem law_at {l : PySem.W.OpenLaw} {h : Heap} {fa c P0 c1 P1 : Addr} (X : K.In h) (hmg : mg "law" = some (.ref fa)) (T : Txt K mg) (ht : PySem.W.tabIn K "law" = some (c, P0)) (hc : PySem.W.codeHdIn K c P0 = true) (hP : h.get? P0 = some (PySem.W.tabObj #[])) (hn : K.lookup P0 = none)
    (ht1 : PySem.W.tabIn K "_law_spanned_right" = some (c1, P1)) (hc1 : PySem.W.codeHdIn K c1 P1 = true) (hP1 : h.get? P1 = some (PySem.W.tabObj #[])) (hn1 : K.lookup P1 = none) : LawAtS l w K (L2.CX l.prog w) 12 63 "_law_script" mg fa h := by
  obtain ⟨f, oc, od, kV, doc, pm, an, ct, osl, g, kp, lk, hcd⟩ := T.lam_law.ex
  have e : f = fa := by
    have h1 : some (Value.ref f) = some (Value.ref fa) := g.symm.trans hmg
    injection h1 with h2
    injection h2
  subst e
  have e1 : cOf K "law" = c := by unfold cOf; rw [ht]; rfl
  have e2 : pOf K "law" = P0 := by unfold pOf; rw [ht]; rfl
  have e3 : cOf K "_law_spanned_right" = c1 := by unfold cOf; rw [ht1]; rfl
  have e4 : pOf K "_law_spanned_right" = P1 := by unfold pOf; rw [ht1]; rfl
  have two : ∀ {R : Addr × Addr → Prop}, R (c, P0) → R (c1, P1) → ∀ p ∈ [(c, P0), (c1, P1)], R p := fun r0 r1 p hp => by
    simp only [List.mem_cons, List.not_mem_nil, or_false] at hp
    rcases hp with rfl | rfl
    · exact r0
    · exact r1
  refine ⟨PySem.W.fnOf "law" "law" (defArgs s_law) (defBody s_law) (defScope s_law) .none kV doc pm an (.ref (cOf K "law")) ct, [(c, P0), (c1, P1)], spLaw K, two hP hP1, two hn hn1, two (PySem.W.codeHd_of_K X hc) (PySem.W.codeHd_of_K X hc1), fun s u => .of_eq rfl, ?_, ?_⟩
  · intro H a ns hl _ hT hS
    refine ⟨a, rfl, ns, hS, hl, ?_, fun _ => rfl⟩
    intro p hp
    simp only [List.mem_cons, List.not_mem_nil, or_false] at hp
    rcases hp with rfl | rfl
    · rw [e4]; exact TabS.nil (hT _ (List.mem_cons_of_mem _ List.mem_cons_self))
    · rw [e2]; exact TabS.nil (hT _ List.mem_cons_self)
  · intro base kb nb hTB
    refine fn_of lk hcd sc_law (fun vs H Q E h => by obtain ⟨_, rfl, _⟩ := h; rfl) fun A outer s H vs Q E hr hsp => o_law T ?_ ?_ f A outer s H vs Q E hr hsp
    · rw [e1, e2]; exact hTB _ List.mem_cons_self
    · rw [e3, e4]; exact hTB _ (List.mem_cons_of_mem _ List.mem_cons_self)
end
end Iz
/-! k09_end -/
set_option Elab.async false
set_option linter.all false
open PySem PySem.W PyProof.Rows
set_option maxRecDepth 100000 in
set_option maxHeartbeats 0 in
theorem PySem.Challenge.cw_endlessplane_k09_whole_lattices_put_toge_holds : PySem.Challenge.rw_endlessplane_k09_whole_lattices_put_toge.Holds := by
  w_on; o_law; k_head; (case hw => w_witness2)
  k_fill
  refine LamX.walk_ofTs (l := PySem.Challenge.rw_endlessplane_k09_whole_lattices_put_toge) (n := 63) (k := 12) (x := "_law_script") (CX := fun w => L2.CX PySem.Challenge.rw_endlessplane_k09_whole_lattices_put_toge.prog w) rfl (by decide) rfl ⟨rfl, by decide, by decide⟩ (fun w h Y => PySem.W.km_in_of Y) ?F ?X
  case X =>
    intro w H s e s' hx
    obtain ⟨_, _, _, _, _, _, _, _, _, _, _, _, z⟩ := hx
    exact z.elim
  case F =>
    intro w mg fa h Y KX G hmg
    refine' Iz.law_at KX hmg (Iz.txt_mk KX G ?a_is_whole ?l_is_whole ?d_is_whole ?k_is_whole ?a_is_from ?l_is_from ?d_is_from ?k_is_from ?a_is_pair ?l_is_pair ?d_is_pair ?k_is_pair ?a_require_whole ?l_require_whole ?d_require_whole ?k_require_whole ?a_require_from ?l_require_from ?d_require_from ?k_require_from ?a_require_pair ?l_require_pair ?d_require_pair ?k_require_pair ?a_greatest_divisor ?l_greatest_divisor ?d_greatest_divisor ?k_greatest_divisor ?a_least_multiple ?l_least_multiple ?d_least_multiple ?k_least_multiple ?a_weighed_divisor ?l_weighed_divisor ?d_weighed_divisor ?k_weighed_divisor ?a_remainder_of ?l_remainder_of ?d_remainder_of ?k_remainder_of ?a_both_remainders ?l_both_remainders ?d_both_remainders ?k_both_remainders ?a__require_remainder ?l__require_remainder ?d__require_remainder ?k__require_remainder ?a_is_shift ?l_is_shift ?d_is_shift ?k_is_shift ?a_require_lattice_numbers ?l_require_lattice_numbers ?d_require_lattice_numbers ?k_require_lattice_numbers ?a_require_lattice ?l_require_lattice ?d_require_lattice ?k_require_lattice ?a_spanned ?l_spanned ?d_spanned ?k_spanned ?a_common_lattice ?l_common_lattice ?d_common_lattice ?k_common_lattice ?a_joined_lattice ?l_joined_lattice ?d_joined_lattice ?k_joined_lattice ?a__law_opened ?l__law_opened ?d__law_opened ?k__law_opened ?a__law_draw ?l__law_draw ?d__law_draw ?k__law_draw ?a__law_pick ?l__law_pick ?d__law_pick ?k__law_pick ?a__law_three ?l__law_three ?d__law_three ?k__law_three ?a__law_place ?l__law_place ?d__law_place ?k__law_place ?a__law_holds ?l__law_holds ?d__law_holds ?k__law_holds ?a__law_refused ?l__law_refused ?d__law_refused ?k__law_refused ?a__law_is_sum ?l__law_is_sum ?d__law_is_sum ?k__law_is_sum ?a__law_spanned_right ?l__law_spanned_right ?d__law_spanned_right ?k__law_spanned_right ?t__law_spanned_right ?a__law_two_right ?l__law_two_right ?d__law_two_right ?k__law_two_right ?a_law ?l_law ?d_law ?k_law ?t_law ?xa_Lattice ?pg_Lattice ?hd_Lattice ?po_Lattice ?sa_Lattice ?mm_Lattice ?kc_Lattice ?ya_Lattice ?ym_Lattice ?na_Lattice_a ?na_Lattice_b ?na_Lattice_d ?ma_Lattice___init__ ?mi_Lattice___init__ ?mk_Lattice___init__ ?l_Lattice___init__ ?d_Lattice___init__ ?ma_Lattice___eq__ ?mi_Lattice___eq__ ?mk_Lattice___eq__ ?l_Lattice___eq__ ?d_Lattice___eq__ ?ma_Lattice___le__ ?mi_Lattice___le__ ?mk_Lattice___le__ ?l_Lattice___le__ ?d_Lattice___le__ ?ma_Lattice___contains__ ?mi_Lattice___contains__ ?mk_Lattice___contains__ ?l_Lattice___contains__ ?d_Lattice___contains__ ?ma_Lattice_area ?mi_Lattice_area ?mk_Lattice_area ?l_Lattice_area ?d_Lattice_area ?ma_Lattice_place ?mi_Lattice_place ?mk_Lattice_place ?l_Lattice_place ?d_Lattice_place ?xa_BadNumber ?xl_BadNumber ?xr_BadNumber ?xs_BadNumber ?xe_BadNumber ?xt_BadNumber ?xk_BadNumber ?xg_BadNumber ?xG_BadNumber ?xd_BadNumber ?xn_BadNumber ?xi_BadNumber ?xf_BadNumber ?xL_BadNumber ?xc_BadNumber ?xK_BadNumber ?yc_BadNumber ?ya_BadNumber ?ym_BadNumber ?xa_BadPart ?xl_BadPart ?xr_BadPart ?xs_BadPart ?xe_BadPart ?xt_BadPart ?xk_BadPart ?xg_BadPart ?xG_BadPart ?xd_BadPart ?xn_BadPart ?xi_BadPart ?xf_BadPart ?xL_BadPart ?xc_BadPart ?xK_BadPart ?yc_BadPart ?ya_BadPart ?ym_BadPart ?xa_NotSo ?xl_NotSo ?xr_NotSo ?xs_NotSo ?xe_NotSo ?xt_NotSo ?xk_NotSo ?xg_NotSo ?xG_NotSo ?xd_NotSo ?xn_NotSo ?xi_NotSo ?xf_NotSo ?xL_NotSo ?xc_NotSo ?xK_NotSo ?yc_NotSo ?ya_NotSo ?ym_NotSo ?yn ?yt ?xa_BadIndex ?xa_TooMany ?ePP ?eSP ?eSN ?eSI ?eSS ?kNL ?kTL ?kSL ?kIL ?ne_Lattice ?pne ?z_isinstance ?z_int ?z_bool ?z_tuple ?z_len ?z_abs ?z_list ?z_range ?z_repr ?z_max ?z_min) ?T1 ?T2 (PySem.W.km_tabs_of Y _ ?T3) ?T4 ?U1 ?U2 (PySem.W.km_tabs_of Y _ ?U3) ?U4
    (case a_is_whole => k_is)
    (case l_is_whole => k_is)
    (case d_is_whole => k_is)
    (case k_is_whole => k_is)
    (case a_is_from => k_is)
    (case l_is_from => k_is)
    (case d_is_from => k_is)
    (case k_is_from => k_is)
    (case a_is_pair => k_is)
    (case l_is_pair => k_is)
    (case d_is_pair => k_is)
    (case k_is_pair => k_is)
    (case a_require_whole => k_is)
    (case l_require_whole => k_is)
    (case d_require_whole => k_is)
    (case k_require_whole => k_is)
    (case a_require_from => k_is)
    (case l_require_from => k_is)
    (case d_require_from => k_is)
    (case k_require_from => k_is)
    (case a_require_pair => k_is)
    (case l_require_pair => k_is)
    (case d_require_pair => k_is)
    (case k_require_pair => k_is)
    (case a_greatest_divisor => k_is)
    (case l_greatest_divisor => k_is)
    (case d_greatest_divisor => k_is)
    (case k_greatest_divisor => k_is)
    (case a_least_multiple => k_is)
    (case l_least_multiple => k_is)
    (case d_least_multiple => k_is)
    (case k_least_multiple => k_is)
    (case a_weighed_divisor => k_is)
    (case l_weighed_divisor => k_is)
    (case d_weighed_divisor => k_is)
    (case k_weighed_divisor => k_is)
    (case a_remainder_of => k_is)
    (case l_remainder_of => k_is)
    (case d_remainder_of => k_is)
    (case k_remainder_of => k_is)
    (case a_both_remainders => k_is)
    (case l_both_remainders => k_is)
    (case d_both_remainders => k_is)
    (case k_both_remainders => k_is)
    (case a__require_remainder => k_is)
    (case l__require_remainder => k_is)
    (case d__require_remainder => k_is)
    (case k__require_remainder => k_is)
    (case a_is_shift => k_is)
    (case l_is_shift => k_is)
    (case d_is_shift => k_is)
    (case k_is_shift => k_is)
    (case a_require_lattice_numbers => k_is)
    (case l_require_lattice_numbers => k_is)
    (case d_require_lattice_numbers => k_is)
    (case k_require_lattice_numbers => k_is)
    (case a_require_lattice => k_is)
    (case l_require_lattice => k_is)
    (case d_require_lattice => k_is)
    (case k_require_lattice => k_is)
    (case a_spanned => k_is)
    (case l_spanned => k_is)
    (case d_spanned => k_is)
    (case k_spanned => k_is)
    (case a_common_lattice => k_is)
    (case l_common_lattice => k_is)
    (case d_common_lattice => k_is)
    (case k_common_lattice => k_is)
    (case a_joined_lattice => k_is)
    (case l_joined_lattice => k_is)
    (case d_joined_lattice => k_is)
    (case k_joined_lattice => k_is)
    (case a__law_opened => k_is)
    (case l__law_opened => k_is)
    (case d__law_opened => k_is)
    (case k__law_opened => k_is)
    (case a__law_draw => k_is)
    (case l__law_draw => k_is)
    (case d__law_draw => k_is)
    (case k__law_draw => k_is)
    (case a__law_pick => k_is)
    (case l__law_pick => k_is)
    (case d__law_pick => k_is)
    (case k__law_pick => k_is)
    (case a__law_three => k_is)
    (case l__law_three => k_is)
    (case d__law_three => k_is)
    (case k__law_three => k_is)
    (case a__law_place => k_is)
    (case l__law_place => k_is)
    (case d__law_place => k_is)
    (case k__law_place => k_is)
    (case a__law_holds => k_is)
    (case l__law_holds => k_is)
    (case d__law_holds => k_is)
    (case k__law_holds => k_is)
    (case a__law_refused => k_is)
    (case l__law_refused => k_is)
    (case d__law_refused => k_is)
    (case k__law_refused => k_is)
    (case a__law_is_sum => k_is)
    (case l__law_is_sum => k_is)
    (case d__law_is_sum => k_is)
    (case k__law_is_sum => k_is)
    (case a__law_spanned_right => k_is)
    (case l__law_spanned_right => k_is)
    (case d__law_spanned_right => k_is)
    (case k__law_spanned_right => k_is)
    (case t__law_spanned_right => first | rfl | (with_unfolding_all rfl) | kernel_rfl | decide | k_is)
    (case a__law_two_right => k_is)
    (case l__law_two_right => k_is)
    (case d__law_two_right => k_is)
    (case k__law_two_right => k_is)
    (case a_law => k_is)
    (case l_law => k_is)
    (case d_law => k_is)
    (case k_law => k_is)
    (case t_law => first | rfl | (with_unfolding_all rfl) | kernel_rfl | decide | k_is)
    (case xa_Lattice => k_is)
    (case pg_Lattice => k_is)
    (case hd_Lattice => k_is)
    (case po_Lattice => k_is)
    (case sa_Lattice => k_is)
    (case mm_Lattice => k_is)
    (case kc_Lattice => k_is)
    (case ya_Lattice => k_is)
    (case ym_Lattice => k_is)
    (case na_Lattice_a => k_is)
    (case na_Lattice_b => k_is)
    (case na_Lattice_d => k_is)
    (case ma_Lattice___init__ => k_is)
    (case mi_Lattice___init__ => k_is)
    (case mk_Lattice___init__ => k_is)
    (case l_Lattice___init__ => k_is)
    (case d_Lattice___init__ => k_is)
    (case ma_Lattice___eq__ => k_is)
    (case mi_Lattice___eq__ => k_is)
    (case mk_Lattice___eq__ => k_is)
    (case l_Lattice___eq__ => k_is)
    (case d_Lattice___eq__ => k_is)
    (case ma_Lattice___le__ => k_is)
    (case mi_Lattice___le__ => k_is)
    (case mk_Lattice___le__ => k_is)
    (case l_Lattice___le__ => k_is)
    (case d_Lattice___le__ => k_is)
    (case ma_Lattice___contains__ => k_is)
    (case mi_Lattice___contains__ => k_is)
    (case mk_Lattice___contains__ => k_is)
    (case l_Lattice___contains__ => k_is)
    (case d_Lattice___contains__ => k_is)
    (case ma_Lattice_area => k_is)
    (case mi_Lattice_area => k_is)
    (case mk_Lattice_area => k_is)
    (case l_Lattice_area => k_is)
    (case d_Lattice_area => k_is)
    (case ma_Lattice_place => k_is)
    (case mi_Lattice_place => k_is)
    (case mk_Lattice_place => k_is)
    (case l_Lattice_place => k_is)
    (case d_Lattice_place => k_is)
    (case xa_BadNumber => k_is)
    (case xl_BadNumber => k_is)
    (case xr_BadNumber => first | rfl | (with_unfolding_all rfl) | kernel_rfl | decide | k_is)
    (case xs_BadNumber => k_is)
    (case xe_BadNumber => k_is)
    (case xt_BadNumber => k_is)
    (case xk_BadNumber => k_is)
    (case xg_BadNumber => k_is)
    (case xG_BadNumber => k_is)
    (case xd_BadNumber => k_is)
    (case xn_BadNumber => k_is)
    (case xi_BadNumber => k_is)
    (case xf_BadNumber => k_is)
    (case xL_BadNumber => k_is)
    (case xc_BadNumber => k_is)
    (case xK_BadNumber => k_is)
    (case yc_BadNumber => first | rfl | (with_unfolding_all rfl) | kernel_rfl | decide | k_is)
    (case ya_BadNumber => k_is)
    (case ym_BadNumber => k_is)
    (case xa_BadPart => k_is)
    (case xl_BadPart => k_is)
    (case xr_BadPart => first | rfl | (with_unfolding_all rfl) | kernel_rfl | decide | k_is)
    (case xs_BadPart => k_is)
    (case xe_BadPart => k_is)
    (case xt_BadPart => k_is)
    (case xk_BadPart => k_is)
    (case xg_BadPart => k_is)
    (case xG_BadPart => k_is)
    (case xd_BadPart => k_is)
    (case xn_BadPart => k_is)
    (case xi_BadPart => k_is)
    (case xf_BadPart => k_is)
    (case xL_BadPart => k_is)
    (case xc_BadPart => k_is)
    (case xK_BadPart => k_is)
    (case yc_BadPart => first | rfl | (with_unfolding_all rfl) | kernel_rfl | decide | k_is)
    (case ya_BadPart => k_is)
    (case ym_BadPart => k_is)
    (case xa_NotSo => k_is)
    (case xl_NotSo => k_is)
    (case xr_NotSo => first | rfl | (with_unfolding_all rfl) | kernel_rfl | decide | k_is)
    (case xs_NotSo => k_is)
    (case xe_NotSo => k_is)
    (case xt_NotSo => k_is)
    (case xk_NotSo => k_is)
    (case xg_NotSo => k_is)
    (case xG_NotSo => k_is)
    (case xd_NotSo => k_is)
    (case xn_NotSo => k_is)
    (case xi_NotSo => k_is)
    (case xf_NotSo => k_is)
    (case xL_NotSo => k_is)
    (case xc_NotSo => k_is)
    (case xK_NotSo => k_is)
    (case yc_NotSo => first | rfl | (with_unfolding_all rfl) | kernel_rfl | decide | k_is)
    (case ya_NotSo => k_is)
    (case ym_NotSo => k_is)
    (case yn => k_is)
    (case yt => k_is)
    (case xa_BadIndex => k_is)
    (case xa_TooMany => k_is)
    (case ePP => first | rfl | (with_unfolding_all rfl) | kernel_rfl | decide | k_is)
    (case eSP => first | rfl | (with_unfolding_all rfl) | kernel_rfl | decide | k_is)
    (case eSN => first | rfl | (with_unfolding_all rfl) | kernel_rfl | decide | k_is)
    (case eSI => first | rfl | (with_unfolding_all rfl) | kernel_rfl | decide | k_is)
    (case eSS => first | rfl | (with_unfolding_all rfl) | kernel_rfl | decide | k_is)
    (case kNL => first | rfl | (with_unfolding_all rfl) | kernel_rfl | decide | k_is)
    (case kTL => first | rfl | (with_unfolding_all rfl) | kernel_rfl | decide | k_is)
    (case kSL => first | rfl | (with_unfolding_all rfl) | kernel_rfl | decide | k_is)
    (case kIL => first | rfl | (with_unfolding_all rfl) | kernel_rfl | decide | k_is)
    (case ne_Lattice => first | rfl | (with_unfolding_all rfl) | kernel_rfl | decide | k_is)
    (case pne => first | rfl | (with_unfolding_all rfl) | kernel_rfl | decide | k_is)
    (case z_isinstance => k_is)
    (case z_int => k_is)
    (case z_bool => k_is)
    (case z_tuple => k_is)
    (case z_len => k_is)
    (case z_abs => k_is)
    (case z_list => k_is)
    (case z_range => k_is)
    (case z_repr => k_is)
    (case z_max => k_is)
    (case z_min => k_is)
    (case T1 => first | rfl | with_unfolding_all rfl); (case T2 => first | rfl | with_unfolding_all rfl); (case T3 => decide); (case T4 => first | k_is | rfl | with_unfolding_all rfl)
    (case U1 => first | rfl | with_unfolding_all rfl); (case U2 => first | rfl | with_unfolding_all rfl); (case U3 => decide); (case U4 => first | k_is | rfl | with_unfolding_all rfl)
