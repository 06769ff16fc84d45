import PyProof.Rows.All
import Wide.All
import OpenK.AllK
import Wide.FinOn
import HandS.ForMost
import HandS.ForExc
import HandS.ExcInit
import HandS.ExcField
import HandS.ExcIs
import HandS.IsInst
import HandS.Lambda
import HandS.EndTab
import HandS.Wide
import HandS.Style
import HandS.RaiseMore
import HandS.Flow
import HandS.HeadHook1
import KE.KExcIs
import PyProof.CallFns
import HandS.Defaults
import PyProof.WalksMore
import PyProof.FactsAll.range
import PySem.Challenge.RW_endlessplane_k02_whole_members_of_stretc
/-! Bs -/
set_option Elab.async false
set_option linter.all false
set_option maxRecDepth 100000
set_option maxHeartbeats 4000000
namespace Iz
open PySem PySem.Spec PyProof.Rows L2
theorem cx_K {CX : CXT} {P : Program} {w : World} {K : PySem.W.Frag} {mg : Str → Option Value} {base : Heap} {N : List Str} {q : Str} {sc : Scope} {f : Addr} {cd : Value} {A : Around} {outer : List Env} {s : Shared} {H : Hp} {E : XK} : (cxOf CX P w K mg base N q sc f cd A outer s H E).K = K := rfl
/-! ### defs by name, calls -/
/-- the global x is a def that keeps sp -/
structure OkF (P : Program) (w : World) (K : PySem.W.Frag) (mg : Str → Option Value) (base : Heap) (CX : CXT) (k : Nat) (x : Str) (ps : List Str) (sp : Sp) : Prop where
  ex : ∃ (f : Addr) (fd : FuncData), mg x = some (.ref f) ∧ PySem.W.keepIn K (.ref f) = true ∧ Binds K fd ps [] ∧ FnOk P w K mg base CX k f fd ps sp
theorem OkF.imp {P : Program} {w : World} {K : PySem.W.Frag} {mg : Str → Option Value} {base : Heap} {CX : CXT} {k : Nat} {x : Str} {ps : List Str} {sp sp' : Sp} (F : OkF P w K mg base CX k x ps sp) (h : ∀ vs H Q E, sp' vs H Q E → sp vs H Q E) : OkF P w K mg base CX k x ps sp' :=
  let ⟨f, fd, g, kp, b, G⟩ := F.ex
  ⟨f, fd, g, kp, b, G.imp h⟩
/-- inside a def that may raise: what is raised goes on out -/
theorem passE {P : Program} {w : World} {K : PySem.W.Frag} {mg : Str → Option Value} {base : Heap} {N : List Str} {q : Str} {sc : Scope} {f : Addr} {cd : Value} {A : Around} {outer : List Env} {s : Shared} {H : Hp} {E : XK} :
    Passes (L2.CX P w) (cxOf (L2.CX P w) P w K mg base N q sc f cd A outer s H E) E := passes_call (W := fun cls d _ H => E cls d H) (takes_of rfl rfl rfl rfl) fun _ _ _ _ h => h
theorem takesE {P : Program} {w : World} {K : PySem.W.Frag} {mg : Str → Option Value} {base : Heap} {N : List Str} {q : Str} {sc : Scope} {f : Addr} {cd : Value} {A : Around} {outer : List Env} {s : Shared} {H : Hp} {E : XK} :
    Takes (cxOf (L2.CX P w) P w K mg base N q sc f cd A outer s H E) (fun cls d _ H => E cls d H) := takes_of rfl rfl rfl rfl
section
variable {X : Cx} {k : Nat} {x : Str} {ps : List Str} {sp : Sp} {E : XK} {e : Expr} {es : List Expr} {t : TA} {p pos : Pos}
/-- f(e, ..) -/
theorem pcl {CX : CXT} (O : OkF X.prog X.w X.K X.mg X.base CX k x ps sp) (hr : Room k X.A) (hx : Passes CX X E) (ha : PA X (e :: es) t) (hg : Gl X x := by rfl) (hdb : (x == ("__debug__" : Str)) = false := by decide)
    (he : starEach (e :: es) X.env = (false, eval e X.env) :: starEach es X.env := by rfl) (hpl : (backTo pos (starEach es X.env)).any (·.1) = false := by rfl) : PE X (.Call (.Name x p) (e :: es) [] pos) (tCall sp [] E t) := by
  obtain ⟨f, fd, g, kp, b, G⟩ := O.ex
  exact pe_call G hr hg g kp b .nil hx ha hdb he hpl
end
theorem op_fdivF {X : Cx} : OpR X (binaryOp .FloorDiv) (rI (fun _ j => j ≠ 0 ∧ j.natAbs.log2 < 9000) fun i j => .int (i.fdiv j)) := opI fun i j _ _ _ _ _ hc q => floordiv_int hc.1 q (.inl (PyProof.noPylong_of_log2 hc.2))
theorem log_lt {x : Int} {n m : Nat} (h : x.natAbs < 2 ^ n) (hm : n ≤ m) (h0 : 0 < m) : x.natAbs.log2 < m := PySem.Flt.log2_lt_of h0 (Nat.lt_of_lt_of_le h (Nat.pow_le_pow_right (by decide) hm))
/-! ### readings in a form that simp reads: an object is named by what stands at it -/
section
variable {X : Cx} {e a b : Expr} {es : List Expr} {t t' ta tb : TE}
theorem PE.imp (h : PE X e t) (k : ∀ σ H Q, t' σ H Q → t σ H Q) : PE X e t' := ⟨fun pins s σ H Q I q => h.run pins s σ H Q I (k σ H Q q)⟩
theorem PS.imp {st : Stmt} {t t' : TS} (h : PS X st t) (k : ∀ D σ H, t' D σ H → t D σ H) : PS X st t' := ⟨fun pins s σ H D I q => h.run pins s σ H D I (k D σ H q)⟩
theorem PG.imp {tg : Expr} {t t' : TG} (h : PG X tg t) (k : ∀ v σ H Q, t' v σ H Q → t v σ H Q) : PG X tg t' := ⟨fun pins s σ H v u Q I r q => h.run pins s σ H v u Q I r (k v σ H Q q)⟩
theorem CallR.imp {f : Value} {r r' : List V → Hp → VK → Prop} (h : CallR X f r) (k : ∀ xs H Q, r' xs H Q → r xs H Q) : CallR X f r' := fun pins s σ H xs us Q I rv q => h pins s σ H xs us Q I rv (k xs H Q q)
theorem Same.upd {H : Hp} {p : Addr} {o : HO} (h : H p = none) : Same H (L2.upd H p o) := fun b u e => by rw [upd_ne (ne_of_none e h)]; exact e
/-- a new object: from then on some heap that has it and all else -/
def News (H : Hp) (o : HO) (Q : V → Hp → Prop) : Prop := ∀ p H2, H p = none → Same H H2 → H2 p = some o → Q (.ref p) H2
theorem News.all {H : Hp} {o : HO} {Q : V → Hp → Prop} (n : News H o Q) : ∀ p, H p = none → Q (.ref p) (upd H p o) := fun p hp => n p _ hp (Same.upd hp) upd_same
def tTupN (t : TA) : TE := fun σ H Q => t σ H fun xs H1 => xs.length ≤ sizeLine ∧ News H1 (.tup xs) Q
def tLstN (t : TA) : TE := fun σ H Q => t σ H fun xs H1 => xs.length ≤ sizeLine ∧ News H1 (.lst xs) Q
/-- what a reading gives, weakened -/
def mcl {α : Type} (t : L2.St → Hp → (α → Hp → Prop) → Prop) : L2.St → Hp → (α → Hp → Prop) → Prop := fun σ H Q => ∃ Q0, t σ H Q0 ∧ ∀ v H1, Q0 v H1 → Q v H1
theorem PA.mcl {t : TA} (h : PA X es t) : PA X es (mcl t) := ⟨fun pos pins s σ H Q I ⟨Q0, q, k⟩ => thn (h.run pos pins s σ H Q0 I q) fun us s1 ⟨vs, H1, I1, r, q1⟩ => ⟨vs, H1, I1, r, k vs H1 q1⟩⟩
theorem PE.mcl {t : TE} (h : PE X e t) : PE X e (mcl t) := ⟨fun pins s σ H Q I ⟨Q0, q, k⟩ => thn (h.run pins s σ H Q0 I q) fun u s1 ⟨v, H1, I1, r, q1⟩ => ⟨v, H1, I1, r, k v H1 q1⟩⟩
theorem pe_tupN {t : TA} {x1 : Nat} {pos : Pos} (h : PA X es t) : PE X (.Tuple es x1 pos) (tTupN t) := PE.imp (pe_tup (PA.mcl h)) fun σ H Q q => ⟨_, q, fun vs H1 ⟨z, n⟩ => ⟨z, n.all⟩⟩
theorem pe_lstN {t : TA} {pos : Pos} (h : PA X es t) : PE X (.List es pos) (tLstN t) := PE.imp (pe_lst (PA.mcl h)) fun σ H Q q => ⟨_, q, fun vs H1 ⟨z, n⟩ => ⟨z, n.all⟩⟩
def rIxTN : R2 := fun x y H Q => ∃ p xs i v, x = .ref p ∧ y = .int i ∧ H p = some (.tup xs) ∧ atI xs i = some v ∧ Q v H
theorem ix_tupN : IxR X rIxTN := fun v0 sl pins s σ H x y v u Q I rx ry q hs => ix_tup v0 sl pins s σ H x y v u Q I rx ry (let ⟨p, xs, i, z, a, b, c, d, q⟩ := q; ⟨p, xs, i, z, a, b, SqT.of c, d, q⟩) hs
def rIxLN : R2 := fun x y H Q => ∃ p xs i v, x = .ref p ∧ y = .int i ∧ H p = some (.lst xs) ∧ atI xs i = some v ∧ Q v H
theorem ix_listN : IxR X rIxLN := fun v0 sl pins s σ H x y v u Q I rx ry q hs => ix_list v0 sl pins s σ H x y v u Q I rx ry (let ⟨p, xs, i, z, a, b, c, d, q⟩ := q; ⟨p, xs, i, z, a, b, SqL.of c, d, q⟩) hs
def gTupN (n : Nat) (t : TGs) : TG := fun v σ H Q => ∃ a xs, v = .ref a ∧ H a = some (.tup xs) ∧ xs.length = n ∧ t xs σ H Q
theorem pg_tupN {k : Nat} {pos : Pos} {t : TGs} {n : Nat} (hc : X.calm = true) (h : PGs X es t) (hn : (assignEach es X.env).length = n := by rfl) (hst : (assignEach es X.env).findIdx? (·.1) = none := by rfl) : PG X (.Tuple es k pos) (gTupN n t) :=
  PG.imp (pg_tup hc h hn hst) fun v σ H Q ⟨p, xs, a, c, d, q⟩ => ⟨p, xs, a, SqT.of c, d, q⟩
def rLenL : List V → Hp → VK → Prop := fun xs H Q => ∃ p ys, xs = [.ref p] ∧ H p = some (.lst ys) ∧ Q (.int ys.length) H
theorem call_lenL : CallR X (.builtin "len") rLenL := CallR.imp call_len_seq fun xs H Q ⟨p, ys, a, b, q⟩ => ⟨p, ys, a, .inl (SqL.of b), q⟩
def rLenT : List V → Hp → VK → Prop := fun xs H Q => ∃ p ys, xs = [.ref p] ∧ H p = some (.tup ys) ∧ Q (.int ys.length) H
theorem call_lenT : CallR X (.builtin "len") rLenT := CallR.imp call_len_seq fun xs H Q ⟨p, ys, a, b, q⟩ => ⟨p, ys, a, .inr (SqT.of b), q⟩
def rIntI : List V → Hp → VK → Prop := fun xs H Q => ∃ i, xs = [.int i] ∧ Q (.int i) H
theorem call_intI : CallR X (.type "int") rIntI := CallR.imp call_int1 fun xs H Q q => .inl q
def rIntB : List V → Hp → VK → Prop := fun xs H Q => ∃ k, xs = [.bl k] ∧ Q (.int (if k then 1 else 0)) H
theorem call_intB : CallR X (.type "int") rIntB := CallR.imp call_int1 fun xs H Q q => .inr q
def rAbs : List V → Hp → VK → Prop := fun xs H Q => ∃ i, xs = [.int i] ∧ Q (.int (i.natAbs : Int)) H
theorem call_absN : CallR X (.builtin "abs") rAbs := CallR.imp call_abs fun xs H Q ⟨i, a, q⟩ => ⟨i, a, by rw [show (if i < 0 then -i else i) = (i.natAbs : Int) by split <;> omega]; exact q⟩
def rListS (K : PySem.W.Frag) : List V → Hp → VK → Prop := fun xs H Q => ∃ p ys, xs = [.ref p] ∧ SqL K H p ys ∧ News H (.lst ys) Q
theorem call_listS : CallR X (.type "list") (rListS X.K) := CallR.imp call_list_of fun xs H Q ⟨p, ys, a, b, n⟩ => ⟨p, ys, a, .inl b, n.all⟩
/-- a truth: what the test says -/
theorem atI0 {α : Type} {a : α} {l : List α} : atI (a :: l) 0 = some a := by simp [atI, ixN]
theorem ixN_ok {n : Nat} {i : Int} (h : 0 ≤ i) (h2 : i < n) : ixN n i = some i.toNat := by simp [ixN, h, h2]
theorem atI_ok {α : Type} {l : List α} {i : Int} {v : α} (h : 0 ≤ i) (h2 : l[i.toNat]? = some v) : atI l i = some v := by
  have h3 := (List.getElem?_eq_some_iff.mp h2).1
  unfold atI
  rw [ixN_ok h (by omega)]
  exact h2
theorem atI1 {α : Type} {a b : α} {l : List α} : atI (a :: b :: l) 1 = some b := atI_ok (by decide) rfl
theorem atI2 {α : Type} {a b c : α} {l : List α} : atI (a :: b :: c :: l) 2 = some c := atI_ok (by decide) rfl
theorem atI3 {α : Type} {a b c d : α} {l : List α} : atI (a :: b :: c :: d :: l) 3 = some d := atI_ok (by decide) rfl
theorem ite_iff {c A B : Prop} [Decidable c] : (if c then A else B) ↔ ((c → A) ∧ (¬ c → B)) := by
  by_cases h : c <;> simp [h]
/-- a while's test may be asked for less -/
theorem mono_eq {r : R2} {i : Nat} {v : V} (hr : ∀ x y H Q Q', (∀ z H1, Q z H1 → Q' z H1) → r x y H Q → r x y H Q') : ∀ (σ : L2.St) (H : Hp) (Q Q' : Bool → Hp → Prop), (∀ b H1, Q b H1 → Q' b H1) → tTest (tOp r (tVar i) (tC v)) σ H Q → tTest (tOp r (tVar i) (tC v)) σ H Q' :=
  fun _ _ _ _ k ⟨x, h, q⟩ => ⟨x, h, hr _ _ _ _ _ (fun _ _ ⟨b, e, q⟩ => ⟨b, e, k _ _ q⟩) q⟩
theorem mono_ne {i : Nat} {v : V} : ∀ (σ : L2.St) (H : Hp) (Q Q' : Bool → Hp → Prop), (∀ b H1, Q b H1 → Q' b H1) → tTest (tOp rNe (tVar i) (tC v)) σ H Q → tTest (tOp rNe (tVar i) (tC v)) σ H Q' := mono_eq fun _ _ _ _ _ k ⟨a, q⟩ => ⟨a, k _ _ q⟩
end
/-- H2 is H with o at p -/
def Put (H H2 : Hp) (p : Addr) (o : HO) : Prop := H2 p = some o ∧ ∀ b, b ≠ p → H2 b = H b
def rSetLN : V → V → V → Hp → (Hp → Prop) → Prop := fun o i v H Q => ∃ p xs k j, o = .ref p ∧ i = .int k ∧ H p = some (.lst xs) ∧ ixN xs.length k = some j ∧ ∀ H2, Put H H2 p (.lst (xs.set j v)) → Q H2
theorem set_listN {X : Cx} : PSet X rSetLN := fun pins s σ H o i v ov iv u Q I ro ri rv ⟨p, xs, k, j, a, b, c, d, q⟩ => set_list pins s σ H o i v ov iv u Q I ro ri rv ⟨p, xs, k, j, a, b, c, d, q _ ⟨upd_same, fun _ h => upd_ne h⟩⟩
theorem PT.imp {X : Cx} {e : Expr} {t t' : TT} (h : PT X e t) (k : ∀ σ H Q, t' σ H Q → t σ H Q) : PT X e t' := ⟨fun pins s σ H Q I q => h.run pins s σ H Q I (k σ H Q q)⟩
/-- a list's truth -/
def tTruL (te : TE) : TT := fun σ H Q => te σ H fun x H1 => ∃ p xs, x = .ref p ∧ H1 p = some (.lst xs) ∧ Q (!xs.isEmpty) H1
theorem pt_truL {X : Cx} {e : Expr} {te : TE} (h : PE X e te) (hw : ∀ t : Sem Value, isTrue e X.env t = (t >>= fun v => standAt e.pos >>= fun _ => holding [v] (truthy v)) := by intro _; rfl) : PT X e (tTruL te) :=
  PT.imp (pt_truth (PE.mcl h) hw) fun σ H Q q => ⟨_, q, fun v H1 ⟨p, xs, a, b, q⟩ => ⟨_, by subst a; exact .inl ⟨xs, SqL.of b, rfl⟩, q⟩⟩
theorem ixN0 {n : Nat} : ixN (n + 1) 0 = some 0 := ixN_ok (by decide) (by omega)
theorem ixN1 {n : Nat} : ixN (n + 1 + 1) 1 = some 1 := ixN_ok (by decide) (by omega)
theorem scal_ii {i j : Int} : scal (.int i) (.int j) = true := rfl
theorem scal_in {i : Int} : scal (.int i) .non = true := rfl
theorem scal_ni {i : Int} : scal .non (.int i) = true := rfl
theorem scal_nn : scal .non .non = true := rfl
theorem scal_bb {i j : Bool} : scal (.bl i) (.bl j) = true := rfl
theorem scal_ss {i j : Str} : scal (.str i) (.str j) = true := rfl
theorem scal_sn {i : Str} : scal (.str i) .non = true := rfl
theorem scal_ns {i : Str} : scal .non (.str i) = true := rfl
theorem scal_bn {i : Bool} : scal (.bl i) .non = true := rfl
theorem scal_nb {i : Bool} : scal .non (.bl i) = true := rfl
/-- xs.append(e) -/
def tApp (to : TE) (ta : TA) : TE := fun σ H Q => to σ H fun x H1 => ∃ l, x = .ref l ∧ (∃ xs, H1 l = some (.lst xs)) ∧ ta σ H1 fun vs H2 => ∃ y xs, vs = [y] ∧ H2 l = some (.lst xs) ∧ xs.length < sizeLine ∧ ∀ H3, Put H2 H3 l (.lst (xs ++ [y])) → Q .non H3
theorem pe_appN {X : Cx} {o e : Expr} {to : TE} {ta : TA} {apos cpos : Pos} (ho : PE X o to) (ha : PA X [e] ta)
    (hbase : attributeBase o "append" X.env (eval o X.env) = eval o X.env := by rfl)
    (hfew : ((backTo cpos (starEach [e] X.env)).all (fun x => !x.1) && (backToKw cpos (keywordEach [] X.env)).all (fun x => x.1.isSome) && decide ([e].length + ([] : List Keyword).length + (if ([] : List Keyword).isEmpty then 0 else 1) < 30)) = true := by rfl)
    (hline : (apos.endLine == cpos.line) = true := by rfl) (hs : starEach [e] X.env = (false, eval e X.env) :: starEach [] X.env := by rfl) (hplain : (backTo cpos (starEach [] X.env)).any (·.1) = false := by rfl) :
    PE X (.Call (.Attribute o "append" apos) [e] [] cpos) (tApp to ta) :=
  PE.imp (pe_bm PySem.F.plainAttrs_list PySem.F.slot_list_append PySem.F.type_list_append mt_append (PE.mcl ho) (PA.mcl ha) hbase hfew hline hs hplain) fun σ H Q q =>
    ⟨_, q, fun x H1 ⟨l, hx, ⟨xs, hl⟩, q⟩ => by subst hx; exact ⟨.inl ⟨rfl, xs, SqL.of hl⟩, _, q, fun vs H2 ⟨y, xs, a, b, c, q⟩ => ⟨l, xs, y, rfl, a, b, c, q _ ⟨upd_same, fun _ h => upd_ne h⟩⟩⟩⟩
/-- a statement whose ways join behind it: M holds there -/
def tCut (t : TS) : TS := fun D σ H => ∃ M : L2.St → Hp → Prop, t { D with nx := M } σ H ∧ ∀ σ' H', M σ' H' → D.nx σ' H'
theorem ps_cut {X : Cx} {st : Stmt} {t : TS} (h : PS X st t) : PS X st (tCut t) := ⟨fun pins s σ H D I ⟨M, q, k⟩ => thn (h.run pins s σ H { D with nx := M } I q) fun f s1 r => by
  cases f with
  | next => obtain ⟨σ', H', J, m⟩ := r; exact ⟨σ', H', J, k σ' H' m⟩
  | brk => exact r
  | cont => exact r
  | ret u => exact r⟩
/-! ### loops -/
section
variable {g : TG} {tb : TS} {D : Ends} {σ : L2.St} {H : Hp} {ta : TA} {tl : TE}
theorem st_forR1 (j : Int) (hj : -(2 ^ 62) ≤ j ∧ j < 2 ^ 62) (ha : ∀ Q : List V → Hp → Prop, Q [.int j] H → ta σ H Q) (Pv : Nat → L2.St → Hp → Prop) (h0 : Pv 0 σ H)
    (hs : ∀ i σ H, i < j.toNat → Pv i σ H → g (.int i) σ H fun σ2 H2 => tb { D with nx := Pv (i + 1), ct := Pv (i + 1), bk := D.nx } σ2 H2) (hd : ∀ σ H, Pv j.toNat σ H → D.nx σ H) : tFor (iRng1 ta) g tb D σ H :=
  ha _ ⟨j, rfl, hj.1, hj.2, for_range Pv h0 (fun i σ H hi p => by rw [Int.zero_add]; exact hs i σ H hi p) hd⟩
theorem st_forR2 (lo j : Int) (hl : -(2 ^ 62) ≤ lo ∧ lo < 2 ^ 62) (hj : -(2 ^ 62) ≤ j ∧ j < 2 ^ 62) (ha : ∀ Q : List V → Hp → Prop, Q [.int lo, .int j] H → ta σ H Q) (Pv : Nat → L2.St → Hp → Prop) (h0 : Pv 0 σ H)
    (hs : ∀ i σ H, i < (j - lo).toNat → Pv i σ H → g (.int (lo + i)) σ H fun σ2 H2 => tb { D with nx := Pv (i + 1), ct := Pv (i + 1), bk := D.nx } σ2 H2) (hd : ∀ σ H, Pv (j - lo).toNat σ H → D.nx σ H) : tFor (iRng2 ta) g tb D σ H :=
  ha _ ⟨lo, j, rfl, ⟨hl.1, hl.2, hj.1, hj.2⟩, for_range Pv h0 hs hd⟩
end
/-! ### values of any kind -/
/-- a plain int -/
def isI : V → Bool
  | .int _ => true
  | _ => false
theorem isI_int {x : V} (h : isI x = true) : ∃ i, x = .int i := by cases x <;> simp_all [isI]
/-- is_whole tells rightly of x -/
def Wh (K : PySem.W.Frag) (H : Hp) (x : V) : Prop := ∃ t b1 b2, TyX K H x t ∧ PySem.W.kitOne K t (.type "int") = some b1 ∧ PySem.W.kitOne K t (.type "bool") = some b2 ∧ (b1 && !b2) = isI x
section
variable {K : PySem.W.Frag} {H : Hp}
theorem wh_int {i : Int} : Wh K H (.int i) := ⟨_, true, false, .base (.int i), kit_ty (by decide +kernel), kit_ty (by decide +kernel), rfl⟩
theorem wh_bl {b : Bool} : Wh K H (.bl b) := ⟨_, true, true, .base (.bl b), kit_ty (by decide +kernel), kit_ty (by decide +kernel), rfl⟩
theorem wh_non : Wh K H .non := ⟨_, false, false, .base .non, kit_ty (by decide +kernel), kit_ty (by decide +kernel), rfl⟩
theorem wh_str {x : Str} : Wh K H (.str x) := ⟨_, false, false, .base (.str x), kit_ty (by decide +kernel), kit_ty (by decide +kernel), rfl⟩
theorem wh_tup {p : Addr} {xs : List V} (h : H p = some (.tup xs)) : Wh K H (.ref p) := ⟨_, false, false, .base (.tup h), kit_ty (by decide +kernel), kit_ty (by decide +kernel), rfl⟩
theorem wh_lst {p : Addr} {xs : List V} (h : H p = some (.lst xs)) : Wh K H (.ref p) := ⟨_, false, false, .base (.lst h), kit_ty (by decide +kernel), kit_ty (by decide +kernel), rfl⟩
end
/-- isinstance with a built-in class, with an own one -/
def rIsTy (K : PySem.W.Frag) : List V → Hp → VK → Prop := fun xs H Q => ∃ x n t b, xs = [x, .ty n] ∧ TyX K H x t ∧ PySem.W.kitOne K t (.type n) = some b ∧ Q (.bl b) H
theorem call_isTy {X : Cx} : CallR X (.builtin "isinstance") (rIsTy X.K) := CallR.imp call_isi fun xs H Q ⟨x, n, t, b, a, ty, k, q⟩ => ⟨x, .ty n, t, .type n, b, a, .ty n, ty, k, q⟩
/-! ### own errors with one field -/
open He (ga)
def spXI (K : PySem.W.Frag) (fld : Str) : Sp := fun vs H Q _ => ∃ (a C : Addr) (v : V), vs = [.ref a, v] ∧ OexC K C ∧ PySem.W.findIn K (.ref C) fld = some none ∧ H a = some (exo a C none) ∧
  ∀ dx, H dx = none → dx ≠ a → Q .non (upd (upd H dx (exd dx [(fld, v)])) a (exo a C (some dx)))
section
variable {P : Program} {w : World} {K : PySem.W.Frag} {mg : Str → Option Value} {base : Heap}
theorem vis_of {N ps : List Str} {sc : Scope} (S : FnScope N ps sc) {x : Str} (h : x ∈ ps) : Vis sc x := (S.par x h).elim .inl fun e => .inr (.inl e)
theorem ok_xi {qual fld : Str} {st : Stmt} {f : Addr} {fd : FuncData} {p1 p2 p3 p4 : Pos} (F : Fun K "__init__" qual st f fd) (S : FnScope ["self", fld] ["self", fld] (defScope st))
    (hb : defBody st = [.Assign [.Attribute (.Name "self" p1) fld p2] (.Name fld p3) p4]) (h1 : (fld == ("__debug__" : Str)) = false) (h2 : (fld == ("__classdict__" : Str)) = false) : FnOk P w K mg base CX0 1 f fd ["self", fld] (spXI K fld) := by
  refine F.ok S (fun vs H Q E h => ?_) (fun cdv A outer s H vs Q E hr h => ?_)
  · obtain ⟨a, C, v, rfl, _⟩ := h; rfl
  · obtain ⟨a, C, v, rfl, T, hn, ha, k⟩ := h
    rw [hb]
    refine ⟨_, pss_one (ps_ost (pe_var (i := 0) rfl (vis_of S (by simp))) (pe_var (i := 1) rfl (vis_of S (by simp)) h1 h2)), ?_⟩
    exact ⟨v, rfl, .ref a, rfl, a, C, rfl, T, hn, .inl ⟨ha, k⟩⟩
/-- what the top has made of the class x, whose __init__ keeps its one argument in fld -/
structure ExT (K : PySem.W.Frag) (mg : Str → Option Value) (x fld : Str) : Prop where
  g : mg x = some (.ref (ga K x))
  ox : OexC K (ga K x)
  xf : XfC K (ga K x)
  no : PySem.W.findIn K (.ref (ga K x)) fld = some none
  ini : ∃ (qual : Str) (st : Stmt) (f : Addr) (fd : FuncData) (p1 p2 p3 p4 : Pos), PySem.W.findIn K (.ref (ga K x)) "__init__" = some (some (.ref f)) ∧ PySem.W.typeIn K (.ref f) = some (.type "function") ∧ Fun K "__init__" qual st f fd ∧ FnScope ["self", fld] ["self", fld] (defScope st) ∧
    defBody st = [.Assign [.Attribute (.Name "self" p1) fld p2] (.Name fld p3) p4] ∧ Binds K fd ["self", fld] []
/-- an error of the class x with fld = v is let out -/
def Rse (K : PySem.W.Frag) (E : XK) (H : Hp) (x fld : Str) (v : V) : Prop := ∀ d H', H d = none → Same H H' → H' d = some (.xd [(fld, v)]) → E (.ref (ga K x)) (some d) H'
theorem Rse.mono {K : PySem.W.Frag} {E : XK} {H H2 : Hp} {x f : Str} {v : V} (r : Rse K E H x f v) (s : Same H H2) : Rse K E H2 x f v := fun d H' hd s2 h => r d H' (s.free hd) (s.trans s2) h
def tRaiseX (K : PySem.W.Frag) (x fld : Str) (W : WX) (te : TE) : TS := fun _ σ H => te σ H fun v H1 => Rse K (fun cls d H' => W cls d σ H') H1 x fld v
theorem ps_raiseX {X : Cx} {x fld : Str} {W : WX} {e : Expr} {te : TE} {p pos pos2 : Pos} (T : ExT X.K X.mg x fld) (hr : Room 2 X.A) (tk : Takes X W) (he : PE X e te) (hc : X.calm = true := by rfl) (hg : Gl X x := by rfl) (hdb : (x == ("__debug__" : Str)) = false := by decide)
    (hd1 : (fld == ("__debug__" : Str)) = false := by decide) (hd2 : (fld == ("__classdict__" : Str)) = false := by decide)
    (hs : starEach [e] X.env = (false, eval e X.env) :: starEach [] X.env := by rfl) (hpl : (backTo pos (starEach [] X.env)).any (·.1) = false := by rfl) : PS X (.Raise (some (.Call (.Name x p) [e] [] pos)) none pos2) (tRaiseX X.K x fld W te) := by
  obtain ⟨qual, st, f, fd, p1, p2, p3, p4, hi, ht, F, S, hb, B⟩ := T.ini
  have G : FnOk X.prog X.w X.K X.mg X.base CX0 1 f fd ["self", fld] (spXI X.K fld) := ok_xi F S hb hd1 hd2
  refine PS.imp (ps_raise hc tk (pmk_oex (k := 1) T.ox hi ht G hr B .nil (pass0) hg T.g (pa_cons (PE.mcl he) pa_nil hs) hdb hs hpl)) fun D σ H q => ?_
  refine ⟨_, q, fun v H1 k => ?_⟩
  refine ⟨by show 1 ≤ 1000; decide, fun a ha => ⟨a, _, v, rfl, T.ox, T.no, upd_same, fun dx hdx hne => ⟨rfl, dx, _, upd_same, by rw [upd_ne hne, upd_same], ?_, ?_⟩⟩⟩
  · rw [upd_ne hne] at hdx; exact hdx
  · have hdn : H1 dx = none := by rw [upd_ne hne] at hdx; exact hdx
    refine k dx _ hdn (fun b u e => ?_) upd_same
    have h1 := ne_of_none e hdn
    have h2 := ne_of_none e ha
    rw [upd_ne h1, del_ne h2, upd_ne h2, upd_ne h1, upd_ne h2]
    exact e
end
end Iz
/-! Bx -/
set_option Elab.async false
set_option linter.all false
set_option maxRecDepth 100000
set_option maxHeartbeats 4000000
namespace Iz
open PySem PySem.Spec PyProof.Rows L2 LamX
open He (ga)
/-! ### repr of plain values -/
def ReprV : V → Str → Prop
  | .non, s => s = "None"
  | .bl b, s => s = if b = true then Str.ofString "True" else Str.ofString "False"
  | .int i, s => i.natAbs.log2 < 1920 ∧ s = Str.ofString (toString i)
  | .str x, s => (reprText x).length ≤ sizeLine ∧ s = reprText x
  | _, _ => False
def rRepr : List V → Hp → VK → Prop := fun xs H Q => ∃ x s, xs = [x] ∧ ReprV x s ∧ Q (.str s) H
theorem call_reprN {X : Cx} : CallR X (.builtin "repr") rRepr := by
  intro pins s σ H xs us Q I r h
  obtain ⟨x, z, rfl, hz, q⟩ := h
  cases r with
  | cons rx rr =>
    cases rr
    cases x with
    | non => cases rx; cases hz; exact PySem.P.repr_of_none ⟨.str _, H, I.tok _, ⟨_, rfl⟩, q⟩
    | bl b => cases rx; cases hz; exact PySem.P.repr_of_bool ⟨.str _, H, I.tok _, ⟨_, rfl⟩, q⟩
    | int i => obtain ⟨t, rfl⟩ := rx; obtain ⟨hb, rfl⟩ := hz; exact PySem.P.repr_of_int hb ⟨.str _, H, I.tok _, ⟨_, rfl⟩, q⟩
    | str y => obtain ⟨t, rfl⟩ := rx; obtain ⟨hb, rfl⟩ := hz; exact PySem.P.repr_of_str ⟨.str _, H, I.tok _, ⟨_, rfl⟩, q⟩ hb
    | byt b => cases hz
    | flt b => cases hz
    | ref a => cases hz
    | ty n => cases hz
/-! ### isinstance of a caught error -/
structure ExI (K : PySem.W.Frag) (D : Addr) : Prop where
  hc : (PySem.W.clsIn K D).isSome = true
  ha : PySem.W.findIn K (.ref D) "__class__" = some (some (.builtin "object.__class__"))
  hn : PySem.W.specialIn K (.builtin "object.__class__") "__get__" = some (some (.builtin "getset_descriptor.__get__"))
  ht : PySem.W.takesIn K (.builtin "object.__class__") = some true
  hm : PySem.W.mroIn K D (.type "object") = some true
def rIsX (K : PySem.W.Frag) (a : Addr) (cls : Value) (d : Option Addr) : List V → Hp → VK → Prop := fun xs H Q => ∃ (c D dd : Addr) (fs : List (Str × V)) (b : Bool), xs = [.ref a, .ref c] ∧ cls = .ref D ∧ d = some dd ∧ H dd = some (.xd fs) ∧ XfC K D ∧ ExI K D ∧ PySem.W.kitOne K (.ref D) (.ref c) = some b ∧ Q (.bl b) H
theorem call_isX {X : Cx} {a : Addr} {oe : Obj} {cls : Value} {d : Option Addr} {pn : List (Addr × Obj)} (hz : Zc cls d oe) (hf : ∃ vs, oe.data = .fields vs) : CallR (X.suite a ((a, oe) :: pn)) (.builtin "isinstance") (rIsX X.K a cls d) := by
  intro pins s σ H xs us Q I r h
  obtain ⟨c, D, dd, fs, b, rfl, rfl, rfl, hd, T, U, hk, q⟩ := h
  cases r with
  | cons rx rr =>
    cases rr with
    | cons ry rr =>
      cases rr; cases rx; cases ry
      have hget := (I.pin (a, oe) (List.mem_append.mpr (.inl List.mem_cons_self))).1
      obtain ⟨vs, hv⟩ := hf
      have hx : ObjOk X.prog X.w H s.heap dd (.xd fs) := I.hok dd _ hd
      obtain ⟨mA, hns, _⟩ := hx
      obtain ⟨od, ho, _⟩ := lookIn_ns hns
      have J : PySem.W.InstAt s.heap a oe D (some od) := ⟨hget, hz.1, by unfold PySem.W.notCls; rw [hv], by rw [hz.2]; exact ho⟩
      refine PySem.W.kia_one (PySem.W.kitx_exc U.hc T.ga T.gg T.exC U.ha U.hn U.ht U.hm) I.kIn J hk (fun z => nomatch z) fun tk => ?_
      exact ⟨.bl b, H, I.kept (t' := tk) fun _ _ z => z, rfl, q⟩
/-! ### a suite knows how many slots there are -/
def tLen (n : Nat) (t : TS) : TS := fun D σ H => σ.length = n → t D σ H
theorem pss_len {X : Cx} {st : List Stmt} {t : TS} {n : Nat} (h : PSs X st t) (hn : X.N.length = n) : PSs X st (tLen n t) := ⟨fun pins s σ H D I q => h.run pins s σ H D I (q (I.len.trans hn))⟩
/-! ### defs that make lambdas: their code object is named -/
def cOf (K : PySem.W.Frag) (x : Str) : Addr := ((PySem.W.tabIn K x).getD (0, 0)).1
def pOf (K : PySem.W.Frag) (x : Str) : Addr := ((PySem.W.tabIn K x).getD (0, 0)).2
structure LamF (K : PySem.W.Frag) (mg : Str → Option Value) (x : Str) (st : Stmt) : Prop where
  ex : ∃ (f : Addr) (oc : Value) (od : Option Addr) (kV doc pm : Value) (an : Option Addr) (ct : Value) (osl : Array (Option Value)), mg x = some (.ref f) ∧ PySem.W.keepIn K (.ref f) = true ∧
    K.lookup f = some ⟨oc, od, .func (PySem.W.fnOf x x (defArgs st) (defBody st) (defScope st) .none kV doc pm an (.ref (cOf K x)) ct), osl⟩ ∧ PySem.W.codeIn K (.ref (cOf K x)) x = true
/-- as Fun.okX, the code object known -/
theorem LamF.okF {P : Program} {w : World} {K : PySem.W.Frag} {mg : Str → Option Value} {base : Heap} {x : Str} {st : Stmt} {N ps : List Str} {k : Nat} {sp : Sp} (F : LamF K mg x st) (S : FnScope N ps (defScope st))
    (hbind : ∀ (kV doc pm : Value) (an : Option Addr) (cdv ct : Value) (us : List Value), us.length = ps.length → bindArgs (PySem.W.fnOf x x (defArgs st) (defBody st) (defScope st) .none kV doc pm an cdv ct) ⟨us, []⟩ = pure (ps.zip us))
    (len : ∀ vs H Q E, sp vs H Q E → vs.length = ps.length)
    (hbody : ∀ (f : Addr) (A : Around) (outer : List Env) (s : Shared) (H : Hp) (vs : List V) (Q : VK) (E : XK), Room k (A.deeper (envOfC x (defScope st) s.heap.objs.size f (.ref (cOf K x)))) → sp vs H Q E →
      ∃ t, PSs (cxOf (L2.CX P w) P w K mg base N x (defScope st) f (.ref (cOf K x)) A outer s H E) (defBody st) t ∧ t { nx := fun _ H' => Q .non H', rt := Q } (L2.start N vs) H) : OkF P w K mg base (L2.CX P w) (k + 1) x ps sp := by
  obtain ⟨f, oc, od, kV, doc, pm, an, ct, osl, g, kp, lk, hcd⟩ := F.ex
  exact ⟨f, _, g, kp, .all (hbind kV doc pm an _ ct), fn_of lk hcd S len fun A outer s H vs Q E hr hsp => hbody f A outer s H vs Q E hr hsp⟩
theorem passLam {X : Cx} {A : Around} {outer : List Env} {s : Shared} {H : Hp} {E : XK} {scope : Scope} {f c : Addr} : Passes (L2.CX X.prog X.w) (lamCx X A outer s H E scope f c) E :=
  passes_call (W := fun cls d _ H => E cls d H) (takes_of rfl rfl rfl rfl) fun _ _ _ _ h => h
/-- told(lambda: body), told a def of the text -/
theorem plam {X : Cx} {x a : Str} {st : Stmt} {N : List Str} {TT : (XK → Hp → VK → Prop) → Hp → VK → Prop} {c P : Addr} {qn : Str} {k : Nat} {params : Arguments} {body : Expr} {scope : Scope} {t : XK → TE} {p lpos pos : Pos}
    (F : ∃ (f : Addr) (fd : FuncData), X.mg x = some (.ref f) ∧ Fun X.K x x st f fd) (S : FnScope N [a] (defScope st))
    (hb : ∀ (kV doc pm : Value) (an : Option Addr) (cdv ct : Value) (us : List Value), us.length = [a].length → bindArgs (PySem.W.fnOf x x (defArgs st) (defBody st) (defScope st) .none kV doc pm an cdv ct) ⟨us, []⟩ = pure ([a].zip us))
    (hG : ∀ (g : Addr) (cdg : Value), GivesTo X N x (defScope st) g cdg (defBody st) a qn TT)
    (TB : TabB X.base X.mg c P) (hcode : X.env.code = .ref c) (hq : X.env.qual ++ "<lambda>" = qn) (hr : Room (k + 2) X.A) (L : lamSB X.env.scope scope = true)
    (hbody : ∀ (A : Around) (outer : List Env) (s : Shared) (H : Hp) (E : XK) (f c' : Addr), Room k (A.deeper (lamEnv X scope s.heap.objs.size f c')) → PE (lamCx X A outer s H E scope f c') body (t E))
    (hdef : defaultsOf params X.env = ([], []) := by rfl) (hg : Gl X x := by rfl) (hv : Vis (defScope st) a := by first | exact Or.inl rfl | exact Or.inr (Or.inl rfl)) (hNa : N[0]? = some a := by rfl)
    (hbind : ∀ (q : Str) (cl : List (Str × Addr)) (pm cv ctv : Value), bindArgs (PySem.W.kla_fn "<lambda>" q params body scope cl pm cv ctv) ⟨[], []⟩ = pure [] := by intros; rfl)
    (hdb : (x == ("__debug__" : Str)) = false := by decide) (hd : (a == ("__debug__" : Str)) = false := by decide) (hcd : (a == ("__classdict__" : Str)) = false := by decide) :
    PE X (.Call (.Name x p) [.Lambda params body scope lpos] [] pos) (tLam [(P, qn)] TT t) := by
  subst hq
  obtain ⟨g, fd, hm, F⟩ := F
  obtain ⟨oc, od, kV, doc, pm, an, cdv, ct, osl, rfl, lk, hcg⟩ := F.ex
  exact pe_lamcall hg hm F.kp lk hcg (.all (hb kV doc pm an cdv ct)) S hNa hv (hG g cdv) TB hcode (List.mem_singleton.mpr rfl) (fun q hq _ => by rw [List.mem_singleton.mp hq]) hr (lamS_by L) hdef hbind hbody hdb hd hcd
theorem extL {H H' : Hp} {p : Addr} {xs : List V} (e : ExtN H H') (h : H p = some (.lst xs)) : H' p = some (.lst xs) := e p _ h fun ps z => by cases z
theorem extT {H H' : Hp} {p : Addr} {xs : List V} (e : ExtN H H') (h : H p = some (.tup xs)) : H' p = some (.tup xs) := e p _ h fun ps z => by cases z
theorem extS {H H' : Hp} (e : Same H H') : ExtN H H' := fun b o h _ => e b o h
/-! ### comprehensions -/
theorem st_lcL {K : PySem.W.Frag} {tl : TE} {g : TG} {tt : TT} {te : TE} {vs : List Nat} {σ : L2.St} {H : Hp} {Q : VK} {a : Addr} {xs : List V} (ha : ∀ R : V → Hp → Prop, R (.ref a) H → tl σ H R) (hx : H a = some (.lst xs)) (Pv : Addr → Nat → Hp → Prop)
    (h0 : ∀ D H1, H D = none → Same H H1 → H1 D = some (.lst []) → Pv D 0 H1) (hl : ∀ D i H, Pv D i H → H a = some (.lst xs))
    (hs : ∀ D i x H, xs[i]? = some x → Pv D i H → g x (wipe σ vs) H fun σ2 H2 => wipe σ2 vs = wipe σ vs ∧ tt σ2 H2 fun b H3 => if b = true then te σ2 H3 fun y H4 => ∃ acc, H4 D = some (.lst acc) ∧ acc.length < sizeLine ∧ Pv D (i + 1) (upd H4 D (.lst (acc ++ [y]))) else Pv D (i + 1) H3)
    (hd : ∀ D H, Pv D xs.length H → Q (.ref D) H) : tLc (iList K tl) g tt te vs σ H Q :=
  ha _ ⟨a, rfl, ⟨xs, SqL.of hx⟩, fun D hD => lc_list (Pv D) (h0 D _ hD (Same.upd hD) upd_same) (fun i H _ p => SqL.of (hl D i H p)) (hs D) (hd D)⟩
/-- deep == of what is alike -/
theorem dataEq {d : PyData} (h : SeqAt.shaped d = true) : PyData.eqv d d = true := SeqAt.eqv_refl d (SeqAt.canLay_of_shaped h)
theorem lk0 {f : Str} {v : V} : List.lookup f [(f, v)] = some v := by simp [List.lookup]
theorem ne_same {K : PySem.W.Frag} {x y : V} {H : Hp} {d : PyData} {R : VK} (hx : Dp K H x d) (hy : Dp K H y d) (h : SeqAt.shaped d = true) (r : R (.bl false) H) : rNeD K x y H R := ⟨d, d, hx, hy, h, h, by rw [dataEq h]; exact r⟩
theorem eq_same {K : PySem.W.Frag} {x y : V} {H : Hp} {d : PyData} {R : VK} (hx : Dp K H x d) (hy : Dp K H y d) (h : SeqAt.shaped d = true) (r : R (.bl true) H) : rEqD K x y H R := ⟨d, d, hx, hy, h, h, by rw [dataEq h]; exact r⟩
theorem dp_ss {K : PySem.W.Frag} {H : Hp} {p : Addr} {x y : Str} (h : H p = some (.tup [.str x, .str y])) : Dp K H (.ref p) (.tuple [.str x, .str y]) := .tup (SqT.of h) (.cons (.str x) (.cons (.str y) .nil))
theorem sh_ss {x y : Str} (hx : PyData.strOk x = true) (hy : PyData.strOk y = true) : SeqAt.shaped (.tuple [.str x, .str y]) = true := by simp [SeqAt.shaped, PyData.canLay0, PyData.canLayAll0, PyData.depth, PyData.depthAll, hx, hy]
theorem dp_nil {K : PySem.W.Frag} {H : Hp} {p : Addr} (h : H p = some (.lst [])) : Dp K H (.ref p) (.list []) := .lst (SqL.of h) .nil
/-- the rules that name the written part, within a comprehension -/
theorem op_neDk {X : Cx} {K : PySem.W.Frag} (e : X.K = K) (hu : X.A.units + 64 < cLine) : OpR X (compareOp .NotEq) (rNeD K) := e ▸ op_neD hu
theorem op_eqDk {X : Cx} {K : PySem.W.Frag} (e : X.K = K) (hu : X.A.units + 64 < cLine) : OpR X (compareOp .Eq) (rEqD K) := e ▸ op_eqD hu
/-! ### what the top has made, from facts -/
theorem ga_of {K : PySem.W.Frag} {x : Str} {a : Addr} (h : PySem.W.nsIn K mainGlobals x = some (some (.ref a))) : ga K x = a := by unfold ga; rw [h]
theorem ext_mk {K : PySem.W.Frag} {mg : Str → Option Value} {h : Heap} (X : K.In h) (G : h.Ns mainGlobals mg) {x fld qual nm q : Str} {st : Stmt} {C f N : Addr} {bs bm sub : List Value} {sn : List Str} {ab : Bool} {col : Option Bool} {dd od an : Option Addr} {m0 m1 m2 m3 m5 : Option Value} {oc kV dc pm cd ct : Value} {sl : Array (Option Value)} {p1 p2 p3 p4 : Pos}
    (aC : PySem.W.nsIn K mainGlobals x = some (some (.ref C))) (xL : K.lookup C = some (excClassObj nm q C N bs bm true sn sub ab col dd m0 m1 m2 m3 m5 "ValueError.__new__")) (hbm : PySem.HandSPX.refsVE bm = true)
    (sa : PySem.W.findIn K (.ref C) "__setattr__" = some (some (.builtin "object.__setattr__"))) (exC : PySem.W.subIn K (.ref C) (.type "BaseException") = some true) (tyC : PySem.W.typeIn K (.ref C) = some (.type "type")) (kC : PySem.W.keepIn K (.ref C) = true)
    (gA : PySem.W.findIn K (.ref C) "__getattribute__" = some (some (.builtin "BaseException.__getattribute__"))) (gG : PySem.W.findIn K (.ref C) "__getattr__" = some none) (hd : PySem.W.hasDictIn K C = true) (no : PySem.W.findIn K (.ref C) fld = some none)
    (iC : PySem.W.findIn K (.ref C) "__init__" = some (some (.ref f))) (tI : PySem.W.typeIn K (.ref f) = some (.type "function"))
    (lI : K.lookup f = some ⟨oc, od, .func (PySem.W.fnOf "__init__" qual (defArgs st) (defBody st) (defScope st) .none kV dc pm an cd ct), sl⟩) (cI : PySem.W.codeIn K cd qual = true) (kI : PySem.W.keepIn K (.ref f) = true)
    (S : FnScope ["self", fld] ["self", fld] (defScope st)) (hb : defBody st = [.Assign [.Attribute (.Name "self" p1) fld p2] (.Name fld p3) p4])
    (hB : ∀ (kV doc pm : Value) (an : Option Addr) (cdv ct : Value) (us : List Value), us.length = (["self", fld] : List Str).length → bindArgs (PySem.W.fnOf "__init__" qual (defArgs st) (defBody st) (defScope st) .none kV doc pm an cdv ct) ⟨us, []⟩ = pure ((["self", fld] : List Str).zip us)) : ExT K mg x fld := by
  have e := ga_of aC
  refine ⟨?_, ?_, ?_, ?_, ?_⟩
  · rw [e]; exact PySem.W.mg_of X G aC
  · rw [e]; exact ⟨⟨_, _, _, _, _, _, _, _, _, _, _, _, _, _, _, xL, hbm⟩, sa, exC, tyC, kC⟩
  · rw [e]; exact ⟨gA, gG, exC, hd⟩
  · rw [e]; exact no
  · rw [e]; exact ⟨qual, st, f, _, p1, p2, p3, p4, iC, tI, fun_mk lI cI kI, S, hb, (fun_mk (st := st) lI cI kI).binds hB⟩
theorem exi_mk {K : PySem.W.Frag} {x : Str} {C : Addr} (aC : PySem.W.nsIn K mainGlobals x = some (some (.ref C))) (hc : (PySem.W.clsIn K C).isSome = true) (ha : PySem.W.findIn K (.ref C) "__class__" = some (some (.builtin "object.__class__")))
    (hn : PySem.W.specialIn K (.builtin "object.__class__") "__get__" = some (some (.builtin "getset_descriptor.__get__"))) (ht : PySem.W.takesIn K (.builtin "object.__class__") = some true) (hm : PySem.W.mroIn K C (.type "object") = some true) : ExI K (ga K x) := by
  rw [ga_of aC]; exact ⟨hc, ha, hn, ht, hm⟩
theorem lamf_mk {K : PySem.W.Frag} {mg : Str → Option Value} {h : Heap} (X : K.In h) (G : h.Ns mainGlobals mg) {x : Str} {st : Stmt} {f c P : Addr} {od an : Option Addr} {oc kV dc pm ct : Value} {sl : Array (Option Value)}
    (a : PySem.W.nsIn K mainGlobals x = some (some (.ref f))) (l : K.lookup f = some ⟨oc, od, .func (PySem.W.fnOf x x (defArgs st) (defBody st) (defScope st) .none kV dc pm an (.ref c) ct), sl⟩) (cI : PySem.W.codeIn K (.ref c) x = true) (kI : PySem.W.keepIn K (.ref f) = true)
    (t : PySem.W.tabIn K x = some (c, P)) : LamF K mg x st := by
  have e : cOf K x = c := by unfold cOf; rw [t]; rfl
  refine ⟨f, oc, od, kV, dc, pm, an, ct, sl, PySem.W.mg_of X G a, kI, ?_, ?_⟩
  · rw [e]; exact l
  · rw [e]; exact cI
end Iz
/-! Bc -/
set_option Elab.async false
set_option linter.all false
set_option maxRecDepth 100000
set_option maxHeartbeats 4000000
namespace Iz
open PySem PySem.Spec PyProof.Rows L2
open He (ga)
/-! ### own classes: their instances stand still -/
/-- how the parameters bind, the last ones by their defaults -/
def BindD (K : PySem.W.Frag) (fd : FuncData) (ps : List Str) (dvs : List V) : Prop := ∀ j, j ≤ dvs.length → ∃ ds, Vals (dvs.drop j) ds ∧ Binds K fd ps ds
theorem BindD.none {K : PySem.W.Frag} {fd : FuncData} {ps : List Str} (b : Binds K fd ps []) : BindD K fd ps [] := fun _ _ => ⟨[], by rw [List.drop_nil]; exact .nil, b⟩
/-- the method m of the class x keeps sp -/
structure OkM (P : Program) (w : World) (K : PySem.W.Frag) (mg : Str → Option Value) (base : Heap) (CX : CXT) (k : Nat) (x m : Str) (ps : List Str) (dvs : List V) (sp : Sp) : Prop where
  ex : ∃ (f : Addr) (fd : FuncData), Meth K (ga K x) m f ∧ BindD K fd ps dvs ∧ FnOk P w K mg base CX k f fd ps sp
/-- a call of the class x keeps sp -/
structure OkK (P : Program) (w : World) (K : PySem.W.Frag) (mg : Str → Option Value) (base : Heap) (CX : CXT) (k : Nat) (x : Str) (ps : List Str) (dvs : List V) (sp : Sp) : Prop where
  ex : ∃ (f : Addr) (fd : FuncData) (si : Sp), Mk K (ga K x) f ∧ mg x = some (.ref (ga K x)) ∧ BindD K fd ("self" :: ps) dvs ∧ FnOk P w K mg base CX k f fd ("self" :: ps) si ∧
    ∀ vs H Q E, sp vs H Q E → ∀ p dx, H p = none → H dx = none → dx ≠ p → si (.ref p :: vs) (upd (upd H dx (.own p)) p (.ins (ga K x) dx [])) (fun v H2 => v = .non ∧ Q (.ref p) H2) E
/-- a new instance -/
def NewsI (H : Hp) (C : Addr) (fs : List (Str × V)) (Q : V → Hp → Prop) : Prop := ∀ p dx H2, H p = none → Same H H2 → H2 p = some (.ins C dx fs) → Q (.ref p) H2
def tMt (C : Addr) (m : Str) (sp : Sp) (dv : List V) (E : XK) (ta : TE) (t : TA) : TE := fun σ H Q => ta σ H fun x H1 => ∃ a dx fs, x = .ref a ∧ H1 a = some (.ins C dx fs) ∧ fs.lookup m = none ∧ t σ H1 fun vs H2 => sp (x :: (vs ++ dv)) H2 Q E
section
variable {X : Cx} {CX : CXT} {k j : Nat} {x m f : Str} {ps : List Str} {dvs : List V} {sp : Sp} {E : XK} {o e : Expr} {es : List Expr} {ta : TE} {t : TA} {p pos apos : Pos}
theorem pmt {pl : Sem Bool} (O : OkM X.prog X.w X.K X.mg X.base CX k x m ps dvs sp) (C : Cls X.K (ga X.K x)) (he : PE X o ta) (hj : j ≤ dvs.length) (hr : Room k X.A) (hx : Passes CX X E) (ha : PA X (e :: es) t)
    (hst : starEach (e :: es) X.env = (false, eval e X.env) :: starEach es X.env := by rfl) (hpl : (backTo pos (starEach es X.env)).any (·.1) = false := by rfl)
    (ht : eval (.Call (.Attribute o m apos) (e :: es) [] pos) X.env = (do
      let ov ← eval o X.env; standAt apos.atName
      let (f, first) ← holding [ov] (getMethod ov m pl)
      callWith pos f first (backTo pos (starEach (e :: es) X.env)) (backToKw pos (keywordEach [] X.env))) := by rfl) :
    PE X (.Call (.Attribute o m apos) (e :: es) [] pos) (tMt (ga X.K x) m sp (dvs.drop j) E ta t) := by
  obtain ⟨f, fd, M, b, G⟩ := O.ex
  obtain ⟨ds, hv, hb⟩ := b j hj
  exact pe_meth he C M G hr hb hv hx ha hst hpl ht
theorem pmt0 {pl : Sem Bool} (O : OkM X.prog X.w X.K X.mg X.base CX k x m ps dvs sp) (C : Cls X.K (ga X.K x)) (he : PE X o ta) (hj : j ≤ dvs.length) (hr : Room k X.A) (hx : Passes CX X E)
    (ht : eval (.Call (.Attribute o m apos) [] [] pos) X.env = (do
      let ov ← eval o X.env; standAt apos.atName
      let (f, first) ← holding [ov] (getMethod ov m pl)
      callWith pos f first (backTo pos (starEach [] X.env)) (backToKw pos (keywordEach [] X.env))) := by rfl) :
    PE X (.Call (.Attribute o m apos) [] [] pos) (tMt (ga X.K x) m sp (dvs.drop j) E ta tNil) := by
  obtain ⟨f, fd, M, b, G⟩ := O.ex
  obtain ⟨ds, hv, hb⟩ := b j hj
  exact pe_meth0 he C M G hr hb hv hx ht
theorem pmk (O : OkK X.prog X.w X.K X.mg X.base CX k x ps dvs sp) (hj : j ≤ dvs.length) (hr : Room (k + 1) X.A) (hx : Passes CX X E) (ha : PA X (e :: es) t) (hg : Gl X x := by rfl) (hdb : (x == ("__debug__" : Str)) = false := by decide)
    (he : starEach (e :: es) X.env = (false, eval e X.env) :: starEach es X.env := by rfl) (hpl : (backTo pos (starEach es X.env)).any (·.1) = false := by rfl) : PE X (.Call (.Name x p) (e :: es) [] pos) (tCall sp (dvs.drop j) E t) := by
  obtain ⟨f, fd, si, M, g, b, G, q⟩ := O.ex
  obtain ⟨ds, hv, hb⟩ := b j hj
  exact PE.imp (pe_make M G hr hg g hb hv hx (PA.mcl ha) hdb he hpl) fun σ H Q h => ⟨_, h, fun vs H1 h1 p dx h2 h3 h4 => q _ H1 Q _ h1 p dx h2 h3 h4⟩
theorem pmk0 (O : OkK X.prog X.w X.K X.mg X.base CX k x ps dvs sp) (hj : j ≤ dvs.length) (hr : Room (k + 1) X.A) (hx : Passes CX X E) (hg : Gl X x := by rfl) (hdb : (x == ("__debug__" : Str)) = false := by decide) : PE X (.Call (.Name x p) [] [] pos) (tCall sp (dvs.drop j) E tNil) := by
  obtain ⟨f, fd, si, M, g, b, G, q⟩ := O.ex
  obtain ⟨ds, hv, hb⟩ := b j hj
  exact PE.imp (pe_make0 M G hr hg g hb hv hx hdb) fun σ H Q h => fun p dx h2 h3 h4 => q _ H Q _ h p dx h2 h3 h4
def tFldN (C : Addr) (ta : TE) (f : Str) : TE := fun σ H Q => ta σ H fun x H1 => ∃ a dx fs v, x = .ref a ∧ H1 a = some (.ins C dx fs) ∧ fs.lookup f = some v ∧ Q v H1
theorem pe_fldN {C : Addr} (c : Cls X.K C) (n : NoAttr X.K C f) (h : PE X o ta) (hb : attributeBase o f X.env (eval o X.env) = eval o X.env := by rfl) : PE X (.Attribute o f apos) (tFldN C ta f) :=
  PE.imp (pe_fld (PE.mcl h) hb) fun σ H Q q => ⟨_, q, fun x H1 ⟨a, dx, fs, v, e1, e2, e3, q⟩ => ⟨a, C, dx, fs, v, e1, e2, c, n, e3, q⟩⟩
end
theorem lk1 {f g : Str} {v w : V} (h : (f == g) = false) : List.lookup f [(g, w), (f, v)] = some v := by simp [List.lookup, h]
theorem lkn2 {f g h : Str} {v w : V} (h1 : (f == g) = false) (h2 : (f == h) = false) : List.lookup f [(g, v), (h, w)] = none := by simp [List.lookup, h1, h2]
theorem lkh {f : Str} {v : V} {l : List (Str × V)} : List.lookup f ((f, v) :: l) = some v := by simp [List.lookup]
/-- None or an int -/
def ov : Option Int → V
  | none => .non
  | some i => .int i
theorem wh_ov {K : PySem.W.Frag} {H : Hp} {o : Option Int} : Wh K H (ov o) := by cases o; exact wh_non; exact wh_int
theorem putF_nil {f : Str} {v : V} : putF f v [] = [(f, v)] := rfl
theorem putF_cons {f g : Str} {v w : V} {l : List (Str × V)} (h : g ≠ f) : putF f v ((g, w) :: l) = (g, w) :: putF f v l := by
  show (if g = f then _ else _) = _
  rw [if_neg h]
/-- self.f = e, the object's class known -/
def tSto (C : Addr) (f : Str) (ta tv : TE) : TS := fun D σ H => tv σ H fun y H1 => ta σ H1 fun x H2 => ∃ a dx fs, x = .ref a ∧ H2 a = some (.ins C dx fs) ∧ fs.length < 1000 ∧ ∀ H3, Put H2 H3 a (.ins C dx (putF f y fs)) → D.nx σ H3
theorem ps_fldN {X : Cx} {C : Addr} {f : Str} {o e : Expr} {ta tv : TE} {apos pos : Pos} (c : Cls X.K C) (n : NoAttr X.K C f) (ho : PE X o ta) (he : PE X e tv) (hs : swapsWith e (some (.Attribute o f apos)) pos.line X.env = pure false := by rfl) : PS X (.Assign [.Attribute o f apos] e pos) (tSto C f ta tv) :=
  PS.imp (ps_fld (PE.mcl ho) (PE.mcl he) hs) fun D σ H q => ⟨_, q, fun y H1 q1 => ⟨_, q1, fun x H2 ⟨a, dx, fs, e1, e2, e3, k⟩ => ⟨a, C, dx, fs, e1, e2, c, n, e3, k _ ⟨upd_same, fun _ h => upd_ne h⟩⟩⟩⟩
theorem tyX_mono {K : PySem.W.Frag} {H H' : Hp} {x : V} {t : Value} (h : TyX K H x t) (s : Same H H') : TyX K H' x t := by
  cases h with
  | base b =>
    cases b with
    | non => exact .base .non
    | bl b => exact .base (.bl b)
    | int i => exact .base (.int i)
    | str y => exact .base (.str y)
    | flt y => exact .base (.flt y)
    | lst e => exact .base (.lst (s _ _ e))
    | frz e => exact .base (.frz (s _ _ e))
    | tup e => exact .base (.tup (s _ _ e))
    | dK e => exact .base (.dK (s _ _ e))
    | dT e => exact .base (.dT (s _ _ e))
    | ins e a b c d f => exact .base (.ins (s _ _ e) a b c d f)
  | byt b => exact .byt b
  | set e => exact .set (s _ _ e)
  | kList e c => exact .kList e c
  | kTuple e c => exact .kTuple e c
  | kDict e c => exact .kDict e c
  | fTuple e => exact .fTuple (s _ _ e)
  | fDict e => exact .fDict (s _ _ e)
theorem wh_mono {K : PySem.W.Frag} {H H' : Hp} {x : V} (h : Wh K H x) (s : Same H H') : Wh K H' x := let ⟨t, b, c, ty, r⟩ := h; ⟨t, b, c, tyX_mono ty s, r⟩
theorem same_made {H H' : Hp} {p dx : Addr} {o o' : HO} (hp : H p = none) (hd : H dx = none) (h : ∀ b, b ≠ p → H' b = upd (upd H dx o) p o' b) : Same H H' := fun b u e => by
  rw [h b (ne_of_none e hp), upd_ne (ne_of_none e hp), upd_ne (ne_of_none e hd)]; exact e
/-- isinstance with an own class -/
def rIsOw (K : PySem.W.Frag) : List V → Hp → VK → Prop := fun xs H Q => ∃ x c, xs = [x, .ref c] ∧ ∃ t b, TyX K H x t ∧ PySem.W.kitOne K t (.ref c) = some b ∧ Q (.bl b) H
theorem call_isOw {X : Cx} : CallR X (.builtin "isinstance") (rIsOw X.K) := CallR.imp call_isi fun xs H Q ⟨x, c, a, t, b, ty, k, q⟩ => ⟨x, .ref c, t, .ref c, b, a, .own c, ty, k, q⟩
/-- what isinstance asks of an own class -/
structure ClsI (K : PySem.W.Frag) (C : Addr) : Prop where
  c : Cls K C
  ha : PySem.W.findIn K (.ref C) "__class__" = some (some (.builtin "object.__class__"))
  hn : PySem.W.specialIn K (.builtin "object.__class__") "__get__" = some (some (.builtin "getset_descriptor.__get__"))
  ht : PySem.W.takesIn K (.builtin "object.__class__") = some true
  hm : PySem.W.mroIn K C (.type "object") = some true
theorem ClsI.ty {K : PySem.W.Frag} {C : Addr} {H : Hp} {a dx : Addr} {fs : List (Str × V)} (T : ClsI K C) (h : H a = some (.ins C dx fs)) : TyX K H (.ref a) (.ref C) := .base (.ins h T.c T.ha T.hn T.ht T.hm)
theorem kit_self {K : PySem.W.Frag} {t : Value} (h : (t == t) = true := by simp) : PySem.W.kitOne K t t = some true := by unfold PySem.W.kitOne; rw [if_pos h]
end Iz
/-! RlA -/
set_option Elab.async false
set_option linter.all false
set_option maxRecDepth 100000
set_option maxHeartbeats 4000000
namespace Iz
open PySem PySem.Spec PyProof.Rows L2
/-! ### ranges with great ends: another iterator goes through them -/
theorem slotL_next : Slot "longrange_iterator" "__next__" "longrange_iterator.__next__" :=
  .of (owner := "longrange_iterator") (n := "__next__") (by rw [typeLookup_type, builtinLookup_eq_fast]; kernel_rfl) (by decide +kernel) (by decide +kernel) (by decide +kernel)
    (by first | exact .inl (by decide +kernel) | exact .inr (by decide +kernel)) (by rw [isSubtype_type]; kernel_rfl)
theorem ownerL : Manifest.owners.lookup (String.ofList ['r', 'o', 't', 'a', 'r', 'e', 't', 'i', '_', 'e', 'g', 'n', 'a', 'r', 'g', 'n', 'o', 'l'].reverse) = some Manifest.sig_longrange_iterator := by kernel_rfl
theorem entryL_next : entryFor table "longrange_iterator.__next__" = some Builtin.«longrange_iterator.__next__» := entryFor_of_tree (by kernel_rfl)
theorem argsL_next (a : Value) : argsOk "longrange_iterator.__next__" ⟨[a], []⟩ := by
  unfold argsOk; rw [signature?_of (id := "longrange_iterator.__next__") (n := ['_', '_', 't', 'x', 'e', 'n', '_', '_']) (o := ['r', 'o', 't', 'a', 'r', 'e', 't', 'i', '_', 'e', 'g', 'n', 'a', 'r', 'g', 'n', 'o', 'l']) (by kernel_rfl) ownerL]; kernel_rfl
abbrev IsLR (h : Heap) (it : Addr) (x left step : Int) : Prop := h.get? it = some { cls := .type "longrange_iterator", dict := none, data := .fields #[rawInt x, rawInt left, rawInt step], slots := #[] }
theorem slotL_iter : Slot "longrange_iterator" "__iter__" "longrange_iterator.__iter__" :=
  .of (owner := "longrange_iterator") (n := "__iter__") (by rw [typeLookup_type, builtinLookup_eq_fast]; kernel_rfl) (by decide +kernel) (by decide +kernel) (by decide +kernel)
    (by first | exact .inl (by decide +kernel) | exact .inr (by decide +kernel)) (by rw [isSubtype_type]; kernel_rfl)
theorem argsL_iter (a : Value) : argsOk "longrange_iterator.__iter__" ⟨[a], []⟩ := by
  unfold argsOk; rw [signature?_of (id := "longrange_iterator.__iter__") (n := ['_', '_', 'r', 'e', 't', 'i', '_', '_']) (o := ['r', 'o', 't', 'a', 'r', 'e', 't', 'i', '_', 'e', 'g', 'n', 'a', 'r', 'g', 'n', 'o', 'l']) (by kernel_rfl) ownerL]; kernel_rfl
theorem entryL_iter : entryFor table "longrange_iterator.__iter__" = some Builtin.«dict_keyiterator.__iter__» :=
  entryFor_alias (id' := "dict_keyiterator.__iter__") (by kernel_rfl) (by first | rfl | decide +kernel | (unfold String.splitOn; simp +decide [String.splitOnAux])) (by decide +kernel) (by kernel_rfl)
end Iz
/-! Rl -/
set_option Elab.async false
set_option linter.all false
set_option maxRecDepth 100000
set_option maxHeartbeats 4000000
namespace Iz
open PySem PySem.Spec PyProof.Rows L2
theorem meetsL_next (it : Addr) (x left step : Int) (hc0 : ¬left ≤ 0) :
    Meets (Builtin.«longrange_iterator.__next__» ⟨[.ref it], []⟩) (fun _ R s => s.heap.get? it = some { cls := .type "longrange_iterator", dict := none, data := .fields #[rawInt x, rawInt left, rawInt step], slots := #[] } ∧ R (.ok (.ret (Value.int x s.toks))) { s with heap := (s.heap.update it (Obj.mapFields fun x_1 => x_1.setIfInBounds 0 (rawInt (x + step)))).update it (Obj.mapFields fun x => x.setIfInBounds 1 (rawInt (left - 1))), toks := s.toks + 1 }) :=
  .of_wp fun prog w A R s h => by obtain ⟨hp, g, d, tk, os⟩ := s; obtain ⟨hl, h⟩ := h; unfold Builtin.«longrange_iterator.__next__» Builtin.Iterators_pickling.intField; wp_walk; exact ⟨_, rfl, h⟩
section
variable {prog : Program} {w : World} {A : Around} {E : Value → Shared → Prop} {s : Shared}
theorem nextL_item {it : Addr} {x left step : Int} {Q : Option Value → Shared → Prop} (hit : IsLR s.heap it x left step) (hleft : 0 < left)
    (hQ : ∀ h', IsLR h' it (x + step) (left - 1) step → Heap.SameBut it s.heap h' → Q (some (.int x s.toks)) { s with heap := h', toks := s.toks + 1 }) :
    wpAny (model prog w) A (pyNext (.ref it)) Q E s := by
  have hT : s.TypeIs (.ref it) "longrange_iterator" := ⟨_, hit, rfl⟩
  unfold pyNext
  refine wpAny_bind (wpAny_attempt (wpAny_callSpecial?_slot (name := Str.ofString "__next__") hT slotL_next
    (call_meets slotL_next hT entryL_next (argsL_next _) (meetsL_next it x left step (by omega)) ⟨hit, ?_⟩)))
  exact wpAny_pure (hQ _ (Heap.get?_update_self _ (Heap.get?_update_self _ hit rfl) rfl) ((Heap.SameBut.update ..).trans (Heap.SameBut.update ..)))
theorem intF {id : String} {a : Addr} {o : Obj} {vs : Array Value} {i : Nat} {x : Int} {Q : Int → Shared → Prop} (ho : s.heap.get? a = some o) (hd : o.data = .fields vs) (hi : vs[i]? = some (rawInt x)) (h : Q x s) :
    wpAny (model prog w) A (Builtin.Iterators_pickling.intField id (.ref a) i) Q E s := by
  unfold Builtin.Iterators_pickling.intField
  exact wpAny_bind (wpAny_field ho hd hi (wpAny_pure h))
theorem nextL_end {it : Addr} {x left step : Int} {Q : Option Value → Shared → Prop} (hh : A.handled = none) (hit : IsLR s.heap it x left step) (hleft : left ≤ 0)
    (hQ : ∀ h', Heap.ExtBut it s.heap h' → Q none { s with heap := h' }) : wpAny (model prog w) A (pyNext (.ref it)) Q E s := by
  have hT : s.TypeIs (.ref it) "longrange_iterator" := ⟨_, hit, rfl⟩
  unfold pyNext
  refine wpAny_bind (wpAny_attempt (wpAny_callSpecial?_slot (name := Str.ofString "__next__") hT slotL_next
    (wpAny_call_entry slotL_next hT entryL_next ?_ (argsL_next _))))
  unfold Builtin.«longrange_iterator.__next__»
  refine wpAny_bind (wpAny_of_eq (a := #[some (Value.ref it)]) (by first | rfl | kernel_rfl) ?_)
  refine wpAny_bind (intF hit rfl (x := x) rfl ?_)
  refine wpAny_bind (intF hit rfl (x := left) rfl ?_)
  refine wpAny_bind (intF hit rfl (x := step) rfl ?_)
  simp only [if_pos hleft]
  refine wpAny_bind (wpAny_rule ?_)
  simp only [newExc, newTuple]
  refine wpAny_bind ?_
  refine wpAny_bind (wpAny_newObj_type ?_ (by size_fits))
  refine wpAny_bind (m := firstArgMember _ _) (wpAny_of_eq (a := Value.none) (by first | rfl | (simp only [firstArgMember]; rfl)) ?_)
  refine wpAny_newObj_type ?_ (by size_fits)
  simp only [raiseNew]
  refine wpAny_bind (wpAny_bind (wpAny_handled ?_))
  first | rw [show A.in1.handled = none from hh] | rw [hh]
  refine wpAny_throw ?_
  refine wpAny_bind (wpAny_isInstance (T := "StopIteration") (b := true) ⟨_, Heap.get?_push_size _ rfl, rfl⟩ isSubtype_stop ?_)
  exact wpAny_pure (hQ _ (((Heap.ExtBut.refl it s.heap).push _).push _))
theorem iterL_self {it : Addr} {x left step : Int} {Q : Value → Shared → Prop} (hit : IsLR s.heap it x left step) (h : Q (.ref it) s) : wpAny (model prog w) A (pyIter (.ref it)) Q E s := by
  have hT : s.TypeIs (.ref it) "longrange_iterator" := ⟨_, hit, rfl⟩
  refine wpAny_pyIter_slot hT slotL_iter (wpAny_call_entry slotL_iter hT entryL_iter ?_ (argsL_iter _))
  show wpAny _ _ (ret (.ref it)) _ _ s
  exact wpAny_pure ⟨_, rfl, "longrange_iterator", _, hT, slotL_next.lookup, h⟩
theorem iterL_range {r : Addr} {a b c : Int} {t u v : Tok} {Q : Value → Shared → Prop} (hr : IsRange s.heap r a b c t u v) (hsmall : ¬ Builtin.Range.small a b c = true)
    (hQ : Q (.ref s.heap.objs.size) { s with heap := s.heap.push { cls := .type "longrange_iterator", data := .fields #[rawInt a, rawInt (Builtin.Range.rangeSize a b c), rawInt c] } }) :
    wpAny (model prog w) A (pyIter (.ref r)) Q E s := by
  have hT : s.TypeIs (.ref r) "range" := ⟨_, hr, rfl⟩
  refine wpAny_pyIter_slot hT F.slot_range_iter (call_meets F.slot_range_iter hT F.entry_range_iter (F.args_range_iter_1 _)
    (AutoRange.range___iter___range_0 r a b c t u v (by have e := Bool.eq_false_iff.mpr hsmall; unfold Builtin.Range.small at e; rw [e]; rfl)) ⟨hr, ?_⟩)
  unfold Builtin.Range.small at hsmall
  rw [if_neg hsmall]
  exact ⟨"longrange_iterator", _, ⟨_, Heap.get?_push_size _ rfl, rfl⟩, slotL_next.lookup, hQ⟩
end
theorem turnL {P : Program} {w : World} {K : PySem.W.Frag} {tg : Expr} (it : Addr) (lo : Int) (n : Nat) : Turn P w K tg (Itr lo n) [it] it (fun i h => IsLR h it (lo + (i : Nat)) ((n : Int) - (i : Nat)) 1) where
  mem := by simp
  obj := fun i h st b hb => by
    have e : b = it := by simpa using hb
    subst e
    exact ⟨_, st, fun v z => by
      have z' : Data.fields _ = Data.cell v := z
      cases z'⟩
  keep := fun i h h' st k => k it (by simp) _ st
  item := by
    intro X hP hw hK hc i pins s σ H E I hf st hg
    subst hP hw hK
    obtain ⟨f0, f1, f2, f3, f4, f5⟩ := hf it (by simp)
    have hg' : i < n := hg
    refine nextL_item st (by omega) fun h' st' sb => ?_
    have I1 : Inv X pins σ H { s with heap := h', toks := s.toks + 1 } := I.turned (fun b o hb e => (sb.2 b hb).trans e) f0 f1 f3 f4 f5
    have e1 : lo + ((i + 1 : Nat) : Int) = lo + (i : Int) + 1 := by omega
    have e2 : (n : Int) - ((i + 1 : Nat) : Int) = (n : Int) - (i : Int) - 1 := by omega
    refine ⟨_, rfl, go_of (s := { s with heap := h', toks := s.toks + 1 }) (n := "longrange_iterator") st' rfl rfl (by decide) ⟨.int (lo + i), H, I1, ⟨_, rfl⟩, ⟨rfl, rfl⟩, ?_, fun b hb => (hf b hb).1⟩⟩
    show IsLR h' it (lo + ((i + 1 : Nat) : Int)) ((n : Int) - ((i + 1 : Nat) : Int)) 1
    rw [e1, e2]; exact st'
  done := by
    intro X hP hw hK hc i pins s σ H E I hf st hg
    subst hP hw hK
    obtain ⟨f0, f1, f2, f3, f4, f5⟩ := hf it (by simp)
    exact nextL_end (I.ok.hd hc) st (by have : n ≤ i := hg; omega) fun h' eb => ⟨rfl, I.turned (t' := s.toks) (fun b o hb e => eb b o hb e) f0 f1 f3 f4 f5⟩
  self := fun _ _ _ _ _ st h => iterL_self st h
section
variable {X : Cx} {tg : Expr}
theorem range_itL {pins : List (Addr × Obj)} {σ : L2.St} {H : Hp} {s : Shared} {R : It → Hp → Prop} {E : Value → Shared → Prop} {lo hi : Int} {t u v : Tok} {tk : Nat} (I : Inv X pins σ H s)
    (q : R (Itr lo (hi - lo).toNat) H) : wpAny (model X.prog X.w) X.A (pyIter (.ref s.heap.objs.size)) (PIE X pins σ tg R) E { s with heap := s.heap.push { cls := .type "range", data := .fields #[.int lo t, .int hi u, .int 1 v] }, toks := tk } := by
  have I1 : Inv X pins σ H { s with heap := s.heap.push { cls := .type "range", data := .fields #[.int lo t, .int hi u, .int 1 v] }, toks := tk } := I.kept fun b o e => Heap.get?_push_of_some _ e
  have e2 : (((hi - lo).toNat : Nat) : Int) - ((0 : Nat) : Int) = Builtin.Range.rangeSize lo hi 1 := by rw [rangeSize_one]; split <;> omega
  by_cases hs : Builtin.Range.small lo hi 1 = true
  · refine wpAny_pyIter_range (IsRange.new ..) hs ?_
    refine ⟨(s.heap.push { cls := .type "range", data := .fields #[.int lo t, .int hi u, .int 1 v] }).objs.size, [(s.heap.push { cls := .type "range", data := .fields #[.int lo t, .int hi u, .int 1 v] }).objs.size], _, _, H, rfl,
      I1.kept (t' := tk) fun b o e => Heap.get?_push_of_some _ e, turn_range _ lo (hi - lo).toNat, ?_, fun b hb => ?_, q⟩
    · have e1 : lo + ((0 : Nat) : Int) * 1 = lo := by simp
      show IsRangeIter _ _ (lo + ((0 : Nat) : Int) * 1) ((((hi - lo).toNat : Nat) : Int) - ((0 : Nat) : Int)) 1
      rw [e1, e2]
      exact Heap.get?_push_size _ rfl
    · have e : b = (s.heap.push { cls := .type "range", data := .fields #[.int lo t, .int hi u, .int 1 v] }).objs.size := by simpa using hb
      subst e
      exact I1.fpOk (Nat.le_refl _) (I1.hok.fresh (Nat.le_refl _))
  · refine iterL_range (IsRange.new ..) hs ?_
    refine ⟨(s.heap.push { cls := .type "range", data := .fields #[.int lo t, .int hi u, .int 1 v] }).objs.size, [(s.heap.push { cls := .type "range", data := .fields #[.int lo t, .int hi u, .int 1 v] }).objs.size], _, _, H, rfl,
      I1.kept (t' := tk) fun b o e => Heap.get?_push_of_some _ e, turnL _ lo (hi - lo).toNat, ?_, fun b hb => ?_, q⟩
    · have e1 : lo + ((0 : Nat) : Int) = lo := by simp
      show IsLR _ _ (lo + ((0 : Nat) : Int)) ((((hi - lo).toNat : Nat) : Int) - ((0 : Nat) : Int)) 1
      rw [e1, e2]
      exact Heap.get?_push_size _ rfl
    · have e : b = (s.heap.push { cls := .type "range", data := .fields #[.int lo t, .int hi u, .int 1 v] }).objs.size := by simpa using hb
      subst e
      exact I1.fpOk (Nat.le_refl _) (I1.hok.fresh (Nat.le_refl _))
/-- range(lo, hi), of any size -/
def iRngL (ta : TA) : TI := fun σ H R => ta σ H fun vs H1 => ∃ i j : Int, vs = [.int i, .int j] ∧ R (Itr i (j - i).toNat) H1
theorem pi_rangeL {a b : Expr} {ta : TA} {p pos : Pos} (hg : Gl X "range") (hm : X.mg "range" = none) (ha : PA X [a, b] ta) (hs : starEach [a, b] X.env = [(false, eval a X.env), (false, eval b X.env)] := by rfl) (hs2 : starEach [b] X.env = [(false, eval b X.env)] := by rfl) :
    PI X tg (.Call (.Name "range" p) [a, b] [] pos) (iRngL ta) := by
  refine ⟨fun pins s σ H R I h => ?_⟩
  refine Call_ (ld_blt I hg hm boot_range (PyProof.Rows.callWith_type1 (thn (ha.run pos pins s σ H _ I h) fun us s1 ⟨vs, H1, I1, r1, q1⟩ => ?_) (by rw [hs, hs2]) (by rw [hs2]; rfl)))
  obtain ⟨i, j, e, q⟩ := q1
  subst e
  cases r1 with
  | cons r rr =>
    cases rr with
    | cons r' rr =>
      cases rr
      obtain ⟨t, rfl⟩ := r
      obtain ⟨t', rfl⟩ := r'
      exact call_range_2 (range_itL I1 q)
end
end Iz
/-! Ls -/
set_option Elab.async false
set_option linter.all false
set_option maxRecDepth 100000
set_option maxHeartbeats 4000000
namespace Iz
open PySem PySem.Spec PyProof.Rows L2
/-! ### loops over lists, tuples and ranges, comprehensions of what is told by functions -/
section
variable {K : PySem.W.Frag} {g : TG} {tb : TS} {D : Ends} {σ : L2.St} {H : Hp} {ta : TA} {tl : TE} {tt : TT} {te : TE} {vs : List Nat} {Q : VK}
theorem st_forRL (lo j : Int) (ha : ∀ R : List V → Hp → Prop, R [.int lo, .int j] H → ta σ H R) (Pv : Nat → L2.St → Hp → Prop) (h0 : Pv 0 σ H)
    (hs : ∀ i σ H, i < (j - lo).toNat → Pv i σ H → g (.int (lo + i)) σ H fun σ2 H2 => tb { D with nx := Pv (i + 1), ct := Pv (i + 1), bk := D.nx } σ2 H2) (hd : ∀ σ H, Pv (j - lo).toNat σ H → D.nx σ H) : tFor (iRngL ta) g tb D σ H :=
  ha _ ⟨lo, j, rfl, for_range Pv h0 hs hd⟩
theorem st_forL {a : Addr} {xs : List V} (ha : ∀ R : V → Hp → Prop, R (.ref a) H → tl σ H R) (hx : H a = some (.lst xs)) (Pv : Nat → L2.St → Hp → Prop) (h0 : Pv 0 σ H) (hl : ∀ i σ H, Pv i σ H → H a = some (.lst xs))
    (hs : ∀ i x σ H, xs[i]? = some x → Pv i σ H → g x σ H fun σ2 H2 => tb { D with nx := Pv (i + 1), ct := Pv (i + 1), bk := D.nx } σ2 H2) (hd : ∀ σ H, Pv xs.length σ H → D.nx σ H) : tFor (iList K tl) g tb D σ H :=
  ha _ ⟨a, rfl, ⟨xs, SqL.of hx⟩, for_list Pv h0 (fun i σ H _ p => SqL.of (hl i σ H p)) hs hd⟩
theorem st_forT {a : Addr} {xs : List V} (ha : ∀ R : V → Hp → Prop, R (.ref a) H → tl σ H R) (hx : H a = some (.tup xs)) (Pv : Nat → L2.St → Hp → Prop) (h0 : Pv 0 σ H) (hl : ∀ i σ H, Pv i σ H → H a = some (.tup xs))
    (hs : ∀ i x σ H, xs[i]? = some x → Pv i σ H → g x σ H fun σ2 H2 => tb { D with nx := Pv (i + 1), ct := Pv (i + 1), bk := D.nx } σ2 H2) (hd : ∀ σ H, Pv xs.length σ H → D.nx σ H) : tFor (iTup K tl) g tb D σ H :=
  ha _ ⟨a, rfl, ⟨xs, SqT.of hx⟩, for_tup Pv h0 (fun i σ H _ p => SqT.of (hl i σ H p)) hs hd⟩
/-- lo, .., j - 1 -/
def intsB (lo j : Int) : List Int := (List.range (j - lo).toNat).map fun (k : Nat) => lo + (k : Int)
theorem mem_intsB {lo j i : Int} : i ∈ intsB lo j ↔ lo ≤ i ∧ i < j := by
  simp only [intsB, List.mem_map, List.mem_range]
  constructor
  · rintro ⟨k, hk, rfl⟩; omega
  · rintro ⟨h1, h2⟩; exact ⟨(i - lo).toNat, by omega, by omega⟩
theorem take_filter_succ {α : Type} {xs : List α} {i : Nat} {x : α} (h : xs[i]? = some x) (p : α → Bool) : (xs.take (i + 1)).filter p = (xs.take i).filter p ++ (if p x = true then [x] else []) := by
  rw [List.take_succ, h, List.filter_append]
  congr 1
  by_cases e : p x = true <;> simp [e]
/-- [f(x) for x in xs if p(x)] -/
theorem st_lcLF {a : Addr} {xs : List V} (ha : ∀ R : V → Hp → Prop, R (.ref a) H → tl σ H R) (hx : H a = some (.lst xs)) (hz : xs.length ≤ sizeLine) (p : V → Bool) (f : V → V)
    (hs : ∀ x H' (A : Hp → Prop) (B : VK), x ∈ xs → Same H H' → (p x = false → ∀ H3, Same H' H3 → A H3) → (p x = true → ∀ H4, Same H' H4 → B (f x) H4) →
      g x (wipe σ vs) H' fun σ2 H2 => wipe σ2 vs = wipe σ vs ∧ tt σ2 H2 fun b H3 => if b = true then te σ2 H3 B else A H3)
    (hd : ∀ D H', H D = none → Same H H' → H' D = some (.lst ((xs.filter p).map f)) → Q (.ref D) H') : tLc (iList K tl) g tt te vs σ H Q := by
  refine ha _ ⟨a, rfl, ⟨xs, SqL.of hx⟩, fun D hD => lc_list (fun i H' => Same H H' ∧ H' D = some (.lst (((xs.take i).filter p).map f))) ⟨Same.upd hD, upd_same⟩ (fun i H' _ q => SqL.of (q.1 _ _ hx)) (fun i x H' hi q => ?_) (fun H' q => hd D H' hD q.1 (by rw [q.2, List.take_length]))⟩
  refine hs x H' _ _ (List.mem_of_getElem? hi) q.1 (fun e H3 s3 => ⟨q.1.trans s3, ?_⟩) (fun e H4 s4 => ⟨_, s4 _ _ q.2, ?_, ?_, ?_⟩)
  · rw [s3 _ _ q.2, take_filter_succ hi, e]; simp
  · have hi' := (List.getElem?_eq_some_iff.mp hi).1
    have h1 : ((xs.take i).filter p).length ≤ (xs.take i).length := List.length_filter_le _ _
    have h2 : (xs.take i).length ≤ i := by rw [List.length_take]; exact Nat.min_le_left _ _
    rw [List.length_map]; omega
  · exact fun b u e2 => by
      have hb : b ≠ D := ne_of_none e2 hD
      rw [upd_ne hb]; exact s4 _ _ (q.1 _ _ e2)
  · rw [upd_same, take_filter_succ hi, e]; simp
/-- [f(x) for x in range(lo, j) if p(x)] -/
theorem st_lcRF (lo j : Int) (ha : ∀ R : List V → Hp → Prop, R [.int lo, .int j] H → ta σ H R) (hz : (j - lo).toNat ≤ sizeLine) (p : Int → Bool) (f : Int → V)
    (hs : ∀ x H' (A : Hp → Prop) (B : VK), lo ≤ x → x < j → Same H H' → (p x = false → ∀ H3, Same H' H3 → A H3) → (p x = true → ∀ H4, Same H' H4 → B (f x) H4) →
      g (.int x) (wipe σ vs) H' fun σ2 H2 => wipe σ2 vs = wipe σ vs ∧ tt σ2 H2 fun b H3 => if b = true then te σ2 H3 B else A H3)
    (hd : ∀ D H', H D = none → Same H H' → H' D = some (.lst (((intsB lo j).filter p).map f)) → Q (.ref D) H') : tLc (iRngL ta) g tt te vs σ H Q := by
  refine ha _ ⟨lo, j, rfl, fun D hD => lc_range (fun i H' => Same H H' ∧ H' D = some (.lst ((((intsB lo j).take i).filter p).map f))) ⟨Same.upd hD, upd_same⟩ (fun i H' hi q => ?_) (fun H' q => hd D H' hD q.1 (by rw [q.2, show (j - lo).toNat = (intsB lo j).length by simp [intsB], List.take_length]))⟩
  have hi' : (intsB lo j)[i]? = some (lo + (i : Int)) := by simp [intsB, hi]
  refine hs (lo + i) H' _ _ (by omega) (by omega) q.1 (fun e H3 s3 => ⟨q.1.trans s3, ?_⟩) (fun e H4 s4 => ⟨_, s4 _ _ q.2, ?_, ?_, ?_⟩)
  · rw [s3 _ _ q.2, take_filter_succ hi', e]; simp
  · have h1 : (((intsB lo j).take i).filter p).length ≤ ((intsB lo j).take i).length := List.length_filter_le _ _
    have h2 : ((intsB lo j).take i).length ≤ i := by rw [List.length_take]; exact Nat.min_le_left _ _
    rw [List.length_map]; omega
  · exact fun b u e2 => by
      have hb : b ≠ D := ne_of_none e2 hD
      rw [upd_ne hb]; exact s4 _ _ (q.1 _ _ e2)
  · rw [upd_same, take_filter_succ hi', e]; simp
end
end Iz
namespace Iz
open PySem PySem.Spec PyProof.Rows L2
/-! ### slices, + of lists, deep ==, in the form that simp reads -/
section
variable {X : Cx} {e : Expr} {te : TE}
def tRevLN (te : TE) : TE := fun σ H Q => te σ H fun x H1 => ∃ a xs, x = .ref a ∧ H1 a = some (.lst xs) ∧ News H1 (.lst xs.reverse) Q
theorem pe_revLN {k : Nat} {p1 p2 p3 pos : Pos} (he : PE X e te) : PE X (.Subscript e (.Slice none none (some (.UnaryOp .USub (.Constant (.int 1) k p1) p2)) p3) pos) (tRevLN te) :=
  PE.imp (pe_revL (PE.mcl he)) fun σ H Q q => ⟨_, q, fun v H1 ⟨a, xs, e1, e2, n⟩ => ⟨a, xs, e1, SqL.of e2, n.all⟩⟩
def rCatN : R2 := fun x y H Q => ∃ l b xs zs, x = .ref l ∧ y = .ref b ∧ H l = some (.lst xs) ∧ H b = some (.lst zs) ∧ xs.length + zs.length ≤ sizeLine ∧ News H (.lst (xs ++ zs)) Q
theorem op_catN : OpR X (binaryOp .Add) rCatN := fun pins s σ H x y v u Q I rx ry ⟨l, b, xs, zs, e1, e2, e3, e4, e5, n⟩ => op_cat pins s σ H x y v u Q I rx ry ⟨l, b, xs, zs, e1, e2, e3, e4, e5, n.all⟩
end
/-- x in xs, x not in xs: flat things -/
def rInTN (neg : Bool) : R2 := fun x y H Q => ∃ p xs, y = .ref p ∧ H p = some (.tup xs) ∧ flatV x = true ∧ xs.all flatV = true ∧ Q (.bl (if neg then !inV x xs else inV x xs)) H
def rInLN (neg : Bool) : R2 := fun x y H Q => ∃ p xs, y = .ref p ∧ H p = some (.lst xs) ∧ flatV x = true ∧ xs.all flatV = true ∧ Q (.bl (if neg then !inV x xs else inV x xs)) H
theorem op_inTN {X : Cx} : OpR X (compareOp .In) (rInTN false) := fun pins s σ H x y v u Q I rx ry ⟨p, xs, e1, e2, e3, e4, q⟩ => op_in_seq pins s σ H x y v u Q I rx ry ⟨p, xs, e1, .inr (SqT.of e2), e3, e4, q⟩
theorem op_notInTN {X : Cx} : OpR X (compareOp .NotIn) (rInTN true) := fun pins s σ H x y v u Q I rx ry ⟨p, xs, e1, e2, e3, e4, q⟩ => op_notIn_seq pins s σ H x y v u Q I rx ry ⟨p, xs, e1, .inr (SqT.of e2), e3, e4, q⟩
theorem op_inLN {X : Cx} : OpR X (compareOp .In) (rInLN false) := fun pins s σ H x y v u Q I rx ry ⟨p, xs, e1, e2, e3, e4, q⟩ => op_in_seq pins s σ H x y v u Q I rx ry ⟨p, xs, e1, .inl (SqL.of e2), e3, e4, q⟩
theorem op_notInLN {X : Cx} : OpR X (compareOp .NotIn) (rInLN true) := fun pins s σ H x y v u Q I rx ry ⟨p, xs, e1, e2, e3, e4, q⟩ => op_notIn_seq pins s σ H x y v u Q I rx ry ⟨p, xs, e1, .inl (SqL.of e2), e3, e4, q⟩
def ShN (n : Nat) (d : PyData) : Prop := d.canLay0 = true ∧ d.depth ≤ n
theorem ShN.up {n m : Nat} {d : PyData} (h : ShN n d) (k : n ≤ m) : ShN m d := ⟨h.1, Nat.le_trans h.2 k⟩
theorem ShN.non {n : Nat} : ShN n .none := ⟨by simp [PyData.canLay0], by simp [PyData.depth]⟩
theorem ShN.int {n : Nat} {i : Int} : ShN n (.int i) := ⟨by simp [PyData.canLay0], by simp [PyData.depth]⟩
theorem ShN.bool {n : Nat} {b : Bool} : ShN n (.bool b) := ⟨by simp [PyData.canLay0], by simp [PyData.depth]⟩
theorem shAll {n : Nat} {ds : List PyData} (h : ∀ d ∈ ds, ShN n d) : PyData.canLayAll0 ds = true ∧ PyData.depthAll ds ≤ n := by
  induction ds with
  | nil => exact ⟨by simp [PyData.canLayAll0], by simp [PyData.depthAll]⟩
  | cons d ds ih =>
    have h1 := h d (by simp)
    have h2 := ih fun x hx => h x (by simp [hx])
    exact ⟨by simp [PyData.canLayAll0, h1.1, h2.1], by simp only [PyData.depthAll]; exact Nat.max_le.mpr ⟨h1.2, h2.2⟩⟩
theorem ShN.list {n : Nat} {ds : List PyData} (h : ∀ d ∈ ds, ShN n d) : ShN (n + 1) (.list ds) := ⟨by simp only [PyData.canLay0]; exact (shAll h).1, by simp only [PyData.depth]; have := (shAll h).2; omega⟩
theorem ShN.tuple {n : Nat} {ds : List PyData} (h : ∀ d ∈ ds, ShN n d) : ShN (n + 1) (.tuple ds) := ⟨by simp only [PyData.canLay0]; exact (shAll h).1, by simp only [PyData.depth]; have := (shAll h).2; omega⟩
theorem ShN.ok {n : Nat} {d : PyData} (h : ShN n d) (k : n ≤ 64 := by decide) : SeqAt.shaped d = true := by
  unfold SeqAt.shaped
  rw [h.1]; simpa using Nat.le_trans h.2 k
/-- None or an int, as data -/
def dO : Option Int → PyData
  | none => .none
  | some i => .int i
theorem dp_ov {K : PySem.W.Frag} {H : Hp} {o : Option Int} : Dp K H (ov o) (dO o) := by cases o; exact .non; exact .int _
theorem sh_dO {n : Nat} {o : Option Int} : ShN n (dO o) := by cases o; exact .non; exact .int
/-- a list of pairs -/
inductive PAll (H : Hp) : List V → List (Option Int × Option Int) → Prop
  | nil : PAll H [] []
  | cons {a : Addr} {xs : List V} {q : Option Int × Option Int} {ps : List (Option Int × Option Int)} : H a = some (.tup [ov q.1, ov q.2]) → PAll H xs ps → PAll H (.ref a :: xs) (q :: ps)
def PairsAt (H : Hp) (a : Addr) (ps : List (Option Int × Option Int)) : Prop := ∃ xs, H a = some (.lst xs) ∧ PAll H xs ps
theorem PAll.length {H : Hp} {xs : List V} {ps : List (Option Int × Option Int)} (h : PAll H xs ps) : xs.length = ps.length := by induction h <;> simp_all
theorem PAll.mono {H H' : Hp} {xs : List V} {ps : List (Option Int × Option Int)} (h : PAll H xs ps) (s : Same H H') : PAll H' xs ps := by
  induction h with
  | nil => exact .nil
  | cons e _ ih => exact .cons (s _ _ e) ih
theorem PAll.monoT {H H' : Hp} {xs : List V} {ps : List (Option Int × Option Int)} (h : PAll H xs ps) (s : ∀ b us, H b = some (.tup us) → H' b = some (.tup us)) : PAll H' xs ps := by
  induction h with
  | nil => exact .nil
  | cons e _ ih => exact .cons (s _ _ e) ih
theorem PAll.snoc {H : Hp} {a : Addr} {q : Option Int × Option Int} {xs : List V} {ps : List (Option Int × Option Int)} (h : PAll H xs ps) (e : H a = some (.tup [ov q.1, ov q.2])) : PAll H (xs ++ [.ref a]) (ps ++ [q]) := by
  induction h with
  | nil => exact .cons e .nil
  | cons e2 _ ih => exact .cons e2 ih
theorem PAll.rev {H : Hp} {xs : List V} {ps : List (Option Int × Option Int)} (h : PAll H xs ps) : PAll H xs.reverse ps.reverse := by
  induction h with
  | nil => exact .nil
  | cons e _ ih => rw [List.reverse_cons, List.reverse_cons]; exact ih.snoc e
theorem PAll.get {H : Hp} {xs : List V} {ps : List (Option Int × Option Int)} (h : PAll H xs ps) {i : Nat} {x : V} (e : xs[i]? = some x) : ∃ a q, x = .ref a ∧ ps[i]? = some q ∧ H a = some (.tup [ov q.1, ov q.2]) := by
  induction h generalizing i with
  | nil => simp at e
  | cons e2 _ ih =>
    cases i with
    | zero => simp at e; subst e; exact ⟨_, _, rfl, rfl, e2⟩
    | succ i => exact ih (by simpa using e)
theorem PairsAt.mono {H H' : Hp} {a : Addr} {ps : List (Option Int × Option Int)} (h : PairsAt H a ps) (s : Same H H') : PairsAt H' a ps := let ⟨xs, e, p⟩ := h; ⟨xs, s _ _ e, p.mono s⟩
theorem drop_of {α : Type} {l : List α} {i : Nat} {x : α} (h : l[i]? = some x) : l.drop i = x :: l.drop (i + 1) := by
  have := (List.getElem?_eq_some_iff.mp h)
  obtain ⟨h1, h2⟩ := this
  rw [← h2]; exact List.drop_eq_getElem_cons h1
def dP (q : Option Int × Option Int) : PyData := .tuple [dO q.1, dO q.2]
theorem PAll.dp {K : PySem.W.Frag} {H : Hp} {xs : List V} {ps : List (Option Int × Option Int)} (h : PAll H xs ps) : DpAll K H xs (ps.map dP) := by
  induction h with
  | nil => exact .nil
  | cons e _ ih => exact .cons (.tup (SqT.of e) (.cons dp_ov (.cons dp_ov .nil))) ih
theorem sh_dP {q : Option Int × Option Int} : ShN 1 (dP q) := ShN.tuple fun d h => by
  simp only [List.mem_cons, List.not_mem_nil, or_false] at h
  rcases h with rfl | rfl <;> exact sh_dO
theorem PairsAt.dp {K : PySem.W.Frag} {H : Hp} {a : Addr} {ps : List (Option Int × Option Int)} (h : PairsAt H a ps) : Dp K H (.ref a) (.list (ps.map dP)) := let ⟨_, e, p⟩ := h; .lst (SqL.of e) p.dp
theorem sh_dPs {ps : List (Option Int × Option Int)} : ShN 2 (.list (ps.map dP)) := ShN.list fun d h => by
  obtain ⟨q, _, rfl⟩ := List.mem_map.mp h; exact sh_dP
/-- xs == [] -/
theorem eq_nil {K : PySem.W.Frag} {H : Hp} {a b : Addr} {ps : List (Option Int × Option Int)} {R : VK} (h : PairsAt H a ps) (h2 : H b = some (.lst [])) (r : R (.bl ps.isEmpty) H) : rEqD K (.ref a) (.ref b) H R :=
  ⟨_, _, h.dp, dp_nil h2, sh_dPs.ok, (ShN.list (n := 0) fun _ h => by simp at h).ok, by cases ps <;> simp_all [PyData.eqv, PyData.eqvAll]⟩
end Iz
namespace Iz
open PySem PySem.Spec PyProof.Rows L2
open He (ga)
/-! ### within a lambda: the rules that name the written part -/
section
variable {X : Cx} {CX : CXT} {k j : Nat} {x m f : Str} {ps : List Str} {dvs : List V} {sp : Sp} {E : XK} {o e : Expr} {es : List Expr} {ta : TE} {t : TA} {p pos apos : Pos} {K : PySem.W.Frag}
theorem pmtK {pl : Sem Bool} (hK : X.K = K) (O : OkM X.prog X.w X.K X.mg X.base CX k x m ps dvs sp) (C : Cls X.K (ga X.K x)) (he : PE X o ta) (hj : j ≤ dvs.length) (hr : Room k X.A) (hx : Passes CX X E) (ha : PA X (e :: es) t)
    (hst : starEach (e :: es) X.env = (false, eval e X.env) :: starEach es X.env := by rfl) (hpl : (backTo pos (starEach es X.env)).any (·.1) = false := by rfl)
    (ht : eval (.Call (.Attribute o m apos) (e :: es) [] pos) X.env = (do
      let ov ← eval o X.env; standAt apos.atName
      let (f, first) ← holding [ov] (getMethod ov m pl)
      callWith pos f first (backTo pos (starEach (e :: es) X.env)) (backToKw pos (keywordEach [] X.env))) := by rfl) :
    PE X (.Call (.Attribute o m apos) (e :: es) [] pos) (tMt (ga K x) m sp (dvs.drop j) E ta t) := by subst hK; exact pmt O C he hj hr hx ha hst hpl ht
theorem pmt0K {pl : Sem Bool} (hK : X.K = K) (O : OkM X.prog X.w X.K X.mg X.base CX k x m ps dvs sp) (C : Cls X.K (ga X.K x)) (he : PE X o ta) (hj : j ≤ dvs.length) (hr : Room k X.A) (hx : Passes CX X E)
    (ht : eval (.Call (.Attribute o m apos) [] [] pos) X.env = (do
      let ov ← eval o X.env; standAt apos.atName
      let (f, first) ← holding [ov] (getMethod ov m pl)
      callWith pos f first (backTo pos (starEach [] X.env)) (backToKw pos (keywordEach [] X.env))) := by rfl) :
    PE X (.Call (.Attribute o m apos) [] [] pos) (tMt (ga K x) m sp (dvs.drop j) E ta tNil) := by subst hK; exact pmt0 O C he hj hr hx ht
theorem pe_fldNK {C : Addr} (hK : X.K = K) (c : Cls K C) (n : NoAttr K C f) (h : PE X o ta) (hb : attributeBase o f X.env (eval o X.env) = eval o X.env := by rfl) : PE X (.Attribute o f apos) (tFldN C ta f) := by subst hK; exact pe_fldN c n h hb
end
end Iz
/-! Mx -/
namespace Iz
/-! ### how great a number is -/
def lg (x : Int) : Nat := if x = 0 then 0 else x.natAbs.log2 + 1
theorem lg_lt {x : Int} {n : Nat} (h : x.natAbs < 2 ^ n) : lg x ≤ n := by
  unfold lg
  split
  · omega
  · rename_i hx
    have := (Nat.log2_lt (n := x.natAbs) (k := n) (by omega)).mpr h
    omega
theorem lg_self (x : Int) : x.natAbs < 2 ^ lg x := by
  unfold lg
  split
  · rename_i h; subst h; decide
  · exact Nat.lt_log2_self
theorem lg_mono {x y : Int} (h : x.natAbs ≤ y.natAbs) : lg x ≤ lg y := lg_lt (Nat.lt_of_le_of_lt h (lg_self y))
theorem lg_half {x y : Int} (h : 2 * x.natAbs < y.natAbs) : lg x + 1 ≤ lg y := by
  have h1 := lg_self y
  have hy : 0 < lg y := by unfold lg; split <;> omega
  obtain ⟨n, hn⟩ : ∃ n, lg y = n + 1 := ⟨lg y - 1, by omega⟩
  rw [hn] at h1 ⊢
  have h2 : x.natAbs < 2 ^ n := by rw [Nat.pow_succ] at h1; omega
  have := lg_lt h2
  omega
def same (d r : Int) : Prop := (0 ≤ d ∧ 0 ≤ r) ∨ (d ≤ 0 ∧ r ≤ 0)
instance (d r : Int) : Decidable (same d r) := by unfold same; infer_instance
def bud (d r : Int) : Nat := if same d r then lg d + lg r + (if d.natAbs < r.natAbs then 1 else 0) else 2 * lg r + 1
/-- the rest of a division by floors -/
theorem rest_pos {d r : Int} (h : 0 < r) : 0 ≤ d - d.fdiv r * r ∧ d - d.fdiv r * r < r := by
  rw [Int.fdiv_eq_ediv_of_nonneg d (by omega)]
  have h1 := Int.emod_nonneg d (b := r) (by omega)
  have h2 := Int.emod_lt_of_pos d h
  have h3 := Int.emod_add_mul_ediv d r
  rw [Int.mul_comm] at h3
  omega
theorem rest_neg {d r : Int} (h : r < 0) : r < d - d.fdiv r * r ∧ d - d.fdiv r * r ≤ 0 := by
  have h1 := rest_pos (d := -d) (r := -r) (by omega)
  rw [Int.neg_fdiv_neg, Int.mul_neg] at h1
  omega
theorem fdiv_le (d r : Int) : (d.fdiv r).natAbs ≤ d.natAbs := by
  by_cases h : 0 ≤ r
  · rw [Int.fdiv_eq_ediv_of_nonneg d h]; exact Int.natAbs_ediv_le_natAbs _ _
  · rw [← Int.neg_fdiv_neg, Int.fdiv_eq_ediv_of_nonneg _ (by omega), ← Int.natAbs_neg d]; exact Int.natAbs_ediv_le_natAbs _ _
theorem fdiv_same {d r : Int} (hr : r ≠ 0) (hs : same d r) (hl : r.natAbs ≤ d.natAbs) : 2 * (d - d.fdiv r * r).natAbs < d.natAbs := by
  rcases Int.lt_or_gt_of_ne hr with h | h
  · have hd : d < 0 := by rcases hs with hs | hs <;> omega
    have h1 := rest_neg (d := d) h
    have ht : 1 ≤ d.fdiv r := by
      rw [← Int.neg_fdiv_neg, Int.fdiv_eq_ediv_of_nonneg _ (by omega)]
      exact (Int.le_ediv_iff_mul_le (by omega)).mpr (by omega)
    have h2 : d.fdiv r * r ≤ 1 * r := Int.mul_le_mul_of_nonpos_right ht (by omega)
    omega
  · have hd : 0 < d := by rcases hs with hs | hs <;> omega
    have h1 := rest_pos (d := d) h
    have ht : 1 ≤ d.fdiv r := by
      rw [Int.fdiv_eq_ediv_of_nonneg _ (by omega)]
      exact (Int.le_ediv_iff_mul_le (by omega)).mpr (by omega)
    have h2 : 1 * r ≤ d.fdiv r * r := Int.mul_le_mul_of_nonneg_right ht (by omega)
    omega
theorem fdiv_small {d r : Int} (hr : r ≠ 0) (hs : same d r) (hl : d.natAbs < r.natAbs) : d - d.fdiv r * r = d := by
  have : d.fdiv r = 0 := by
    rcases Int.lt_or_gt_of_ne hr with h | h
    · rw [← Int.neg_fdiv_neg, Int.fdiv_eq_ediv_of_nonneg _ (by omega)]
      exact Int.ediv_eq_zero_of_lt (by rcases hs with hs | hs <;> omega) (by rcases hs with hs | hs <;> omega)
    · rw [Int.fdiv_eq_ediv_of_nonneg _ (by omega)]
      exact Int.ediv_eq_zero_of_lt (by rcases hs with hs | hs <;> omega) (by rcases hs with hs | hs <;> omega)
  rw [this]; omega
theorem bud_step {d r : Int} (hr : r ≠ 0) : bud r (d - d.fdiv r * r) < bud d r := by
  have hlt : (d - d.fdiv r * r).natAbs < r.natAbs := by
    rcases Int.lt_or_gt_of_ne hr with h | h
    · have := rest_neg (d := d) h; omega
    · have := rest_pos (d := d) h; omega
  have hs' : same r (d - d.fdiv r * r) := by
    rcases Int.lt_or_gt_of_ne hr with h | h
    · have := rest_neg (d := d) h; exact .inr ⟨by omega, by omega⟩
    · have := rest_pos (d := d) h; exact .inl ⟨by omega, by omega⟩
  unfold bud
  rw [if_pos hs', if_neg (by omega)]
  by_cases hs : same d r
  · rw [if_pos hs]
    by_cases hl : d.natAbs < r.natAbs
    · rw [if_pos hl, fdiv_small hr hs hl]; omega
    · rw [if_neg hl]
      have := lg_half (fdiv_same hr hs (by omega))
      omega
  · rw [if_neg hs]
    have := lg_mono (x := d - d.fdiv r * r) (y := r) (by omega)
    omega
theorem bud_le {d r : Int} {n : Nat} (hd : d.natAbs < 2 ^ n) (hr : r.natAbs < 2 ^ n) : bud d r ≤ 2 * n + 1 := by
  have h1 := lg_lt hd
  have h2 := lg_lt hr
  unfold bud
  split
  · split <;> omega
  · omega
/-! ### the weighed divisor's loop -/
structure EI (one other d u v r nu nv : Int) (k : Nat) : Prop where
  e1 : u * one + v * other = d
  e2 : nu * one + nv * other = r
  g : Int.gcd d r = Int.gcd one other
  hd : d.natAbs < 2 ^ 250
  hr : r.natAbs < 2 ^ 250
  bu : u.natAbs ≤ 2 ^ (251 * k)
  bv : v.natAbs ≤ 2 ^ (251 * k)
  bnu : nu.natAbs ≤ 2 ^ (251 * k)
  bnv : nv.natAbs ≤ 2 ^ (251 * k)
  kb : k + bud d r ≤ 501
theorem EI.start {one other : Int} (h1 : one.natAbs < 2 ^ 250) (h2 : other.natAbs < 2 ^ 250) : EI one other one 1 0 other 0 1 0 :=
  ⟨by omega, by omega, rfl, h1, h2, by decide, by decide, by decide, by decide, by have := bud_le h1 h2; omega⟩
theorem grow {u t nu : Int} {k : Nat} (hu : u.natAbs ≤ 2 ^ (251 * k)) (hn : nu.natAbs ≤ 2 ^ (251 * k)) (ht : t.natAbs < 2 ^ 250) : (u - t * nu).natAbs ≤ 2 ^ (251 * (k + 1)) := by
  have h1 : (t * nu).natAbs ≤ 2 ^ 250 * 2 ^ (251 * k) := by rw [Int.natAbs_mul]; exact Nat.mul_le_mul (Nat.le_of_lt ht) hn
  have h2 : (u - t * nu).natAbs ≤ u.natAbs + (t * nu).natAbs := by omega
  have h3 : 2 ^ (251 * (k + 1)) = 2 * 2 ^ 250 * 2 ^ (251 * k) := by rw [Nat.mul_succ, Nat.pow_add, show (251 : Nat) = 250 + 1 from rfl, Nat.pow_succ]; rw [Nat.mul_comm, Nat.mul_comm (2 ^ 250) 2]
  have h4 : (1 : Nat) * 2 ^ (251 * k) ≤ 2 ^ 250 * 2 ^ (251 * k) := Nat.mul_le_mul_right _ (Nat.one_le_two_pow)
  rw [h3, Nat.mul_assoc]
  generalize 2 ^ 250 * 2 ^ (251 * k) = A at *
  omega
theorem EI.next {one other d u v r nu nv : Int} {k : Nat} (I : EI one other d u v r nu nv k) (h : r ≠ 0) :
    EI one other r nu nv (d - d.fdiv r * r) (u - d.fdiv r * nu) (v - d.fdiv r * nv) (k + 1) := by
  have ht : (d.fdiv r).natAbs < 2 ^ 250 := Nat.lt_of_le_of_lt (fdiv_le d r) I.hd
  have hm : ∀ {z : Int}, z.natAbs ≤ 2 ^ (251 * k) → z.natAbs ≤ 2 ^ (251 * (k + 1)) := fun hz => Nat.le_trans hz (Nat.pow_le_pow_right (by decide) (by omega))
  refine ⟨I.e2, ?_, ?_, I.hr, ?_, hm I.bnu, hm I.bnv, grow I.bu I.bnu ht, grow I.bv I.bnv ht, ?_⟩
  · generalize d.fdiv r = t
    rw [← I.e1, ← I.e2, Int.sub_mul, Int.sub_mul, Int.mul_add, Int.mul_assoc, Int.mul_assoc]; omega
  · rw [← I.g, Int.gcd_comm d r, Int.mul_comm]; exact Int.gcd_sub_mul_left_right _ _ _
  · refine Nat.lt_trans (?_ : _ < r.natAbs) I.hr
    rcases Int.lt_or_gt_of_ne h with h | h
    · have := rest_neg (d := d) h; omega
    · have := rest_pos (d := d) h; omega
  · have := bud_step (d := d) h
    have := I.kb
    omega
theorem EI.done {one other d u v nu nv : Int} {k : Nat} (I : EI one other d u v 0 nu nv k) : d.natAbs = Int.gcd one other ∧ u * one + v * other = d ∧ u.natAbs ≤ 2 ^ 130000 := by
  refine ⟨?_, I.e1, Nat.le_trans I.bu (Nat.pow_le_pow_right (by decide) (by have := I.kb; omega))⟩
  have := I.g
  rw [Int.gcd_zero_right] at this
  exact this
theorem EI.quo {one other d u v r nu nv : Int} {k : Nat} (I : EI one other d u v r nu nv k) : (d.fdiv r).natAbs < 2 ^ 250 := Nat.lt_of_le_of_lt (fdiv_le d r) I.hd
theorem EI.big {one other d u v r nu nv z : Int} {k : Nat} (I : EI one other d u v r nu nv k) (h : z.natAbs ≤ 2 ^ (251 * k)) : z.natAbs < 2 ^ 130000 := Nat.lt_of_le_of_lt h (Nat.pow_lt_pow_right (by decide) (by have := I.kb; omega))
end Iz
/-! My -/
namespace Iz
theorem gpos {b p : Int} (hp : 1 ≤ p) : 0 < (Int.gcd b p : Int) := by have := Int.gcd_pos_of_ne_zero_right b (show p ≠ 0 by omega); omega
theorem qpos {b p : Int} (hp : 1 ≤ p) : 0 < p / (Int.gcd b p : Int) := Int.ediv_pos_of_pos_of_dvd (by omega) (by omega) (Int.gcd_dvd_right b p)
theorem line_sol {a b r p u v : Int} (hp : 1 ≤ p) (h : u * b + v * p = (Int.gcd b p : Int)) (hd : (r - a) % (Int.gcd b p : Int) = 0) :
    (a + b * ((r - a) / (Int.gcd b p : Int) * u % (p / (Int.gcd b p : Int))) - r) % p = 0 := by
  have hg := gpos (b := b) hp
  have e1 : (Int.gcd b p : Int) * (p / (Int.gcd b p : Int)) = p := Int.mul_ediv_cancel' (Int.gcd_dvd_right b p)
  have e2 : (Int.gcd b p : Int) * (b / (Int.gcd b p : Int)) = b := Int.mul_ediv_cancel' (Int.gcd_dvd_left b p)
  have e3 : (Int.gcd b p : Int) * ((r - a) / (Int.gcd b p : Int)) = r - a := Int.mul_ediv_cancel' (Int.dvd_of_emod_eq_zero hd)
  generalize (Int.gcd b p : Int) = g at *
  generalize hq : p / g = q at *
  generalize hk : (r - a) / g = k at *
  generalize hb : b / g = b' at *
  have e4 := Int.emod_add_mul_ediv (k * u) q
  generalize k * u % q = s at *
  generalize k * u / q = m at *
  refine Int.emod_eq_zero_of_dvd ⟨-(k * v + b' * m), ?_⟩
  have e5 : s = k * u - q * m := by omega
  have e6 : b * s = b * (k * u) - b * (q * m) := by rw [e5, Int.mul_sub]
  have e7 : b * (q * m) = p * (b' * m) := by rw [← e1, ← e2, Int.mul_assoc g b', Int.mul_assoc g q]; congr 1; rw [← Int.mul_assoc, ← Int.mul_assoc, Int.mul_comm b' q, Int.mul_assoc]
  have e8 : b * (k * u) = k * (u * b) := by rw [Int.mul_comm b, Int.mul_assoc]
  have e9 : k * (u * b) = k * g - k * (v * p) := by rw [← Int.mul_sub]; congr 1; omega
  have e10 : k * (v * p) = p * (k * v) := by rw [← Int.mul_assoc, Int.mul_comm]
  have e11 : k * g = r - a := by rw [Int.mul_comm]; exact e3
  rw [Int.mul_neg, Int.mul_add]
  omega
theorem dvd_line {b p k : Int} (hp : 1 ≤ p) : p ∣ b * k ↔ p / (Int.gcd b p : Int) ∣ k := by
  have hg := gpos (b := b) hp
  have e1 : (Int.gcd b p : Int) * (p / (Int.gcd b p : Int)) = p := Int.mul_ediv_cancel' (Int.gcd_dvd_right b p)
  have e2 : (Int.gcd b p : Int) * (b / (Int.gcd b p : Int)) = b := Int.mul_ediv_cancel' (Int.gcd_dvd_left b p)
  have co := Int.gcd_ediv_gcd_ediv_gcd (i := b) (j := p) (by omega)
  generalize (Int.gcd b p : Int) = g at *
  generalize p / g = q at *
  generalize b / g = b' at *
  rw [← e1, ← e2, Int.mul_assoc, Int.mul_dvd_mul_iff_left (by omega)]
  constructor
  · intro h
    have h2 : q.natAbs ∣ b'.natAbs * k.natAbs := by rw [← Int.natAbs_mul]; exact Int.natAbs_dvd_natAbs.mpr h
    have h3 : Nat.Coprime q.natAbs b'.natAbs := by
      rw [Int.gcd_eq_natAbs_gcd_natAbs, Nat.gcd_comm] at co; exact co
    exact Int.natAbs_dvd_natAbs.mp (h3.dvd_of_dvd_mul_left h2)
  · exact fun h => Int.dvd_mul_of_dvd_right h
/-- of which i a + b i is r modulo p -/
theorem line_iff {a b r p s i : Int} (hp : 1 ≤ p) (h : (a + b * s - r) % p = 0) : (a + b * i - r) % p = 0 ↔ (i - s) % (p / (Int.gcd b p : Int)) = 0 := by
  have h1 := Int.dvd_of_emod_eq_zero h
  have e : a + b * i - r = (a + b * s - r) + b * (i - s) := by rw [Int.mul_sub]; omega
  rw [← Int.dvd_iff_emod_eq_zero, ← Int.dvd_iff_emod_eq_zero, e, ← dvd_line hp]
  exact Int.dvd_add_right h1
theorem gcd_small {b p : Int} {n : Nat} (hp : 1 ≤ p) (h : p.natAbs < 2 ^ n) : (Int.gcd b p : Int).natAbs < 2 ^ n := by
  have := Int.le_of_dvd (by omega) (Int.gcd_dvd_right b p)
  have := gpos (b := b) hp
  omega
theorem ediv_small {x g : Int} {n : Nat} (h : x.natAbs < 2 ^ n) : (x / g).natAbs < 2 ^ n := Nat.lt_of_le_of_lt (Int.natAbs_ediv_le_natAbs _ _) h
theorem pow_small {x m n : Nat} (h : x < 2 ^ m) (hm : m ≤ n) : x < 2 ^ n := Nat.lt_of_lt_of_le h (Nat.pow_le_pow_right (by decide) hm)
theorem mod_sub {a m n r : Int} (h : n ∣ m) (hr : n ∣ a - r) : (a % m - r) % n = 0 := by
  refine Int.emod_eq_zero_of_dvd ?_
  have h1 : n ∣ a - a % m := Int.dvd_trans h Int.dvd_self_sub_emod
  have e : a % m - r = (a - r) - (a - a % m) := by omega
  rw [e]; exact Int.dvd_sub hr h1
theorem both_sol {r p o q s : Int} (hq : 1 ≤ q) (h : (r + p * s - o) % q = 0) :
    ((r + p * s) % (p * (q / (Int.gcd p q : Int))) - r) % p = 0 ∧ ((r + p * s) % (p * (q / (Int.gcd p q : Int))) - o) % q = 0 := by
  refine ⟨mod_sub (Int.dvd_mul_right _ _) (by rw [show r + p * s - r = p * s by omega]; exact Int.dvd_mul_right _ _), mod_sub ?_ (Int.dvd_of_emod_eq_zero h)⟩
  have e1 : (Int.gcd p q : Int) * (q / (Int.gcd p q : Int)) = q := Int.mul_ediv_cancel' (Int.gcd_dvd_right p q)
  obtain ⟨c, hc⟩ := Int.gcd_dvd_left p q
  refine ⟨c, ?_⟩
  have : p * (q / (Int.gcd p q : Int)) = (Int.gcd p q : Int) * (q / (Int.gcd p q : Int)) * c := by
    conv => lhs; rw [hc]
    rw [Int.mul_assoc, Int.mul_assoc, Int.mul_comm c]
    congr 2
    rw [← hc]
  rw [this, e1]
/-! ### Euclid's steps -/
theorem bud_mod {d r : Int} (h : 0 < r) : bud r (d % r) < bud d r := by
  have := bud_step (d := d) (r := r) (by omega)
  rw [Int.fdiv_eq_ediv_of_nonneg d (by omega)] at this
  have e := Int.emod_def d r
  rw [Int.mul_comm] at e
  rw [e]; exact this
theorem mod_swap {a b g : Int} : (a - b) % g = 0 ↔ (b - a) % g = 0 := by
  rw [← Int.dvd_iff_emod_eq_zero, ← Int.dvd_iff_emod_eq_zero, ← Int.dvd_neg]
  rw [show -(a - b) = b - a by omega]
theorem mul_div_gcd {p q : Int} : p * (q / (Int.gcd p q : Int)) = p / (Int.gcd p q : Int) * q := by
  rw [← Int.mul_ediv_assoc _ (Int.gcd_dvd_right p q), Int.mul_comm p q, Int.mul_ediv_assoc _ (Int.gcd_dvd_left p q), Int.mul_comm]
theorem lcm_abs {x y : Int} : (x.natAbs : Int) / (Int.gcd (x.natAbs : Int) (y.natAbs : Int) : Int) * (y.natAbs : Int) = ((x * y).natAbs : Int) / (Int.gcd x y : Int) := by
  have e : Int.gcd (x.natAbs : Int) (y.natAbs : Int) = Int.gcd x y := by rw [Int.gcd_eq_natAbs_gcd_natAbs, Int.gcd_eq_natAbs_gcd_natAbs]; rfl
  have d : (Int.gcd x y : Int) ∣ (y.natAbs : Int) := Int.dvd_natAbs.mpr (Int.gcd_dvd_right x y)
  have d2 : (Int.gcd x y : Int) ∣ (x.natAbs : Int) := Int.dvd_natAbs.mpr (Int.gcd_dvd_left x y)
  rw [e, Int.natAbs_mul, Int.natCast_mul, Int.mul_comm (x.natAbs : Int) (y.natAbs : Int), Int.mul_ediv_assoc _ d2, Int.mul_comm]
end Iz
/-! k02_text -/
set_option Elab.async false
set_option linter.all false
set_option maxRecDepth 100000
set_option maxHeartbeats 4000000
namespace Iz
open PySem PySem.Spec PyProof.Rows L2
open He (ga)
local macro_rules | `(tactic| walk_at "wp") => `(tactic| simp only [cx_K, Value.ref.injEq, HO.xd.injEq, lk0, tSeq, tPar3, tPar, tCons, tNil, tVar, tC, tAsg, gName, gCons, gNil, gTupN, gSub, tOp, rI, rI0, rU, tTest, rNe, rEq, rIxTN, rIxLN, rLenL, rLenT, rIntI, rIntB, rAbs, rSetLN, tTruL, tRaiseX, rIsTy, rIsOw, ixN0, ixN1, tRet, tIf, tIfS, tNext, tBreak, tCont, tDrop, tTupN, tLstN, tUn, tCB, tCall, tNot, tAnd, tOr, tB, tAndV, tOrV, tNotV, tChain, tApp, LamX.tLam, tRevLN, rCatN, rInTN, rInLN, flatV, inV, List.all_cons, List.all_nil, List.any_cons, List.any_nil, Bool.and_self, Bool.and_true, if_true, Bool.false_eq_true, if_false, tMt, tFldN, tSto, HO.ins.injEq, lkh, List.drop_zero, List.drop_succ_cons, List.drop_nil, rListS, wipe, L2.start, List.map_cons, List.map_nil, List.length_cons, List.length_nil, List.replicate, List.cons_append, List.nil_append, List.append_nil, Nat.reduceAdd, Nat.reduceSub, Nat.zero_add, List.replicate_succ, List.replicate_zero, List.getElem?_cons_zero, List.getElem?_cons_succ, List.set_cons_zero, List.set_cons_succ, Option.some.injEq, V.int.injEq, V.bl.injEq, V.ref.injEq, V.str.injEq, V.ty.injEq, List.cons.injEq, HO.tup.injEq, HO.lst.injEq, and_true, true_and, and_assoc, exists_eq_left, exists_eq_left', exists_and_left, exists_eq', atI0, atI1, atI2, atI3, Int.cast_ofNat_Int, Int.reduceToNat, scal_ii, scal_in, scal_ni, scal_nn, scal_bb, scal_ss, scal_sn, scal_ns, scal_bn, scal_nb, ite_iff, decide_eq_true_eq, decide_eq_false_iff_not, Bool.not_eq_true', Classical.not_not, ne_eq, not_false_eq_true, not_true_eq_false, forall_const, true_implies, false_implies, imp_self, sizeLine_eq, Nat.reduceLeDiff, reduceCtorEq, decide_true, decide_false])
def top (i : Nat) : Stmt := PySem.Challenge.pw_endlessplane_k02_whole_members_of_stretc.main.body.getD i (.Pass ⟨0, 0, 0, 0⟩)
abbrev s_is_whole : Stmt := top 6
abbrev N_is_whole : List Str := ["value"]
theorem sc_is_whole : FnScope ["value"] ["value"] (defScope s_is_whole) := ⟨rfl, rfl, rfl, by decide +kernel, rfl, by decide +kernel, by decide +kernel⟩
abbrev s_is_from : Stmt := top 7
abbrev N_is_from : List Str := ["value", "least"]
theorem sc_is_from : FnScope ["value", "least"] ["value", "least"] (defScope s_is_from) := ⟨rfl, rfl, rfl, by decide +kernel, rfl, by decide +kernel, by decide +kernel⟩
abbrev s_is_span : Stmt := top 8
abbrev N_is_span : List Str := ["low", "high"]
theorem sc_is_span : FnScope ["low", "high"] ["low", "high"] (defScope s_is_span) := ⟨rfl, rfl, rfl, by decide +kernel, rfl, by decide +kernel, by decide +kernel⟩
abbrev s_require_whole : Stmt := top 9
abbrev N_require_whole : List Str := ["value"]
theorem sc_require_whole : FnScope ["value"] ["value"] (defScope s_require_whole) := ⟨rfl, rfl, rfl, by decide +kernel, rfl, by decide +kernel, by decide +kernel⟩
abbrev s_require_from : Stmt := top 10
abbrev N_require_from : List Str := ["value", "least"]
theorem sc_require_from : FnScope ["value", "least"] ["value", "least"] (defScope s_require_from) := ⟨rfl, rfl, rfl, by decide +kernel, rfl, by decide +kernel, by decide +kernel⟩
abbrev s_Stretch___init__ : Stmt := inClass (top 12) 0
abbrev N_Stretch___init__ : List Str := ["self", "low", "high"]
theorem sc_Stretch___init__ : FnScope ["self", "low", "high"] ["self", "low", "high"] (defScope s_Stretch___init__) := ⟨rfl, rfl, rfl, by decide +kernel, rfl, by decide +kernel, by decide +kernel⟩
abbrev s_Stretch_holds : Stmt := inClass (top 12) 3
abbrev N_Stretch_holds : List Str := ["self", "number"]
theorem sc_Stretch_holds : FnScope ["self", "number"] ["self", "number"] (defScope s_Stretch_holds) := ⟨rfl, rfl, rfl, by decide +kernel, rfl, by decide +kernel, by decide +kernel⟩
abbrev s_Stretch_turned : Stmt := inClass (top 12) 5
abbrev N_Stretch_turned : List Str := ["self", "low", "high"]
theorem sc_Stretch_turned : FnScope ["self", "low", "high"] ["self"] (defScope s_Stretch_turned) := ⟨rfl, rfl, rfl, by decide +kernel, rfl, by decide +kernel, by decide +kernel⟩
abbrev s_Stretch_common : Stmt := inClass (top 12) 6
abbrev N_Stretch_common : List Str := ["self", "other", "low", "high"]
theorem sc_Stretch_common : FnScope ["self", "other", "low", "high"] ["self", "other"] (defScope s_Stretch_common) := ⟨rfl, rfl, rfl, by decide +kernel, rfl, by decide +kernel, by decide +kernel⟩
abbrev s_Stretch_count : Stmt := inClass (top 12) 7
abbrev N_Stretch_count : List Str := ["self", "r", "p", "least"]
theorem sc_Stretch_count : FnScope ["self", "r", "p", "least"] ["self", "r", "p"] (defScope s_Stretch_count) := ⟨rfl, rfl, rfl, by decide +kernel, rfl, by decide +kernel, by decide +kernel⟩
abbrev s_Stretch_first : Stmt := inClass (top 12) 8
abbrev N_Stretch_first : List Str := ["self", "r", "p", "least"]
theorem sc_Stretch_first : FnScope ["self", "r", "p", "least"] ["self", "r", "p"] (defScope s_Stretch_first) := ⟨rfl, rfl, rfl, by decide +kernel, rfl, by decide +kernel, by decide +kernel⟩
abbrev s_Stretch_final : Stmt := inClass (top 12) 9
abbrev N_Stretch_final : List Str := ["self", "r", "p", "least"]
theorem sc_Stretch_final : FnScope ["self", "r", "p", "least"] ["self", "r", "p"] (defScope s_Stretch_final) := ⟨rfl, rfl, rfl, by decide +kernel, rfl, by decide +kernel, by decide +kernel⟩
abbrev s_Stretch_nth : Stmt := inClass (top 12) 10
abbrev N_Stretch_nth : List Str := ["self", "n", "r", "p", "least"]
theorem sc_Stretch_nth : FnScope ["self", "n", "r", "p", "least"] ["self", "n", "r", "p"] (defScope s_Stretch_nth) := ⟨rfl, rfl, rfl, by decide +kernel, rfl, by decide +kernel, by decide +kernel⟩
abbrev s_Stretch_below : Stmt := inClass (top 12) 11
abbrev N_Stretch_below : List Str := ["self", "number", "r", "p", "ahead"]
theorem sc_Stretch_below : FnScope ["self", "number", "r", "p", "ahead"] ["self", "number", "r", "p"] (defScope s_Stretch_below) := ⟨rfl, rfl, rfl, by decide +kernel, rfl, by decide +kernel, by decide +kernel⟩
abbrev s__require_remainder : Stmt := top 13
abbrev N__require_remainder : List Str := ["r", "p"]
theorem sc__require_remainder : FnScope ["r", "p"] ["r", "p"] (defScope s__require_remainder) := ⟨rfl, rfl, rfl, by decide +kernel, rfl, by decide +kernel, by decide +kernel⟩
abbrev s__greater_low : Stmt := top 14
abbrev N__greater_low : List Str := ["one", "other"]
theorem sc__greater_low : FnScope ["one", "other"] ["one", "other"] (defScope s__greater_low) := ⟨rfl, rfl, rfl, by decide +kernel, rfl, by decide +kernel, by decide +kernel⟩
abbrev s__lesser_high : Stmt := top 15
abbrev N__lesser_high : List Str := ["one", "other"]
theorem sc__lesser_high : FnScope ["one", "other"] ["one", "other"] (defScope s__lesser_high) := ⟨rfl, rfl, rfl, by decide +kernel, rfl, by decide +kernel, by decide +kernel⟩
abbrev s__law_draw : Stmt := top 17
abbrev N__law_draw : List Str := ["_law_state", "_law_limit", "_law_cells", "_law_at", "_law_cell", "_law_mixed"]
theorem sc__law_draw : FnScope ["_law_state", "_law_limit", "_law_cells", "_law_at", "_law_cell", "_law_mixed"] ["_law_state", "_law_limit"] (defScope s__law_draw) := ⟨rfl, rfl, rfl, by decide +kernel, rfl, by decide +kernel, by decide +kernel⟩
abbrev s__law_number : Stmt := top 18
abbrev N__law_number : List Str := ["_law_state", "_law_most", "_law_number_here", "_law_turn"]
theorem sc__law_number : FnScope ["_law_state", "_law_most", "_law_number_here", "_law_turn"] ["_law_state", "_law_most"] (defScope s__law_number) := ⟨rfl, rfl, rfl, by decide +kernel, rfl, by decide +kernel, by decide +kernel⟩
abbrev s__law_ends : Stmt := top 19
abbrev N__law_ends : List Str := ["_law_state", "_law_low", "_law_high", "_law_way"]
theorem sc__law_ends : FnScope ["_law_state", "_law_low", "_law_high", "_law_way"] ["_law_state"] (defScope s__law_ends) := ⟨rfl, rfl, rfl, by decide +kernel, rfl, by decide +kernel, by decide +kernel⟩
abbrev s__law_points : Stmt := top 21
abbrev N__law_points : List Str := ["_law_pairs", "_law_found", "_law_low", "_law_high", "_law_end"]
theorem sc__law_points : FnScope ["_law_pairs", "_law_found", "_law_low", "_law_high", "_law_end"] ["_law_pairs"] (defScope s__law_points) := ⟨rfl, rfl, rfl, by decide +kernel, rfl, by decide +kernel, by decide +kernel⟩
abbrev s__law_count : Stmt := top 22
abbrev N__law_count : List Str := ["_law_pairs", "_law_r", "_law_p", "_law_total", "_law_low", "_law_high"]
theorem sc__law_count : FnScope ["_law_pairs", "_law_r", "_law_p", "_law_total", "_law_low", "_law_high"] ["_law_pairs", "_law_r", "_law_p"] (defScope s__law_count) := ⟨rfl, rfl, rfl, by decide +kernel, rfl, by decide +kernel, by decide +kernel⟩
abbrev s__law_first : Stmt := top 23
abbrev N__law_first : List Str := ["_law_pairs", "_law_r", "_law_p", "_law_low", "_law_high", "_law_number_here"]
theorem sc__law_first : FnScope ["_law_pairs", "_law_r", "_law_p", "_law_low", "_law_high", "_law_number_here"] ["_law_pairs", "_law_r", "_law_p"] (defScope s__law_first) := ⟨rfl, rfl, rfl, by decide +kernel, rfl, by decide +kernel, by decide +kernel⟩
abbrev s__law_final : Stmt := top 24
abbrev N__law_final : List Str := ["_law_pairs", "_law_r", "_law_p", "_law_low", "_law_high", "_law_number_here"]
theorem sc__law_final : FnScope ["_law_pairs", "_law_r", "_law_p", "_law_low", "_law_high", "_law_number_here"] ["_law_pairs", "_law_r", "_law_p"] (defScope s__law_final) := ⟨rfl, rfl, rfl, by decide +kernel, rfl, by decide +kernel, by decide +kernel⟩
abbrev s__law_cut : Stmt := top 25
abbrev N__law_cut : List Str := ["_law_pairs", "_law_number_here", "_law_found", "_law_low", "_law_high", "_law_end"]
theorem sc__law_cut : FnScope ["_law_pairs", "_law_number_here", "_law_found", "_law_low", "_law_high", "_law_end"] ["_law_pairs", "_law_number_here"] (defScope s__law_cut) := ⟨rfl, rfl, rfl, by decide +kernel, rfl, by decide +kernel, by decide +kernel⟩
abbrev s__law_members : Stmt := top 26
abbrev N__law_members : List Str := ["_law_low", "_law_high", "_law_r", "_law_p", "_law_number_here"]
theorem sc__law_members : FnScope ["_law_low", "_law_high", "_law_r", "_law_p", "_law_number_here"] ["_law_low", "_law_high", "_law_r", "_law_p"] (defScope s__law_members) := ⟨rfl, rfl, rfl, by decide +kernel, rfl, by decide +kernel, by decide +kernel⟩
abbrev s__law_nth : Stmt := top 28
abbrev N__law_nth : List Str := ["_law_pairs", "_law_n", "_law_r", "_law_p", "_law_first_here", "_law_count_here"]
theorem sc__law_nth : FnScope ["_law_pairs", "_law_n", "_law_r", "_law_p", "_law_first_here", "_law_count_here"] ["_law_pairs", "_law_n", "_law_r", "_law_p"] (defScope s__law_nth) := ⟨rfl, rfl, rfl, by decide +kernel, rfl, by decide +kernel, by decide +kernel⟩
abbrev s__law_small_right : Stmt := top 27
abbrev N__law_small_right : List Str := ["_law_stretch", "_law_r", "_law_p", "_law_members_here", "_law_n", "_law_number_here", "_law_one"]
theorem sc__law_small_right : FnScope ["_law_stretch", "_law_r", "_law_p", "_law_members_here", "_law_n", "_law_number_here", "_law_one"] ["_law_stretch", "_law_r", "_law_p"] (defScope s__law_small_right) := ⟨rfl, rfl, rfl, by decide +kernel, rfl, by decide +kernel, by decide +kernel⟩
abbrev s__law_refused : Stmt := top 29
abbrev N__law_refused : List Str := ["_law_call", "e"]
theorem sc__law_refused : FnScope ["_law_call", "e"] ["_law_call"] (defScope s__law_refused) := ⟨rfl, rfl, rfl, by decide +kernel, rfl, by decide +kernel, by decide +kernel⟩
abbrev s__law_odd_right : Stmt := top 30
abbrev N__law_odd_right : List Str := ["_law_state", "_law_stretch", "_law_told", "_law_odd", "_law_wrong"]
theorem sc__law_odd_right : FnScope ["_law_state", "_law_stretch", "_law_told", "_law_odd", "_law_wrong"] ["_law_state", "_law_stretch"] (defScope s__law_odd_right) := ⟨rfl, rfl, rfl, by decide +kernel, rfl, by decide +kernel, by decide +kernel⟩
abbrev s_law : Stmt := top 31
abbrev N_law : List Str := ["_law_script", "_law_state", "_law_turn", "_law_pair", "_law_stretch", "_law_r", "_law_p", "_law_n", "_law_number_here"]
theorem sc_law : FnScope ["_law_script", "_law_state", "_law_turn", "_law_pair", "_law_stretch", "_law_r", "_law_p", "_law_n", "_law_number_here"] ["_law_script"] (defScope s_law) := ⟨rfl, rfl, rfl, by decide +kernel, rfl, by decide +kernel, by decide +kernel⟩
abbrev s_BadNumber___init__ : Stmt := inClass (top 4) 0
abbrev N_BadNumber___init__ : List Str := ["self", "number"]
theorem sc_BadNumber___init__ : FnScope ["self", "number"] ["self", "number"] (defScope s_BadNumber___init__) := ⟨rfl, rfl, rfl, by decide +kernel, rfl, by decide +kernel, by decide +kernel⟩
abbrev s_BadPart___init__ : Stmt := inClass (top 3) 0
abbrev N_BadPart___init__ : List Str := ["self", "part"]
theorem sc_BadPart___init__ : FnScope ["self", "part"] ["self", "part"] (defScope s_BadPart___init__) := ⟨rfl, rfl, rfl, by decide +kernel, rfl, by decide +kernel, by decide +kernel⟩
theorem b_Stretch___init__ {K : PySem.W.Frag} {f : Addr} {fd : FuncData} (F : FunD K "__init__" "Stretch.__init__" (defArgs s_Stretch___init__) (defBody s_Stretch___init__) (defScope s_Stretch___init__) [.non, .non] [] f fd) : BindD K fd ["self", "low", "high"] [.non, .non] := fun j hj => match j, hj with
    | 0, _ => F.binds1 1 0 (by simp) rfl fun _ _ _ _ _ _ _ us its hu hi => match us, its, hu, hi with | [_], [_, _], _, _ => ⟨_, rfl, rfl⟩
    | 1, _ => F.binds1 2 1 (by simp) rfl fun _ _ _ _ _ _ _ us its hu hi => match us, its, hu, hi with | [_, _], [_, _], _, _ => ⟨_, rfl, rfl⟩
    | 2, _ => F.binds1 3 2 (by simp) rfl fun _ _ _ _ _ _ _ us its hu hi => match us, its, hu, hi with | [_, _, _], [_, _], _, _ => ⟨_, rfl, rfl⟩
    | j + 3, h => absurd h (by simp)
theorem b_Stretch_holds {K : PySem.W.Frag} {f : Addr} {fd : FuncData} (F : FunD K "holds" "Stretch.holds" (defArgs s_Stretch_holds) (defBody s_Stretch_holds) (defScope s_Stretch_holds) [] [] f fd) : BindD K fd ["self", "number"] [] := BindD.none (F.bindsN fun _ _ _ _ _ _ us hl => match us, hl with | [_, _], _ => rfl)
theorem b_Stretch_turned {K : PySem.W.Frag} {f : Addr} {fd : FuncData} (F : FunD K "turned" "Stretch.turned" (defArgs s_Stretch_turned) (defBody s_Stretch_turned) (defScope s_Stretch_turned) [] [] f fd) : BindD K fd ["self"] [] := BindD.none (F.bindsN fun _ _ _ _ _ _ us hl => match us, hl with | [_], _ => rfl)
theorem b_Stretch_common {K : PySem.W.Frag} {f : Addr} {fd : FuncData} (F : FunD K "common" "Stretch.common" (defArgs s_Stretch_common) (defBody s_Stretch_common) (defScope s_Stretch_common) [] [] f fd) : BindD K fd ["self", "other"] [] := BindD.none (F.bindsN fun _ _ _ _ _ _ us hl => match us, hl with | [_, _], _ => rfl)
theorem b_Stretch_count {K : PySem.W.Frag} {f : Addr} {fd : FuncData} (F : FunD K "count" "Stretch.count" (defArgs s_Stretch_count) (defBody s_Stretch_count) (defScope s_Stretch_count) [.int 0, .int 1] [] f fd) : BindD K fd ["self", "r", "p"] [.int 0, .int 1] := fun j hj => match j, hj with
    | 0, _ => F.binds1 1 0 (by simp) rfl fun _ _ _ _ _ _ _ us its hu hi => match us, its, hu, hi with | [_], [_, _], _, _ => ⟨_, rfl, rfl⟩
    | 1, _ => F.binds1 2 1 (by simp) rfl fun _ _ _ _ _ _ _ us its hu hi => match us, its, hu, hi with | [_, _], [_, _], _, _ => ⟨_, rfl, rfl⟩
    | 2, _ => F.binds1 3 2 (by simp) rfl fun _ _ _ _ _ _ _ us its hu hi => match us, its, hu, hi with | [_, _, _], [_, _], _, _ => ⟨_, rfl, rfl⟩
    | j + 3, h => absurd h (by simp)
theorem b_Stretch_first {K : PySem.W.Frag} {f : Addr} {fd : FuncData} (F : FunD K "first" "Stretch.first" (defArgs s_Stretch_first) (defBody s_Stretch_first) (defScope s_Stretch_first) [.int 0, .int 1] [] f fd) : BindD K fd ["self", "r", "p"] [.int 0, .int 1] := fun j hj => match j, hj with
    | 0, _ => F.binds1 1 0 (by simp) rfl fun _ _ _ _ _ _ _ us its hu hi => match us, its, hu, hi with | [_], [_, _], _, _ => ⟨_, rfl, rfl⟩
    | 1, _ => F.binds1 2 1 (by simp) rfl fun _ _ _ _ _ _ _ us its hu hi => match us, its, hu, hi with | [_, _], [_, _], _, _ => ⟨_, rfl, rfl⟩
    | 2, _ => F.binds1 3 2 (by simp) rfl fun _ _ _ _ _ _ _ us its hu hi => match us, its, hu, hi with | [_, _, _], [_, _], _, _ => ⟨_, rfl, rfl⟩
    | j + 3, h => absurd h (by simp)
theorem b_Stretch_final {K : PySem.W.Frag} {f : Addr} {fd : FuncData} (F : FunD K "final" "Stretch.final" (defArgs s_Stretch_final) (defBody s_Stretch_final) (defScope s_Stretch_final) [.int 0, .int 1] [] f fd) : BindD K fd ["self", "r", "p"] [.int 0, .int 1] := fun j hj => match j, hj with
    | 0, _ => F.binds1 1 0 (by simp) rfl fun _ _ _ _ _ _ _ us its hu hi => match us, its, hu, hi with | [_], [_, _], _, _ => ⟨_, rfl, rfl⟩
    | 1, _ => F.binds1 2 1 (by simp) rfl fun _ _ _ _ _ _ _ us its hu hi => match us, its, hu, hi with | [_, _], [_, _], _, _ => ⟨_, rfl, rfl⟩
    | 2, _ => F.binds1 3 2 (by simp) rfl fun _ _ _ _ _ _ _ us its hu hi => match us, its, hu, hi with | [_, _, _], [_, _], _, _ => ⟨_, rfl, rfl⟩
    | j + 3, h => absurd h (by simp)
theorem b_Stretch_nth {K : PySem.W.Frag} {f : Addr} {fd : FuncData} (F : FunD K "nth" "Stretch.nth" (defArgs s_Stretch_nth) (defBody s_Stretch_nth) (defScope s_Stretch_nth) [.int 0, .int 1] [] f fd) : BindD K fd ["self", "n", "r", "p"] [.int 0, .int 1] := fun j hj => match j, hj with
    | 0, _ => F.binds1 2 0 (by simp) rfl fun _ _ _ _ _ _ _ us its hu hi => match us, its, hu, hi with | [_, _], [_, _], _, _ => ⟨_, rfl, rfl⟩
    | 1, _ => F.binds1 3 1 (by simp) rfl fun _ _ _ _ _ _ _ us its hu hi => match us, its, hu, hi with | [_, _, _], [_, _], _, _ => ⟨_, rfl, rfl⟩
    | 2, _ => F.binds1 4 2 (by simp) rfl fun _ _ _ _ _ _ _ us its hu hi => match us, its, hu, hi with | [_, _, _, _], [_, _], _, _ => ⟨_, rfl, rfl⟩
    | j + 3, h => absurd h (by simp)
theorem b_Stretch_below {K : PySem.W.Frag} {f : Addr} {fd : FuncData} (F : FunD K "below" "Stretch.below" (defArgs s_Stretch_below) (defBody s_Stretch_below) (defScope s_Stretch_below) [.int 0, .int 1] [] f fd) : BindD K fd ["self", "number", "r", "p"] [.int 0, .int 1] := fun j hj => match j, hj with
    | 0, _ => F.binds1 2 0 (by simp) rfl fun _ _ _ _ _ _ _ us its hu hi => match us, its, hu, hi with | [_, _], [_, _], _, _ => ⟨_, rfl, rfl⟩
    | 1, _ => F.binds1 3 1 (by simp) rfl fun _ _ _ _ _ _ _ us its hu hi => match us, its, hu, hi with | [_, _, _], [_, _], _, _ => ⟨_, rfl, rfl⟩
    | 2, _ => F.binds1 4 2 (by simp) rfl fun _ _ _ _ _ _ _ us its hu hi => match us, its, hu, hi with | [_, _, _, _], [_, _], _, _ => ⟨_, rfl, rfl⟩
    | j + 3, h => absurd h (by simp)
structure Txt (K : PySem.W.Frag) (mg : Str → Option Value) : Prop where
  d_is_whole : ∃ (f : Addr) (fd : FuncData), mg "is_whole" = some (.ref f) ∧ Fun K "is_whole" "is_whole" s_is_whole f fd
  d_is_from : ∃ (f : Addr) (fd : FuncData), mg "is_from" = some (.ref f) ∧ Fun K "is_from" "is_from" s_is_from f fd
  d_is_span : ∃ (f : Addr) (fd : FuncData), mg "is_span" = some (.ref f) ∧ Fun K "is_span" "is_span" s_is_span f fd
  d_require_whole : ∃ (f : Addr) (fd : FuncData), mg "require_whole" = some (.ref f) ∧ Fun K "require_whole" "require_whole" s_require_whole f fd
  d_require_from : ∃ (f : Addr) (fd : FuncData), mg "require_from" = some (.ref f) ∧ Fun K "require_from" "require_from" s_require_from f fd
  d__require_remainder : ∃ (f : Addr) (fd : FuncData), mg "_require_remainder" = some (.ref f) ∧ Fun K "_require_remainder" "_require_remainder" s__require_remainder f fd
  d__greater_low : ∃ (f : Addr) (fd : FuncData), mg "_greater_low" = some (.ref f) ∧ Fun K "_greater_low" "_greater_low" s__greater_low f fd
  d__lesser_high : ∃ (f : Addr) (fd : FuncData), mg "_lesser_high" = some (.ref f) ∧ Fun K "_lesser_high" "_lesser_high" s__lesser_high f fd
  d__law_draw : ∃ (f : Addr) (fd : FuncData), mg "_law_draw" = some (.ref f) ∧ Fun K "_law_draw" "_law_draw" s__law_draw f fd
  d__law_number : ∃ (f : Addr) (fd : FuncData), mg "_law_number" = some (.ref f) ∧ Fun K "_law_number" "_law_number" s__law_number f fd
  d__law_ends : ∃ (f : Addr) (fd : FuncData), mg "_law_ends" = some (.ref f) ∧ Fun K "_law_ends" "_law_ends" s__law_ends f fd
  d__law_points : ∃ (f : Addr) (fd : FuncData), mg "_law_points" = some (.ref f) ∧ Fun K "_law_points" "_law_points" s__law_points f fd
  d__law_count : ∃ (f : Addr) (fd : FuncData), mg "_law_count" = some (.ref f) ∧ Fun K "_law_count" "_law_count" s__law_count f fd
  d__law_first : ∃ (f : Addr) (fd : FuncData), mg "_law_first" = some (.ref f) ∧ Fun K "_law_first" "_law_first" s__law_first f fd
  d__law_final : ∃ (f : Addr) (fd : FuncData), mg "_law_final" = some (.ref f) ∧ Fun K "_law_final" "_law_final" s__law_final f fd
  d__law_cut : ∃ (f : Addr) (fd : FuncData), mg "_law_cut" = some (.ref f) ∧ Fun K "_law_cut" "_law_cut" s__law_cut f fd
  d__law_members : ∃ (f : Addr) (fd : FuncData), mg "_law_members" = some (.ref f) ∧ Fun K "_law_members" "_law_members" s__law_members f fd
  d__law_nth : ∃ (f : Addr) (fd : FuncData), mg "_law_nth" = some (.ref f) ∧ Fun K "_law_nth" "_law_nth" s__law_nth f fd
  d__law_small_right : ∃ (f : Addr) (fd : FuncData), mg "_law_small_right" = some (.ref f) ∧ Fun K "_law_small_right" "_law_small_right" s__law_small_right f fd
  d__law_refused : ∃ (f : Addr) (fd : FuncData), mg "_law_refused" = some (.ref f) ∧ Fun K "_law_refused" "_law_refused" s__law_refused f fd
  lam__law_odd_right : LamF K mg "_law_odd_right" s__law_odd_right
  d_law : ∃ (f : Addr) (fd : FuncData), mg "law" = some (.ref f) ∧ Fun K "law" "law" s_law f fd
  ci_Stretch : ClsI K (ga K "Stretch")
  c_Stretch : Cls K (ga K "Stretch")
  g_Stretch : mg "Stretch" = some (.ref (ga K "Stretch"))
  na_Stretch_low : NoAttr K (ga K "Stretch") "low"
  na_Stretch_high : NoAttr K (ga K "Stretch") "high"
  d_Stretch___init__ : ∃ (f : Addr) (fd : FuncData), Mk K (ga K "Stretch") f ∧ FunD K "__init__" "Stretch.__init__" (defArgs s_Stretch___init__) (defBody s_Stretch___init__) (defScope s_Stretch___init__) [.non, .non] [] f fd
  d_Stretch_holds : ∃ (f : Addr) (fd : FuncData), Meth K (ga K "Stretch") "holds" f ∧ FunD K "holds" "Stretch.holds" (defArgs s_Stretch_holds) (defBody s_Stretch_holds) (defScope s_Stretch_holds) [] [] f fd
  d_Stretch_turned : ∃ (f : Addr) (fd : FuncData), Meth K (ga K "Stretch") "turned" f ∧ FunD K "turned" "Stretch.turned" (defArgs s_Stretch_turned) (defBody s_Stretch_turned) (defScope s_Stretch_turned) [] [] f fd
  d_Stretch_common : ∃ (f : Addr) (fd : FuncData), Meth K (ga K "Stretch") "common" f ∧ FunD K "common" "Stretch.common" (defArgs s_Stretch_common) (defBody s_Stretch_common) (defScope s_Stretch_common) [] [] f fd
  d_Stretch_count : ∃ (f : Addr) (fd : FuncData), Meth K (ga K "Stretch") "count" f ∧ FunD K "count" "Stretch.count" (defArgs s_Stretch_count) (defBody s_Stretch_count) (defScope s_Stretch_count) [.int 0, .int 1] [] f fd
  d_Stretch_first : ∃ (f : Addr) (fd : FuncData), Meth K (ga K "Stretch") "first" f ∧ FunD K "first" "Stretch.first" (defArgs s_Stretch_first) (defBody s_Stretch_first) (defScope s_Stretch_first) [.int 0, .int 1] [] f fd
  d_Stretch_final : ∃ (f : Addr) (fd : FuncData), Meth K (ga K "Stretch") "final" f ∧ FunD K "final" "Stretch.final" (defArgs s_Stretch_final) (defBody s_Stretch_final) (defScope s_Stretch_final) [.int 0, .int 1] [] f fd
  d_Stretch_nth : ∃ (f : Addr) (fd : FuncData), Meth K (ga K "Stretch") "nth" f ∧ FunD K "nth" "Stretch.nth" (defArgs s_Stretch_nth) (defBody s_Stretch_nth) (defScope s_Stretch_nth) [.int 0, .int 1] [] f fd
  d_Stretch_below : ∃ (f : Addr) (fd : FuncData), Meth K (ga K "Stretch") "below" f ∧ FunD K "below" "Stretch.below" (defArgs s_Stretch_below) (defBody s_Stretch_below) (defScope s_Stretch_below) [.int 0, .int 1] [] f fd
  m_isinstance : mg "isinstance" = none
  m_int : mg "int" = none
  m_bool : mg "bool" = none
  m_tuple : mg "tuple" = none
  m_len : mg "len" = none
  m_abs : mg "abs" = none
  m_list : mg "list" = none
  m_range : mg "range" = none
  m_repr : mg "repr" = none
  mNN : PySem.W.exmOne K (.ref (ga K "BadNumber")) (.ref (ga K "BadNumber")) = some true
  x_BadNumber : ExT K mg "BadNumber" "number"
  x_BadPart : ExT K mg "BadPart" "part"
end Iz
/-! k02_a -/
set_option Elab.async false
set_option linter.all false
set_option maxRecDepth 100000
set_option maxHeartbeats 4000000
namespace Iz
open PySem PySem.Spec PyProof.Rows L2
open He (ga)
local macro_rules | `(tactic| walk_at "wp") => `(tactic| simp only [cx_K, Value.ref.injEq, HO.xd.injEq, lk0, tSeq, tPar3, tPar, tCons, tNil, tVar, tC, tAsg, gName, gCons, gNil, gTupN, gSub, tOp, rI, rI0, rU, tTest, rNe, rEq, rIxTN, rIxLN, rLenL, rLenT, rIntI, rIntB, rAbs, rSetLN, tTruL, tRaiseX, rIsTy, rIsOw, ixN0, ixN1, tRet, tIf, tIfS, tNext, tBreak, tCont, tDrop, tTupN, tLstN, tUn, tCB, tCall, tNot, tAnd, tOr, tB, tAndV, tOrV, tNotV, tChain, tApp, LamX.tLam, tRevLN, rCatN, rInTN, rInLN, flatV, inV, List.all_cons, List.all_nil, List.any_cons, List.any_nil, Bool.and_self, Bool.and_true, if_true, Bool.false_eq_true, if_false, tMt, tFldN, tSto, HO.ins.injEq, lkh, List.drop_zero, List.drop_succ_cons, List.drop_nil, rListS, wipe, L2.start, List.map_cons, List.map_nil, List.length_cons, List.length_nil, List.replicate, List.cons_append, List.nil_append, List.append_nil, Nat.reduceAdd, Nat.reduceSub, Nat.zero_add, List.replicate_succ, List.replicate_zero, List.getElem?_cons_zero, List.getElem?_cons_succ, List.set_cons_zero, List.set_cons_succ, Option.some.injEq, V.int.injEq, V.bl.injEq, V.ref.injEq, V.str.injEq, V.ty.injEq, List.cons.injEq, HO.tup.injEq, HO.lst.injEq, and_true, true_and, and_assoc, exists_eq_left, exists_eq_left', exists_and_left, exists_eq', atI0, atI1, atI2, atI3, Int.cast_ofNat_Int, Int.reduceToNat, scal_ii, scal_in, scal_ni, scal_nn, scal_bb, scal_ss, scal_sn, scal_ns, scal_bn, scal_nb, ite_iff, decide_eq_true_eq, decide_eq_false_iff_not, Bool.not_eq_true', Classical.not_not, ne_eq, not_false_eq_true, not_true_eq_false, forall_const, true_implies, false_implies, imp_self, sizeLine_eq, Nat.reduceLeDiff, reduceCtorEq, decide_true, decide_false])
section
variable {P : Program} {w : World} {K : PySem.W.Frag} {mg : Str → Option Value} {base : Heap}
/-! ### basics -/
def spWhole (K : PySem.W.Frag) : Sp := fun vs H Q _ => ∃ x, vs = [x] ∧ Wh K H x ∧ Q (.bl (isI x)) H
theorem o_is_whole (T : Txt K mg) : OkF P w K mg base CX0 1 "is_whole" ["value"] (spWhole K) := by
  obtain ⟨f, fd, g, F⟩ := T.d_is_whole
  refine ⟨f, fd, g, F.kp, F.binds (fun _ _ _ _ _ _ us hl => match us, hl with | [_], _ => rfl), F.ok sc_is_whole (fun vs H Q E h => ?_) (fun cdv A outer s H vs Q E hr h => ?_)⟩
  · obtain ⟨x, rfl, _⟩ := h; rfl
  · obtain ⟨x, rfl, ⟨t, b1, b2, ty, k1, k2, e⟩, kk⟩ := h
    refine ⟨_, pss_one (ps_ret (pe_and (pe_callB call_isTy (by rfl) T.m_isinstance (by decide +kernel) (pa_cons (pv 0) (pa_cons ((pe_bltn (v := .ty "int") (by rfl) T.m_int (by decide +kernel) rfl)) pa_nil))) (pe_one (pe_not (pe_callB call_isTy (by rfl) T.m_isinstance (by decide +kernel) (pa_cons (pv 0) (pa_cons ((pe_bltn (v := .ty "bool") (by rfl) T.m_bool (by decide +kernel) rfl)) pa_nil))))))), ?_⟩
    walk_at "wp"
    rw [← e] at kk
    refine ⟨t, ty, b1, k1, fun h => ⟨t, ty, b2, k2, ?_⟩, fun h => ?_⟩
    · subst h; exact kk
    · cases b1
      · exact kk
      · exact absurd rfl h
def spFrom (K : PySem.W.Frag) : Sp := fun vs H Q _ => ∃ x l, vs = [x, .int l] ∧ Wh K H x ∧ (isI x = false → Q (.bl false) H) ∧ (∀ i, x = .int i → Q (.bl (decide (l ≤ i))) H)
theorem o_is_from (T : Txt K mg) : OkF P w K mg base CX0 2 "is_from" ["value", "least"] (spFrom K) := by
  have o_is_whole := o_is_whole (P := P) (w := w) (base := base) T
  obtain ⟨f, fd, g, F⟩ := T.d_is_from
  refine ⟨f, fd, g, F.kp, F.binds (fun _ _ _ _ _ _ us hl => match us, hl with | [_, _], _ => rfl), F.ok sc_is_from (fun vs H Q E h => ?_) (fun cdv A outer s H vs Q E hr h => ?_)⟩
  · obtain ⟨x, l, rfl, _⟩ := h; rfl
  · obtain ⟨x, l, rfl, W, k1, k2⟩ := h
    refine ⟨_, pss_one (ps_ret (pe_and (pcl o_is_whole (hr.mono (by decide)) pass0 (pa_cons (pv 0) pa_nil)) (pe_one (pe_cmpR op_ge (pv 0) (pv 1) (nomark _))))), ?_⟩
    walk_at "wp"
    simp only [spWhole, List.cons.injEq, and_true, exists_eq_left']
    refine ⟨W, _, rfl, ?_⟩
    cases e : isI x
    · exact ⟨fun h => (by cases h), fun _ => k1 e⟩
    · obtain ⟨i, rfl⟩ := isI_int e
      exact ⟨fun _ => ⟨i, rfl, k2 i rfl⟩, fun h => absurd rfl h⟩
def spReqW (K : PySem.W.Frag) : Sp := fun vs H Q E => ∃ x, vs = [x] ∧ Wh K H x ∧ (isI x = true → Q .non H) ∧ (isI x = false → Rse K E H "BadNumber" "number" x)
theorem o_require_whole (T : Txt K mg) : OkF P w K mg base (L2.CX P w) 3 "require_whole" ["value"] (spReqW K) := by
  have o_is_whole := o_is_whole (P := P) (w := w) (base := base) T
  obtain ⟨f, fd, g, F⟩ := T.d_require_whole
  refine ⟨f, fd, g, F.kp, F.binds (fun _ _ _ _ _ _ us hl => match us, hl with | [_], _ => rfl), F.okX sc_require_whole (fun vs H Q E h => ?_) (fun cdv A outer s H vs Q E hr h => ?_)⟩
  · obtain ⟨x, rfl, _⟩ := h; rfl
  · obtain ⟨x, rfl, W, k1, k2⟩ := h
    refine ⟨_, pss_one (ps_if (pt_not (pt_val (pcl o_is_whole (hr.mono (by decide)) pass0 (pa_cons (pv 0) pa_nil)))) (pss_one (ps_raiseX (T.x_BadNumber) (hr.mono (by decide)) takesE (pv 0))) (pss_nil)), ?_⟩
    walk_at "wp"
    simp only [spWhole, List.cons.injEq, and_true, exists_eq_left']
    exact ⟨W, _, rfl, ⟨k2, fun h => k1 (by cases e : isI x <;> simp_all)⟩⟩
def spReqF (K : PySem.W.Frag) : Sp := fun vs H Q E => ∃ x l, vs = [x, .int l] ∧ Wh K H x ∧ (∀ i, x = .int i → l ≤ i → Q .non H) ∧ ((∀ i, x = .int i → i < l) → Rse K E H "BadNumber" "number" x)
theorem o_require_from (T : Txt K mg) : OkF P w K mg base (L2.CX P w) 3 "require_from" ["value", "least"] (spReqF K) := by
  have o_is_from := o_is_from (P := P) (w := w) (base := base) T
  obtain ⟨f, fd, g, F⟩ := T.d_require_from
  refine ⟨f, fd, g, F.kp, F.binds (fun _ _ _ _ _ _ us hl => match us, hl with | [_, _], _ => rfl), F.okX sc_require_from (fun vs H Q E h => ?_) (fun cdv A outer s H vs Q E hr h => ?_)⟩
  · obtain ⟨x, l, rfl, _⟩ := h; rfl
  · obtain ⟨x, l, rfl, W, k1, k2⟩ := h
    refine ⟨_, pss_one (ps_if (pt_not (pt_val (pcl o_is_from (hr.mono (by decide)) pass0 (pa_cons (pv 0) (pa_cons (pv 1) pa_nil))))) (pss_one (ps_raiseX (T.x_BadNumber) (hr.mono (by decide)) takesE (pv 0))) (pss_nil)), ?_⟩
    walk_at "wp"
    simp only [spFrom, List.cons.injEq, and_true, exists_and_left, exists_eq_left', V.int.injEq, and_assoc]
    refine ⟨W, fun e => ⟨_, rfl, ?_⟩, fun i e => ⟨_, rfl, ?_⟩⟩
    · refine ⟨fun _ => k2 fun i h => ?_, fun h => ?_⟩
      · subst h; cases e
      · simp at h
    · subst e
      refine ⟨fun h => k2 fun j h2 => ?_, fun h => k1 i rfl ?_⟩
      · cases h2; simp at h; omega
      · simp at h; omega
/-- one is an int of 1 or more -/
def isP : V → Bool
  | .int i => decide (1 ≤ i)
  | _ => false
theorem isP_int {x : V} (h : isP x = true) : ∃ i, x = .int i ∧ 1 ≤ i := by cases x <;> simp_all [isP]
theorem from1 {K : PySem.W.Frag} {H : Hp} {x : V} {Q : VK} {E : XK} (W : Wh K H x) (h1 : isP x = true → Q .non H) (h2 : isP x = false → Rse K E H "BadNumber" "number" x) : spReqF K [x, .int 1] H Q E :=
  ⟨x, 1, rfl, W, fun i e h => h1 (by subst e; simp [isP, h]), fun h => h2 (by cases x <;> simp_all [isP])⟩

end
end Iz
/-! k02_b -/
set_option Elab.async false
set_option linter.all false
set_option maxRecDepth 100000
set_option maxHeartbeats 4000000
namespace Iz
open PySem PySem.Spec PyProof.Rows L2
open He (ga)
local macro_rules | `(tactic| walk_at "wp") => `(tactic| simp only [cx_K, Value.ref.injEq, HO.xd.injEq, lk0, tSeq, tPar3, tPar, tCons, tNil, tVar, tC, tAsg, gName, gCons, gNil, gTupN, gSub, tOp, rI, rI0, rU, tTest, rNe, rEq, rIxTN, rIxLN, rLenL, rLenT, rIntI, rIntB, rAbs, rSetLN, tTruL, tRaiseX, rIsTy, rIsOw, ixN0, ixN1, tRet, tIf, tIfS, tNext, tBreak, tCont, tDrop, tTupN, tLstN, tUn, tCB, tCall, tNot, tAnd, tOr, tB, tAndV, tOrV, tNotV, tChain, tApp, LamX.tLam, tRevLN, rCatN, rInTN, rInLN, flatV, inV, List.all_cons, List.all_nil, List.any_cons, List.any_nil, Bool.and_self, Bool.and_true, if_true, Bool.false_eq_true, if_false, tMt, tFldN, tSto, HO.ins.injEq, lkh, List.drop_zero, List.drop_succ_cons, List.drop_nil, rListS, wipe, L2.start, List.map_cons, List.map_nil, List.length_cons, List.length_nil, List.replicate, List.cons_append, List.nil_append, List.append_nil, Nat.reduceAdd, Nat.reduceSub, Nat.zero_add, List.replicate_succ, List.replicate_zero, List.getElem?_cons_zero, List.getElem?_cons_succ, List.set_cons_zero, List.set_cons_succ, Option.some.injEq, V.int.injEq, V.bl.injEq, V.ref.injEq, V.str.injEq, V.ty.injEq, List.cons.injEq, HO.tup.injEq, HO.lst.injEq, and_true, true_and, and_assoc, exists_eq_left, exists_eq_left', exists_and_left, exists_eq', atI0, atI1, atI2, atI3, Int.cast_ofNat_Int, Int.reduceToNat, scal_ii, scal_in, scal_ni, scal_nn, scal_bb, scal_ss, scal_sn, scal_ns, scal_bn, scal_nb, ite_iff, decide_eq_true_eq, decide_eq_false_iff_not, Bool.not_eq_true', Classical.not_not, ne_eq, not_false_eq_true, not_true_eq_false, forall_const, true_implies, false_implies, imp_self, sizeLine_eq, Nat.reduceLeDiff, reduceCtorEq, decide_true, decide_false])
section
variable {P : Program} {w : World} {K : PySem.W.Frag} {mg : Str → Option Value} {base : Heap}
/-! ### stretches -/
/-- low and high are the ends of a stretch -/
def okS : V → V → Bool
  | .non, .non => true
  | .non, .int _ => true
  | .int _, .non => true
  | .int a, .int b => decide (a < b)
  | _, _ => false
def isE : V → Bool
  | .non => true
  | .int _ => true
  | _ => false
theorem isE_ov {x : V} (h : isE x = true) : ∃ o, x = ov o := by cases x <;> simp_all [isE]; exact ⟨none, rfl⟩; exact ⟨some _, rfl⟩
theorem okS_E {l h : V} (e : okS l h = true) : isE l = true ∧ isE h = true := by cases l <;> cases h <;> simp_all [okS, isE]
def okO : Option Int → Option Int → Prop
  | some a, some b => a < b
  | _, _ => True
theorem okS_ov {l h : Option Int} : okS (ov l) (ov h) = true ↔ okO l h := by cases l <;> cases h <;> simp [okS, okO, ov]
def spSpan (K : PySem.W.Frag) : Sp := fun vs H Q _ => ∃ l h, vs = [l, h] ∧ Wh K H l ∧ Wh K H h ∧ Q (.bl (okS l h)) H
theorem o_is_span (T : Txt K mg) : OkF P w K mg base CX0 2 "is_span" ["low", "high"] (spSpan K) := by
  have o_is_whole := o_is_whole (P := P) (w := w) (base := base) T
  obtain ⟨f, fd, g, F⟩ := T.d_is_span
  refine ⟨f, fd, g, F.kp, F.binds (fun _ _ _ _ _ _ us hl => match us, hl with | [_, _], _ => rfl), F.ok sc_is_span (fun vs H Q E h => ?_) (fun cdv A outer s H vs Q E hr h => ?_)⟩
  · first | (obtain ⟨_, rfl, _⟩ := h; rfl) | (obtain ⟨_, _, rfl, _⟩ := h; rfl) | (obtain ⟨_, _, _, rfl, _⟩ := h; rfl) | (obtain ⟨_, _, _, _, rfl, _⟩ := h; rfl) | (obtain ⟨_, _, _, _, _, rfl, _⟩ := h; rfl) | (obtain ⟨_, _, _, _, _, _, rfl, _⟩ := h; rfl) | (obtain ⟨_, _, _, _, _, _, _, rfl, _⟩ := h; rfl)
  have hu64 := hr.units
  refine ⟨_, pss_cons (ps_if (PW.pt (pw_or (pt_not (PW.pt (pw_or (pt_cmpR op_isN (pv 0) (pe_non) (nomark _)) (pw_or1 (pt_val (pcl o_is_whole (hr.mono (by decide)) pass0 (pa_cons (pv 0) pa_nil))))))) (pw_or1 (pt_not (PW.pt (pw_or (pt_cmpR op_isN (pv 1) (pe_non) (nomark _)) (pw_or1 (pt_val (pcl o_is_whole (hr.mono (by decide)) pass0 (pa_cons (pv 1) pa_nil)))))))))) (pss_one (ps_ret (pe_bl))) (pss_nil))
      (pss_one (ps_ret (pe_or (pe_cmpR op_isN (pv 0) (pe_non) (nomark _)) (pe_or (pe_cmpR op_isN (pv 1) (pe_non) (nomark _)) (pe_one (pe_cmpR op_lt (pv 0) (pv 1) (nomark _))))))), ?_⟩
  obtain ⟨l, h, rfl, Wl, Wr, k⟩ := h
  simp only [spWhole, exists_and_left, cx_K, Value.ref.injEq, HO.xd.injEq, lk0, tSeq, tPar3, tPar, tCons, tNil, tVar, tC, tAsg, gName, gCons, gNil, gTupN, gSub, tOp, rI, rI0, rU, tTest, rNe, rEq, rIxTN, rIxLN, rLenL, rLenT, rIntI, rIntB, rAbs, rSetLN, tTruL, tRaiseX, rIsTy, rIsOw, ixN0, ixN1, tRet, tIf, tIfS, tNext, tBreak, tCont, tDrop, tTupN, tLstN, tUn, tCB, tCall, tNot, tAnd, tOr, tB, tAndV, tOrV, tNotV, tChain, tApp, LamX.tLam, tRevLN, rCatN, rInTN, rInLN, flatV, inV, List.all_cons, List.all_nil, List.any_cons, List.any_nil, Bool.and_self, Bool.and_true, if_true, Bool.false_eq_true, if_false, tMt, tFldN, tSto, HO.ins.injEq, lkh, List.drop_zero, List.drop_succ_cons, List.drop_nil, rListS, wipe, L2.start, List.map_cons, List.map_nil, List.length_cons, List.length_nil, List.replicate, List.cons_append, List.nil_append, List.append_nil, Nat.reduceAdd, Nat.reduceSub, Nat.zero_add, List.replicate_succ, List.replicate_zero, List.getElem?_cons_zero, List.getElem?_cons_succ, List.set_cons_zero, List.set_cons_succ, Option.some.injEq, V.int.injEq, V.bl.injEq, V.ref.injEq, V.str.injEq, V.ty.injEq, List.cons.injEq, HO.tup.injEq, HO.lst.injEq, and_true, true_and, and_assoc, exists_eq_left, exists_eq_left', exists_and_left, exists_eq', atI0, atI1, atI2, atI3, Int.cast_ofNat_Int, Int.reduceToNat, scal_ii, scal_in, scal_ni, scal_nn, scal_bb, scal_ss, scal_sn, scal_ns, scal_bn, scal_nb, ite_iff, decide_eq_true_eq, decide_eq_false_iff_not, Bool.not_eq_true', Classical.not_not, ne_eq, not_false_eq_true, not_true_eq_false, forall_const, true_implies, false_implies, imp_self, sizeLine_eq, Nat.reduceLeDiff, reduceCtorEq, decide_true, decide_false]
  cases l <;> cases h <;> simp_all [okS, isI]
/-- a call of Stretch -/
def spSt (K : PySem.W.Frag) : Sp := fun vs H Q E => ∃ l h, vs = [l, h] ∧ Wh K H l ∧ Wh K H h ∧ (okS l h = true → NewsI H (ga K "Stretch") [("low", l), ("high", h)] Q) ∧ (okS l h = false → Rse K E H "BadPart" "part" (.str "stretch"))
def spStI (K : PySem.W.Frag) : Sp := fun vs H Q E => ∃ p l h, vs = [.ref p, l, h] ∧ ∃ dx, H p = some (.ins (ga K "Stretch") dx []) ∧ Wh K H l ∧ Wh K H h ∧
  (okS l h = true → ∀ H', (∀ b, b ≠ p → H' b = H b) → H' p = some (.ins (ga K "Stretch") dx [("low", l), ("high", h)]) → Q .non H') ∧ (okS l h = false → Rse K E H "BadPart" "part" (.str "stretch"))
theorem i_Stretch___init__ (T : Txt K mg) {f : Addr} {fd : FuncData} (F : FunD K "__init__" "Stretch.__init__" (defArgs s_Stretch___init__) (defBody s_Stretch___init__) (defScope s_Stretch___init__) [.non, .non] [] f fd) : FnOk P w K mg base (L2.CX P w) 3 f fd ["self", "low", "high"] (spStI K) := by
  have o_is_span := o_is_span (P := P) (w := w) (base := base) T
  refine F.ok (CX := (L2.CX P w)) sc_Stretch___init__ (fun vs H Q E h => ?_) (fun cdv A outer s H vs Q E hr h => ?_)
  · first | (obtain ⟨_, rfl, _⟩ := h; rfl) | (obtain ⟨_, _, rfl, _⟩ := h; rfl) | (obtain ⟨_, _, _, rfl, _⟩ := h; rfl) | (obtain ⟨_, _, _, _, rfl, _⟩ := h; rfl) | (obtain ⟨_, _, _, _, _, rfl, _⟩ := h; rfl) | (obtain ⟨_, _, _, _, _, _, rfl, _⟩ := h; rfl) | (obtain ⟨_, _, _, _, _, _, _, rfl, _⟩ := h; rfl)
  have hu64 := hr.units
  refine ⟨_, (pss_cons (ps_if (pt_not (pt_val (pcl o_is_span (hr.mono (by decide)) pass0 (pa_cons (pv 1) (pa_cons (pv 2) pa_nil))))) (pss_one (ps_raiseX (T.x_BadPart) (hr.mono (by decide)) takesE (pe_str))) (pss_nil))
      (pss_cons (ps_fldN T.c_Stretch T.na_Stretch_low (pv 0) (pv 1))
      (pss_one (ps_fldN T.c_Stretch T.na_Stretch_high (pv 0) (pv 2))))), ?_⟩
  obtain ⟨p, l, h, rfl, dx, hp, Wl, Wr, k1, k2⟩ := h
  simp only [spSpan, exists_and_left, cx_K, Value.ref.injEq, HO.xd.injEq, lk0, tSeq, tPar3, tPar, tCons, tNil, tVar, tC, tAsg, gName, gCons, gNil, gTupN, gSub, tOp, rI, rI0, rU, tTest, rNe, rEq, rIxTN, rIxLN, rLenL, rLenT, rIntI, rIntB, rAbs, rSetLN, tTruL, tRaiseX, rIsTy, rIsOw, ixN0, ixN1, tRet, tIf, tIfS, tNext, tBreak, tCont, tDrop, tTupN, tLstN, tUn, tCB, tCall, tNot, tAnd, tOr, tB, tAndV, tOrV, tNotV, tChain, tApp, LamX.tLam, tRevLN, rCatN, rInTN, rInLN, flatV, inV, List.all_cons, List.all_nil, List.any_cons, List.any_nil, Bool.and_self, Bool.and_true, if_true, Bool.false_eq_true, if_false, tMt, tFldN, tSto, HO.ins.injEq, lkh, List.drop_zero, List.drop_succ_cons, List.drop_nil, rListS, wipe, L2.start, List.map_cons, List.map_nil, List.length_cons, List.length_nil, List.replicate, List.cons_append, List.nil_append, List.append_nil, Nat.reduceAdd, Nat.reduceSub, Nat.zero_add, List.replicate_succ, List.replicate_zero, List.getElem?_cons_zero, List.getElem?_cons_succ, List.set_cons_zero, List.set_cons_succ, Option.some.injEq, V.int.injEq, V.bl.injEq, V.ref.injEq, V.str.injEq, V.ty.injEq, List.cons.injEq, HO.tup.injEq, HO.lst.injEq, and_true, true_and, and_assoc, exists_eq_left, exists_eq_left', exists_and_left, exists_eq', atI0, atI1, atI2, atI3, Int.cast_ofNat_Int, Int.reduceToNat, scal_ii, scal_in, scal_ni, scal_nn, scal_bb, scal_ss, scal_sn, scal_ns, scal_bn, scal_nb, ite_iff, decide_eq_true_eq, decide_eq_false_iff_not, Bool.not_eq_true', Classical.not_not, ne_eq, not_false_eq_true, not_true_eq_false, forall_const, true_implies, false_implies, imp_self, sizeLine_eq, Nat.reduceLeDiff, reduceCtorEq, decide_true, decide_false]
  refine ⟨Wl, Wr, k2, fun e => ⟨dx, [], hp, by decide, fun H1 p1 => ⟨dx, _, p1.1, by rw [putF_nil]; exact (by decide : 1 < 1000), fun H2 p2 => ?_⟩⟩⟩
  refine k1 (by simpa using e) H2 (fun b hb => by rw [p2.2 b hb, p1.2 b hb]) ?_
  rw [p2.1, putF_nil, putF_cons (by decide +kernel), putF_nil]
theorem o_Stretch (T : Txt K mg) : OkK P w K mg base (L2.CX P w) 3 "Stretch" ["low", "high"] [.non, .non] (spSt K) := by
  obtain ⟨f, fd, M, F⟩ := T.d_Stretch___init__
  refine ⟨f, fd, spStI K, M, T.g_Stretch, b_Stretch___init__ F, i_Stretch___init__ T F, fun vs H Q E h p dx hp hdx hne => ?_⟩
  obtain ⟨l, r, rfl, Wl, Wr, k1, k2⟩ := h
  have s := same_made (H' := upd (upd H dx (.own p)) p (.ins (ga K "Stretch") dx [])) hp hdx fun b _ => rfl
  exact ⟨p, l, r, rfl, dx, upd_same, wh_mono Wl s, wh_mono Wr s, fun e H' hk hp' => ⟨rfl, k1 e p dx H' hp (same_made hp hdx hk) hp'⟩, fun e => Rse.mono (k2 e) s⟩
theorem lkLow {l h : V} : List.lookup ("low" : Str) [(("low" : Str), l), (("high" : Str), h)] = some l := lkh
theorem lkHigh {l h : V} : List.lookup ("high" : Str) [(("low" : Str), l), (("high" : Str), h)] = some h := lk1 (by decide +kernel)
theorem lkNo {m : Str} {l h : V} (h1 : (m == ("low" : Str)) = false := by decide +kernel) (h2 : (m == ("high" : Str)) = false := by decide +kernel) : List.lookup m [(("low" : Str), l), (("high" : Str), h)] = none := lkn2 h1 h2
theorem lkN_holds {l h : V} : List.lookup ("holds" : Str) [(("low" : Str), l), (("high" : Str), h)] = none := lkNo
theorem lkN_turned {l h : V} : List.lookup ("turned" : Str) [(("low" : Str), l), (("high" : Str), h)] = none := lkNo
theorem lkN_common {l h : V} : List.lookup ("common" : Str) [(("low" : Str), l), (("high" : Str), h)] = none := lkNo
theorem lkN_count {l h : V} : List.lookup ("count" : Str) [(("low" : Str), l), (("high" : Str), h)] = none := lkNo
theorem lkN_first {l h : V} : List.lookup ("first" : Str) [(("low" : Str), l), (("high" : Str), h)] = none := lkNo
theorem lkN_final {l h : V} : List.lookup ("final" : Str) [(("low" : Str), l), (("high" : Str), h)] = none := lkNo
theorem lkN_nth {l h : V} : List.lookup ("nth" : Str) [(("low" : Str), l), (("high" : Str), h)] = none := lkNo
theorem lkN_below {l h : V} : List.lookup ("below" : Str) [(("low" : Str), l), (("high" : Str), h)] = none := lkNo
/-- the stretch at a -/
abbrev SAt (K : PySem.W.Frag) (H : Hp) (a dx : Addr) (lo hi : Option Int) : Prop := H a = some (.ins (ga K "Stretch") dx [("low", ov lo), ("high", ov hi)])
/-- i is in the stretch -/
def inS (lo hi : Option Int) (i : Int) : Bool := (match lo with | none => true | some l => decide (l ≤ i)) && (match hi with | none => true | some h => decide (i < h))
def hasV (lo hi : Option Int) : V → Bool
  | .int i => inS lo hi i
  | _ => false
def spHolds (K : PySem.W.Frag) : Sp := fun vs H Q _ => ∃ a x, vs = [.ref a, x] ∧ ∃ dx lo hi, SAt K H a dx lo hi ∧ Wh K H x ∧ Q (.bl (hasV lo hi x)) H
theorem o_Stretch_holds (T : Txt K mg) : OkM P w K mg base CX0 2 "Stretch" "holds" ["self", "number"] [] (spHolds K) := by
  have o_is_whole := o_is_whole (P := P) (w := w) (base := base) T
  obtain ⟨f, fd, M, F⟩ := T.d_Stretch_holds
  refine ⟨f, fd, M, b_Stretch_holds F, F.ok (CX := CX0) sc_Stretch_holds (fun vs H Q E h => ?_) (fun cdv A outer s H vs Q E hr h => ?_)⟩
  · first | (obtain ⟨_, rfl, _⟩ := h; rfl) | (obtain ⟨_, _, rfl, _⟩ := h; rfl) | (obtain ⟨_, _, _, rfl, _⟩ := h; rfl) | (obtain ⟨_, _, _, _, rfl, _⟩ := h; rfl) | (obtain ⟨_, _, _, _, _, rfl, _⟩ := h; rfl) | (obtain ⟨_, _, _, _, _, _, rfl, _⟩ := h; rfl) | (obtain ⟨_, _, _, _, _, _, _, rfl, _⟩ := h; rfl)
  have hu64 := hr.units
  refine ⟨_, PSs.nox (pss_cons (ps_if (pt_not (pt_val (pcl o_is_whole (hr.mono (by decide)) pass0 (pa_cons (pv 1) pa_nil)))) (pss_one (ps_ret (pe_bl))) (pss_nil))
      (pss_one (ps_ret (pe_and (pe_or (pe_cmpR op_isN (pe_fldN T.c_Stretch T.na_Stretch_low (pv 0)) (pe_non) (nomark _)) (pe_one (pe_cmpR op_le (pe_fldN T.c_Stretch T.na_Stretch_low (pv 0)) (pv 1) (nomark _)))) (pe_one (pe_or (pe_cmpR op_isN (pe_fldN T.c_Stretch T.na_Stretch_high (pv 0)) (pe_non) (nomark _)) (pe_one (pe_cmpR op_lt (pv 1) (pe_fldN T.c_Stretch T.na_Stretch_high (pv 0)) (nomark _))))))))), ?_⟩
  obtain ⟨a, x, rfl, dx, lo, hi, hs, W, k⟩ := h
  have hi' := @isI_int x
  cases lo <;> cases hi <;> simp only [spWhole, exists_and_left, hs, lkLow, lkHigh, lkN_holds, lkN_turned, lkN_common, lkN_count, lkN_first, lkN_final, lkN_nth, lkN_below, ov, cx_K, Value.ref.injEq, HO.xd.injEq, lk0, tSeq, tPar3, tPar, tCons, tNil, tVar, tC, tAsg, gName, gCons, gNil, gTupN, gSub, tOp, rI, rI0, rU, tTest, rNe, rEq, rIxTN, rIxLN, rLenL, rLenT, rIntI, rIntB, rAbs, rSetLN, tTruL, tRaiseX, rIsTy, rIsOw, ixN0, ixN1, tRet, tIf, tIfS, tNext, tBreak, tCont, tDrop, tTupN, tLstN, tUn, tCB, tCall, tNot, tAnd, tOr, tB, tAndV, tOrV, tNotV, tChain, tApp, LamX.tLam, tRevLN, rCatN, rInTN, rInLN, flatV, inV, List.all_cons, List.all_nil, List.any_cons, List.any_nil, Bool.and_self, Bool.and_true, if_true, Bool.false_eq_true, if_false, tMt, tFldN, tSto, HO.ins.injEq, lkh, List.drop_zero, List.drop_succ_cons, List.drop_nil, rListS, wipe, L2.start, List.map_cons, List.map_nil, List.length_cons, List.length_nil, List.replicate, List.cons_append, List.nil_append, List.append_nil, Nat.reduceAdd, Nat.reduceSub, Nat.zero_add, List.replicate_succ, List.replicate_zero, List.getElem?_cons_zero, List.getElem?_cons_succ, List.set_cons_zero, List.set_cons_succ, Option.some.injEq, V.int.injEq, V.bl.injEq, V.ref.injEq, V.str.injEq, V.ty.injEq, List.cons.injEq, HO.tup.injEq, HO.lst.injEq, and_true, true_and, and_assoc, exists_eq_left, exists_eq_left', exists_and_left, exists_eq', atI0, atI1, atI2, atI3, Int.cast_ofNat_Int, Int.reduceToNat, scal_ii, scal_in, scal_ni, scal_nn, scal_bb, scal_ss, scal_sn, scal_ns, scal_bn, scal_nb, ite_iff, decide_eq_true_eq, decide_eq_false_iff_not, Bool.not_eq_true', Classical.not_not, ne_eq, not_false_eq_true, not_true_eq_false, forall_const, true_implies, false_implies, imp_self, sizeLine_eq, Nat.reduceLeDiff, reduceCtorEq, decide_true, decide_false] <;> refine ⟨W, fun h => ?_, fun h => ?_⟩
  all_goals first
    | (cases x <;> simp_all [hasV, inS, isI]; done)
    | (obtain ⟨i, rfl⟩ := hi' (by simpa using h); simp only [V.int.injEq, exists_eq_left']; simp_all [hasV, inS, isI]; done)
    | (obtain ⟨i, rfl⟩ := hi' (by simpa using h); simp only [V.int.injEq, exists_eq_left']; constructor <;> intro h1 <;> simp_all [hasV, inS, isI] <;> done)
def turnO : Option Int → Option Int
  | none => none
  | some h => some (1 - h)
def spTurned (K : PySem.W.Frag) : Sp := fun vs H Q _ => ∃ a, vs = [.ref a] ∧ ∃ dx lo hi, SAt K H a dx lo hi ∧ okO lo hi ∧ ∀ p dx H2, H p = none → Same H H2 → SAt K H2 p dx (turnO hi) (turnO lo) → Q (.ref p) H2
theorem o_Stretch_turned (T : Txt K mg) : OkM P w K mg base (L2.CX P w) 5 "Stretch" "turned" ["self"] [] (spTurned K) := by
  have o_Stretch := o_Stretch (P := P) (w := w) (base := base) T
  obtain ⟨f, fd, M, F⟩ := T.d_Stretch_turned
  refine ⟨f, fd, M, b_Stretch_turned F, F.ok (CX := (L2.CX P w)) sc_Stretch_turned (fun vs H Q E h => ?_) (fun cdv A outer s H vs Q E hr h => ?_)⟩
  · first | (obtain ⟨_, rfl, _⟩ := h; rfl) | (obtain ⟨_, _, rfl, _⟩ := h; rfl) | (obtain ⟨_, _, _, rfl, _⟩ := h; rfl) | (obtain ⟨_, _, _, _, rfl, _⟩ := h; rfl) | (obtain ⟨_, _, _, _, _, rfl, _⟩ := h; rfl) | (obtain ⟨_, _, _, _, _, _, rfl, _⟩ := h; rfl) | (obtain ⟨_, _, _, _, _, _, _, rfl, _⟩ := h; rfl)
  have hu64 := hr.units
  refine ⟨_, (pss_cons (ps_set (i := 1) sc_Stretch_turned.nd rfl (Or.inl rfl) (pe_ifExp (pt_cmpR op_isN (pe_fldN T.c_Stretch T.na_Stretch_high (pv 0)) (pe_non) (nomark _)) (pe_non) (pe_op op_sub (pe_int) (pe_fldN T.c_Stretch T.na_Stretch_high (pv 0)))))
      (pss_cons (ps_set (i := 2) sc_Stretch_turned.nd rfl (Or.inl rfl) (pe_ifExp (pt_cmpR op_isN (pe_fldN T.c_Stretch T.na_Stretch_low (pv 0)) (pe_non) (nomark _)) (pe_non) (pe_op op_sub (pe_int) (pe_fldN T.c_Stretch T.na_Stretch_low (pv 0)))))
      (pss_one (ps_ret (pmk (j := 2) o_Stretch (by decide) (hr.mono (by decide)) passE (pa_cons (pv 1) (pa_cons (pv 2) pa_nil))))))), ?_⟩
  obtain ⟨a, rfl, dx, lo, hi, hs, ho, k⟩ := h
  cases lo <;> cases hi <;> simp only [spSt, exists_and_left, hs, lkLow, lkHigh, lkN_holds, lkN_turned, lkN_common, lkN_count, lkN_first, lkN_final, lkN_nth, lkN_below, ov, wh_int, wh_non, cx_K, Value.ref.injEq, HO.xd.injEq, lk0, tSeq, tPar3, tPar, tCons, tNil, tVar, tC, tAsg, gName, gCons, gNil, gTupN, gSub, tOp, rI, rI0, rU, tTest, rNe, rEq, rIxTN, rIxLN, rLenL, rLenT, rIntI, rIntB, rAbs, rSetLN, tTruL, tRaiseX, rIsTy, rIsOw, ixN0, ixN1, tRet, tIf, tIfS, tNext, tBreak, tCont, tDrop, tTupN, tLstN, tUn, tCB, tCall, tNot, tAnd, tOr, tB, tAndV, tOrV, tNotV, tChain, tApp, LamX.tLam, tRevLN, rCatN, rInTN, rInLN, flatV, inV, List.all_cons, List.all_nil, List.any_cons, List.any_nil, Bool.and_self, Bool.and_true, if_true, Bool.false_eq_true, if_false, tMt, tFldN, tSto, HO.ins.injEq, lkh, List.drop_zero, List.drop_succ_cons, List.drop_nil, rListS, wipe, L2.start, List.map_cons, List.map_nil, List.length_cons, List.length_nil, List.replicate, List.cons_append, List.nil_append, List.append_nil, Nat.reduceAdd, Nat.reduceSub, Nat.zero_add, List.replicate_succ, List.replicate_zero, List.getElem?_cons_zero, List.getElem?_cons_succ, List.set_cons_zero, List.set_cons_succ, Option.some.injEq, V.int.injEq, V.bl.injEq, V.ref.injEq, V.str.injEq, V.ty.injEq, List.cons.injEq, HO.tup.injEq, HO.lst.injEq, and_true, true_and, and_assoc, exists_eq_left, exists_eq_left', exists_and_left, exists_eq', atI0, atI1, atI2, atI3, Int.cast_ofNat_Int, Int.reduceToNat, scal_ii, scal_in, scal_ni, scal_nn, scal_bb, scal_ss, scal_sn, scal_ns, scal_bn, scal_nb, ite_iff, decide_eq_true_eq, decide_eq_false_iff_not, Bool.not_eq_true', Classical.not_not, ne_eq, not_false_eq_true, not_true_eq_false, forall_const, true_implies, false_implies, imp_self, sizeLine_eq, Nat.reduceLeDiff, reduceCtorEq, decide_true, decide_false]
  all_goals refine ⟨fun _ => fun p dx' H2 hp s h2 => k p dx' H2 hp s h2, fun e => ?_⟩
  · cases e
  · cases e
  · cases e
  · simp [okS, okO] at e ho; omega
def glow : Option Int → Option Int → Option Int
  | none, y => y
  | x, none => x
  | some a, some b => some (if a > b then a else b)
def lhigh : Option Int → Option Int → Option Int
  | none, y => y
  | x, none => x
  | some a, some b => some (if a < b then a else b)
def spGl : Sp := fun vs H Q _ => ∃ x y, vs = [ov x, ov y] ∧ Q (ov (glow x y)) H
def spLh : Sp := fun vs H Q _ => ∃ x y, vs = [ov x, ov y] ∧ Q (ov (lhigh x y)) H
theorem o__greater_low (T : Txt K mg) : OkF P w K mg base CX0 1 "_greater_low" ["one", "other"] spGl := by
  obtain ⟨f, fd, g, F⟩ := T.d__greater_low
  refine ⟨f, fd, g, F.kp, F.binds (fun _ _ _ _ _ _ us hl => match us, hl with | [_, _], _ => rfl), F.ok sc__greater_low (fun vs H Q E h => ?_) (fun cdv A outer s H vs Q E hr h => ?_)⟩
  · first | (obtain ⟨_, rfl, _⟩ := h; rfl) | (obtain ⟨_, _, rfl, _⟩ := h; rfl) | (obtain ⟨_, _, _, rfl, _⟩ := h; rfl) | (obtain ⟨_, _, _, _, rfl, _⟩ := h; rfl) | (obtain ⟨_, _, _, _, _, rfl, _⟩ := h; rfl) | (obtain ⟨_, _, _, _, _, _, rfl, _⟩ := h; rfl) | (obtain ⟨_, _, _, _, _, _, _, rfl, _⟩ := h; rfl)
  have hu64 := hr.units
  refine ⟨_, pss_cons (ps_if (PW.pt (pw_or (pt_cmpR op_isN (pv 0) (pe_non) (nomark _)) (pw_or1 (pt_cmpR op_isN (pv 1) (pe_non) (nomark _))))) (pss_one (ps_ret (pe_ifExp (pt_cmpR op_isN (pv 0) (pe_non) (nomark _)) (pv 1) (pv 0)))) (pss_nil))
      (pss_one (ps_ret (pe_ifExp (pt_cmpR op_gt (pv 0) (pv 1) (nomark _)) (pv 0) (pv 1)))), ?_⟩
  obtain ⟨x, y, rfl, k⟩ := h
  cases x <;> cases y <;> simp only [ov, cx_K, Value.ref.injEq, HO.xd.injEq, lk0, tSeq, tPar3, tPar, tCons, tNil, tVar, tC, tAsg, gName, gCons, gNil, gTupN, gSub, tOp, rI, rI0, rU, tTest, rNe, rEq, rIxTN, rIxLN, rLenL, rLenT, rIntI, rIntB, rAbs, rSetLN, tTruL, tRaiseX, rIsTy, rIsOw, ixN0, ixN1, tRet, tIf, tIfS, tNext, tBreak, tCont, tDrop, tTupN, tLstN, tUn, tCB, tCall, tNot, tAnd, tOr, tB, tAndV, tOrV, tNotV, tChain, tApp, LamX.tLam, tRevLN, rCatN, rInTN, rInLN, flatV, inV, List.all_cons, List.all_nil, List.any_cons, List.any_nil, Bool.and_self, Bool.and_true, if_true, Bool.false_eq_true, if_false, tMt, tFldN, tSto, HO.ins.injEq, lkh, List.drop_zero, List.drop_succ_cons, List.drop_nil, rListS, wipe, L2.start, List.map_cons, List.map_nil, List.length_cons, List.length_nil, List.replicate, List.cons_append, List.nil_append, List.append_nil, Nat.reduceAdd, Nat.reduceSub, Nat.zero_add, List.replicate_succ, List.replicate_zero, List.getElem?_cons_zero, List.getElem?_cons_succ, List.set_cons_zero, List.set_cons_succ, Option.some.injEq, V.int.injEq, V.bl.injEq, V.ref.injEq, V.str.injEq, V.ty.injEq, List.cons.injEq, HO.tup.injEq, HO.lst.injEq, and_true, true_and, and_assoc, exists_eq_left, exists_eq_left', exists_and_left, exists_eq', atI0, atI1, atI2, atI3, Int.cast_ofNat_Int, Int.reduceToNat, scal_ii, scal_in, scal_ni, scal_nn, scal_bb, scal_ss, scal_sn, scal_ns, scal_bn, scal_nb, ite_iff, decide_eq_true_eq, decide_eq_false_iff_not, Bool.not_eq_true', Classical.not_not, ne_eq, not_false_eq_true, not_true_eq_false, forall_const, true_implies, false_implies, imp_self, sizeLine_eq, Nat.reduceLeDiff, reduceCtorEq, decide_true, decide_false] <;> simp_all [glow, ov]
  refine ⟨fun h => ?_, fun h => ?_⟩
  · rw [if_pos h] at k; exact k
  · rw [if_neg (by omega)] at k; exact k
theorem o__lesser_high (T : Txt K mg) : OkF P w K mg base CX0 1 "_lesser_high" ["one", "other"] spLh := by
  obtain ⟨f, fd, g, F⟩ := T.d__lesser_high
  refine ⟨f, fd, g, F.kp, F.binds (fun _ _ _ _ _ _ us hl => match us, hl with | [_, _], _ => rfl), F.ok sc__lesser_high (fun vs H Q E h => ?_) (fun cdv A outer s H vs Q E hr h => ?_)⟩
  · first | (obtain ⟨_, rfl, _⟩ := h; rfl) | (obtain ⟨_, _, rfl, _⟩ := h; rfl) | (obtain ⟨_, _, _, rfl, _⟩ := h; rfl) | (obtain ⟨_, _, _, _, rfl, _⟩ := h; rfl) | (obtain ⟨_, _, _, _, _, rfl, _⟩ := h; rfl) | (obtain ⟨_, _, _, _, _, _, rfl, _⟩ := h; rfl) | (obtain ⟨_, _, _, _, _, _, _, rfl, _⟩ := h; rfl)
  have hu64 := hr.units
  refine ⟨_, pss_cons (ps_if (PW.pt (pw_or (pt_cmpR op_isN (pv 0) (pe_non) (nomark _)) (pw_or1 (pt_cmpR op_isN (pv 1) (pe_non) (nomark _))))) (pss_one (ps_ret (pe_ifExp (pt_cmpR op_isN (pv 0) (pe_non) (nomark _)) (pv 1) (pv 0)))) (pss_nil))
      (pss_one (ps_ret (pe_ifExp (pt_cmpR op_lt (pv 0) (pv 1) (nomark _)) (pv 0) (pv 1)))), ?_⟩
  obtain ⟨x, y, rfl, k⟩ := h
  cases x <;> cases y <;> simp only [ov, cx_K, Value.ref.injEq, HO.xd.injEq, lk0, tSeq, tPar3, tPar, tCons, tNil, tVar, tC, tAsg, gName, gCons, gNil, gTupN, gSub, tOp, rI, rI0, rU, tTest, rNe, rEq, rIxTN, rIxLN, rLenL, rLenT, rIntI, rIntB, rAbs, rSetLN, tTruL, tRaiseX, rIsTy, rIsOw, ixN0, ixN1, tRet, tIf, tIfS, tNext, tBreak, tCont, tDrop, tTupN, tLstN, tUn, tCB, tCall, tNot, tAnd, tOr, tB, tAndV, tOrV, tNotV, tChain, tApp, LamX.tLam, tRevLN, rCatN, rInTN, rInLN, flatV, inV, List.all_cons, List.all_nil, List.any_cons, List.any_nil, Bool.and_self, Bool.and_true, if_true, Bool.false_eq_true, if_false, tMt, tFldN, tSto, HO.ins.injEq, lkh, List.drop_zero, List.drop_succ_cons, List.drop_nil, rListS, wipe, L2.start, List.map_cons, List.map_nil, List.length_cons, List.length_nil, List.replicate, List.cons_append, List.nil_append, List.append_nil, Nat.reduceAdd, Nat.reduceSub, Nat.zero_add, List.replicate_succ, List.replicate_zero, List.getElem?_cons_zero, List.getElem?_cons_succ, List.set_cons_zero, List.set_cons_succ, Option.some.injEq, V.int.injEq, V.bl.injEq, V.ref.injEq, V.str.injEq, V.ty.injEq, List.cons.injEq, HO.tup.injEq, HO.lst.injEq, and_true, true_and, and_assoc, exists_eq_left, exists_eq_left', exists_and_left, exists_eq', atI0, atI1, atI2, atI3, Int.cast_ofNat_Int, Int.reduceToNat, scal_ii, scal_in, scal_ni, scal_nn, scal_bb, scal_ss, scal_sn, scal_ns, scal_bn, scal_nb, ite_iff, decide_eq_true_eq, decide_eq_false_iff_not, Bool.not_eq_true', Classical.not_not, ne_eq, not_false_eq_true, not_true_eq_false, forall_const, true_implies, false_implies, imp_self, sizeLine_eq, Nat.reduceLeDiff, reduceCtorEq, decide_true, decide_false] <;> simp_all [lhigh, ov]
  refine ⟨fun h => ?_, fun h => ?_⟩
  · rw [if_pos h] at k; exact k
  · rw [if_neg (by omega)] at k; exact k
/-- y is no Stretch -/
def NoS (K : PySem.W.Frag) (H : Hp) (y : V) : Prop := ∃ t, TyX K H y t ∧ PySem.W.kitOne K t (.ref (ga K "Stretch")) = some false
def spCommon (K : PySem.W.Frag) : Sp := fun vs H Q E => ∃ a y, vs = [.ref a, y] ∧ ∃ dx lo hi, SAt K H a dx lo hi ∧ ((NoS K H y ∧ Rse K E H "BadPart" "part" (.str "stretch")) ∨ ∃ b dx2 lo2 hi2, y = .ref b ∧ SAt K H b dx2 lo2 hi2 ∧
  (okO (glow lo lo2) (lhigh hi hi2) → ∀ p dx' H2, H p = none → Same H H2 → SAt K H2 p dx' (glow lo lo2) (lhigh hi hi2) → Q (.ref p) H2) ∧ (¬ okO (glow lo lo2) (lhigh hi hi2) → Q .non H))
theorem o_Stretch_common (T : Txt K mg) : OkM P w K mg base (L2.CX P w) 5 "Stretch" "common" ["self", "other"] [] (spCommon K) := by
  have o_Stretch := o_Stretch (P := P) (w := w) (base := base) T
  have o__greater_low := o__greater_low (P := P) (w := w) (base := base) T
  have o__lesser_high := o__lesser_high (P := P) (w := w) (base := base) T
  have o_is_span := o_is_span (P := P) (w := w) (base := base) T
  obtain ⟨f, fd, M, F⟩ := T.d_Stretch_common
  refine ⟨f, fd, M, b_Stretch_common F, F.ok (CX := (L2.CX P w)) sc_Stretch_common (fun vs H Q E h => ?_) (fun cdv A outer s H vs Q E hr h => ?_)⟩
  · first | (obtain ⟨_, rfl, _⟩ := h; rfl) | (obtain ⟨_, _, rfl, _⟩ := h; rfl) | (obtain ⟨_, _, _, rfl, _⟩ := h; rfl) | (obtain ⟨_, _, _, _, rfl, _⟩ := h; rfl) | (obtain ⟨_, _, _, _, _, rfl, _⟩ := h; rfl) | (obtain ⟨_, _, _, _, _, _, rfl, _⟩ := h; rfl) | (obtain ⟨_, _, _, _, _, _, _, rfl, _⟩ := h; rfl)
  have hu64 := hr.units
  refine ⟨_, (pss_cons (ps_if (pt_not (pt_val (pe_callB call_isOw (by rfl) T.m_isinstance (by decide +kernel) (pa_cons (pv 1) (pa_cons ((pe_glob (v := .ref (ga K "Stretch")) (by rfl) T.g_Stretch rfl)) pa_nil))))) (pss_one (ps_raiseX (T.x_BadPart) (hr.mono (by decide)) takesE (pe_str))) (pss_nil))
      (pss_cons (ps_set (i := 2) sc_Stretch_common.nd rfl (Or.inl rfl) (pcl o__greater_low (hr.mono (by decide)) pass0 (pa_cons (pe_fldN T.c_Stretch T.na_Stretch_low (pv 0)) (pa_cons (pe_fldN T.c_Stretch T.na_Stretch_low (pv 1)) pa_nil))))
      (pss_cons (ps_set (i := 3) sc_Stretch_common.nd rfl (Or.inl rfl) (pcl o__lesser_high (hr.mono (by decide)) pass0 (pa_cons (pe_fldN T.c_Stretch T.na_Stretch_high (pv 0)) (pa_cons (pe_fldN T.c_Stretch T.na_Stretch_high (pv 1)) pa_nil))))
      (pss_one (ps_ret (pe_ifExp (pt_val (pcl o_is_span (hr.mono (by decide)) pass0 (pa_cons (pv 2) (pa_cons (pv 3) pa_nil)))) (pmk (j := 2) o_Stretch (by decide) (hr.mono (by decide)) passE (pa_cons (pv 2) (pa_cons (pv 3) pa_nil))) (pe_non))))))), ?_⟩
  obtain ⟨a, y, rfl, dx, lo, hi, hs, h⟩ := h
  simp only [spGl, spLh, exists_and_left, hs, lkLow, lkHigh, lkN_holds, lkN_turned, lkN_common, lkN_count, lkN_first, lkN_final, lkN_nth, lkN_below, cx_K, Value.ref.injEq, HO.xd.injEq, lk0, tSeq, tPar3, tPar, tCons, tNil, tVar, tC, tAsg, gName, gCons, gNil, gTupN, gSub, tOp, rI, rI0, rU, tTest, rNe, rEq, rIxTN, rIxLN, rLenL, rLenT, rIntI, rIntB, rAbs, rSetLN, tTruL, tRaiseX, rIsTy, rIsOw, ixN0, ixN1, tRet, tIf, tIfS, tNext, tBreak, tCont, tDrop, tTupN, tLstN, tUn, tCB, tCall, tNot, tAnd, tOr, tB, tAndV, tOrV, tNotV, tChain, tApp, LamX.tLam, tRevLN, rCatN, rInTN, rInLN, flatV, inV, List.all_cons, List.all_nil, List.any_cons, List.any_nil, Bool.and_self, Bool.and_true, if_true, Bool.false_eq_true, if_false, tMt, tFldN, tSto, HO.ins.injEq, lkh, List.drop_zero, List.drop_succ_cons, List.drop_nil, rListS, wipe, L2.start, List.map_cons, List.map_nil, List.length_cons, List.length_nil, List.replicate, List.cons_append, List.nil_append, List.append_nil, Nat.reduceAdd, Nat.reduceSub, Nat.zero_add, List.replicate_succ, List.replicate_zero, List.getElem?_cons_zero, List.getElem?_cons_succ, List.set_cons_zero, List.set_cons_succ, Option.some.injEq, V.int.injEq, V.bl.injEq, V.ref.injEq, V.str.injEq, V.ty.injEq, List.cons.injEq, HO.tup.injEq, HO.lst.injEq, and_true, true_and, and_assoc, exists_eq_left, exists_eq_left', exists_and_left, exists_eq', atI0, atI1, atI2, atI3, Int.cast_ofNat_Int, Int.reduceToNat, scal_ii, scal_in, scal_ni, scal_nn, scal_bb, scal_ss, scal_sn, scal_ns, scal_bn, scal_nb, ite_iff, decide_eq_true_eq, decide_eq_false_iff_not, Bool.not_eq_true', Classical.not_not, ne_eq, not_false_eq_true, not_true_eq_false, forall_const, true_implies, false_implies, imp_self, sizeLine_eq, Nat.reduceLeDiff, reduceCtorEq, decide_true, decide_false]
  rcases h with ⟨⟨t, ty, kt⟩, hE⟩ | ⟨b, dx2, lo2, hi2, rfl, hs2, k1, k2⟩
  · exact ⟨t, ty, false, kt, fun _ => hE, fun h => absurd rfl h⟩
  · refine ⟨_, T.ci_Stretch.ty hs2, true, kit_self, fun h => (by cases h), fun _ => ⟨b, rfl, dx2, _, hs2, _, lkLow, _, rfl, _, rfl, b, rfl, dx2, _, hs2, _, lkHigh, _, rfl, _, rfl, ?_⟩⟩
    refine ⟨_, _, rfl, wh_ov, wh_ov, _, rfl, fun h => ?_, fun h => ?_⟩
    · refine ⟨_, _, rfl, wh_ov, wh_ov, fun _ => fun p dx' H2 hp s h2 => k1 (okS_ov.mp h) p dx' H2 hp s h2, fun h' => by rw [h] at h'; cases h'⟩
    · exact k2 fun h' => h (okS_ov.mpr h')
/-! ### members -/
def firstO : Option Int → Option Int → Int → Int → Option Int
  | none, _, _, _ => none
  | some l, hi, r, p => if inS (some l) hi (l + (r - l) % p) = true then some (l + (r - l) % p) else none
def countO (lo hi : Option Int) (r p : Int) : Option Int := match lo, hi with
  | some _, some h => (match firstO lo hi r p with
    | none => some 0
    | some m => some ((h - 1 - m) / p + 1))
  | _, _ => none
def negO : Option Int → Option Int
  | none => none
  | some i => some (-i)
/-- what is asked of a remainder's numbers, one behind the other -/
def Rm (K : PySem.W.Frag) (H : Hp) (E : XK) (r p : V) (G : Int → Int → Prop) : Prop := Wh K H r ∧ (isI r = false → Rse K E H "BadNumber" "number" r) ∧ (isI r = true → Wh K H p ∧ (isP p = false → Rse K E H "BadNumber" "number" p)) ∧ ∀ r' p', r = .int r' → p = .int p' → 1 ≤ p' → G r' p'
theorem Rm.imp {K : PySem.W.Frag} {H : Hp} {E : XK} {r p : V} {G G' : Int → Int → Prop} (h : Rm K H E r p G) (k : ∀ r' p', 1 ≤ p' → G r' p' → G' r' p') : Rm K H E r p G' := ⟨h.1, h.2.1, h.2.2.1, fun r' p' e1 e2 h1 => k r' p' h1 (h.2.2.2 r' p' e1 e2 h1)⟩
theorem Rm.imp2 {K : PySem.W.Frag} {H : Hp} {E : XK} {r p : V} {G G' : Int → Int → Prop} (h : Rm K H E r p G) (k : ∀ r' p', r = .int r' → p = .int p' → 1 ≤ p' → G r' p' → G' r' p') : Rm K H E r p G' := ⟨h.1, h.2.1, h.2.2.1, fun r' p' e1 e2 h1 => k r' p' e1 e2 h1 (h.2.2.2 r' p' e1 e2 h1)⟩
theorem Rm.ints {K : PySem.W.Frag} {H : Hp} {E : XK} {r p : Int} {G : Int → Int → Prop} (hp : 1 ≤ p) (g : G r p) : Rm K H E (.int r) (.int p) G := ⟨wh_int, fun h => (by cases h), fun _ => ⟨wh_int, fun h => (by simp [isP] at h; omega)⟩, fun r' p' e1 e2 _ => by cases e1; cases e2; exact g⟩
def spRemR (K : PySem.W.Frag) : Sp := fun vs H Q E => ∃ r p, vs = [r, p] ∧ Rm K H E r p fun _ _ => Q .non H
theorem o__require_remainder (T : Txt K mg) : OkF P w K mg base (L2.CX P w) 4 "_require_remainder" ["r", "p"] (spRemR K) := by
  have o_require_whole := o_require_whole (P := P) (w := w) (base := base) T
  have o_require_from := o_require_from (P := P) (w := w) (base := base) T
  obtain ⟨f, fd, g, F⟩ := T.d__require_remainder
  refine ⟨f, fd, g, F.kp, F.binds (fun _ _ _ _ _ _ us hl => match us, hl with | [_, _], _ => rfl), F.okX sc__require_remainder (fun vs H Q E h => ?_) (fun cdv A outer s H vs Q E hr h => ?_)⟩
  · first | (obtain ⟨_, rfl, _⟩ := h; rfl) | (obtain ⟨_, _, rfl, _⟩ := h; rfl) | (obtain ⟨_, _, _, rfl, _⟩ := h; rfl) | (obtain ⟨_, _, _, _, rfl, _⟩ := h; rfl) | (obtain ⟨_, _, _, _, _, rfl, _⟩ := h; rfl) | (obtain ⟨_, _, _, _, _, _, rfl, _⟩ := h; rfl) | (obtain ⟨_, _, _, _, _, _, _, rfl, _⟩ := h; rfl)
  have hu64 := hr.units
  refine ⟨_, pss_cons (ps_expr (pcl o_require_whole (hr.mono (by decide)) passE (pa_cons (pv 0) pa_nil)))
      (pss_one (ps_expr (pcl o_require_from (hr.mono (by decide)) passE (pa_cons (pv 1) (pa_cons (pe_int) pa_nil))))), ?_⟩
  obtain ⟨r, p, rfl, W1, k1, P2, k3⟩ := h
  simp only [spReqW, exists_and_left, cx_K, Value.ref.injEq, HO.xd.injEq, lk0, tSeq, tPar3, tPar, tCons, tNil, tVar, tC, tAsg, gName, gCons, gNil, gTupN, gSub, tOp, rI, rI0, rU, tTest, rNe, rEq, rIxTN, rIxLN, rLenL, rLenT, rIntI, rIntB, rAbs, rSetLN, tTruL, tRaiseX, rIsTy, rIsOw, ixN0, ixN1, tRet, tIf, tIfS, tNext, tBreak, tCont, tDrop, tTupN, tLstN, tUn, tCB, tCall, tNot, tAnd, tOr, tB, tAndV, tOrV, tNotV, tChain, tApp, LamX.tLam, tRevLN, rCatN, rInTN, rInLN, flatV, inV, List.all_cons, List.all_nil, List.any_cons, List.any_nil, Bool.and_self, Bool.and_true, if_true, Bool.false_eq_true, if_false, tMt, tFldN, tSto, HO.ins.injEq, lkh, List.drop_zero, List.drop_succ_cons, List.drop_nil, rListS, wipe, L2.start, List.map_cons, List.map_nil, List.length_cons, List.length_nil, List.replicate, List.cons_append, List.nil_append, List.append_nil, Nat.reduceAdd, Nat.reduceSub, Nat.zero_add, List.replicate_succ, List.replicate_zero, List.getElem?_cons_zero, List.getElem?_cons_succ, List.set_cons_zero, List.set_cons_succ, Option.some.injEq, V.int.injEq, V.bl.injEq, V.ref.injEq, V.str.injEq, V.ty.injEq, List.cons.injEq, HO.tup.injEq, HO.lst.injEq, and_true, true_and, and_assoc, exists_eq_left, exists_eq_left', exists_and_left, exists_eq', atI0, atI1, atI2, atI3, Int.cast_ofNat_Int, Int.reduceToNat, scal_ii, scal_in, scal_ni, scal_nn, scal_bb, scal_ss, scal_sn, scal_ns, scal_bn, scal_nb, ite_iff, decide_eq_true_eq, decide_eq_false_iff_not, Bool.not_eq_true', Classical.not_not, ne_eq, not_false_eq_true, not_true_eq_false, forall_const, true_implies, false_implies, imp_self, sizeLine_eq, Nat.reduceLeDiff, reduceCtorEq, decide_true, decide_false]
  refine ⟨W1, fun h1 => ?_, k1⟩
  obtain ⟨W2, k2⟩ := P2 h1
  refine from1 W2 (fun h2 => ?_) k2
  obtain ⟨i, rfl⟩ := isI_int h1
  obtain ⟨j, rfl, hj⟩ := isP_int h2
  exact k3 i j rfl rfl hj
def spFirst (K : PySem.W.Frag) : Sp := fun vs H Q E => ∃ a r p, vs = [.ref a, r, p] ∧ ∃ dx lo hi, SAt K H a dx lo hi ∧ Rm K H E r p fun r' p' => Q (ov (firstO lo hi r' p')) H
theorem o_Stretch_first (T : Txt K mg) : OkM P w K mg base (L2.CX P w) 5 "Stretch" "first" ["self", "r", "p"] [.int 0, .int 1] (spFirst K) := by
  have o__require_remainder := o__require_remainder (P := P) (w := w) (base := base) T
  have o_Stretch_holds := o_Stretch_holds (P := P) (w := w) (base := base) T
  obtain ⟨f, fd, M, F⟩ := T.d_Stretch_first
  refine ⟨f, fd, M, b_Stretch_first F, F.ok (CX := (L2.CX P w)) sc_Stretch_first (fun vs H Q E h => ?_) (fun cdv A outer s H vs Q E hr h => ?_)⟩
  · first | (obtain ⟨_, rfl, _⟩ := h; rfl) | (obtain ⟨_, _, rfl, _⟩ := h; rfl) | (obtain ⟨_, _, _, rfl, _⟩ := h; rfl) | (obtain ⟨_, _, _, _, rfl, _⟩ := h; rfl) | (obtain ⟨_, _, _, _, _, rfl, _⟩ := h; rfl) | (obtain ⟨_, _, _, _, _, _, rfl, _⟩ := h; rfl) | (obtain ⟨_, _, _, _, _, _, _, rfl, _⟩ := h; rfl)
  have hu64 := hr.units
  refine ⟨_, (pss_cons (ps_expr (pcl o__require_remainder (hr.mono (by decide)) passE (pa_cons (pv 1) (pa_cons (pv 2) pa_nil))))
      (pss_cons (ps_if (pt_cmpR op_isN (pe_fldN T.c_Stretch T.na_Stretch_low (pv 0)) (pe_non) (nomark _)) (pss_one (ps_ret (pe_non))) (pss_nil))
      (pss_cons (ps_set (i := 3) sc_Stretch_first.nd rfl (Or.inl rfl) (pe_op op_add (pe_fldN T.c_Stretch T.na_Stretch_low (pv 0)) (pe_op op_mod (pe_op op_sub (pv 1) (pe_fldN T.c_Stretch T.na_Stretch_low (pv 0))) (pv 2))))
      (pss_one (ps_ret (pe_ifExp (pt_val (pmt (j := 0) o_Stretch_holds T.c_Stretch (pv 0) (by decide) (hr.mono (by decide)) pass0 (pa_cons (pv 3) pa_nil))) (pv 3) (pe_non))))))), ?_⟩
  obtain ⟨a, r, p, rfl, dx, lo, hi, hs, h⟩ := h
  simp only [spRemR, exists_and_left, cx_K, Value.ref.injEq, HO.xd.injEq, lk0, tSeq, tPar3, tPar, tCons, tNil, tVar, tC, tAsg, gName, gCons, gNil, gTupN, gSub, tOp, rI, rI0, rU, tTest, rNe, rEq, rIxTN, rIxLN, rLenL, rLenT, rIntI, rIntB, rAbs, rSetLN, tTruL, tRaiseX, rIsTy, rIsOw, ixN0, ixN1, tRet, tIf, tIfS, tNext, tBreak, tCont, tDrop, tTupN, tLstN, tUn, tCB, tCall, tNot, tAnd, tOr, tB, tAndV, tOrV, tNotV, tChain, tApp, LamX.tLam, tRevLN, rCatN, rInTN, rInLN, flatV, inV, List.all_cons, List.all_nil, List.any_cons, List.any_nil, Bool.and_self, Bool.and_true, if_true, Bool.false_eq_true, if_false, tMt, tFldN, tSto, HO.ins.injEq, lkh, List.drop_zero, List.drop_succ_cons, List.drop_nil, rListS, wipe, L2.start, List.map_cons, List.map_nil, List.length_cons, List.length_nil, List.replicate, List.cons_append, List.nil_append, List.append_nil, Nat.reduceAdd, Nat.reduceSub, Nat.zero_add, List.replicate_succ, List.replicate_zero, List.getElem?_cons_zero, List.getElem?_cons_succ, List.set_cons_zero, List.set_cons_succ, Option.some.injEq, V.int.injEq, V.bl.injEq, V.ref.injEq, V.str.injEq, V.ty.injEq, List.cons.injEq, HO.tup.injEq, HO.lst.injEq, and_true, true_and, and_assoc, exists_eq_left, exists_eq_left', exists_and_left, exists_eq', atI0, atI1, atI2, atI3, Int.cast_ofNat_Int, Int.reduceToNat, scal_ii, scal_in, scal_ni, scal_nn, scal_bb, scal_ss, scal_sn, scal_ns, scal_bn, scal_nb, ite_iff, decide_eq_true_eq, decide_eq_false_iff_not, Bool.not_eq_true', Classical.not_not, ne_eq, not_false_eq_true, not_true_eq_false, forall_const, true_implies, false_implies, imp_self, sizeLine_eq, Nat.reduceLeDiff, reduceCtorEq, decide_true, decide_false]
  refine ⟨h.1, h.2.1, h.2.2.1, fun r' p' e1 e2 hp => ?_⟩
  have k := h.2.2.2 r' p' e1 e2 hp
  subst e1 e2
  cases lo <;> simp only [spHolds, exists_and_left, hs, lkLow, lkHigh, lkN_holds, lkN_turned, lkN_common, lkN_count, lkN_first, lkN_final, lkN_nth, lkN_below, ov, cx_K, Value.ref.injEq, HO.xd.injEq, lk0, tSeq, tPar3, tPar, tCons, tNil, tVar, tC, tAsg, gName, gCons, gNil, gTupN, gSub, tOp, rI, rI0, rU, tTest, rNe, rEq, rIxTN, rIxLN, rLenL, rLenT, rIntI, rIntB, rAbs, rSetLN, tTruL, tRaiseX, rIsTy, rIsOw, ixN0, ixN1, tRet, tIf, tIfS, tNext, tBreak, tCont, tDrop, tTupN, tLstN, tUn, tCB, tCall, tNot, tAnd, tOr, tB, tAndV, tOrV, tNotV, tChain, tApp, LamX.tLam, tRevLN, rCatN, rInTN, rInLN, flatV, inV, List.all_cons, List.all_nil, List.any_cons, List.any_nil, Bool.and_self, Bool.and_true, if_true, Bool.false_eq_true, if_false, tMt, tFldN, tSto, HO.ins.injEq, lkh, List.drop_zero, List.drop_succ_cons, List.drop_nil, rListS, wipe, L2.start, List.map_cons, List.map_nil, List.length_cons, List.length_nil, List.replicate, List.cons_append, List.nil_append, List.append_nil, Nat.reduceAdd, Nat.reduceSub, Nat.zero_add, List.replicate_succ, List.replicate_zero, List.getElem?_cons_zero, List.getElem?_cons_succ, List.set_cons_zero, List.set_cons_succ, Option.some.injEq, V.int.injEq, V.bl.injEq, V.ref.injEq, V.str.injEq, V.ty.injEq, List.cons.injEq, HO.tup.injEq, HO.lst.injEq, and_true, true_and, and_assoc, exists_eq_left, exists_eq_left', exists_and_left, exists_eq', atI0, atI1, atI2, atI3, Int.cast_ofNat_Int, Int.reduceToNat, scal_ii, scal_in, scal_ni, scal_nn, scal_bb, scal_ss, scal_sn, scal_ns, scal_bn, scal_nb, ite_iff, decide_eq_true_eq, decide_eq_false_iff_not, Bool.not_eq_true', Classical.not_not, ne_eq, not_false_eq_true, not_true_eq_false, forall_const, true_implies, false_implies, imp_self, sizeLine_eq, Nat.reduceLeDiff, reduceCtorEq, decide_true, decide_false]
  · exact k
  · rename_i l
    refine ⟨hp, _, some l, hi, hs, wh_int, fun h1 => ?_, fun h1 => ?_⟩
    · have e : firstO (some l) hi r' p' = some (l + (r' - l) % p') := if_pos h1
      rw [e] at k; exact k
    · have e : firstO (some l) hi r' p' = none := if_neg h1
      rw [e] at k; exact k
def spCount (K : PySem.W.Frag) : Sp := fun vs H Q E => ∃ a r p, vs = [.ref a, r, p] ∧ ∃ dx lo hi, SAt K H a dx lo hi ∧ Rm K H E r p fun r' p' => p'.natAbs < 2 ^ 1000 ∧ Q (ov (countO lo hi r' p')) H
theorem o_Stretch_count (T : Txt K mg) : OkM P w K mg base (L2.CX P w) 6 "Stretch" "count" ["self", "r", "p"] [.int 0, .int 1] (spCount K) := by
  have o__require_remainder := o__require_remainder (P := P) (w := w) (base := base) T
  have o_Stretch_first := o_Stretch_first (P := P) (w := w) (base := base) T
  obtain ⟨f, fd, M, F⟩ := T.d_Stretch_count
  refine ⟨f, fd, M, b_Stretch_count F, F.ok (CX := (L2.CX P w)) sc_Stretch_count (fun vs H Q E h => ?_) (fun cdv A outer s H vs Q E hr h => ?_)⟩
  · first | (obtain ⟨_, rfl, _⟩ := h; rfl) | (obtain ⟨_, _, rfl, _⟩ := h; rfl) | (obtain ⟨_, _, _, rfl, _⟩ := h; rfl) | (obtain ⟨_, _, _, _, rfl, _⟩ := h; rfl) | (obtain ⟨_, _, _, _, _, rfl, _⟩ := h; rfl) | (obtain ⟨_, _, _, _, _, _, rfl, _⟩ := h; rfl) | (obtain ⟨_, _, _, _, _, _, _, rfl, _⟩ := h; rfl)
  have hu64 := hr.units
  refine ⟨_, (pss_cons (ps_expr (pcl o__require_remainder (hr.mono (by decide)) passE (pa_cons (pv 1) (pa_cons (pv 2) pa_nil))))
      (pss_cons (ps_if (PW.pt (pw_or (pt_cmpR op_isN (pe_fldN T.c_Stretch T.na_Stretch_low (pv 0)) (pe_non) (nomark _)) (pw_or1 (pt_cmpR op_isN (pe_fldN T.c_Stretch T.na_Stretch_high (pv 0)) (pe_non) (nomark _))))) (pss_one (ps_ret (pe_non))) (pss_nil))
      (pss_cons (ps_set (i := 3) sc_Stretch_count.nd rfl (Or.inl rfl) (pmt (j := 2) o_Stretch_first T.c_Stretch (pv 0) (by decide) (hr.mono (by decide)) passE (pa_cons (pv 1) (pa_cons (pv 2) pa_nil))))
      (pss_one (ps_ret (pe_ifExp (pt_cmpR op_isN (pv 3) (pe_non) (nomark _)) (pe_int) (pe_op op_add (pe_op op_fdivW (pe_op op_sub (pe_op op_sub (pe_fldN T.c_Stretch T.na_Stretch_high (pv 0)) (pe_int)) (pv 3)) (pv 2)) (pe_int)))))))), ?_⟩
  obtain ⟨a, r, p, rfl, dx, lo, hi, hs, h⟩ := h
  simp only [spRemR, exists_and_left, cx_K, Value.ref.injEq, HO.xd.injEq, lk0, tSeq, tPar3, tPar, tCons, tNil, tVar, tC, tAsg, gName, gCons, gNil, gTupN, gSub, tOp, rI, rI0, rU, tTest, rNe, rEq, rIxTN, rIxLN, rLenL, rLenT, rIntI, rIntB, rAbs, rSetLN, tTruL, tRaiseX, rIsTy, rIsOw, ixN0, ixN1, tRet, tIf, tIfS, tNext, tBreak, tCont, tDrop, tTupN, tLstN, tUn, tCB, tCall, tNot, tAnd, tOr, tB, tAndV, tOrV, tNotV, tChain, tApp, LamX.tLam, tRevLN, rCatN, rInTN, rInLN, flatV, inV, List.all_cons, List.all_nil, List.any_cons, List.any_nil, Bool.and_self, Bool.and_true, if_true, Bool.false_eq_true, if_false, tMt, tFldN, tSto, HO.ins.injEq, lkh, List.drop_zero, List.drop_succ_cons, List.drop_nil, rListS, wipe, L2.start, List.map_cons, List.map_nil, List.length_cons, List.length_nil, List.replicate, List.cons_append, List.nil_append, List.append_nil, Nat.reduceAdd, Nat.reduceSub, Nat.zero_add, List.replicate_succ, List.replicate_zero, List.getElem?_cons_zero, List.getElem?_cons_succ, List.set_cons_zero, List.set_cons_succ, Option.some.injEq, V.int.injEq, V.bl.injEq, V.ref.injEq, V.str.injEq, V.ty.injEq, List.cons.injEq, HO.tup.injEq, HO.lst.injEq, and_true, true_and, and_assoc, exists_eq_left, exists_eq_left', exists_and_left, exists_eq', atI0, atI1, atI2, atI3, Int.cast_ofNat_Int, Int.reduceToNat, scal_ii, scal_in, scal_ni, scal_nn, scal_bb, scal_ss, scal_sn, scal_ns, scal_bn, scal_nb, ite_iff, decide_eq_true_eq, decide_eq_false_iff_not, Bool.not_eq_true', Classical.not_not, ne_eq, not_false_eq_true, not_true_eq_false, forall_const, true_implies, false_implies, imp_self, sizeLine_eq, Nat.reduceLeDiff, reduceCtorEq, decide_true, decide_false]
  refine ⟨h.1, h.2.1, h.2.2.1, fun r' p' e1 e2 hp => ?_⟩
  obtain ⟨bp, k⟩ := h.2.2.2 r' p' e1 e2 hp
  subst e1 e2
  cases lo with
  | none => simp only [exists_and_left, hs, lkLow, lkHigh, lkN_holds, lkN_turned, lkN_common, lkN_count, lkN_first, lkN_final, lkN_nth, lkN_below, ov, cx_K, Value.ref.injEq, HO.xd.injEq, lk0, tSeq, tPar3, tPar, tCons, tNil, tVar, tC, tAsg, gName, gCons, gNil, gTupN, gSub, tOp, rI, rI0, rU, tTest, rNe, rEq, rIxTN, rIxLN, rLenL, rLenT, rIntI, rIntB, rAbs, rSetLN, tTruL, tRaiseX, rIsTy, rIsOw, ixN0, ixN1, tRet, tIf, tIfS, tNext, tBreak, tCont, tDrop, tTupN, tLstN, tUn, tCB, tCall, tNot, tAnd, tOr, tB, tAndV, tOrV, tNotV, tChain, tApp, LamX.tLam, tRevLN, rCatN, rInTN, rInLN, flatV, inV, List.all_cons, List.all_nil, List.any_cons, List.any_nil, Bool.and_self, Bool.and_true, if_true, Bool.false_eq_true, if_false, tMt, tFldN, tSto, HO.ins.injEq, lkh, List.drop_zero, List.drop_succ_cons, List.drop_nil, rListS, wipe, L2.start, List.map_cons, List.map_nil, List.length_cons, List.length_nil, List.replicate, List.cons_append, List.nil_append, List.append_nil, Nat.reduceAdd, Nat.reduceSub, Nat.zero_add, List.replicate_succ, List.replicate_zero, List.getElem?_cons_zero, List.getElem?_cons_succ, List.set_cons_zero, List.set_cons_succ, Option.some.injEq, V.int.injEq, V.bl.injEq, V.ref.injEq, V.str.injEq, V.ty.injEq, List.cons.injEq, HO.tup.injEq, HO.lst.injEq, and_true, true_and, and_assoc, exists_eq_left, exists_eq_left', exists_and_left, exists_eq', atI0, atI1, atI2, atI3, Int.cast_ofNat_Int, Int.reduceToNat, scal_ii, scal_in, scal_ni, scal_nn, scal_bb, scal_ss, scal_sn, scal_ns, scal_bn, scal_nb, ite_iff, decide_eq_true_eq, decide_eq_false_iff_not, Bool.not_eq_true', Classical.not_not, ne_eq, not_false_eq_true, not_true_eq_false, forall_const, true_implies, false_implies, imp_self, sizeLine_eq, Nat.reduceLeDiff, reduceCtorEq, decide_true, decide_false]; exact k
  | some l => cases hi with
    | none => simp only [exists_and_left, hs, lkLow, lkHigh, lkN_holds, lkN_turned, lkN_common, lkN_count, lkN_first, lkN_final, lkN_nth, lkN_below, ov, cx_K, Value.ref.injEq, HO.xd.injEq, lk0, tSeq, tPar3, tPar, tCons, tNil, tVar, tC, tAsg, gName, gCons, gNil, gTupN, gSub, tOp, rI, rI0, rU, tTest, rNe, rEq, rIxTN, rIxLN, rLenL, rLenT, rIntI, rIntB, rAbs, rSetLN, tTruL, tRaiseX, rIsTy, rIsOw, ixN0, ixN1, tRet, tIf, tIfS, tNext, tBreak, tCont, tDrop, tTupN, tLstN, tUn, tCB, tCall, tNot, tAnd, tOr, tB, tAndV, tOrV, tNotV, tChain, tApp, LamX.tLam, tRevLN, rCatN, rInTN, rInLN, flatV, inV, List.all_cons, List.all_nil, List.any_cons, List.any_nil, Bool.and_self, Bool.and_true, if_true, Bool.false_eq_true, if_false, tMt, tFldN, tSto, HO.ins.injEq, lkh, List.drop_zero, List.drop_succ_cons, List.drop_nil, rListS, wipe, L2.start, List.map_cons, List.map_nil, List.length_cons, List.length_nil, List.replicate, List.cons_append, List.nil_append, List.append_nil, Nat.reduceAdd, Nat.reduceSub, Nat.zero_add, List.replicate_succ, List.replicate_zero, List.getElem?_cons_zero, List.getElem?_cons_succ, List.set_cons_zero, List.set_cons_succ, Option.some.injEq, V.int.injEq, V.bl.injEq, V.ref.injEq, V.str.injEq, V.ty.injEq, List.cons.injEq, HO.tup.injEq, HO.lst.injEq, and_true, true_and, and_assoc, exists_eq_left, exists_eq_left', exists_and_left, exists_eq', atI0, atI1, atI2, atI3, Int.cast_ofNat_Int, Int.reduceToNat, scal_ii, scal_in, scal_ni, scal_nn, scal_bb, scal_ss, scal_sn, scal_ns, scal_bn, scal_nb, ite_iff, decide_eq_true_eq, decide_eq_false_iff_not, Bool.not_eq_true', Classical.not_not, ne_eq, not_false_eq_true, not_true_eq_false, forall_const, true_implies, false_implies, imp_self, sizeLine_eq, Nat.reduceLeDiff, reduceCtorEq, decide_true, decide_false]; exact k
    | some hh =>
      simp only [spFirst, exists_and_left, hs, lkLow, lkHigh, lkN_holds, lkN_turned, lkN_common, lkN_count, lkN_first, lkN_final, lkN_nth, lkN_below, ov, cx_K, Value.ref.injEq, HO.xd.injEq, lk0, tSeq, tPar3, tPar, tCons, tNil, tVar, tC, tAsg, gName, gCons, gNil, gTupN, gSub, tOp, rI, rI0, rU, tTest, rNe, rEq, rIxTN, rIxLN, rLenL, rLenT, rIntI, rIntB, rAbs, rSetLN, tTruL, tRaiseX, rIsTy, rIsOw, ixN0, ixN1, tRet, tIf, tIfS, tNext, tBreak, tCont, tDrop, tTupN, tLstN, tUn, tCB, tCall, tNot, tAnd, tOr, tB, tAndV, tOrV, tNotV, tChain, tApp, LamX.tLam, tRevLN, rCatN, rInTN, rInLN, flatV, inV, List.all_cons, List.all_nil, List.any_cons, List.any_nil, Bool.and_self, Bool.and_true, if_true, Bool.false_eq_true, if_false, tMt, tFldN, tSto, HO.ins.injEq, lkh, List.drop_zero, List.drop_succ_cons, List.drop_nil, rListS, wipe, L2.start, List.map_cons, List.map_nil, List.length_cons, List.length_nil, List.replicate, List.cons_append, List.nil_append, List.append_nil, Nat.reduceAdd, Nat.reduceSub, Nat.zero_add, List.replicate_succ, List.replicate_zero, List.getElem?_cons_zero, List.getElem?_cons_succ, List.set_cons_zero, List.set_cons_succ, Option.some.injEq, V.int.injEq, V.bl.injEq, V.ref.injEq, V.str.injEq, V.ty.injEq, List.cons.injEq, HO.tup.injEq, HO.lst.injEq, and_true, true_and, and_assoc, exists_eq_left, exists_eq_left', exists_and_left, exists_eq', atI0, atI1, atI2, atI3, Int.cast_ofNat_Int, Int.reduceToNat, scal_ii, scal_in, scal_ni, scal_nn, scal_bb, scal_ss, scal_sn, scal_ns, scal_bn, scal_nb, ite_iff, decide_eq_true_eq, decide_eq_false_iff_not, Bool.not_eq_true', Classical.not_not, ne_eq, not_false_eq_true, not_true_eq_false, forall_const, true_implies, false_implies, imp_self, sizeLine_eq, Nat.reduceLeDiff, reduceCtorEq, decide_true, decide_false]
      refine ⟨dx, some l, some hh, hs, Rm.ints hp ?_⟩
      cases e : firstO (some l) (some hh) r' p' with
      | none =>
        have e2 : countO (some l) (some hh) r' p' = some 0 := by simp only [countO, e]
        rw [e2] at k
        exact ⟨fun _ => k, fun h => absurd rfl h⟩
      | some m =>
        have e2 : countO (some l) (some hh) r' p' = some ((hh - 1 - m) / p' + 1) := by simp only [countO, e]
        rw [e2] at k
        exact ⟨fun h => (by cases h), fun _ => ⟨m, rfl, ⟨by omega, log_lt bp (by decide) (by decide)⟩, k⟩⟩
def finalO (lo hi : Option Int) (r p : Int) : Option Int := negO (firstO (turnO hi) (turnO lo) (-r) p)
def spFinal (K : PySem.W.Frag) : Sp := fun vs H Q E => ∃ a r p, vs = [.ref a, r, p] ∧ ∃ dx lo hi, SAt K H a dx lo hi ∧ okO lo hi ∧ Rm K H E r p fun r' p' => ∀ H', Same H H' → Q (ov (finalO lo hi r' p')) H'
theorem o_Stretch_final (T : Txt K mg) : OkM P w K mg base (L2.CX P w) 6 "Stretch" "final" ["self", "r", "p"] [.int 0, .int 1] (spFinal K) := by
  have o__require_remainder := o__require_remainder (P := P) (w := w) (base := base) T
  have o_Stretch_turned := o_Stretch_turned (P := P) (w := w) (base := base) T
  have o_Stretch_first := o_Stretch_first (P := P) (w := w) (base := base) T
  obtain ⟨f, fd, M, F⟩ := T.d_Stretch_final
  refine ⟨f, fd, M, b_Stretch_final F, F.ok (CX := (L2.CX P w)) sc_Stretch_final (fun vs H Q E h => ?_) (fun cdv A outer s H vs Q E hr h => ?_)⟩
  · first | (obtain ⟨_, rfl, _⟩ := h; rfl) | (obtain ⟨_, _, rfl, _⟩ := h; rfl) | (obtain ⟨_, _, _, rfl, _⟩ := h; rfl) | (obtain ⟨_, _, _, _, rfl, _⟩ := h; rfl) | (obtain ⟨_, _, _, _, _, rfl, _⟩ := h; rfl) | (obtain ⟨_, _, _, _, _, _, rfl, _⟩ := h; rfl) | (obtain ⟨_, _, _, _, _, _, _, rfl, _⟩ := h; rfl)
  have hu64 := hr.units
  refine ⟨_, (pss_cons (ps_expr (pcl o__require_remainder (hr.mono (by decide)) passE (pa_cons (pv 1) (pa_cons (pv 2) pa_nil))))
      (pss_cons (ps_set (i := 3) sc_Stretch_final.nd rfl (Or.inl rfl) (pmt (j := 2) o_Stretch_first T.c_Stretch (pmt0 (j := 0) o_Stretch_turned T.c_Stretch (pv 0) (by decide) (hr.mono (by decide)) passE) (by decide) (hr.mono (by decide)) passE (pa_cons (pe_un un_neg (pv 1)) (pa_cons (pv 2) pa_nil))))
      (pss_one (ps_ret (pe_ifExp (pt_cmpR op_isN (pv 3) (pe_non) (nomark _)) (pe_non) (pe_un un_neg (pv 3))))))), ?_⟩
  obtain ⟨a, r, p, rfl, dx, lo, hi, hs, ho, h⟩ := h
  simp only [spRemR, exists_and_left, cx_K, Value.ref.injEq, HO.xd.injEq, lk0, tSeq, tPar3, tPar, tCons, tNil, tVar, tC, tAsg, gName, gCons, gNil, gTupN, gSub, tOp, rI, rI0, rU, tTest, rNe, rEq, rIxTN, rIxLN, rLenL, rLenT, rIntI, rIntB, rAbs, rSetLN, tTruL, tRaiseX, rIsTy, rIsOw, ixN0, ixN1, tRet, tIf, tIfS, tNext, tBreak, tCont, tDrop, tTupN, tLstN, tUn, tCB, tCall, tNot, tAnd, tOr, tB, tAndV, tOrV, tNotV, tChain, tApp, LamX.tLam, tRevLN, rCatN, rInTN, rInLN, flatV, inV, List.all_cons, List.all_nil, List.any_cons, List.any_nil, Bool.and_self, Bool.and_true, if_true, Bool.false_eq_true, if_false, tMt, tFldN, tSto, HO.ins.injEq, lkh, List.drop_zero, List.drop_succ_cons, List.drop_nil, rListS, wipe, L2.start, List.map_cons, List.map_nil, List.length_cons, List.length_nil, List.replicate, List.cons_append, List.nil_append, List.append_nil, Nat.reduceAdd, Nat.reduceSub, Nat.zero_add, List.replicate_succ, List.replicate_zero, List.getElem?_cons_zero, List.getElem?_cons_succ, List.set_cons_zero, List.set_cons_succ, Option.some.injEq, V.int.injEq, V.bl.injEq, V.ref.injEq, V.str.injEq, V.ty.injEq, List.cons.injEq, HO.tup.injEq, HO.lst.injEq, and_true, true_and, and_assoc, exists_eq_left, exists_eq_left', exists_and_left, exists_eq', atI0, atI1, atI2, atI3, Int.cast_ofNat_Int, Int.reduceToNat, scal_ii, scal_in, scal_ni, scal_nn, scal_bb, scal_ss, scal_sn, scal_ns, scal_bn, scal_nb, ite_iff, decide_eq_true_eq, decide_eq_false_iff_not, Bool.not_eq_true', Classical.not_not, ne_eq, not_false_eq_true, not_true_eq_false, forall_const, true_implies, false_implies, imp_self, sizeLine_eq, Nat.reduceLeDiff, reduceCtorEq, decide_true, decide_false]
  refine ⟨h.1, h.2.1, h.2.2.1, fun r' p' e1 e2 hp => ?_⟩
  have k := h.2.2.2 r' p' e1 e2 hp
  subst e1 e2
  simp only [spTurned, spFirst, exists_and_left, hs, lkLow, lkHigh, lkN_holds, lkN_turned, lkN_common, lkN_count, lkN_first, lkN_final, lkN_nth, lkN_below, cx_K, Value.ref.injEq, HO.xd.injEq, lk0, tSeq, tPar3, tPar, tCons, tNil, tVar, tC, tAsg, gName, gCons, gNil, gTupN, gSub, tOp, rI, rI0, rU, tTest, rNe, rEq, rIxTN, rIxLN, rLenL, rLenT, rIntI, rIntB, rAbs, rSetLN, tTruL, tRaiseX, rIsTy, rIsOw, ixN0, ixN1, tRet, tIf, tIfS, tNext, tBreak, tCont, tDrop, tTupN, tLstN, tUn, tCB, tCall, tNot, tAnd, tOr, tB, tAndV, tOrV, tNotV, tChain, tApp, LamX.tLam, tRevLN, rCatN, rInTN, rInLN, flatV, inV, List.all_cons, List.all_nil, List.any_cons, List.any_nil, Bool.and_self, Bool.and_true, if_true, Bool.false_eq_true, if_false, tMt, tFldN, tSto, HO.ins.injEq, lkh, List.drop_zero, List.drop_succ_cons, List.drop_nil, rListS, wipe, L2.start, List.map_cons, List.map_nil, List.length_cons, List.length_nil, List.replicate, List.cons_append, List.nil_append, List.append_nil, Nat.reduceAdd, Nat.reduceSub, Nat.zero_add, List.replicate_succ, List.replicate_zero, List.getElem?_cons_zero, List.getElem?_cons_succ, List.set_cons_zero, List.set_cons_succ, Option.some.injEq, V.int.injEq, V.bl.injEq, V.ref.injEq, V.str.injEq, V.ty.injEq, List.cons.injEq, HO.tup.injEq, HO.lst.injEq, and_true, true_and, and_assoc, exists_eq_left, exists_eq_left', exists_and_left, exists_eq', atI0, atI1, atI2, atI3, Int.cast_ofNat_Int, Int.reduceToNat, scal_ii, scal_in, scal_ni, scal_nn, scal_bb, scal_ss, scal_sn, scal_ns, scal_bn, scal_nb, ite_iff, decide_eq_true_eq, decide_eq_false_iff_not, Bool.not_eq_true', Classical.not_not, ne_eq, not_false_eq_true, not_true_eq_false, forall_const, true_implies, false_implies, imp_self, sizeLine_eq, Nat.reduceLeDiff, reduceCtorEq, decide_true, decide_false]
  refine ⟨dx, lo, hi, hs, ho, fun q dx' H2 hq s h2 => ?_⟩
  refine ⟨dx', _, h2, lkN_first, dx', _, _, h2, Rm.ints hp ?_⟩
  have k2 := k H2 s
  unfold finalO at k2
  cases e : firstO (turnO hi) (turnO lo) (-r') p' with
  | none => rw [e] at k2; exact ⟨fun _ => k2, fun h => absurd rfl h⟩
  | some m => rw [e] at k2; exact ⟨fun h => (by cases h), fun _ => ⟨m, rfl, k2⟩⟩

end
end Iz
/-! k02_c -/
set_option Elab.async false
set_option linter.all false
set_option maxRecDepth 100000
set_option maxHeartbeats 4000000
namespace Iz
open PySem PySem.Spec PyProof.Rows L2
open He (ga)
local macro_rules | `(tactic| walk_at "wp") => `(tactic| simp only [cx_K, Value.ref.injEq, HO.xd.injEq, lk0, tSeq, tPar3, tPar, tCons, tNil, tVar, tC, tAsg, gName, gCons, gNil, gTupN, gSub, tOp, rI, rI0, rU, tTest, rNe, rEq, rIxTN, rIxLN, rLenL, rLenT, rIntI, rIntB, rAbs, rSetLN, tTruL, tRaiseX, rIsTy, rIsOw, ixN0, ixN1, tRet, tIf, tIfS, tNext, tBreak, tCont, tDrop, tTupN, tLstN, tUn, tCB, tCall, tNot, tAnd, tOr, tB, tAndV, tOrV, tNotV, tChain, tApp, LamX.tLam, tRevLN, rCatN, rInTN, rInLN, flatV, inV, List.all_cons, List.all_nil, List.any_cons, List.any_nil, Bool.and_self, Bool.and_true, if_true, Bool.false_eq_true, if_false, tMt, tFldN, tSto, HO.ins.injEq, lkh, List.drop_zero, List.drop_succ_cons, List.drop_nil, rListS, wipe, L2.start, List.map_cons, List.map_nil, List.length_cons, List.length_nil, List.replicate, List.cons_append, List.nil_append, List.append_nil, Nat.reduceAdd, Nat.reduceSub, Nat.zero_add, List.replicate_succ, List.replicate_zero, List.getElem?_cons_zero, List.getElem?_cons_succ, List.set_cons_zero, List.set_cons_succ, Option.some.injEq, V.int.injEq, V.bl.injEq, V.ref.injEq, V.str.injEq, V.ty.injEq, List.cons.injEq, HO.tup.injEq, HO.lst.injEq, and_true, true_and, and_assoc, exists_eq_left, exists_eq_left', exists_and_left, exists_eq', atI0, atI1, atI2, atI3, Int.cast_ofNat_Int, Int.reduceToNat, scal_ii, scal_in, scal_ni, scal_nn, scal_bb, scal_ss, scal_sn, scal_ns, scal_bn, scal_nb, ite_iff, decide_eq_true_eq, decide_eq_false_iff_not, Bool.not_eq_true', Classical.not_not, ne_eq, not_false_eq_true, not_true_eq_false, forall_const, true_implies, false_implies, imp_self, sizeLine_eq, Nat.reduceLeDiff, reduceCtorEq, decide_true, decide_false])
section
variable {P : Program} {w : World} {K : PySem.W.Frag} {mg : Str → Option Value} {base : Heap}
def nthO (lo hi : Option Int) (n r p : Int) : Option Int := match firstO lo hi r p with
  | none => none
  | some m => if inS lo hi (m + n * p) = true then some (m + n * p) else none
def spNth (K : PySem.W.Frag) : Sp := fun vs H Q E => ∃ a n r p, vs = [.ref a, n, r, p] ∧ ∃ dx lo hi, SAt K H a dx lo hi ∧ Wh K H n ∧ ((∀ i, n = .int i → i < 0) → Rse K E H "BadNumber" "number" n) ∧
  ∀ n', n = .int n' → 0 ≤ n' → Rm K H E r p fun r' p' => n'.natAbs < 2 ^ 90 ∧ p'.natAbs < 2 ^ 90 ∧ Q (ov (nthO lo hi n' r' p')) H
theorem o_Stretch_nth (T : Txt K mg) : OkM P w K mg base (L2.CX P w) 6 "Stretch" "nth" ["self", "n", "r", "p"] [.int 0, .int 1] (spNth K) := by
  have o_require_from := o_require_from (P := P) (w := w) (base := base) T
  have o_Stretch_first := o_Stretch_first (P := P) (w := w) (base := base) T
  have o_Stretch_holds := o_Stretch_holds (P := P) (w := w) (base := base) T
  obtain ⟨f, fd, M, F⟩ := T.d_Stretch_nth
  refine ⟨f, fd, M, b_Stretch_nth F, F.ok (CX := (L2.CX P w)) sc_Stretch_nth (fun vs H Q E h => ?_) (fun cdv A outer s H vs Q E hr h => ?_)⟩
  · first | (obtain ⟨_, rfl, _⟩ := h; rfl) | (obtain ⟨_, _, rfl, _⟩ := h; rfl) | (obtain ⟨_, _, _, rfl, _⟩ := h; rfl) | (obtain ⟨_, _, _, _, rfl, _⟩ := h; rfl) | (obtain ⟨_, _, _, _, _, rfl, _⟩ := h; rfl) | (obtain ⟨_, _, _, _, _, _, rfl, _⟩ := h; rfl) | (obtain ⟨_, _, _, _, _, _, _, rfl, _⟩ := h; rfl)
  have hu64 := hr.units
  refine ⟨_, (pss_cons (ps_expr (pcl o_require_from (hr.mono (by decide)) passE (pa_cons (pv 1) (pa_cons (pe_int) pa_nil))))
      (pss_cons (ps_set (i := 4) sc_Stretch_nth.nd rfl (Or.inl rfl) (pmt (j := 2) o_Stretch_first T.c_Stretch (pv 0) (by decide) (hr.mono (by decide)) passE (pa_cons (pv 2) (pa_cons (pv 3) pa_nil))))
      (pss_cons (ps_if (PW.pt (pw_or (pt_cmpR op_isN (pv 4) (pe_non) (nomark _)) (pw_or1 (pt_not (pt_val (pmt (j := 0) o_Stretch_holds T.c_Stretch (pv 0) (by decide) (hr.mono (by decide)) pass0 (pa_cons (pe_op op_add (pv 4) (pe_op op_mulW (pv 1) (pv 3))) pa_nil))))))) (pss_one (ps_ret (pe_non))) (pss_nil))
      (pss_one (ps_ret (pe_op op_add (pv 4) (pe_op op_mulW (pv 1) (pv 3)))))))), ?_⟩
  obtain ⟨a, n, r, p, rfl, dx, lo, hi, hs, W, kE, k⟩ := h
  simp only [spReqF, exists_and_left, cx_K, Value.ref.injEq, HO.xd.injEq, lk0, tSeq, tPar3, tPar, tCons, tNil, tVar, tC, tAsg, gName, gCons, gNil, gTupN, gSub, tOp, rI, rI0, rU, tTest, rNe, rEq, rIxTN, rIxLN, rLenL, rLenT, rIntI, rIntB, rAbs, rSetLN, tTruL, tRaiseX, rIsTy, rIsOw, ixN0, ixN1, tRet, tIf, tIfS, tNext, tBreak, tCont, tDrop, tTupN, tLstN, tUn, tCB, tCall, tNot, tAnd, tOr, tB, tAndV, tOrV, tNotV, tChain, tApp, LamX.tLam, tRevLN, rCatN, rInTN, rInLN, flatV, inV, List.all_cons, List.all_nil, List.any_cons, List.any_nil, Bool.and_self, Bool.and_true, if_true, Bool.false_eq_true, if_false, tMt, tFldN, tSto, HO.ins.injEq, lkh, List.drop_zero, List.drop_succ_cons, List.drop_nil, rListS, wipe, L2.start, List.map_cons, List.map_nil, List.length_cons, List.length_nil, List.replicate, List.cons_append, List.nil_append, List.append_nil, Nat.reduceAdd, Nat.reduceSub, Nat.zero_add, List.replicate_succ, List.replicate_zero, List.getElem?_cons_zero, List.getElem?_cons_succ, List.set_cons_zero, List.set_cons_succ, Option.some.injEq, V.int.injEq, V.bl.injEq, V.ref.injEq, V.str.injEq, V.ty.injEq, List.cons.injEq, HO.tup.injEq, HO.lst.injEq, and_true, true_and, and_assoc, exists_eq_left, exists_eq_left', exists_and_left, exists_eq', atI0, atI1, atI2, atI3, Int.cast_ofNat_Int, Int.reduceToNat, scal_ii, scal_in, scal_ni, scal_nn, scal_bb, scal_ss, scal_sn, scal_ns, scal_bn, scal_nb, ite_iff, decide_eq_true_eq, decide_eq_false_iff_not, Bool.not_eq_true', Classical.not_not, ne_eq, not_false_eq_true, not_true_eq_false, forall_const, true_implies, false_implies, imp_self, sizeLine_eq, Nat.reduceLeDiff, reduceCtorEq, decide_true, decide_false]
  refine ⟨W, fun n' en hn => ?_, kE⟩
  subst en
  simp only [spFirst, exists_and_left, hs, lkLow, lkHigh, lkN_holds, lkN_turned, lkN_common, lkN_count, lkN_first, lkN_final, lkN_nth, lkN_below, cx_K, Value.ref.injEq, HO.xd.injEq, lk0, tSeq, tPar3, tPar, tCons, tNil, tVar, tC, tAsg, gName, gCons, gNil, gTupN, gSub, tOp, rI, rI0, rU, tTest, rNe, rEq, rIxTN, rIxLN, rLenL, rLenT, rIntI, rIntB, rAbs, rSetLN, tTruL, tRaiseX, rIsTy, rIsOw, ixN0, ixN1, tRet, tIf, tIfS, tNext, tBreak, tCont, tDrop, tTupN, tLstN, tUn, tCB, tCall, tNot, tAnd, tOr, tB, tAndV, tOrV, tNotV, tChain, tApp, LamX.tLam, tRevLN, rCatN, rInTN, rInLN, flatV, inV, List.all_cons, List.all_nil, List.any_cons, List.any_nil, Bool.and_self, Bool.and_true, if_true, Bool.false_eq_true, if_false, tMt, tFldN, tSto, HO.ins.injEq, lkh, List.drop_zero, List.drop_succ_cons, List.drop_nil, rListS, wipe, L2.start, List.map_cons, List.map_nil, List.length_cons, List.length_nil, List.replicate, List.cons_append, List.nil_append, List.append_nil, Nat.reduceAdd, Nat.reduceSub, Nat.zero_add, List.replicate_succ, List.replicate_zero, List.getElem?_cons_zero, List.getElem?_cons_succ, List.set_cons_zero, List.set_cons_succ, Option.some.injEq, V.int.injEq, V.bl.injEq, V.ref.injEq, V.str.injEq, V.ty.injEq, List.cons.injEq, HO.tup.injEq, HO.lst.injEq, and_true, true_and, and_assoc, exists_eq_left, exists_eq_left', exists_and_left, exists_eq', atI0, atI1, atI2, atI3, Int.cast_ofNat_Int, Int.reduceToNat, scal_ii, scal_in, scal_ni, scal_nn, scal_bb, scal_ss, scal_sn, scal_ns, scal_bn, scal_nb, ite_iff, decide_eq_true_eq, decide_eq_false_iff_not, Bool.not_eq_true', Classical.not_not, ne_eq, not_false_eq_true, not_true_eq_false, forall_const, true_implies, false_implies, imp_self, sizeLine_eq, Nat.reduceLeDiff, reduceCtorEq, decide_true, decide_false]
  refine ⟨dx, lo, hi, hs, (k n' rfl hn).imp2 fun r' p' _ ep hp q => ?_⟩
  subst ep
  obtain ⟨bn, bp, q⟩ := q
  unfold nthO at q
  cases e : firstO lo hi r' p' with
  | none =>
    rw [e] at q
    simp only [ov, cx_K, Value.ref.injEq, HO.xd.injEq, lk0, tSeq, tPar3, tPar, tCons, tNil, tVar, tC, tAsg, gName, gCons, gNil, gTupN, gSub, tOp, rI, rI0, rU, tTest, rNe, rEq, rIxTN, rIxLN, rLenL, rLenT, rIntI, rIntB, rAbs, rSetLN, tTruL, tRaiseX, rIsTy, rIsOw, ixN0, ixN1, tRet, tIf, tIfS, tNext, tBreak, tCont, tDrop, tTupN, tLstN, tUn, tCB, tCall, tNot, tAnd, tOr, tB, tAndV, tOrV, tNotV, tChain, tApp, LamX.tLam, tRevLN, rCatN, rInTN, rInLN, flatV, inV, List.all_cons, List.all_nil, List.any_cons, List.any_nil, Bool.and_self, Bool.and_true, if_true, Bool.false_eq_true, if_false, tMt, tFldN, tSto, HO.ins.injEq, lkh, List.drop_zero, List.drop_succ_cons, List.drop_nil, rListS, wipe, L2.start, List.map_cons, List.map_nil, List.length_cons, List.length_nil, List.replicate, List.cons_append, List.nil_append, List.append_nil, Nat.reduceAdd, Nat.reduceSub, Nat.zero_add, List.replicate_succ, List.replicate_zero, List.getElem?_cons_zero, List.getElem?_cons_succ, List.set_cons_zero, List.set_cons_succ, Option.some.injEq, V.int.injEq, V.bl.injEq, V.ref.injEq, V.str.injEq, V.ty.injEq, List.cons.injEq, HO.tup.injEq, HO.lst.injEq, and_true, true_and, and_assoc, exists_eq_left, exists_eq_left', exists_and_left, exists_eq', atI0, atI1, atI2, atI3, Int.cast_ofNat_Int, Int.reduceToNat, scal_ii, scal_in, scal_ni, scal_nn, scal_bb, scal_ss, scal_sn, scal_ns, scal_bn, scal_nb, ite_iff, decide_eq_true_eq, decide_eq_false_iff_not, Bool.not_eq_true', Classical.not_not, ne_eq, not_false_eq_true, not_true_eq_false, forall_const, true_implies, false_implies, imp_self, sizeLine_eq, Nat.reduceLeDiff, reduceCtorEq, decide_true, decide_false]
    exact q
  | some m =>
    rw [e] at q
    dsimp only at q
    simp only [spHolds, ov, exists_and_left, hs, lkLow, lkHigh, lkN_holds, lkN_turned, lkN_common, lkN_count, lkN_first, lkN_final, lkN_nth, lkN_below, cx_K, Value.ref.injEq, HO.xd.injEq, lk0, tSeq, tPar3, tPar, tCons, tNil, tVar, tC, tAsg, gName, gCons, gNil, gTupN, gSub, tOp, rI, rI0, rU, tTest, rNe, rEq, rIxTN, rIxLN, rLenL, rLenT, rIntI, rIntB, rAbs, rSetLN, tTruL, tRaiseX, rIsTy, rIsOw, ixN0, ixN1, tRet, tIf, tIfS, tNext, tBreak, tCont, tDrop, tTupN, tLstN, tUn, tCB, tCall, tNot, tAnd, tOr, tB, tAndV, tOrV, tNotV, tChain, tApp, LamX.tLam, tRevLN, rCatN, rInTN, rInLN, flatV, inV, List.all_cons, List.all_nil, List.any_cons, List.any_nil, Bool.and_self, Bool.and_true, if_true, Bool.false_eq_true, if_false, tMt, tFldN, tSto, HO.ins.injEq, lkh, List.drop_zero, List.drop_succ_cons, List.drop_nil, rListS, wipe, L2.start, List.map_cons, List.map_nil, List.length_cons, List.length_nil, List.replicate, List.cons_append, List.nil_append, List.append_nil, Nat.reduceAdd, Nat.reduceSub, Nat.zero_add, List.replicate_succ, List.replicate_zero, List.getElem?_cons_zero, List.getElem?_cons_succ, List.set_cons_zero, List.set_cons_succ, Option.some.injEq, V.int.injEq, V.bl.injEq, V.ref.injEq, V.str.injEq, V.ty.injEq, List.cons.injEq, HO.tup.injEq, HO.lst.injEq, and_true, true_and, and_assoc, exists_eq_left, exists_eq_left', exists_and_left, exists_eq', atI0, atI1, atI2, atI3, Int.cast_ofNat_Int, Int.reduceToNat, scal_ii, scal_in, scal_ni, scal_nn, scal_bb, scal_ss, scal_sn, scal_ns, scal_bn, scal_nb, ite_iff, decide_eq_true_eq, decide_eq_false_iff_not, Bool.not_eq_true', Classical.not_not, ne_eq, not_false_eq_true, not_true_eq_false, forall_const, true_implies, false_implies, imp_self, sizeLine_eq, Nat.reduceLeDiff, reduceCtorEq, decide_true, decide_false]
    have mw := wide_mul bn bp (by decide) (by decide) (by decide)
    refine ⟨mw, dx, lo, hi, hs, wh_int, fun h => ?_, fun h => ?_⟩
    · rw [if_neg (by rw [show inS lo hi (m + n' * p') = false from h]; decide)] at q; exact q
    · rw [if_pos (by simpa [hasV] using h)] at q; exact ⟨mw, q⟩
def belowO (lo hi : Option Int) (i r p : Int) : Option Int := if okS (ov lo) (ov (lhigh hi (some i))) = true then countO lo (lhigh hi (some i)) r p else some 0
def spBelow (K : PySem.W.Frag) : Sp := fun vs H Q E => ∃ a x r p, vs = [.ref a, x, r, p] ∧ ∃ dx lo hi, SAt K H a dx lo hi ∧ Wh K H x ∧ (isI x = false → Rse K E H "BadNumber" "number" x) ∧
  ∀ i, x = .int i → Rm K H E r p fun r' p' => p'.natAbs < 2 ^ 1000 ∧ ∀ H', Same H H' → Q (ov (belowO lo hi i r' p')) H'
theorem o_Stretch_below (T : Txt K mg) : OkM P w K mg base (L2.CX P w) 7 "Stretch" "below" ["self", "number", "r", "p"] [.int 0, .int 1] (spBelow K) := by
  have o_require_whole := o_require_whole (P := P) (w := w) (base := base) T
  have o__require_remainder := o__require_remainder (P := P) (w := w) (base := base) T
  have o_Stretch := o_Stretch (P := P) (w := w) (base := base) T
  have o_Stretch_common := o_Stretch_common (P := P) (w := w) (base := base) T
  have o_Stretch_count := o_Stretch_count (P := P) (w := w) (base := base) T
  obtain ⟨f, fd, M, F⟩ := T.d_Stretch_below
  refine ⟨f, fd, M, b_Stretch_below F, F.ok (CX := (L2.CX P w)) sc_Stretch_below (fun vs H Q E h => ?_) (fun cdv A outer s H vs Q E hr h => ?_)⟩
  · first | (obtain ⟨_, rfl, _⟩ := h; rfl) | (obtain ⟨_, _, rfl, _⟩ := h; rfl) | (obtain ⟨_, _, _, rfl, _⟩ := h; rfl) | (obtain ⟨_, _, _, _, rfl, _⟩ := h; rfl) | (obtain ⟨_, _, _, _, _, rfl, _⟩ := h; rfl) | (obtain ⟨_, _, _, _, _, _, rfl, _⟩ := h; rfl) | (obtain ⟨_, _, _, _, _, _, _, rfl, _⟩ := h; rfl)
  have hu64 := hr.units
  refine ⟨_, (pss_cons (ps_expr (pcl o_require_whole (hr.mono (by decide)) passE (pa_cons (pv 1) pa_nil)))
      (pss_cons (ps_expr (pcl o__require_remainder (hr.mono (by decide)) passE (pa_cons (pv 2) (pa_cons (pv 3) pa_nil))))
      (pss_cons (ps_set (i := 4) sc_Stretch_below.nd rfl (Or.inl rfl) (pmt (j := 0) o_Stretch_common T.c_Stretch (pv 0) (by decide) (hr.mono (by decide)) passE (pa_cons (pmk (j := 2) o_Stretch (by decide) (hr.mono (by decide)) passE (pa_cons (pe_non) (pa_cons (pv 1) pa_nil))) pa_nil)))
      (pss_one (ps_ret (pe_ifExp (pt_cmpR op_isN (pv 4) (pe_non) (nomark _)) (pe_int) (pmt (j := 2) o_Stretch_count T.c_Stretch (pv 4) (by decide) (hr.mono (by decide)) passE (pa_cons (pv 2) (pa_cons (pv 3) pa_nil))))))))), ?_⟩
  obtain ⟨a, x, r, p, rfl, dx, lo, hi, hs, W, kE, k⟩ := h
  simp only [spReqW, exists_and_left, cx_K, Value.ref.injEq, HO.xd.injEq, lk0, tSeq, tPar3, tPar, tCons, tNil, tVar, tC, tAsg, gName, gCons, gNil, gTupN, gSub, tOp, rI, rI0, rU, tTest, rNe, rEq, rIxTN, rIxLN, rLenL, rLenT, rIntI, rIntB, rAbs, rSetLN, tTruL, tRaiseX, rIsTy, rIsOw, ixN0, ixN1, tRet, tIf, tIfS, tNext, tBreak, tCont, tDrop, tTupN, tLstN, tUn, tCB, tCall, tNot, tAnd, tOr, tB, tAndV, tOrV, tNotV, tChain, tApp, LamX.tLam, tRevLN, rCatN, rInTN, rInLN, flatV, inV, List.all_cons, List.all_nil, List.any_cons, List.any_nil, Bool.and_self, Bool.and_true, if_true, Bool.false_eq_true, if_false, tMt, tFldN, tSto, HO.ins.injEq, lkh, List.drop_zero, List.drop_succ_cons, List.drop_nil, rListS, wipe, L2.start, List.map_cons, List.map_nil, List.length_cons, List.length_nil, List.replicate, List.cons_append, List.nil_append, List.append_nil, Nat.reduceAdd, Nat.reduceSub, Nat.zero_add, List.replicate_succ, List.replicate_zero, List.getElem?_cons_zero, List.getElem?_cons_succ, List.set_cons_zero, List.set_cons_succ, Option.some.injEq, V.int.injEq, V.bl.injEq, V.ref.injEq, V.str.injEq, V.ty.injEq, List.cons.injEq, HO.tup.injEq, HO.lst.injEq, and_true, true_and, and_assoc, exists_eq_left, exists_eq_left', exists_and_left, exists_eq', atI0, atI1, atI2, atI3, Int.cast_ofNat_Int, Int.reduceToNat, scal_ii, scal_in, scal_ni, scal_nn, scal_bb, scal_ss, scal_sn, scal_ns, scal_bn, scal_nb, ite_iff, decide_eq_true_eq, decide_eq_false_iff_not, Bool.not_eq_true', Classical.not_not, ne_eq, not_false_eq_true, not_true_eq_false, forall_const, true_implies, false_implies, imp_self, sizeLine_eq, Nat.reduceLeDiff, reduceCtorEq, decide_true, decide_false]
  refine ⟨W, fun h1 => ?_, kE⟩
  obtain ⟨i, rfl⟩ := isI_int h1
  simp only [spRemR, exists_and_left, cx_K, Value.ref.injEq, HO.xd.injEq, lk0, tSeq, tPar3, tPar, tCons, tNil, tVar, tC, tAsg, gName, gCons, gNil, gTupN, gSub, tOp, rI, rI0, rU, tTest, rNe, rEq, rIxTN, rIxLN, rLenL, rLenT, rIntI, rIntB, rAbs, rSetLN, tTruL, tRaiseX, rIsTy, rIsOw, ixN0, ixN1, tRet, tIf, tIfS, tNext, tBreak, tCont, tDrop, tTupN, tLstN, tUn, tCB, tCall, tNot, tAnd, tOr, tB, tAndV, tOrV, tNotV, tChain, tApp, LamX.tLam, tRevLN, rCatN, rInTN, rInLN, flatV, inV, List.all_cons, List.all_nil, List.any_cons, List.any_nil, Bool.and_self, Bool.and_true, if_true, Bool.false_eq_true, if_false, tMt, tFldN, tSto, HO.ins.injEq, lkh, List.drop_zero, List.drop_succ_cons, List.drop_nil, rListS, wipe, L2.start, List.map_cons, List.map_nil, List.length_cons, List.length_nil, List.replicate, List.cons_append, List.nil_append, List.append_nil, Nat.reduceAdd, Nat.reduceSub, Nat.zero_add, List.replicate_succ, List.replicate_zero, List.getElem?_cons_zero, List.getElem?_cons_succ, List.set_cons_zero, List.set_cons_succ, Option.some.injEq, V.int.injEq, V.bl.injEq, V.ref.injEq, V.str.injEq, V.ty.injEq, List.cons.injEq, HO.tup.injEq, HO.lst.injEq, and_true, true_and, and_assoc, exists_eq_left, exists_eq_left', exists_and_left, exists_eq', atI0, atI1, atI2, atI3, Int.cast_ofNat_Int, Int.reduceToNat, scal_ii, scal_in, scal_ni, scal_nn, scal_bb, scal_ss, scal_sn, scal_ns, scal_bn, scal_nb, ite_iff, decide_eq_true_eq, decide_eq_false_iff_not, Bool.not_eq_true', Classical.not_not, ne_eq, not_false_eq_true, not_true_eq_false, forall_const, true_implies, false_implies, imp_self, sizeLine_eq, Nat.reduceLeDiff, reduceCtorEq, decide_true, decide_false]
  have k := k i rfl
  refine ⟨k.1, k.2.1, k.2.2.1, fun r' p' e1 e2 hp => ?_⟩
  obtain ⟨bp, kk⟩ := k.2.2.2 r' p' e1 e2 hp
  subst e1 e2
  simp only [spSt, spCommon, exists_and_left, hs, lkLow, lkHigh, lkN_holds, lkN_turned, lkN_common, lkN_count, lkN_first, lkN_final, lkN_nth, lkN_below, wh_non, wh_int, cx_K, Value.ref.injEq, HO.xd.injEq, lk0, tSeq, tPar3, tPar, tCons, tNil, tVar, tC, tAsg, gName, gCons, gNil, gTupN, gSub, tOp, rI, rI0, rU, tTest, rNe, rEq, rIxTN, rIxLN, rLenL, rLenT, rIntI, rIntB, rAbs, rSetLN, tTruL, tRaiseX, rIsTy, rIsOw, ixN0, ixN1, tRet, tIf, tIfS, tNext, tBreak, tCont, tDrop, tTupN, tLstN, tUn, tCB, tCall, tNot, tAnd, tOr, tB, tAndV, tOrV, tNotV, tChain, tApp, LamX.tLam, tRevLN, rCatN, rInTN, rInLN, flatV, inV, List.all_cons, List.all_nil, List.any_cons, List.any_nil, Bool.and_self, Bool.and_true, if_true, Bool.false_eq_true, if_false, tMt, tFldN, tSto, HO.ins.injEq, lkh, List.drop_zero, List.drop_succ_cons, List.drop_nil, rListS, wipe, L2.start, List.map_cons, List.map_nil, List.length_cons, List.length_nil, List.replicate, List.cons_append, List.nil_append, List.append_nil, Nat.reduceAdd, Nat.reduceSub, Nat.zero_add, List.replicate_succ, List.replicate_zero, List.getElem?_cons_zero, List.getElem?_cons_succ, List.set_cons_zero, List.set_cons_succ, Option.some.injEq, V.int.injEq, V.bl.injEq, V.ref.injEq, V.str.injEq, V.ty.injEq, List.cons.injEq, HO.tup.injEq, HO.lst.injEq, and_true, true_and, and_assoc, exists_eq_left, exists_eq_left', exists_and_left, exists_eq', atI0, atI1, atI2, atI3, Int.cast_ofNat_Int, Int.reduceToNat, scal_ii, scal_in, scal_ni, scal_nn, scal_bb, scal_ss, scal_sn, scal_ns, scal_bn, scal_nb, ite_iff, decide_eq_true_eq, decide_eq_false_iff_not, Bool.not_eq_true', Classical.not_not, ne_eq, not_false_eq_true, not_true_eq_false, forall_const, true_implies, false_implies, imp_self, sizeLine_eq, Nat.reduceLeDiff, reduceCtorEq, decide_true, decide_false]
  refine ⟨fun _ => fun q dx2 H2 hq s h2 => ?_, fun h => (by cases h)⟩
  have s2 : Same H H2 := s
  refine ⟨dx, lo, hi, s2 _ _ hs, .inr ⟨q, rfl, dx2, none, some i, h2, fun ho => fun q3 dx3 H3 hq3 s3 h3 => ⟨dx3, _, h3, lkN_count, ?_⟩, fun ho => ?_⟩⟩
  · have e : okS (ov lo) (ov (lhigh hi (some i))) = true := by cases lo <;> exact okS_ov.mpr ho
    have k := kk H3 (s2.trans s3)
    rw [belowO, if_pos e] at k
    refine ⟨_, _, _, rfl, dx3, _, _, h3, Rm.ints hp ⟨bp, ?_⟩⟩
    cases lo <;> exact k
  · have e : ¬ okS (ov lo) (ov (lhigh hi (some i))) = true := fun h => ho (by cases lo <;> exact okS_ov.mp h)
    have k := kk H2 s2
    rw [belowO, if_neg e] at k
    exact k

end
end Iz
/-! k02_d -/
set_option Elab.async false
set_option linter.all false
set_option maxRecDepth 100000
set_option maxHeartbeats 4000000
namespace Iz
open PySem PySem.Spec PyProof.Rows L2
open He (ga)
local macro_rules | `(tactic| walk_at "wp") => `(tactic| simp only [cx_K, Value.ref.injEq, HO.xd.injEq, lk0, tSeq, tPar3, tPar, tCons, tNil, tVar, tC, tAsg, gName, gCons, gNil, gTupN, gSub, tOp, rI, rI0, rU, tTest, rNe, rEq, rIxTN, rIxLN, rLenL, rLenT, rIntI, rIntB, rAbs, rSetLN, tTruL, tRaiseX, rIsTy, rIsOw, ixN0, ixN1, tRet, tIf, tIfS, tNext, tBreak, tCont, tDrop, tTupN, tLstN, tUn, tCB, tCall, tNot, tAnd, tOr, tB, tAndV, tOrV, tNotV, tChain, tApp, LamX.tLam, tRevLN, rCatN, rInTN, rInLN, flatV, inV, List.all_cons, List.all_nil, List.any_cons, List.any_nil, Bool.and_self, Bool.and_true, if_true, Bool.false_eq_true, if_false, tMt, tFldN, tSto, HO.ins.injEq, lkh, List.drop_zero, List.drop_succ_cons, List.drop_nil, rListS, wipe, L2.start, List.map_cons, List.map_nil, List.length_cons, List.length_nil, List.replicate, List.cons_append, List.nil_append, List.append_nil, Nat.reduceAdd, Nat.reduceSub, Nat.zero_add, List.replicate_succ, List.replicate_zero, List.getElem?_cons_zero, List.getElem?_cons_succ, List.set_cons_zero, List.set_cons_succ, Option.some.injEq, V.int.injEq, V.bl.injEq, V.ref.injEq, V.str.injEq, V.ty.injEq, List.cons.injEq, HO.tup.injEq, HO.lst.injEq, and_true, true_and, and_assoc, exists_eq_left, exists_eq_left', exists_and_left, exists_eq', atI0, atI1, atI2, atI3, Int.cast_ofNat_Int, Int.reduceToNat, scal_ii, scal_in, scal_ni, scal_nn, scal_bb, scal_ss, scal_sn, scal_ns, scal_bn, scal_nb, ite_iff, decide_eq_true_eq, decide_eq_false_iff_not, Bool.not_eq_true', Classical.not_not, ne_eq, not_false_eq_true, not_true_eq_false, forall_const, true_implies, false_implies, imp_self, sizeLine_eq, Nat.reduceLeDiff, reduceCtorEq, decide_true, decide_false])
section
variable {P : Program} {w : World} {K : PySem.W.Frag} {mg : Str → Option Value} {base : Heap}
/-! ### the law's draws -/
/-- the draws' state: a list of the cells and a count -/
def StA (H : Hp) (a c : Addr) : Prop := a ≠ c ∧ ∃ (n : Int) (cs : List Int), H a = some (.lst [.ref c, .int n]) ∧ H c = some (.lst (cs.map V.int)) ∧ cs.length ≤ 63
/-- all but the state stays -/
def Stp (a c : Addr) (H H' : Hp) : Prop := ∀ b o, H b = some o → b ≠ a → b ≠ c → H' b = some o
theorem Stp.refl {a c : Addr} {H : Hp} : Stp a c H H := fun _ _ h _ _ => h
theorem Stp.trans {a c : Addr} {H H1 H2 : Hp} (x : Stp a c H H1) (y : Stp a c H1 H2) : Stp a c H H2 := fun b o h h1 h2 => y b o (x b o h h1 h2) h1 h2
theorem Stp.of {a c : Addr} {H H1 : Hp} (x : Same H H1) : Stp a c H H1 := fun b o h _ _ => x b o h
theorem Put.stp {a c p : Addr} {H H1 : Hp} {o : HO} (x : Put H H1 p o) (h : p = a ∨ p = c) : Stp a c H H1 := fun b u e h1 h2 => by
  rw [x.2 b (by rcases h with h | h <;> (subst h; assumption))]; exact e
theorem StA.same {a c : Addr} {H H1 : Hp} (x : StA H a c) (h : Same H H1) : StA H1 a c := let ⟨n, m, cs, h1, h2, h3⟩ := x; ⟨n, m, cs, h _ _ h1, h _ _ h2, h3⟩
def spDraw : Sp := fun vs H Q _ => ∃ a c lim, vs = [.ref a, .int lim] ∧ StA H a c ∧ 1 ≤ lim ∧ lim.natAbs < 2 ^ 250 ∧ ∀ d H', 0 ≤ d → d < lim → StA H' a c → Stp a c H H' → Q (.int d) H'
theorem o__law_draw (T : Txt K mg) : OkF P w K mg base CX0 1 "_law_draw" ["_law_state", "_law_limit"] spDraw := by
  obtain ⟨f, fd, g, F⟩ := T.d__law_draw
  refine ⟨f, fd, g, F.kp, F.binds (fun _ _ _ _ _ _ us hl => match us, hl with | [_, _], _ => rfl), F.ok sc__law_draw (fun vs H Q E h => ?_) (fun cdv A outer s H vs Q E hr h => ?_)⟩
  · first | (obtain ⟨_, rfl, _⟩ := h; rfl) | (obtain ⟨_, _, rfl, _⟩ := h; rfl) | (obtain ⟨_, _, _, rfl, _⟩ := h; rfl) | (obtain ⟨_, _, _, _, rfl, _⟩ := h; rfl) | (obtain ⟨_, _, _, _, _, rfl, _⟩ := h; rfl) | (obtain ⟨_, _, _, _, _, _, rfl, _⟩ := h; rfl) | (obtain ⟨_, _, _, _, _, _, _, rfl, _⟩ := h; rfl)
  have hu64 := hr.units
  refine ⟨_, pss_cons (ps_set (i := 2) sc__law_draw.nd rfl (Or.inl rfl) (pe_ix ix_listN (pv 0) (pe_int) (fun _ _ => rfl)))
      (pss_cons (ps_if (pt_not (pt_truL (pv 2))) (pss_one (ps_ret (pe_int))) (pss_nil))
      (pss_cons (ps_set (i := 3) sc__law_draw.nd rfl (Or.inl rfl) (pe_op op_mod (pe_callTy call_intI (by rfl) T.m_int (by decide +kernel) (pa_cons (pe_ix ix_listN (pv 0) (pe_int) (fun _ _ => rfl)) pa_nil)) (pe_callB call_lenL (by rfl) T.m_len (by decide +kernel) (pa_cons (pv 2) pa_nil))))
      (pss_cons (ps_set (i := 4) sc__law_draw.nd rfl (Or.inl rfl) (pe_ix ix_listN (pv 2) (pv 3) (fun _ _ => rfl)))
      (pss_cons (ps_asg (pe_op op_add (pe_ix ix_listN (pv 0) (pe_int) (fun _ _ => rfl)) (pe_int)) (pg_sub (pv 0) (pe_int) set_listN))
      (pss_cons (ps_if (pt_cmpR op_ge (pv 4) (pe_op op_pow (pe_int) (pe_int)) (nomark _)) (pss_cons (ps_asg (pe_op op_fdivW (pv 4) (pv 1)) (pg_sub (pv 2) (pv 3) set_listN))
      (pss_one (ps_ret (pe_op op_mod (pe_callTy call_intI (by rfl) T.m_int (by decide +kernel) (pa_cons (pv 4) pa_nil)) (pv 1))))) (pss_nil))
      (pss_cons (ps_set (i := 5) sc__law_draw.nd rfl (Or.inl rfl) (pe_op op_mod (pe_callTy call_intI (by rfl) T.m_int (by decide +kernel) (pa_cons (pe_op op_add (pe_op op_add (pe_op op_mul (pv 4) (pe_int)) (pe_op op_mul (pe_ix ix_listN (pv 0) (pe_int) (fun _ _ => rfl)) (pe_int))) (pe_int)) pa_nil)) (pe_int)))
      (pss_one (ps_ret (pe_op op_mod (pe_op op_mod (pe_callTy call_intI (by rfl) T.m_int (by decide +kernel) (pa_cons (pe_op op_add (pe_op op_mul (pv 5) (pe_int)) (pe_op op_mul (pe_ix ix_listN (pv 0) (pe_int) (fun _ _ => rfl)) (pe_int))) pa_nil)) (pe_int)) (pv 1)))))))))), ?_⟩
  obtain ⟨a, c, lim, rfl, ⟨hac, n, cs, ha, hc, hl⟩, h1, hb, k⟩ := h
  simp only [ha, hc, exists_and_left, cx_K, Value.ref.injEq, HO.xd.injEq, lk0, tSeq, tPar3, tPar, tCons, tNil, tVar, tC, tAsg, gName, gCons, gNil, gTupN, gSub, tOp, rI, rI0, rU, tTest, rNe, rEq, rIxTN, rIxLN, rLenL, rLenT, rIntI, rIntB, rAbs, rSetLN, tTruL, tRaiseX, rIsTy, rIsOw, ixN0, ixN1, tRet, tIf, tIfS, tNext, tBreak, tCont, tDrop, tTupN, tLstN, tUn, tCB, tCall, tNot, tAnd, tOr, tB, tAndV, tOrV, tNotV, tChain, tApp, LamX.tLam, tRevLN, rCatN, rInTN, rInLN, flatV, inV, List.all_cons, List.all_nil, List.any_cons, List.any_nil, Bool.and_self, Bool.and_true, if_true, Bool.false_eq_true, if_false, tMt, tFldN, tSto, HO.ins.injEq, lkh, List.drop_zero, List.drop_succ_cons, List.drop_nil, rListS, wipe, L2.start, List.map_cons, List.map_nil, List.length_cons, List.length_nil, List.replicate, List.cons_append, List.nil_append, List.append_nil, Nat.reduceAdd, Nat.reduceSub, Nat.zero_add, List.replicate_succ, List.replicate_zero, List.getElem?_cons_zero, List.getElem?_cons_succ, List.set_cons_zero, List.set_cons_succ, Option.some.injEq, V.int.injEq, V.bl.injEq, V.ref.injEq, V.str.injEq, V.ty.injEq, List.cons.injEq, HO.tup.injEq, HO.lst.injEq, and_true, true_and, and_assoc, exists_eq_left, exists_eq_left', exists_and_left, exists_eq', atI0, atI1, atI2, atI3, Int.cast_ofNat_Int, Int.reduceToNat, scal_ii, scal_in, scal_ni, scal_nn, scal_bb, scal_ss, scal_sn, scal_ns, scal_bn, scal_nb, ite_iff, decide_eq_true_eq, decide_eq_false_iff_not, Bool.not_eq_true', Classical.not_not, ne_eq, not_false_eq_true, not_true_eq_false, forall_const, true_implies, false_implies, imp_self, sizeLine_eq, Nat.reduceLeDiff, reduceCtorEq, decide_true, decide_false]
  cases hcs : cs with
  | nil => 
    subst hcs
    exact ⟨fun _ => k 0 H (by decide) (by omega) ⟨hac, n, [], ha, hc, by decide⟩ Stp.refl, fun h => absurd rfl h⟩
  | cons z zs =>
    refine ⟨fun h => (by cases h), fun _ => ?_⟩
    rw [← hcs]
    rw [List.length_map]
    have hpos : 0 < cs.length := by rw [hcs]; simp
    have m1 := Int.emod_nonneg n (b := (cs.length : Int)) (by omega)
    have m2 := Int.emod_lt_of_pos n (b := (cs.length : Int)) (by omega)
    have hlt : (n % (cs.length : Int)).toNat < cs.length := by omega
    refine ⟨by omega, .int cs[(n % (cs.length : Int)).toNat], atI_ok m1 (by rw [List.getElem?_map, List.getElem?_eq_getElem hlt]; rfl), fun H2 p2 => ?_⟩
    have hc2 : H2 c = some (.lst (cs.map V.int)) := by rw [p2.2 c hac.symm]; exact hc
    have ha2 := p2.1
    simp only [hc2, ha2, exists_and_left, cx_K, Value.ref.injEq, HO.xd.injEq, lk0, tSeq, tPar3, tPar, tCons, tNil, tVar, tC, tAsg, gName, gCons, gNil, gTupN, gSub, tOp, rI, rI0, rU, tTest, rNe, rEq, rIxTN, rIxLN, rLenL, rLenT, rIntI, rIntB, rAbs, rSetLN, tTruL, tRaiseX, rIsTy, rIsOw, ixN0, ixN1, tRet, tIf, tIfS, tNext, tBreak, tCont, tDrop, tTupN, tLstN, tUn, tCB, tCall, tNot, tAnd, tOr, tB, tAndV, tOrV, tNotV, tChain, tApp, LamX.tLam, tRevLN, rCatN, rInTN, rInLN, flatV, inV, List.all_cons, List.all_nil, List.any_cons, List.any_nil, Bool.and_self, Bool.and_true, if_true, Bool.false_eq_true, if_false, tMt, tFldN, tSto, HO.ins.injEq, lkh, List.drop_zero, List.drop_succ_cons, List.drop_nil, rListS, wipe, L2.start, List.map_cons, List.map_nil, List.length_cons, List.length_nil, List.replicate, List.cons_append, List.nil_append, List.append_nil, Nat.reduceAdd, Nat.reduceSub, Nat.zero_add, List.replicate_succ, List.replicate_zero, List.getElem?_cons_zero, List.getElem?_cons_succ, List.set_cons_zero, List.set_cons_succ, Option.some.injEq, V.int.injEq, V.bl.injEq, V.ref.injEq, V.str.injEq, V.ty.injEq, List.cons.injEq, HO.tup.injEq, HO.lst.injEq, and_true, true_and, and_assoc, exists_eq_left, exists_eq_left', exists_and_left, exists_eq', atI0, atI1, atI2, atI3, Int.cast_ofNat_Int, Int.reduceToNat, scal_ii, scal_in, scal_ni, scal_nn, scal_bb, scal_ss, scal_sn, scal_ns, scal_bn, scal_nb, ite_iff, decide_eq_true_eq, decide_eq_false_iff_not, Bool.not_eq_true', Classical.not_not, ne_eq, not_false_eq_true, not_true_eq_false, forall_const, true_implies, false_implies, imp_self, sizeLine_eq, Nat.reduceLeDiff, reduceCtorEq, decide_true, decide_false]
    refine ⟨⟨by decide, by decide, by decide⟩, fun _ => ⟨⟨by omega, log_lt hb (by decide) (by decide)⟩, _, by rw [List.length_map]; exact ixN_ok m1 m2, fun H3 p3 => ?_⟩, fun _ => ?_⟩
    · refine ⟨by omega, k _ H3 (Int.emod_nonneg _ (by omega)) (Int.emod_lt_of_pos _ (by omega)) ⟨hac, n + 1, cs.set (n % (cs.length : Int)).toNat (cs[(n % (cs.length : Int)).toNat] / lim), ?_, ?_, by rw [List.length_set]; exact hl⟩ ((p2.stp (.inl rfl)).trans (p3.stp (.inr rfl)))⟩
      · rw [p3.2 a hac]; exact ha2
      · rw [p3.1, List.map_set]
    · exact ⟨.inr ⟨by decide, by decide⟩, .inr ⟨by decide, by decide⟩, by decide, .inr ⟨by decide, by decide⟩, .inr ⟨by decide, by decide⟩, by decide, by omega,
        k _ H2 (Int.emod_nonneg _ (by omega)) (Int.emod_lt_of_pos _ (by omega)) ⟨hac, n + 1, cs, ha2, hc2, hl⟩ (p2.stp (.inl rfl))⟩
def spNum : Sp := fun vs H Q _ => ∃ a c most, vs = [.ref a, .int most] ∧ StA H a c ∧ 0 ≤ most ∧ most < 2 ^ 20 ∧ ∀ (d : Int) H', d.natAbs < 2 ^ 98 → StA H' a c → Stp a c H H' → Q (.int d) H'
theorem o__law_number (T : Txt K mg) : OkF P w K mg base CX0 2 "_law_number" ["_law_state", "_law_most"] spNum := by
  have o__law_draw := o__law_draw (P := P) (w := w) (base := base) T
  obtain ⟨f, fd, g, F⟩ := T.d__law_number
  refine ⟨f, fd, g, F.kp, F.binds (fun _ _ _ _ _ _ us hl => match us, hl with | [_, _], _ => rfl), F.ok sc__law_number (fun vs H Q E h => ?_) (fun cdv A outer s H vs Q E hr h => ?_)⟩
  · first | (obtain ⟨_, rfl, _⟩ := h; rfl) | (obtain ⟨_, _, rfl, _⟩ := h; rfl) | (obtain ⟨_, _, _, rfl, _⟩ := h; rfl) | (obtain ⟨_, _, _, _, rfl, _⟩ := h; rfl) | (obtain ⟨_, _, _, _, _, rfl, _⟩ := h; rfl) | (obtain ⟨_, _, _, _, _, _, rfl, _⟩ := h; rfl) | (obtain ⟨_, _, _, _, _, _, _, rfl, _⟩ := h; rfl)
  have hu64 := hr.units
  refine ⟨_, pss_cons (ps_if (pt_cmpR op_lt (pcl o__law_draw (hr.mono (by decide)) pass0 (pa_cons (pv 0) (pa_cons (pe_int) pa_nil))) (pe_int) (nomark _)) (pss_one (ps_ret (pe_op op_sub (pcl o__law_draw (hr.mono (by decide)) pass0 (pa_cons (pv 0) (pa_cons (pe_op op_add (pe_op op_mul (pe_int) (pv 1)) (pe_int)) pa_nil))) (pv 1)))) (pss_nil))
      (pss_cons (ps_set (i := 2) sc__law_number.nd rfl (Or.inl rfl) (pe_int))
      (pss_cons (ps_for PassesOwn.never rfl (pi_range1 rfl T.m_range (pa_cons (pe_int) pa_nil)) (pg_name (i := 3) sc__law_number.nd rfl (Or.inl rfl)) (pss_one (ps_set (i := 2) sc__law_number.nd rfl (Or.inl rfl) (pe_op op_add (pe_op op_mulW (pv 2) (pe_op op_pow (pe_int) (pe_int))) (pcl o__law_draw (hr.mono (by decide)) pass0 (pa_cons (pv 0) (pa_cons (pe_op op_pow (pe_int) (pe_int)) pa_nil)))))))
      (pss_one (ps_ret (pe_op op_mulW (pe_op op_add (pv 2) (pe_op op_pow (pe_int) (pe_int))) (pe_op op_sub (pe_int) (pe_op op_mul (pe_int) (pcl o__law_draw (hr.mono (by decide)) pass0 (pa_cons (pv 0) (pa_cons (pe_int) pa_nil)))))))))), ?_⟩
  obtain ⟨a, c, most, rfl, hS, h0, h1, k⟩ := h
  simp only [spDraw, exists_and_left, cx_K, Value.ref.injEq, HO.xd.injEq, lk0, tSeq, tPar3, tPar, tCons, tNil, tVar, tC, tAsg, gName, gCons, gNil, gTupN, gSub, tOp, rI, rI0, rU, tTest, rNe, rEq, rIxTN, rIxLN, rLenL, rLenT, rIntI, rIntB, rAbs, rSetLN, tTruL, tRaiseX, rIsTy, rIsOw, ixN0, ixN1, tRet, tIf, tIfS, tNext, tBreak, tCont, tDrop, tTupN, tLstN, tUn, tCB, tCall, tNot, tAnd, tOr, tB, tAndV, tOrV, tNotV, tChain, tApp, LamX.tLam, tRevLN, rCatN, rInTN, rInLN, flatV, inV, List.all_cons, List.all_nil, List.any_cons, List.any_nil, Bool.and_self, Bool.and_true, if_true, Bool.false_eq_true, if_false, tMt, tFldN, tSto, HO.ins.injEq, lkh, List.drop_zero, List.drop_succ_cons, List.drop_nil, rListS, wipe, L2.start, List.map_cons, List.map_nil, List.length_cons, List.length_nil, List.replicate, List.cons_append, List.nil_append, List.append_nil, Nat.reduceAdd, Nat.reduceSub, Nat.zero_add, List.replicate_succ, List.replicate_zero, List.getElem?_cons_zero, List.getElem?_cons_succ, List.set_cons_zero, List.set_cons_succ, Option.some.injEq, V.int.injEq, V.bl.injEq, V.ref.injEq, V.str.injEq, V.ty.injEq, List.cons.injEq, HO.tup.injEq, HO.lst.injEq, and_true, true_and, and_assoc, exists_eq_left, exists_eq_left', exists_and_left, exists_eq', atI0, atI1, atI2, atI3, Int.cast_ofNat_Int, Int.reduceToNat, scal_ii, scal_in, scal_ni, scal_nn, scal_bb, scal_ss, scal_sn, scal_ns, scal_bn, scal_nb, ite_iff, decide_eq_true_eq, decide_eq_false_iff_not, Bool.not_eq_true', Classical.not_not, ne_eq, not_false_eq_true, not_true_eq_false, forall_const, true_implies, false_implies, imp_self, sizeLine_eq, Nat.reduceLeDiff, reduceCtorEq, decide_true, decide_false]
  refine ⟨c, hS, by decide, by decide, fun d H1 d0 d1 hS1 t1 => ⟨fun _ => ⟨.inl ⟨by decide, by decide⟩, c, hS1, by omega, by omega, fun e H2 e0 e1 hS2 t2 => k _ H2 (by omega) hS2 (t1.trans t2)⟩, fun _ => ?_⟩⟩
  have e24 : (2 : Int) ^ (24 : Int).toNat = 16777216 := rfl
  have e29 : (10 : Int) ^ (29 : Int).toNat = 100000000000000000000000000000 := rfl
  refine st_forR1 4 (by decide) (fun Q q => q) (fun i σ H' => ∃ (x : Int) (t : Option V), σ = [some (.ref a), some (.int most), some (.int x), t] ∧ 0 ≤ x ∧ x.natAbs < 2 ^ (24 * i) ∧ StA H' a c ∧ Stp a c H H') ⟨0, none, rfl, by decide, by decide, hS1, t1⟩ ?_ ?_
  · rintro i _ H2 hi ⟨x, t, rfl, x0, x1, hS2, t2⟩
    simp only [spDraw, exists_and_left, e24, cx_K, Value.ref.injEq, HO.xd.injEq, lk0, tSeq, tPar3, tPar, tCons, tNil, tVar, tC, tAsg, gName, gCons, gNil, gTupN, gSub, tOp, rI, rI0, rU, tTest, rNe, rEq, rIxTN, rIxLN, rLenL, rLenT, rIntI, rIntB, rAbs, rSetLN, tTruL, tRaiseX, rIsTy, rIsOw, ixN0, ixN1, tRet, tIf, tIfS, tNext, tBreak, tCont, tDrop, tTupN, tLstN, tUn, tCB, tCall, tNot, tAnd, tOr, tB, tAndV, tOrV, tNotV, tChain, tApp, LamX.tLam, tRevLN, rCatN, rInTN, rInLN, flatV, inV, List.all_cons, List.all_nil, List.any_cons, List.any_nil, Bool.and_self, Bool.and_true, if_true, Bool.false_eq_true, if_false, tMt, tFldN, tSto, HO.ins.injEq, lkh, List.drop_zero, List.drop_succ_cons, List.drop_nil, rListS, wipe, L2.start, List.map_cons, List.map_nil, List.length_cons, List.length_nil, List.replicate, List.cons_append, List.nil_append, List.append_nil, Nat.reduceAdd, Nat.reduceSub, Nat.zero_add, List.replicate_succ, List.replicate_zero, List.getElem?_cons_zero, List.getElem?_cons_succ, List.set_cons_zero, List.set_cons_succ, Option.some.injEq, V.int.injEq, V.bl.injEq, V.ref.injEq, V.str.injEq, V.ty.injEq, List.cons.injEq, HO.tup.injEq, HO.lst.injEq, and_true, true_and, and_assoc, exists_eq_left, exists_eq_left', exists_and_left, exists_eq', atI0, atI1, atI2, atI3, Int.cast_ofNat_Int, Int.reduceToNat, scal_ii, scal_in, scal_ni, scal_nn, scal_bb, scal_ss, scal_sn, scal_ns, scal_bn, scal_nb, ite_iff, decide_eq_true_eq, decide_eq_false_iff_not, Bool.not_eq_true', Classical.not_not, ne_eq, not_false_eq_true, not_true_eq_false, forall_const, true_implies, false_implies, imp_self, sizeLine_eq, Nat.reduceLeDiff, reduceCtorEq, decide_true, decide_false]
    have hi : i < 4 := hi
    have hx : x.natAbs < 2 ^ 96 := Nat.lt_of_lt_of_le x1 (Nat.pow_le_pow_right (by decide) (by omega))
    refine ⟨⟨by decide, by decide, by decide⟩, wide_mul hx (b := 25) (by decide) (by decide) (by decide) (by decide), ⟨by decide, by decide, by decide⟩, c, hS2, by decide, by decide, fun d H3 d0 d1 hS3 t3 => ⟨?_, ?_, hS3, t2.trans t3⟩⟩
    · omega
    · rw [Nat.mul_succ, Nat.pow_add, show (2 : Nat) ^ 24 = 16777216 from rfl]
      generalize 2 ^ (24 * i) = B at *
      omega
  · rintro _ H2 ⟨x, t, rfl, x0, x1, hS2, t2⟩
    simp only [spDraw, exists_and_left, e29, cx_K, Value.ref.injEq, HO.xd.injEq, lk0, tSeq, tPar3, tPar, tCons, tNil, tVar, tC, tAsg, gName, gCons, gNil, gTupN, gSub, tOp, rI, rI0, rU, tTest, rNe, rEq, rIxTN, rIxLN, rLenL, rLenT, rIntI, rIntB, rAbs, rSetLN, tTruL, tRaiseX, rIsTy, rIsOw, ixN0, ixN1, tRet, tIf, tIfS, tNext, tBreak, tCont, tDrop, tTupN, tLstN, tUn, tCB, tCall, tNot, tAnd, tOr, tB, tAndV, tOrV, tNotV, tChain, tApp, LamX.tLam, tRevLN, rCatN, rInTN, rInLN, flatV, inV, List.all_cons, List.all_nil, List.any_cons, List.any_nil, Bool.and_self, Bool.and_true, if_true, Bool.false_eq_true, if_false, tMt, tFldN, tSto, HO.ins.injEq, lkh, List.drop_zero, List.drop_succ_cons, List.drop_nil, rListS, wipe, L2.start, List.map_cons, List.map_nil, List.length_cons, List.length_nil, List.replicate, List.cons_append, List.nil_append, List.append_nil, Nat.reduceAdd, Nat.reduceSub, Nat.zero_add, List.replicate_succ, List.replicate_zero, List.getElem?_cons_zero, List.getElem?_cons_succ, List.set_cons_zero, List.set_cons_succ, Option.some.injEq, V.int.injEq, V.bl.injEq, V.ref.injEq, V.str.injEq, V.ty.injEq, List.cons.injEq, HO.tup.injEq, HO.lst.injEq, and_true, true_and, and_assoc, exists_eq_left, exists_eq_left', exists_and_left, exists_eq', atI0, atI1, atI2, atI3, Int.cast_ofNat_Int, Int.reduceToNat, scal_ii, scal_in, scal_ni, scal_nn, scal_bb, scal_ss, scal_sn, scal_ns, scal_bn, scal_nb, ite_iff, decide_eq_true_eq, decide_eq_false_iff_not, Bool.not_eq_true', Classical.not_not, ne_eq, not_false_eq_true, not_true_eq_false, forall_const, true_implies, false_implies, imp_self, sizeLine_eq, Nat.reduceLeDiff, reduceCtorEq, decide_true, decide_false]
    have hx : x.natAbs < 2 ^ 96 := x1
    refine ⟨⟨by decide, by decide, by decide⟩, c, hS2, by decide, by decide, fun d H3 d0 d1 hS3 t3 => ⟨.inl ⟨by decide, by decide⟩, wide_mul (a := 98) (b := 3) ?_ (by omega) (by decide) (by decide) (by decide), k _ H3 ?_ hS3 (t2.trans t3)⟩⟩
    · omega
    · have : d = 0 ∨ d = 1 := by omega
      rcases this with rfl | rfl <;> omega

end
end Iz
/-! k02_e -/
set_option Elab.async false
set_option linter.all false
set_option maxRecDepth 100000
set_option maxHeartbeats 4000000
namespace Iz
open PySem PySem.Spec PyProof.Rows L2
open He (ga)
local macro_rules | `(tactic| walk_at "wp") => `(tactic| simp only [cx_K, Value.ref.injEq, HO.xd.injEq, lk0, tSeq, tPar3, tPar, tCons, tNil, tVar, tC, tAsg, gName, gCons, gNil, gTupN, gSub, tOp, rI, rI0, rU, tTest, rNe, rEq, rIxTN, rIxLN, rLenL, rLenT, rIntI, rIntB, rAbs, rSetLN, tTruL, tRaiseX, rIsTy, rIsOw, ixN0, ixN1, tRet, tIf, tIfS, tNext, tBreak, tCont, tDrop, tTupN, tLstN, tUn, tCB, tCall, tNot, tAnd, tOr, tB, tAndV, tOrV, tNotV, tChain, tApp, LamX.tLam, tRevLN, rCatN, rInTN, rInLN, flatV, inV, List.all_cons, List.all_nil, List.any_cons, List.any_nil, Bool.and_self, Bool.and_true, if_true, Bool.false_eq_true, if_false, tMt, tFldN, tSto, HO.ins.injEq, lkh, List.drop_zero, List.drop_succ_cons, List.drop_nil, rListS, wipe, L2.start, List.map_cons, List.map_nil, List.length_cons, List.length_nil, List.replicate, List.cons_append, List.nil_append, List.append_nil, Nat.reduceAdd, Nat.reduceSub, Nat.zero_add, List.replicate_succ, List.replicate_zero, List.getElem?_cons_zero, List.getElem?_cons_succ, List.set_cons_zero, List.set_cons_succ, Option.some.injEq, V.int.injEq, V.bl.injEq, V.ref.injEq, V.str.injEq, V.ty.injEq, List.cons.injEq, HO.tup.injEq, HO.lst.injEq, and_true, true_and, and_assoc, exists_eq_left, exists_eq_left', exists_and_left, exists_eq', atI0, atI1, atI2, atI3, Int.cast_ofNat_Int, Int.reduceToNat, scal_ii, scal_in, scal_ni, scal_nn, scal_bb, scal_ss, scal_sn, scal_ns, scal_bn, scal_nb, ite_iff, decide_eq_true_eq, decide_eq_false_iff_not, Bool.not_eq_true', Classical.not_not, ne_eq, not_false_eq_true, not_true_eq_false, forall_const, true_implies, false_implies, imp_self, sizeLine_eq, Nat.reduceLeDiff, reduceCtorEq, decide_true, decide_false])
section
variable {P : Program} {w : World} {K : PySem.W.Frag} {mg : Str → Option Value} {base : Heap}
/-! ### what the law tells of rows of stretches -/
def bndO (n : Nat) : Option Int → Prop
  | none => True
  | some i => i.natAbs < 2 ^ n
def spEnds : Sp := fun vs H Q _ => ∃ a c, vs = [.ref a] ∧ StA H a c ∧ ∀ p lo hi H', okO lo hi → bndO 102 lo → bndO 102 hi → StA H' a c → Stp a c H H' → H' p = some (.tup [ov lo, ov hi]) → Q (.ref p) H'
theorem o__law_ends (T : Txt K mg) : OkF P w K mg base CX0 3 "_law_ends" ["_law_state"] spEnds := by
  have o__law_draw := o__law_draw (P := P) (w := w) (base := base) T
  have o__law_number := o__law_number (P := P) (w := w) (base := base) T
  obtain ⟨f, fd, g, F⟩ := T.d__law_ends
  refine ⟨f, fd, g, F.kp, F.binds (fun _ _ _ _ _ _ us hl => match us, hl with | [_], _ => rfl), F.ok sc__law_ends (fun vs H Q E h => ?_) (fun cdv A outer s H vs Q E hr h => ?_)⟩
  · first | (obtain ⟨_, rfl, _⟩ := h; rfl) | (obtain ⟨_, _, rfl, _⟩ := h; rfl) | (obtain ⟨_, _, _, rfl, _⟩ := h; rfl) | (obtain ⟨_, _, _, _, rfl, _⟩ := h; rfl) | (obtain ⟨_, _, _, _, _, rfl, _⟩ := h; rfl) | (obtain ⟨_, _, _, _, _, _, rfl, _⟩ := h; rfl) | (obtain ⟨_, _, _, _, _, _, _, rfl, _⟩ := h; rfl)
  have hu64 := hr.units
  refine ⟨_, pss_cons (ps_set (i := 1) sc__law_ends.nd rfl (Or.inl rfl) (pcl o__law_number (hr.mono (by decide)) pass0 (pa_cons (pv 0) (pa_cons (pe_int) pa_nil))))
      (pss_cons (ps_set (i := 2) sc__law_ends.nd rfl (Or.inl rfl) (pe_op op_add (pe_op op_add (pv 1) (pe_int)) (pe_op op_mulW (pcl o__law_draw (hr.mono (by decide)) pass0 (pa_cons (pv 0) (pa_cons (pe_int) pa_nil))) (pe_op op_add (pe_int) (pcl o__law_draw (hr.mono (by decide)) pass0 (pa_cons (pv 0) (pa_cons (pe_int) pa_nil)))))))
      (pss_cons (ps_cut (ps_if (pt_cmpR op_eq (pcl o__law_draw (hr.mono (by decide)) pass0 (pa_cons (pv 0) (pa_cons (pe_int) pa_nil))) (pe_int) (nomark _)) (pss_one (ps_set (i := 2) sc__law_ends.nd rfl (Or.inl rfl) (pe_op op_add (pe_op op_add (pv 2) (pe_op op_pow (pe_int) (pe_int))) (pcl o__law_draw (hr.mono (by decide)) pass0 (pa_cons (pv 0) (pa_cons (pe_int) pa_nil)))))) (pss_nil)))
      (pss_cons (ps_set (i := 3) sc__law_ends.nd rfl (Or.inl rfl) (pcl o__law_draw (hr.mono (by decide)) pass0 (pa_cons (pv 0) (pa_cons (pe_int) pa_nil))))
      (pss_cons (ps_cut (ps_if (pt_cmpR op_eq (pv 3) (pe_int) (nomark _)) (pss_one (ps_set (i := 1) sc__law_ends.nd rfl (Or.inl rfl) (pe_non))) (pss_nil)))
      (pss_cons (ps_cut (ps_if (pt_cmpR op_eq (pv 3) (pe_int) (nomark _)) (pss_one (ps_set (i := 2) sc__law_ends.nd rfl (Or.inl rfl) (pe_non))) (pss_nil)))
      (pss_cons (ps_if (PW.pt (pw_and (pt_cmpR op_eq (pv 3) (pe_int) (nomark _)) (pw_and1 (pt_cmpR op_eq (pcl o__law_draw (hr.mono (by decide)) pass0 (pa_cons (pv 0) (pa_cons (pe_int) pa_nil))) (pe_int) (nomark _))))) (pss_one (ps_ret (pe_tupN (pa_cons (pe_non) (pa_cons (pe_non) pa_nil))))) (pss_nil))
      (pss_one (ps_ret (pe_tupN (pa_cons (pv 1) (pa_cons (pv 2) pa_nil))))))))))), ?_⟩
  obtain ⟨a, c, rfl, hS, k⟩ := h
  have e30 : (10 : Int) ^ (30 : Int).toNat = 1000000000000000000000000000000 := rfl
  simp only [spNum, exists_and_left, cx_K, Value.ref.injEq, HO.xd.injEq, lk0, tSeq, tPar3, tPar, tCons, tNil, tVar, tC, tAsg, gName, gCons, gNil, gTupN, gSub, tOp, rI, rI0, rU, tTest, rNe, rEq, rIxTN, rIxLN, rLenL, rLenT, rIntI, rIntB, rAbs, rSetLN, tTruL, tRaiseX, rIsTy, rIsOw, ixN0, ixN1, tRet, tIf, tIfS, tNext, tBreak, tCont, tDrop, tTupN, tLstN, tUn, tCB, tCall, tNot, tAnd, tOr, tB, tAndV, tOrV, tNotV, tChain, tApp, LamX.tLam, tRevLN, rCatN, rInTN, rInLN, flatV, inV, List.all_cons, List.all_nil, List.any_cons, List.any_nil, Bool.and_self, Bool.and_true, if_true, Bool.false_eq_true, if_false, tMt, tFldN, tSto, HO.ins.injEq, lkh, List.drop_zero, List.drop_succ_cons, List.drop_nil, rListS, wipe, L2.start, List.map_cons, List.map_nil, List.length_cons, List.length_nil, List.replicate, List.cons_append, List.nil_append, List.append_nil, Nat.reduceAdd, Nat.reduceSub, Nat.zero_add, List.replicate_succ, List.replicate_zero, List.getElem?_cons_zero, List.getElem?_cons_succ, List.set_cons_zero, List.set_cons_succ, Option.some.injEq, V.int.injEq, V.bl.injEq, V.ref.injEq, V.str.injEq, V.ty.injEq, List.cons.injEq, HO.tup.injEq, HO.lst.injEq, and_true, true_and, and_assoc, exists_eq_left, exists_eq_left', exists_and_left, exists_eq', atI0, atI1, atI2, atI3, Int.cast_ofNat_Int, Int.reduceToNat, scal_ii, scal_in, scal_ni, scal_nn, scal_bb, scal_ss, scal_sn, scal_ns, scal_bn, scal_nb, ite_iff, decide_eq_true_eq, decide_eq_false_iff_not, Bool.not_eq_true', Classical.not_not, ne_eq, not_false_eq_true, not_true_eq_false, forall_const, true_implies, false_implies, imp_self, sizeLine_eq, Nat.reduceLeDiff, reduceCtorEq, decide_true, decide_false]
  refine ⟨c, hS, by decide, by decide, fun l H1 bl hS1 t1 => ?_⟩
  simp only [spDraw, exists_and_left, cx_K, Value.ref.injEq, HO.xd.injEq, lk0, tSeq, tPar3, tPar, tCons, tNil, tVar, tC, tAsg, gName, gCons, gNil, gTupN, gSub, tOp, rI, rI0, rU, tTest, rNe, rEq, rIxTN, rIxLN, rLenL, rLenT, rIntI, rIntB, rAbs, rSetLN, tTruL, tRaiseX, rIsTy, rIsOw, ixN0, ixN1, tRet, tIf, tIfS, tNext, tBreak, tCont, tDrop, tTupN, tLstN, tUn, tCB, tCall, tNot, tAnd, tOr, tB, tAndV, tOrV, tNotV, tChain, tApp, LamX.tLam, tRevLN, rCatN, rInTN, rInLN, flatV, inV, List.all_cons, List.all_nil, List.any_cons, List.any_nil, Bool.and_self, Bool.and_true, if_true, Bool.false_eq_true, if_false, tMt, tFldN, tSto, HO.ins.injEq, lkh, List.drop_zero, List.drop_succ_cons, List.drop_nil, rListS, wipe, L2.start, List.map_cons, List.map_nil, List.length_cons, List.length_nil, List.replicate, List.cons_append, List.nil_append, List.append_nil, Nat.reduceAdd, Nat.reduceSub, Nat.zero_add, List.replicate_succ, List.replicate_zero, List.getElem?_cons_zero, List.getElem?_cons_succ, List.set_cons_zero, List.set_cons_succ, Option.some.injEq, V.int.injEq, V.bl.injEq, V.ref.injEq, V.str.injEq, V.ty.injEq, List.cons.injEq, HO.tup.injEq, HO.lst.injEq, and_true, true_and, and_assoc, exists_eq_left, exists_eq_left', exists_and_left, exists_eq', atI0, atI1, atI2, atI3, Int.cast_ofNat_Int, Int.reduceToNat, scal_ii, scal_in, scal_ni, scal_nn, scal_bb, scal_ss, scal_sn, scal_ns, scal_bn, scal_nb, ite_iff, decide_eq_true_eq, decide_eq_false_iff_not, Bool.not_eq_true', Classical.not_not, ne_eq, not_false_eq_true, not_true_eq_false, forall_const, true_implies, false_implies, imp_self, sizeLine_eq, Nat.reduceLeDiff, reduceCtorEq, decide_true, decide_false]
  refine ⟨c, hS1, by decide, by decide, fun d1 H2 d10 d11 hS2 t2 => ⟨c, hS2, by decide, by decide, fun d2 H3 d20 d21 hS3 t3 => ?_⟩⟩
  have hm : 0 ≤ d1 * (1 + d2) ∧ d1 * (1 + d2) ≤ 18 := by
    have : d2 = 0 ∨ d2 = 1 := by omega
    rcases this with rfl | rfl <;> omega
  refine ⟨wide_mul (a := 4) (b := 2) (by omega) (by omega) (by decide) (by decide) (by decide), ?_⟩
  generalize d1 * (1 + d2) = m at *
  have u3 := (t1.trans t2).trans t3
  refine ⟨fun σ' H' => ∃ h, σ' = [some (.ref a), some (.int l), some (.int h), none] ∧ l < h ∧ h.natAbs < 2 ^ 102 ∧ StA H' a c ∧ Stp a c H H', ?_, ?_⟩
  · simp only [spDraw, exists_and_left, e30, cx_K, Value.ref.injEq, HO.xd.injEq, lk0, tSeq, tPar3, tPar, tCons, tNil, tVar, tC, tAsg, gName, gCons, gNil, gTupN, gSub, tOp, rI, rI0, rU, tTest, rNe, rEq, rIxTN, rIxLN, rLenL, rLenT, rIntI, rIntB, rAbs, rSetLN, tTruL, tRaiseX, rIsTy, rIsOw, ixN0, ixN1, tRet, tIf, tIfS, tNext, tBreak, tCont, tDrop, tTupN, tLstN, tUn, tCB, tCall, tNot, tAnd, tOr, tB, tAndV, tOrV, tNotV, tChain, tApp, LamX.tLam, tRevLN, rCatN, rInTN, rInLN, flatV, inV, List.all_cons, List.all_nil, List.any_cons, List.any_nil, Bool.and_self, Bool.and_true, if_true, Bool.false_eq_true, if_false, tMt, tFldN, tSto, HO.ins.injEq, lkh, List.drop_zero, List.drop_succ_cons, List.drop_nil, rListS, wipe, L2.start, List.map_cons, List.map_nil, List.length_cons, List.length_nil, List.replicate, List.cons_append, List.nil_append, List.append_nil, Nat.reduceAdd, Nat.reduceSub, Nat.zero_add, List.replicate_succ, List.replicate_zero, List.getElem?_cons_zero, List.getElem?_cons_succ, List.set_cons_zero, List.set_cons_succ, Option.some.injEq, V.int.injEq, V.bl.injEq, V.ref.injEq, V.str.injEq, V.ty.injEq, List.cons.injEq, HO.tup.injEq, HO.lst.injEq, and_true, true_and, and_assoc, exists_eq_left, exists_eq_left', exists_and_left, exists_eq', atI0, atI1, atI2, atI3, Int.cast_ofNat_Int, Int.reduceToNat, scal_ii, scal_in, scal_ni, scal_nn, scal_bb, scal_ss, scal_sn, scal_ns, scal_bn, scal_nb, ite_iff, decide_eq_true_eq, decide_eq_false_iff_not, Bool.not_eq_true', Classical.not_not, ne_eq, not_false_eq_true, not_true_eq_false, forall_const, true_implies, false_implies, imp_self, sizeLine_eq, Nat.reduceLeDiff, reduceCtorEq, decide_true, decide_false]
    refine ⟨c, hS3, by decide, by decide, fun d3 H4 d30 d31 hS4 t4 => ⟨fun _ => ⟨⟨by decide, by decide, by decide⟩, c, hS4, by decide, by decide, fun d4 H5 d40 d41 hS5 t5 => ⟨by omega, by omega, hS5, (u3.trans t4).trans t5⟩⟩, fun _ => ⟨by omega, by omega, hS4, u3.trans t4⟩⟩⟩
  · rintro σ' H4 ⟨h, rfl, hlh, bh, hS4, u4⟩
    simp only [spDraw, exists_and_left, cx_K, Value.ref.injEq, HO.xd.injEq, lk0, tSeq, tPar3, tPar, tCons, tNil, tVar, tC, tAsg, gName, gCons, gNil, gTupN, gSub, tOp, rI, rI0, rU, tTest, rNe, rEq, rIxTN, rIxLN, rLenL, rLenT, rIntI, rIntB, rAbs, rSetLN, tTruL, tRaiseX, rIsTy, rIsOw, ixN0, ixN1, tRet, tIf, tIfS, tNext, tBreak, tCont, tDrop, tTupN, tLstN, tUn, tCB, tCall, tNot, tAnd, tOr, tB, tAndV, tOrV, tNotV, tChain, tApp, LamX.tLam, tRevLN, rCatN, rInTN, rInLN, flatV, inV, List.all_cons, List.all_nil, List.any_cons, List.any_nil, Bool.and_self, Bool.and_true, if_true, Bool.false_eq_true, if_false, tMt, tFldN, tSto, HO.ins.injEq, lkh, List.drop_zero, List.drop_succ_cons, List.drop_nil, rListS, wipe, L2.start, List.map_cons, List.map_nil, List.length_cons, List.length_nil, List.replicate, List.cons_append, List.nil_append, List.append_nil, Nat.reduceAdd, Nat.reduceSub, Nat.zero_add, List.replicate_succ, List.replicate_zero, List.getElem?_cons_zero, List.getElem?_cons_succ, List.set_cons_zero, List.set_cons_succ, Option.some.injEq, V.int.injEq, V.bl.injEq, V.ref.injEq, V.str.injEq, V.ty.injEq, List.cons.injEq, HO.tup.injEq, HO.lst.injEq, and_true, true_and, and_assoc, exists_eq_left, exists_eq_left', exists_and_left, exists_eq', atI0, atI1, atI2, atI3, Int.cast_ofNat_Int, Int.reduceToNat, scal_ii, scal_in, scal_ni, scal_nn, scal_bb, scal_ss, scal_sn, scal_ns, scal_bn, scal_nb, ite_iff, decide_eq_true_eq, decide_eq_false_iff_not, Bool.not_eq_true', Classical.not_not, ne_eq, not_false_eq_true, not_true_eq_false, forall_const, true_implies, false_implies, imp_self, sizeLine_eq, Nat.reduceLeDiff, reduceCtorEq, decide_true, decide_false]
    refine ⟨c, hS4, by decide, by decide, fun d3 H5 d30 d31 hS5 t5 => ?_⟩
    have u5 := u4.trans t5
    refine ⟨fun σ' H' => ∃ lo, σ' = [some (.ref a), some (ov lo), some (.int h), some (.int d3)] ∧ (lo = some l ∨ lo = none ∧ d3 = 7) ∧ H' = H5, ?_, ?_⟩
    · simp only [spDraw, exists_and_left, cx_K, Value.ref.injEq, HO.xd.injEq, lk0, tSeq, tPar3, tPar, tCons, tNil, tVar, tC, tAsg, gName, gCons, gNil, gTupN, gSub, tOp, rI, rI0, rU, tTest, rNe, rEq, rIxTN, rIxLN, rLenL, rLenT, rIntI, rIntB, rAbs, rSetLN, tTruL, tRaiseX, rIsTy, rIsOw, ixN0, ixN1, tRet, tIf, tIfS, tNext, tBreak, tCont, tDrop, tTupN, tLstN, tUn, tCB, tCall, tNot, tAnd, tOr, tB, tAndV, tOrV, tNotV, tChain, tApp, LamX.tLam, tRevLN, rCatN, rInTN, rInLN, flatV, inV, List.all_cons, List.all_nil, List.any_cons, List.any_nil, Bool.and_self, Bool.and_true, if_true, Bool.false_eq_true, if_false, tMt, tFldN, tSto, HO.ins.injEq, lkh, List.drop_zero, List.drop_succ_cons, List.drop_nil, rListS, wipe, L2.start, List.map_cons, List.map_nil, List.length_cons, List.length_nil, List.replicate, List.cons_append, List.nil_append, List.append_nil, Nat.reduceAdd, Nat.reduceSub, Nat.zero_add, List.replicate_succ, List.replicate_zero, List.getElem?_cons_zero, List.getElem?_cons_succ, List.set_cons_zero, List.set_cons_succ, Option.some.injEq, V.int.injEq, V.bl.injEq, V.ref.injEq, V.str.injEq, V.ty.injEq, List.cons.injEq, HO.tup.injEq, HO.lst.injEq, and_true, true_and, and_assoc, exists_eq_left, exists_eq_left', exists_and_left, exists_eq', atI0, atI1, atI2, atI3, Int.cast_ofNat_Int, Int.reduceToNat, scal_ii, scal_in, scal_ni, scal_nn, scal_bb, scal_ss, scal_sn, scal_ns, scal_bn, scal_nb, ite_iff, decide_eq_true_eq, decide_eq_false_iff_not, Bool.not_eq_true', Classical.not_not, ne_eq, not_false_eq_true, not_true_eq_false, forall_const, true_implies, false_implies, imp_self, sizeLine_eq, Nat.reduceLeDiff, reduceCtorEq, decide_true, decide_false]
      exact ⟨fun e => ⟨none, rfl, .inr ⟨rfl, e⟩⟩, fun e => ⟨some l, rfl, .inl rfl⟩⟩
    · rintro σ' H6 ⟨lo, rfl, hlo, rfl⟩
      refine ⟨fun σ' H' => ∃ hi, σ' = [some (.ref a), some (ov lo), some (ov hi), some (.int d3)] ∧ (hi = some h ∨ hi = none) ∧ H' = H6, ?_, ?_⟩
      · simp only [spDraw, exists_and_left, cx_K, Value.ref.injEq, HO.xd.injEq, lk0, tSeq, tPar3, tPar, tCons, tNil, tVar, tC, tAsg, gName, gCons, gNil, gTupN, gSub, tOp, rI, rI0, rU, tTest, rNe, rEq, rIxTN, rIxLN, rLenL, rLenT, rIntI, rIntB, rAbs, rSetLN, tTruL, tRaiseX, rIsTy, rIsOw, ixN0, ixN1, tRet, tIf, tIfS, tNext, tBreak, tCont, tDrop, tTupN, tLstN, tUn, tCB, tCall, tNot, tAnd, tOr, tB, tAndV, tOrV, tNotV, tChain, tApp, LamX.tLam, tRevLN, rCatN, rInTN, rInLN, flatV, inV, List.all_cons, List.all_nil, List.any_cons, List.any_nil, Bool.and_self, Bool.and_true, if_true, Bool.false_eq_true, if_false, tMt, tFldN, tSto, HO.ins.injEq, lkh, List.drop_zero, List.drop_succ_cons, List.drop_nil, rListS, wipe, L2.start, List.map_cons, List.map_nil, List.length_cons, List.length_nil, List.replicate, List.cons_append, List.nil_append, List.append_nil, Nat.reduceAdd, Nat.reduceSub, Nat.zero_add, List.replicate_succ, List.replicate_zero, List.getElem?_cons_zero, List.getElem?_cons_succ, List.set_cons_zero, List.set_cons_succ, Option.some.injEq, V.int.injEq, V.bl.injEq, V.ref.injEq, V.str.injEq, V.ty.injEq, List.cons.injEq, HO.tup.injEq, HO.lst.injEq, and_true, true_and, and_assoc, exists_eq_left, exists_eq_left', exists_and_left, exists_eq', atI0, atI1, atI2, atI3, Int.cast_ofNat_Int, Int.reduceToNat, scal_ii, scal_in, scal_ni, scal_nn, scal_bb, scal_ss, scal_sn, scal_ns, scal_bn, scal_nb, ite_iff, decide_eq_true_eq, decide_eq_false_iff_not, Bool.not_eq_true', Classical.not_not, ne_eq, not_false_eq_true, not_true_eq_false, forall_const, true_implies, false_implies, imp_self, sizeLine_eq, Nat.reduceLeDiff, reduceCtorEq, decide_true, decide_false]
        exact ⟨fun e => ⟨none, rfl, .inr rfl⟩, fun e => ⟨some h, rfl, .inl rfl⟩⟩
      · rintro σ' H7 ⟨hi, rfl, hhi, rfl⟩
        simp only [spDraw, exists_and_left, cx_K, Value.ref.injEq, HO.xd.injEq, lk0, tSeq, tPar3, tPar, tCons, tNil, tVar, tC, tAsg, gName, gCons, gNil, gTupN, gSub, tOp, rI, rI0, rU, tTest, rNe, rEq, rIxTN, rIxLN, rLenL, rLenT, rIntI, rIntB, rAbs, rSetLN, tTruL, tRaiseX, rIsTy, rIsOw, ixN0, ixN1, tRet, tIf, tIfS, tNext, tBreak, tCont, tDrop, tTupN, tLstN, tUn, tCB, tCall, tNot, tAnd, tOr, tB, tAndV, tOrV, tNotV, tChain, tApp, LamX.tLam, tRevLN, rCatN, rInTN, rInLN, flatV, inV, List.all_cons, List.all_nil, List.any_cons, List.any_nil, Bool.and_self, Bool.and_true, if_true, Bool.false_eq_true, if_false, tMt, tFldN, tSto, HO.ins.injEq, lkh, List.drop_zero, List.drop_succ_cons, List.drop_nil, rListS, wipe, L2.start, List.map_cons, List.map_nil, List.length_cons, List.length_nil, List.replicate, List.cons_append, List.nil_append, List.append_nil, Nat.reduceAdd, Nat.reduceSub, Nat.zero_add, List.replicate_succ, List.replicate_zero, List.getElem?_cons_zero, List.getElem?_cons_succ, List.set_cons_zero, List.set_cons_succ, Option.some.injEq, V.int.injEq, V.bl.injEq, V.ref.injEq, V.str.injEq, V.ty.injEq, List.cons.injEq, HO.tup.injEq, HO.lst.injEq, and_true, true_and, and_assoc, exists_eq_left, exists_eq_left', exists_and_left, exists_eq', atI0, atI1, atI2, atI3, Int.cast_ofNat_Int, Int.reduceToNat, scal_ii, scal_in, scal_ni, scal_nn, scal_bb, scal_ss, scal_sn, scal_ns, scal_bn, scal_nb, ite_iff, decide_eq_true_eq, decide_eq_false_iff_not, Bool.not_eq_true', Classical.not_not, ne_eq, not_false_eq_true, not_true_eq_false, forall_const, true_implies, false_implies, imp_self, sizeLine_eq, Nat.reduceLeDiff, reduceCtorEq, decide_true, decide_false]
        have fin : ∀ H', StA H' a c → Stp a c H H' → News H' (.tup [ov lo, ov hi]) Q := fun H' hS' u' p H2 hp s h2 => k p lo hi H2 (by
            rcases hlo with rfl | ⟨rfl, _⟩ <;> rcases hhi with rfl | rfl <;> simp [okO, hlh]) (by
            rcases hlo with rfl | ⟨rfl, _⟩ <;> simp [bndO]; omega) (by
            rcases hhi with rfl | rfl <;> simp [bndO]; omega) (hS'.same s) (u'.trans (Stp.of s)) h2
        have fin2 : ∀ H', StA H' a c → Stp a c H H' → News H' (.tup [.non, .non]) Q := fun H' hS' u' p H2 hp s h2 => k p none none H2 trivial trivial trivial (hS'.same s) (u'.trans (Stp.of s)) h2
        exact ⟨fun _ => ⟨c, hS5, by decide, by decide, fun d H' _ _ hS' t' => ⟨fun _ => fin2 H' hS' (u5.trans t'), fun _ => fin H' hS' (u5.trans t')⟩⟩, fun _ => fin _ hS5 u5⟩
/-- how many of a told row -/
def cntL : List (Option Int × Option Int) → Int → Int → Int → Option Int
  | [], _, _, t => some t
  | (some l, some h) :: ps, r, p, t => cntL ps r p (t + (h - 1 - r) / p - (l - 1 - r) / p)
  | _ :: _, _, _, _ => none
def spCnt : Sp := fun vs H Q _ => ∃ a r p ps, vs = [.ref a, .int r, .int p] ∧ PairsAt H a ps ∧ 1 ≤ p ∧ p.natAbs < 2 ^ 1000 ∧ Q (ov (cntL ps r p 0)) H
theorem o__law_count (T : Txt K mg) : OkF P w K mg base CX0 1 "_law_count" ["_law_pairs", "_law_r", "_law_p"] spCnt := by
  obtain ⟨f, fd, g, F⟩ := T.d__law_count
  refine ⟨f, fd, g, F.kp, F.binds (fun _ _ _ _ _ _ us hl => match us, hl with | [_, _, _], _ => rfl), F.ok sc__law_count (fun vs H Q E h => ?_) (fun cdv A outer s H vs Q E hr h => ?_)⟩
  · first | (obtain ⟨_, rfl, _⟩ := h; rfl) | (obtain ⟨_, _, rfl, _⟩ := h; rfl) | (obtain ⟨_, _, _, rfl, _⟩ := h; rfl) | (obtain ⟨_, _, _, _, rfl, _⟩ := h; rfl) | (obtain ⟨_, _, _, _, _, rfl, _⟩ := h; rfl) | (obtain ⟨_, _, _, _, _, _, rfl, _⟩ := h; rfl) | (obtain ⟨_, _, _, _, _, _, _, rfl, _⟩ := h; rfl)
  have hu64 := hr.units
  refine ⟨_, pss_cons (ps_set (i := 3) sc__law_count.nd rfl (Or.inl rfl) (pe_int))
      (pss_cons (ps_for PassesOwn.never rfl (pi_list (pv 0)) (pg_tupN (n := 2) (by rfl) (pgs_cons (pg_name (i := 4) sc__law_count.nd rfl (Or.inl rfl)) (pgs_cons (pg_name (i := 5) sc__law_count.nd rfl (Or.inl rfl)) pgs_nil))) (pss_cons (ps_if (PW.pt (pw_or (pt_cmpR op_isN (pv 4) (pe_non) (nomark _)) (pw_or1 (pt_cmpR op_isN (pv 5) (pe_non) (nomark _))))) (pss_one (ps_ret (pe_non))) (pss_nil))
      (pss_one (ps_set (i := 3) sc__law_count.nd rfl (Or.inl rfl) (pe_op op_sub (pe_op op_add (pv 3) (pe_op op_fdivW (pe_callTy call_intI (by rfl) T.m_int (by decide +kernel) (pa_cons (pe_op op_sub (pe_op op_sub (pv 5) (pe_int)) (pv 1)) pa_nil)) (pv 2))) (pe_op op_fdivW (pe_callTy call_intI (by rfl) T.m_int (by decide +kernel) (pa_cons (pe_op op_sub (pe_op op_sub (pv 4) (pe_int)) (pv 1)) pa_nil)) (pv 2)))))))
      (pss_one (ps_ret (pv 3)))), ?_⟩
  obtain ⟨a, r, p, ps, rfl, ⟨xs, hx, hp⟩, p1, bp, k⟩ := h
  simp only [exists_and_left, cx_K, Value.ref.injEq, HO.xd.injEq, lk0, tSeq, tPar3, tPar, tCons, tNil, tVar, tC, tAsg, gName, gCons, gNil, gTupN, gSub, tOp, rI, rI0, rU, tTest, rNe, rEq, rIxTN, rIxLN, rLenL, rLenT, rIntI, rIntB, rAbs, rSetLN, tTruL, tRaiseX, rIsTy, rIsOw, ixN0, ixN1, tRet, tIf, tIfS, tNext, tBreak, tCont, tDrop, tTupN, tLstN, tUn, tCB, tCall, tNot, tAnd, tOr, tB, tAndV, tOrV, tNotV, tChain, tApp, LamX.tLam, tRevLN, rCatN, rInTN, rInLN, flatV, inV, List.all_cons, List.all_nil, List.any_cons, List.any_nil, Bool.and_self, Bool.and_true, if_true, Bool.false_eq_true, if_false, tMt, tFldN, tSto, HO.ins.injEq, lkh, List.drop_zero, List.drop_succ_cons, List.drop_nil, rListS, wipe, L2.start, List.map_cons, List.map_nil, List.length_cons, List.length_nil, List.replicate, List.cons_append, List.nil_append, List.append_nil, Nat.reduceAdd, Nat.reduceSub, Nat.zero_add, List.replicate_succ, List.replicate_zero, List.getElem?_cons_zero, List.getElem?_cons_succ, List.set_cons_zero, List.set_cons_succ, Option.some.injEq, V.int.injEq, V.bl.injEq, V.ref.injEq, V.str.injEq, V.ty.injEq, List.cons.injEq, HO.tup.injEq, HO.lst.injEq, and_true, true_and, and_assoc, exists_eq_left, exists_eq_left', exists_and_left, exists_eq', atI0, atI1, atI2, atI3, Int.cast_ofNat_Int, Int.reduceToNat, scal_ii, scal_in, scal_ni, scal_nn, scal_bb, scal_ss, scal_sn, scal_ns, scal_bn, scal_nb, ite_iff, decide_eq_true_eq, decide_eq_false_iff_not, Bool.not_eq_true', Classical.not_not, ne_eq, not_false_eq_true, not_true_eq_false, forall_const, true_implies, false_implies, imp_self, sizeLine_eq, Nat.reduceLeDiff, reduceCtorEq, decide_true, decide_false]
  refine st_forL (a := a) (fun R r' => ⟨_, rfl, r'⟩) hx (fun i σ' H' => H' = H ∧ ∃ t u v, σ' = [some (.ref a), some (.int r), some (.int p), some (.int t), u, v] ∧ cntL (ps.drop i) r p t = cntL ps r p 0) ⟨rfl, 0, none, none, rfl, rfl⟩ (fun i σ' H' q => q.1 ▸ hx) ?_ ?_
  · rintro i x _ H' hi ⟨rfl, t, u, v, rfl, e⟩
    obtain ⟨b, q, rfl, hq, hb⟩ := hp.get hi
    rw [drop_of hq] at e
    obtain ⟨lo, hi'⟩ := q
    simp only [hb, exists_and_left, cx_K, Value.ref.injEq, HO.xd.injEq, lk0, tSeq, tPar3, tPar, tCons, tNil, tVar, tC, tAsg, gName, gCons, gNil, gTupN, gSub, tOp, rI, rI0, rU, tTest, rNe, rEq, rIxTN, rIxLN, rLenL, rLenT, rIntI, rIntB, rAbs, rSetLN, tTruL, tRaiseX, rIsTy, rIsOw, ixN0, ixN1, tRet, tIf, tIfS, tNext, tBreak, tCont, tDrop, tTupN, tLstN, tUn, tCB, tCall, tNot, tAnd, tOr, tB, tAndV, tOrV, tNotV, tChain, tApp, LamX.tLam, tRevLN, rCatN, rInTN, rInLN, flatV, inV, List.all_cons, List.all_nil, List.any_cons, List.any_nil, Bool.and_self, Bool.and_true, if_true, Bool.false_eq_true, if_false, tMt, tFldN, tSto, HO.ins.injEq, lkh, List.drop_zero, List.drop_succ_cons, List.drop_nil, rListS, wipe, L2.start, List.map_cons, List.map_nil, List.length_cons, List.length_nil, List.replicate, List.cons_append, List.nil_append, List.append_nil, Nat.reduceAdd, Nat.reduceSub, Nat.zero_add, List.replicate_succ, List.replicate_zero, List.getElem?_cons_zero, List.getElem?_cons_succ, List.set_cons_zero, List.set_cons_succ, Option.some.injEq, V.int.injEq, V.bl.injEq, V.ref.injEq, V.str.injEq, V.ty.injEq, List.cons.injEq, HO.tup.injEq, HO.lst.injEq, and_true, true_and, and_assoc, exists_eq_left, exists_eq_left', exists_and_left, exists_eq', atI0, atI1, atI2, atI3, Int.cast_ofNat_Int, Int.reduceToNat, scal_ii, scal_in, scal_ni, scal_nn, scal_bb, scal_ss, scal_sn, scal_ns, scal_bn, scal_nb, ite_iff, decide_eq_true_eq, decide_eq_false_iff_not, Bool.not_eq_true', Classical.not_not, ne_eq, not_false_eq_true, not_true_eq_false, forall_const, true_implies, false_implies, imp_self, sizeLine_eq, Nat.reduceLeDiff, reduceCtorEq, decide_true, decide_false]
    have dv : CDivW 0 p := ⟨by omega, log_lt bp (by decide) (by decide)⟩
    cases lo <;> cases hi' <;> simp only [ov, exists_and_left, cx_K, Value.ref.injEq, HO.xd.injEq, lk0, tSeq, tPar3, tPar, tCons, tNil, tVar, tC, tAsg, gName, gCons, gNil, gTupN, gSub, tOp, rI, rI0, rU, tTest, rNe, rEq, rIxTN, rIxLN, rLenL, rLenT, rIntI, rIntB, rAbs, rSetLN, tTruL, tRaiseX, rIsTy, rIsOw, ixN0, ixN1, tRet, tIf, tIfS, tNext, tBreak, tCont, tDrop, tTupN, tLstN, tUn, tCB, tCall, tNot, tAnd, tOr, tB, tAndV, tOrV, tNotV, tChain, tApp, LamX.tLam, tRevLN, rCatN, rInTN, rInLN, flatV, inV, List.all_cons, List.all_nil, List.any_cons, List.any_nil, Bool.and_self, Bool.and_true, if_true, Bool.false_eq_true, if_false, tMt, tFldN, tSto, HO.ins.injEq, lkh, List.drop_zero, List.drop_succ_cons, List.drop_nil, rListS, wipe, L2.start, List.map_cons, List.map_nil, List.length_cons, List.length_nil, List.replicate, List.cons_append, List.nil_append, List.append_nil, Nat.reduceAdd, Nat.reduceSub, Nat.zero_add, List.replicate_succ, List.replicate_zero, List.getElem?_cons_zero, List.getElem?_cons_succ, List.set_cons_zero, List.set_cons_succ, Option.some.injEq, V.int.injEq, V.bl.injEq, V.ref.injEq, V.str.injEq, V.ty.injEq, List.cons.injEq, HO.tup.injEq, HO.lst.injEq, and_true, true_and, and_assoc, exists_eq_left, exists_eq_left', exists_and_left, exists_eq', atI0, atI1, atI2, atI3, Int.cast_ofNat_Int, Int.reduceToNat, scal_ii, scal_in, scal_ni, scal_nn, scal_bb, scal_ss, scal_sn, scal_ns, scal_bn, scal_nb, ite_iff, decide_eq_true_eq, decide_eq_false_iff_not, Bool.not_eq_true', Classical.not_not, ne_eq, not_false_eq_true, not_true_eq_false, forall_const, true_implies, false_implies, imp_self, sizeLine_eq, Nat.reduceLeDiff, reduceCtorEq, decide_true, decide_false]
    · rw [← e] at k; exact k
    · rw [← e] at k; exact k
    · rw [← e] at k; exact k
    · exact ⟨dv, dv, e⟩
  · rintro _ H' ⟨rfl, t, u, v, rfl, e⟩
    rw [hp.length, List.drop_length] at e
    simp only [exists_and_left, cx_K, Value.ref.injEq, HO.xd.injEq, lk0, tSeq, tPar3, tPar, tCons, tNil, tVar, tC, tAsg, gName, gCons, gNil, gTupN, gSub, tOp, rI, rI0, rU, tTest, rNe, rEq, rIxTN, rIxLN, rLenL, rLenT, rIntI, rIntB, rAbs, rSetLN, tTruL, tRaiseX, rIsTy, rIsOw, ixN0, ixN1, tRet, tIf, tIfS, tNext, tBreak, tCont, tDrop, tTupN, tLstN, tUn, tCB, tCall, tNot, tAnd, tOr, tB, tAndV, tOrV, tNotV, tChain, tApp, LamX.tLam, tRevLN, rCatN, rInTN, rInLN, flatV, inV, List.all_cons, List.all_nil, List.any_cons, List.any_nil, Bool.and_self, Bool.and_true, if_true, Bool.false_eq_true, if_false, tMt, tFldN, tSto, HO.ins.injEq, lkh, List.drop_zero, List.drop_succ_cons, List.drop_nil, rListS, wipe, L2.start, List.map_cons, List.map_nil, List.length_cons, List.length_nil, List.replicate, List.cons_append, List.nil_append, List.append_nil, Nat.reduceAdd, Nat.reduceSub, Nat.zero_add, List.replicate_succ, List.replicate_zero, List.getElem?_cons_zero, List.getElem?_cons_succ, List.set_cons_zero, List.set_cons_succ, Option.some.injEq, V.int.injEq, V.bl.injEq, V.ref.injEq, V.str.injEq, V.ty.injEq, List.cons.injEq, HO.tup.injEq, HO.lst.injEq, and_true, true_and, and_assoc, exists_eq_left, exists_eq_left', exists_and_left, exists_eq', atI0, atI1, atI2, atI3, Int.cast_ofNat_Int, Int.reduceToNat, scal_ii, scal_in, scal_ni, scal_nn, scal_bb, scal_ss, scal_sn, scal_ns, scal_bn, scal_nb, ite_iff, decide_eq_true_eq, decide_eq_false_iff_not, Bool.not_eq_true', Classical.not_not, ne_eq, not_false_eq_true, not_true_eq_false, forall_const, true_implies, false_implies, imp_self, sizeLine_eq, Nat.reduceLeDiff, reduceCtorEq, decide_true, decide_false]
    rw [← e] at k
    exact k
theorem atI_nil {α : Type} {i : Int} : atI ([] : List α) i = none := by unfold atI; cases ixN ([] : List α).length i <;> simp
theorem ixN_last {n : Nat} (h : 0 < n) : ixN n (-1) = some (n - 1) := by
  unfold ixN
  rw [if_neg (by decide), if_pos (by omega)]
  congr 1; omega
theorem atI_last {α : Type} {xs : List α} {x : α} : atI (xs ++ [x]) (-1) = some x := by
  unfold atI
  rw [ixN_last (by simp)]
  simp
/-- the least of a told row that has one -/
def frsL : List (Option Int × Option Int) → Int → Int → Option Int
  | [], _, _ => none
  | (lo, hi) :: ps, r, p => if inS none hi (lo.getD 0 + (r - lo.getD 0) % p) = true then some (lo.getD 0 + (r - lo.getD 0) % p) else frsL ps r p
def frsO : List (Option Int × Option Int) → Int → Int → Option Int
  | (none, _) :: _, _, _ => none
  | ps, r, p => frsL ps r p
def spFrs : Sp := fun vs H Q _ => ∃ a r p ps, vs = [.ref a, .int r, .int p] ∧ PairsAt H a ps ∧ (∀ q ∈ ps.tail, q.1.isSome = true) ∧ 1 ≤ p ∧ ∀ H', Same H H' → Q (ov (frsO ps r p)) H'
theorem o__law_first (T : Txt K mg) : OkF P w K mg base CX0 1 "_law_first" ["_law_pairs", "_law_r", "_law_p"] spFrs := by
  obtain ⟨f, fd, g, F⟩ := T.d__law_first
  refine ⟨f, fd, g, F.kp, F.binds (fun _ _ _ _ _ _ us hl => match us, hl with | [_, _, _], _ => rfl), F.ok sc__law_first (fun vs H Q E h => ?_) (fun cdv A outer s H vs Q E hr h => ?_)⟩
  · first | (obtain ⟨_, rfl, _⟩ := h; rfl) | (obtain ⟨_, _, rfl, _⟩ := h; rfl) | (obtain ⟨_, _, _, rfl, _⟩ := h; rfl) | (obtain ⟨_, _, _, _, rfl, _⟩ := h; rfl) | (obtain ⟨_, _, _, _, _, rfl, _⟩ := h; rfl) | (obtain ⟨_, _, _, _, _, _, rfl, _⟩ := h; rfl) | (obtain ⟨_, _, _, _, _, _, _, rfl, _⟩ := h; rfl)
  have hu64 := hr.units
  refine ⟨_, pss_cons (ps_if (PW.pt (pw_or (pt_cmpR (op_eqDk (K := K) rfl hu64) (pv 0) (pe_lstN (pa_nil)) (nomark _)) (pw_or1 (pt_cmpR op_isN (pe_ix ix_tupN (pe_ix ix_listN (pv 0) (pe_int) (fun _ _ => rfl)) (pe_int) (fun _ _ => rfl)) (pe_non) (nomark _))))) (pss_one (ps_ret (pe_non))) (pss_nil))
      (pss_cons (ps_for PassesOwn.never rfl (pi_list (pv 0)) (pg_tupN (n := 2) (by rfl) (pgs_cons (pg_name (i := 3) sc__law_first.nd rfl (Or.inl rfl)) (pgs_cons (pg_name (i := 4) sc__law_first.nd rfl (Or.inl rfl)) pgs_nil))) (pss_cons (ps_set (i := 5) sc__law_first.nd rfl (Or.inl rfl) (pe_op op_add (pv 3) (pe_op op_mod (pe_callTy call_intI (by rfl) T.m_int (by decide +kernel) (pa_cons (pe_op op_sub (pv 1) (pv 3)) pa_nil)) (pv 2))))
      (pss_one (ps_if (PW.pt (pw_or (pt_cmpR op_isN (pv 4) (pe_non) (nomark _)) (pw_or1 (pt_cmpR op_lt (pv 5) (pv 4) (nomark _))))) (pss_one (ps_ret (pv 5))) (pss_nil)))))
      (pss_one (ps_ret (pe_non)))), ?_⟩
  obtain ⟨a, r, p, ps, rfl, hps, hT, p1, k⟩ := h
  simp only [exists_and_left, cx_K, Value.ref.injEq, HO.xd.injEq, lk0, tSeq, tPar3, tPar, tCons, tNil, tVar, tC, tAsg, gName, gCons, gNil, gTupN, gSub, tOp, rI, rI0, rU, tTest, rNe, rEq, rIxTN, rIxLN, rLenL, rLenT, rIntI, rIntB, rAbs, rSetLN, tTruL, tRaiseX, rIsTy, rIsOw, ixN0, ixN1, tRet, tIf, tIfS, tNext, tBreak, tCont, tDrop, tTupN, tLstN, tUn, tCB, tCall, tNot, tAnd, tOr, tB, tAndV, tOrV, tNotV, tChain, tApp, LamX.tLam, tRevLN, rCatN, rInTN, rInLN, flatV, inV, List.all_cons, List.all_nil, List.any_cons, List.any_nil, Bool.and_self, Bool.and_true, if_true, Bool.false_eq_true, if_false, tMt, tFldN, tSto, HO.ins.injEq, lkh, List.drop_zero, List.drop_succ_cons, List.drop_nil, rListS, wipe, L2.start, List.map_cons, List.map_nil, List.length_cons, List.length_nil, List.replicate, List.cons_append, List.nil_append, List.append_nil, Nat.reduceAdd, Nat.reduceSub, Nat.zero_add, List.replicate_succ, List.replicate_zero, List.getElem?_cons_zero, List.getElem?_cons_succ, List.set_cons_zero, List.set_cons_succ, Option.some.injEq, V.int.injEq, V.bl.injEq, V.ref.injEq, V.str.injEq, V.ty.injEq, List.cons.injEq, HO.tup.injEq, HO.lst.injEq, and_true, true_and, and_assoc, exists_eq_left, exists_eq_left', exists_and_left, exists_eq', atI0, atI1, atI2, atI3, Int.cast_ofNat_Int, Int.reduceToNat, scal_ii, scal_in, scal_ni, scal_nn, scal_bb, scal_ss, scal_sn, scal_ns, scal_bn, scal_nb, ite_iff, decide_eq_true_eq, decide_eq_false_iff_not, Bool.not_eq_true', Classical.not_not, ne_eq, not_false_eq_true, not_true_eq_false, forall_const, true_implies, false_implies, imp_self, sizeLine_eq, Nat.reduceLeDiff, reduceCtorEq, decide_true, decide_false]
  intro b H2 hb s2 h2
  refine eq_nil (hps.mono s2) h2 ?_
  obtain ⟨xs, hx, hp⟩ := hps
  have hx2 := s2 _ _ hx
  simp only [exists_and_left, hx2, cx_K, Value.ref.injEq, HO.xd.injEq, lk0, tSeq, tPar3, tPar, tCons, tNil, tVar, tC, tAsg, gName, gCons, gNil, gTupN, gSub, tOp, rI, rI0, rU, tTest, rNe, rEq, rIxTN, rIxLN, rLenL, rLenT, rIntI, rIntB, rAbs, rSetLN, tTruL, tRaiseX, rIsTy, rIsOw, ixN0, ixN1, tRet, tIf, tIfS, tNext, tBreak, tCont, tDrop, tTupN, tLstN, tUn, tCB, tCall, tNot, tAnd, tOr, tB, tAndV, tOrV, tNotV, tChain, tApp, LamX.tLam, tRevLN, rCatN, rInTN, rInLN, flatV, inV, List.all_cons, List.all_nil, List.any_cons, List.any_nil, Bool.and_self, Bool.and_true, if_true, Bool.false_eq_true, if_false, tMt, tFldN, tSto, HO.ins.injEq, lkh, List.drop_zero, List.drop_succ_cons, List.drop_nil, rListS, wipe, L2.start, List.map_cons, List.map_nil, List.length_cons, List.length_nil, List.replicate, List.cons_append, List.nil_append, List.append_nil, Nat.reduceAdd, Nat.reduceSub, Nat.zero_add, List.replicate_succ, List.replicate_zero, List.getElem?_cons_zero, List.getElem?_cons_succ, List.set_cons_zero, List.set_cons_succ, Option.some.injEq, V.int.injEq, V.bl.injEq, V.ref.injEq, V.str.injEq, V.ty.injEq, List.cons.injEq, HO.tup.injEq, HO.lst.injEq, and_true, true_and, and_assoc, exists_eq_left, exists_eq_left', exists_and_left, exists_eq', atI0, atI1, atI2, atI3, Int.cast_ofNat_Int, Int.reduceToNat, scal_ii, scal_in, scal_ni, scal_nn, scal_bb, scal_ss, scal_sn, scal_ns, scal_bn, scal_nb, ite_iff, decide_eq_true_eq, decide_eq_false_iff_not, Bool.not_eq_true', Classical.not_not, ne_eq, not_false_eq_true, not_true_eq_false, forall_const, true_implies, false_implies, imp_self, sizeLine_eq, Nat.reduceLeDiff, reduceCtorEq, decide_true, decide_false]
  cases hp with
  | nil =>
    simp only [List.isEmpty_nil, cx_K, Value.ref.injEq, HO.xd.injEq, lk0, tSeq, tPar3, tPar, tCons, tNil, tVar, tC, tAsg, gName, gCons, gNil, gTupN, gSub, tOp, rI, rI0, rU, tTest, rNe, rEq, rIxTN, rIxLN, rLenL, rLenT, rIntI, rIntB, rAbs, rSetLN, tTruL, tRaiseX, rIsTy, rIsOw, ixN0, ixN1, tRet, tIf, tIfS, tNext, tBreak, tCont, tDrop, tTupN, tLstN, tUn, tCB, tCall, tNot, tAnd, tOr, tB, tAndV, tOrV, tNotV, tChain, tApp, LamX.tLam, tRevLN, rCatN, rInTN, rInLN, flatV, inV, List.all_cons, List.all_nil, List.any_cons, List.any_nil, Bool.and_self, Bool.and_true, if_true, Bool.false_eq_true, if_false, tMt, tFldN, tSto, HO.ins.injEq, lkh, List.drop_zero, List.drop_succ_cons, List.drop_nil, rListS, wipe, L2.start, List.map_cons, List.map_nil, List.length_cons, List.length_nil, List.replicate, List.cons_append, List.nil_append, List.append_nil, Nat.reduceAdd, Nat.reduceSub, Nat.zero_add, List.replicate_succ, List.replicate_zero, List.getElem?_cons_zero, List.getElem?_cons_succ, List.set_cons_zero, List.set_cons_succ, Option.some.injEq, V.int.injEq, V.bl.injEq, V.ref.injEq, V.str.injEq, V.ty.injEq, List.cons.injEq, HO.tup.injEq, HO.lst.injEq, and_true, true_and, and_assoc, exists_eq_left, exists_eq_left', exists_and_left, exists_eq', atI0, atI1, atI2, atI3, Int.cast_ofNat_Int, Int.reduceToNat, scal_ii, scal_in, scal_ni, scal_nn, scal_bb, scal_ss, scal_sn, scal_ns, scal_bn, scal_nb, ite_iff, decide_eq_true_eq, decide_eq_false_iff_not, Bool.not_eq_true', Classical.not_not, ne_eq, not_false_eq_true, not_true_eq_false, forall_const, true_implies, false_implies, imp_self, sizeLine_eq, Nat.reduceLeDiff, reduceCtorEq, decide_true, decide_false]
    exact k H2 s2
  | cons hq hp =>
    rename_i a1 xs q ps
    obtain ⟨lo, hi⟩ := q
    have hq2 := s2 _ _ hq
    have hp2 : PAll H2 (.ref a1 :: xs) ((lo, hi) :: ps) := .cons hq2 (hp.mono s2)
    simp only [List.isEmpty_cons, hq2, cx_K, Value.ref.injEq, HO.xd.injEq, lk0, tSeq, tPar3, tPar, tCons, tNil, tVar, tC, tAsg, gName, gCons, gNil, gTupN, gSub, tOp, rI, rI0, rU, tTest, rNe, rEq, rIxTN, rIxLN, rLenL, rLenT, rIntI, rIntB, rAbs, rSetLN, tTruL, tRaiseX, rIsTy, rIsOw, ixN0, ixN1, tRet, tIf, tIfS, tNext, tBreak, tCont, tDrop, tTupN, tLstN, tUn, tCB, tCall, tNot, tAnd, tOr, tB, tAndV, tOrV, tNotV, tChain, tApp, LamX.tLam, tRevLN, rCatN, rInTN, rInLN, flatV, inV, List.all_cons, List.all_nil, List.any_cons, List.any_nil, Bool.and_self, Bool.and_true, if_true, Bool.false_eq_true, if_false, tMt, tFldN, tSto, HO.ins.injEq, lkh, List.drop_zero, List.drop_succ_cons, List.drop_nil, rListS, wipe, L2.start, List.map_cons, List.map_nil, List.length_cons, List.length_nil, List.replicate, List.cons_append, List.nil_append, List.append_nil, Nat.reduceAdd, Nat.reduceSub, Nat.zero_add, List.replicate_succ, List.replicate_zero, List.getElem?_cons_zero, List.getElem?_cons_succ, List.set_cons_zero, List.set_cons_succ, Option.some.injEq, V.int.injEq, V.bl.injEq, V.ref.injEq, V.str.injEq, V.ty.injEq, List.cons.injEq, HO.tup.injEq, HO.lst.injEq, and_true, true_and, and_assoc, exists_eq_left, exists_eq_left', exists_and_left, exists_eq', atI0, atI1, atI2, atI3, Int.cast_ofNat_Int, Int.reduceToNat, scal_ii, scal_in, scal_ni, scal_nn, scal_bb, scal_ss, scal_sn, scal_ns, scal_bn, scal_nb, ite_iff, decide_eq_true_eq, decide_eq_false_iff_not, Bool.not_eq_true', Classical.not_not, ne_eq, not_false_eq_true, not_true_eq_false, forall_const, true_implies, false_implies, imp_self, sizeLine_eq, Nat.reduceLeDiff, reduceCtorEq, decide_true, decide_false]
    cases lo with
    | none =>
      simp only [ov, cx_K, Value.ref.injEq, HO.xd.injEq, lk0, tSeq, tPar3, tPar, tCons, tNil, tVar, tC, tAsg, gName, gCons, gNil, gTupN, gSub, tOp, rI, rI0, rU, tTest, rNe, rEq, rIxTN, rIxLN, rLenL, rLenT, rIntI, rIntB, rAbs, rSetLN, tTruL, tRaiseX, rIsTy, rIsOw, ixN0, ixN1, tRet, tIf, tIfS, tNext, tBreak, tCont, tDrop, tTupN, tLstN, tUn, tCB, tCall, tNot, tAnd, tOr, tB, tAndV, tOrV, tNotV, tChain, tApp, LamX.tLam, tRevLN, rCatN, rInTN, rInLN, flatV, inV, List.all_cons, List.all_nil, List.any_cons, List.any_nil, Bool.and_self, Bool.and_true, if_true, Bool.false_eq_true, if_false, tMt, tFldN, tSto, HO.ins.injEq, lkh, List.drop_zero, List.drop_succ_cons, List.drop_nil, rListS, wipe, L2.start, List.map_cons, List.map_nil, List.length_cons, List.length_nil, List.replicate, List.cons_append, List.nil_append, List.append_nil, Nat.reduceAdd, Nat.reduceSub, Nat.zero_add, List.replicate_succ, List.replicate_zero, List.getElem?_cons_zero, List.getElem?_cons_succ, List.set_cons_zero, List.set_cons_succ, Option.some.injEq, V.int.injEq, V.bl.injEq, V.ref.injEq, V.str.injEq, V.ty.injEq, List.cons.injEq, HO.tup.injEq, HO.lst.injEq, and_true, true_and, and_assoc, exists_eq_left, exists_eq_left', exists_and_left, exists_eq', atI0, atI1, atI2, atI3, Int.cast_ofNat_Int, Int.reduceToNat, scal_ii, scal_in, scal_ni, scal_nn, scal_bb, scal_ss, scal_sn, scal_ns, scal_bn, scal_nb, ite_iff, decide_eq_true_eq, decide_eq_false_iff_not, Bool.not_eq_true', Classical.not_not, ne_eq, not_false_eq_true, not_true_eq_false, forall_const, true_implies, false_implies, imp_self, sizeLine_eq, Nat.reduceLeDiff, reduceCtorEq, decide_true, decide_false]
      exact k H2 s2
    | some l =>
      simp only [ov, cx_K, Value.ref.injEq, HO.xd.injEq, lk0, tSeq, tPar3, tPar, tCons, tNil, tVar, tC, tAsg, gName, gCons, gNil, gTupN, gSub, tOp, rI, rI0, rU, tTest, rNe, rEq, rIxTN, rIxLN, rLenL, rLenT, rIntI, rIntB, rAbs, rSetLN, tTruL, tRaiseX, rIsTy, rIsOw, ixN0, ixN1, tRet, tIf, tIfS, tNext, tBreak, tCont, tDrop, tTupN, tLstN, tUn, tCB, tCall, tNot, tAnd, tOr, tB, tAndV, tOrV, tNotV, tChain, tApp, LamX.tLam, tRevLN, rCatN, rInTN, rInLN, flatV, inV, List.all_cons, List.all_nil, List.any_cons, List.any_nil, Bool.and_self, Bool.and_true, if_true, Bool.false_eq_true, if_false, tMt, tFldN, tSto, HO.ins.injEq, lkh, List.drop_zero, List.drop_succ_cons, List.drop_nil, rListS, wipe, L2.start, List.map_cons, List.map_nil, List.length_cons, List.length_nil, List.replicate, List.cons_append, List.nil_append, List.append_nil, Nat.reduceAdd, Nat.reduceSub, Nat.zero_add, List.replicate_succ, List.replicate_zero, List.getElem?_cons_zero, List.getElem?_cons_succ, List.set_cons_zero, List.set_cons_succ, Option.some.injEq, V.int.injEq, V.bl.injEq, V.ref.injEq, V.str.injEq, V.ty.injEq, List.cons.injEq, HO.tup.injEq, HO.lst.injEq, and_true, true_and, and_assoc, exists_eq_left, exists_eq_left', exists_and_left, exists_eq', atI0, atI1, atI2, atI3, Int.cast_ofNat_Int, Int.reduceToNat, scal_ii, scal_in, scal_ni, scal_nn, scal_bb, scal_ss, scal_sn, scal_ns, scal_bn, scal_nb, ite_iff, decide_eq_true_eq, decide_eq_false_iff_not, Bool.not_eq_true', Classical.not_not, ne_eq, not_false_eq_true, not_true_eq_false, forall_const, true_implies, false_implies, imp_self, sizeLine_eq, Nat.reduceLeDiff, reduceCtorEq, decide_true, decide_false]
      have k := k H2 s2
      have hall : ∀ q ∈ (some l, hi) :: ps, q.1.isSome = true := fun q hq => by
        rcases List.mem_cons.mp hq with rfl | hq
        · rfl
        · exact hT q hq
      have k : Q (ov (frsL ((some l, hi) :: ps) r p)) H2 := k
      generalize hps : (some l, hi) :: ps = ps' at *
      refine st_forL (a := a) (fun R r' => ⟨_, rfl, r'⟩) hx2 (fun i σ' H' => H' = H2 ∧ ∃ t u v, σ' = [some (.ref a), some (.int r), some (.int p), t, u, v] ∧ frsL (ps'.drop i) r p = frsL ps' r p) ⟨rfl, none, none, none, rfl, rfl⟩ (fun i σ' H' q => q.1 ▸ hx2) ?_ ?_
      · rintro i x _ H' hi ⟨rfl, t, u, v, rfl, e⟩
        obtain ⟨b, q, rfl, hq, hb⟩ := hp2.get hi
        have hs := hall q (List.mem_of_getElem? hq)
        rw [drop_of hq] at e
        obtain ⟨lo, hi'⟩ := q
        cases lo with
        | none => cases hs
        | some lo =>
          cases hi' with
          | none =>
            simp only [hb, exists_and_left, ov, cx_K, Value.ref.injEq, HO.xd.injEq, lk0, tSeq, tPar3, tPar, tCons, tNil, tVar, tC, tAsg, gName, gCons, gNil, gTupN, gSub, tOp, rI, rI0, rU, tTest, rNe, rEq, rIxTN, rIxLN, rLenL, rLenT, rIntI, rIntB, rAbs, rSetLN, tTruL, tRaiseX, rIsTy, rIsOw, ixN0, ixN1, tRet, tIf, tIfS, tNext, tBreak, tCont, tDrop, tTupN, tLstN, tUn, tCB, tCall, tNot, tAnd, tOr, tB, tAndV, tOrV, tNotV, tChain, tApp, LamX.tLam, tRevLN, rCatN, rInTN, rInLN, flatV, inV, List.all_cons, List.all_nil, List.any_cons, List.any_nil, Bool.and_self, Bool.and_true, if_true, Bool.false_eq_true, if_false, tMt, tFldN, tSto, HO.ins.injEq, lkh, List.drop_zero, List.drop_succ_cons, List.drop_nil, rListS, wipe, L2.start, List.map_cons, List.map_nil, List.length_cons, List.length_nil, List.replicate, List.cons_append, List.nil_append, List.append_nil, Nat.reduceAdd, Nat.reduceSub, Nat.zero_add, List.replicate_succ, List.replicate_zero, List.getElem?_cons_zero, List.getElem?_cons_succ, List.set_cons_zero, List.set_cons_succ, Option.some.injEq, V.int.injEq, V.bl.injEq, V.ref.injEq, V.str.injEq, V.ty.injEq, List.cons.injEq, HO.tup.injEq, HO.lst.injEq, and_true, true_and, and_assoc, exists_eq_left, exists_eq_left', exists_and_left, exists_eq', atI0, atI1, atI2, atI3, Int.cast_ofNat_Int, Int.reduceToNat, scal_ii, scal_in, scal_ni, scal_nn, scal_bb, scal_ss, scal_sn, scal_ns, scal_bn, scal_nb, ite_iff, decide_eq_true_eq, decide_eq_false_iff_not, Bool.not_eq_true', Classical.not_not, ne_eq, not_false_eq_true, not_true_eq_false, forall_const, true_implies, false_implies, imp_self, sizeLine_eq, Nat.reduceLeDiff, reduceCtorEq, decide_true, decide_false]
            rw [← e] at k
            exact ⟨p1, k⟩
          | some hh =>
            simp only [hb, exists_and_left, ov, cx_K, Value.ref.injEq, HO.xd.injEq, lk0, tSeq, tPar3, tPar, tCons, tNil, tVar, tC, tAsg, gName, gCons, gNil, gTupN, gSub, tOp, rI, rI0, rU, tTest, rNe, rEq, rIxTN, rIxLN, rLenL, rLenT, rIntI, rIntB, rAbs, rSetLN, tTruL, tRaiseX, rIsTy, rIsOw, ixN0, ixN1, tRet, tIf, tIfS, tNext, tBreak, tCont, tDrop, tTupN, tLstN, tUn, tCB, tCall, tNot, tAnd, tOr, tB, tAndV, tOrV, tNotV, tChain, tApp, LamX.tLam, tRevLN, rCatN, rInTN, rInLN, flatV, inV, List.all_cons, List.all_nil, List.any_cons, List.any_nil, Bool.and_self, Bool.and_true, if_true, Bool.false_eq_true, if_false, tMt, tFldN, tSto, HO.ins.injEq, lkh, List.drop_zero, List.drop_succ_cons, List.drop_nil, rListS, wipe, L2.start, List.map_cons, List.map_nil, List.length_cons, List.length_nil, List.replicate, List.cons_append, List.nil_append, List.append_nil, Nat.reduceAdd, Nat.reduceSub, Nat.zero_add, List.replicate_succ, List.replicate_zero, List.getElem?_cons_zero, List.getElem?_cons_succ, List.set_cons_zero, List.set_cons_succ, Option.some.injEq, V.int.injEq, V.bl.injEq, V.ref.injEq, V.str.injEq, V.ty.injEq, List.cons.injEq, HO.tup.injEq, HO.lst.injEq, and_true, true_and, and_assoc, exists_eq_left, exists_eq_left', exists_and_left, exists_eq', atI0, atI1, atI2, atI3, Int.cast_ofNat_Int, Int.reduceToNat, scal_ii, scal_in, scal_ni, scal_nn, scal_bb, scal_ss, scal_sn, scal_ns, scal_bn, scal_nb, ite_iff, decide_eq_true_eq, decide_eq_false_iff_not, Bool.not_eq_true', Classical.not_not, ne_eq, not_false_eq_true, not_true_eq_false, forall_const, true_implies, false_implies, imp_self, sizeLine_eq, Nat.reduceLeDiff, reduceCtorEq, decide_true, decide_false]
            simp only [frsL, Option.getD_some, inS, Bool.true_and, decide_eq_true_eq] at e
            refine ⟨p1, fun h => ?_, fun h => ?_⟩
            · rw [if_pos h] at e; rw [← e] at k; exact k
            · rw [if_neg h] at e; exact e
      · rintro _ H' ⟨rfl, t, u, v, rfl, e⟩
        rw [hp2.length, List.drop_length] at e
        simp only [exists_and_left, cx_K, Value.ref.injEq, HO.xd.injEq, lk0, tSeq, tPar3, tPar, tCons, tNil, tVar, tC, tAsg, gName, gCons, gNil, gTupN, gSub, tOp, rI, rI0, rU, tTest, rNe, rEq, rIxTN, rIxLN, rLenL, rLenT, rIntI, rIntB, rAbs, rSetLN, tTruL, tRaiseX, rIsTy, rIsOw, ixN0, ixN1, tRet, tIf, tIfS, tNext, tBreak, tCont, tDrop, tTupN, tLstN, tUn, tCB, tCall, tNot, tAnd, tOr, tB, tAndV, tOrV, tNotV, tChain, tApp, LamX.tLam, tRevLN, rCatN, rInTN, rInLN, flatV, inV, List.all_cons, List.all_nil, List.any_cons, List.any_nil, Bool.and_self, Bool.and_true, if_true, Bool.false_eq_true, if_false, tMt, tFldN, tSto, HO.ins.injEq, lkh, List.drop_zero, List.drop_succ_cons, List.drop_nil, rListS, wipe, L2.start, List.map_cons, List.map_nil, List.length_cons, List.length_nil, List.replicate, List.cons_append, List.nil_append, List.append_nil, Nat.reduceAdd, Nat.reduceSub, Nat.zero_add, List.replicate_succ, List.replicate_zero, List.getElem?_cons_zero, List.getElem?_cons_succ, List.set_cons_zero, List.set_cons_succ, Option.some.injEq, V.int.injEq, V.bl.injEq, V.ref.injEq, V.str.injEq, V.ty.injEq, List.cons.injEq, HO.tup.injEq, HO.lst.injEq, and_true, true_and, and_assoc, exists_eq_left, exists_eq_left', exists_and_left, exists_eq', atI0, atI1, atI2, atI3, Int.cast_ofNat_Int, Int.reduceToNat, scal_ii, scal_in, scal_ni, scal_nn, scal_bb, scal_ss, scal_sn, scal_ns, scal_bn, scal_nb, ite_iff, decide_eq_true_eq, decide_eq_false_iff_not, Bool.not_eq_true', Classical.not_not, ne_eq, not_false_eq_true, not_true_eq_false, forall_const, true_implies, false_implies, imp_self, sizeLine_eq, Nat.reduceLeDiff, reduceCtorEq, decide_true, decide_false]
        rw [← e] at k
        exact k
/-- the greatest of a row told from behind -/
def finL : List (Option Int × Option Int) → Int → Int → Option Int
  | [], _, _ => none
  | (lo, hi) :: ps, r, p => if inS lo none (hi.getD 0 - 1 - (hi.getD 0 - 1 - r) % p) = true then some (hi.getD 0 - 1 - (hi.getD 0 - 1 - r) % p) else finL ps r p
def finO : List (Option Int × Option Int) → Int → Int → Option Int
  | (_, none) :: _, _, _ => none
  | ps, r, p => finL ps r p
def spFin : Sp := fun vs H Q _ => ∃ a r p ps, vs = [.ref a, .int r, .int p] ∧ PairsAt H a ps ∧ (∀ q ∈ ps.reverse.tail, q.2.isSome = true) ∧ 1 ≤ p ∧ ∀ H', Same H H' → Q (ov (finO ps.reverse r p)) H'
theorem o__law_final (T : Txt K mg) : OkF P w K mg base CX0 1 "_law_final" ["_law_pairs", "_law_r", "_law_p"] spFin := by
  obtain ⟨f, fd, g, F⟩ := T.d__law_final
  refine ⟨f, fd, g, F.kp, F.binds (fun _ _ _ _ _ _ us hl => match us, hl with | [_, _, _], _ => rfl), F.ok sc__law_final (fun vs H Q E h => ?_) (fun cdv A outer s H vs Q E hr h => ?_)⟩
  · first | (obtain ⟨_, rfl, _⟩ := h; rfl) | (obtain ⟨_, _, rfl, _⟩ := h; rfl) | (obtain ⟨_, _, _, rfl, _⟩ := h; rfl) | (obtain ⟨_, _, _, _, rfl, _⟩ := h; rfl) | (obtain ⟨_, _, _, _, _, rfl, _⟩ := h; rfl) | (obtain ⟨_, _, _, _, _, _, rfl, _⟩ := h; rfl) | (obtain ⟨_, _, _, _, _, _, _, rfl, _⟩ := h; rfl)
  have hu64 := hr.units
  refine ⟨_, pss_cons (ps_if (PW.pt (pw_or (pt_cmpR (op_eqDk (K := K) rfl hu64) (pv 0) (pe_lstN (pa_nil)) (nomark _)) (pw_or1 (pt_cmpR op_isN (pe_ix ix_tupN (pe_ix ix_listN (pv 0) (pe_un un_neg (pe_int)) (fun _ _ => rfl)) (pe_int) (fun _ _ => rfl)) (pe_non) (nomark _))))) (pss_one (ps_ret (pe_non))) (pss_nil))
      (pss_cons (ps_for PassesOwn.never rfl (pi_list (pe_revLN (pv 0))) (pg_tupN (n := 2) (by rfl) (pgs_cons (pg_name (i := 3) sc__law_final.nd rfl (Or.inl rfl)) (pgs_cons (pg_name (i := 4) sc__law_final.nd rfl (Or.inl rfl)) pgs_nil))) (pss_cons (ps_set (i := 5) sc__law_final.nd rfl (Or.inl rfl) (pe_op op_sub (pe_op op_sub (pv 4) (pe_int)) (pe_op op_mod (pe_callTy call_intI (by rfl) T.m_int (by decide +kernel) (pa_cons (pe_op op_sub (pe_op op_sub (pv 4) (pe_int)) (pv 1)) pa_nil)) (pv 2))))
      (pss_one (ps_if (PW.pt (pw_or (pt_cmpR op_isN (pv 3) (pe_non) (nomark _)) (pw_or1 (pt_cmpR op_ge (pv 5) (pv 3) (nomark _))))) (pss_one (ps_ret (pv 5))) (pss_nil)))))
      (pss_one (ps_ret (pe_non)))), ?_⟩
  obtain ⟨a, r, p, ps, rfl, hps, hT, p1, k⟩ := h
  simp only [exists_and_left, cx_K, Value.ref.injEq, HO.xd.injEq, lk0, tSeq, tPar3, tPar, tCons, tNil, tVar, tC, tAsg, gName, gCons, gNil, gTupN, gSub, tOp, rI, rI0, rU, tTest, rNe, rEq, rIxTN, rIxLN, rLenL, rLenT, rIntI, rIntB, rAbs, rSetLN, tTruL, tRaiseX, rIsTy, rIsOw, ixN0, ixN1, tRet, tIf, tIfS, tNext, tBreak, tCont, tDrop, tTupN, tLstN, tUn, tCB, tCall, tNot, tAnd, tOr, tB, tAndV, tOrV, tNotV, tChain, tApp, LamX.tLam, tRevLN, rCatN, rInTN, rInLN, flatV, inV, List.all_cons, List.all_nil, List.any_cons, List.any_nil, Bool.and_self, Bool.and_true, if_true, Bool.false_eq_true, if_false, tMt, tFldN, tSto, HO.ins.injEq, lkh, List.drop_zero, List.drop_succ_cons, List.drop_nil, rListS, wipe, L2.start, List.map_cons, List.map_nil, List.length_cons, List.length_nil, List.replicate, List.cons_append, List.nil_append, List.append_nil, Nat.reduceAdd, Nat.reduceSub, Nat.zero_add, List.replicate_succ, List.replicate_zero, List.getElem?_cons_zero, List.getElem?_cons_succ, List.set_cons_zero, List.set_cons_succ, Option.some.injEq, V.int.injEq, V.bl.injEq, V.ref.injEq, V.str.injEq, V.ty.injEq, List.cons.injEq, HO.tup.injEq, HO.lst.injEq, and_true, true_and, and_assoc, exists_eq_left, exists_eq_left', exists_and_left, exists_eq', atI0, atI1, atI2, atI3, Int.cast_ofNat_Int, Int.reduceToNat, scal_ii, scal_in, scal_ni, scal_nn, scal_bb, scal_ss, scal_sn, scal_ns, scal_bn, scal_nb, ite_iff, decide_eq_true_eq, decide_eq_false_iff_not, Bool.not_eq_true', Classical.not_not, ne_eq, not_false_eq_true, not_true_eq_false, forall_const, true_implies, false_implies, imp_self, sizeLine_eq, Nat.reduceLeDiff, reduceCtorEq, decide_true, decide_false]
  intro b H2 hb s2 h2
  refine eq_nil (hps.mono s2) h2 ?_
  obtain ⟨xs, hx, hp⟩ := hps
  have hx2 := s2 _ _ hx
  have hr := (hp.mono s2).rev
  have hne : ps.isEmpty = ps.reverse.isEmpty := by cases ps <;> simp
  rw [hne]
  rw [← List.reverse_reverse xs] at hx2
  generalize ps.reverse = ps' at *
  generalize xs.reverse = xs' at *
  simp only [exists_and_left, hx2, cx_K, Value.ref.injEq, HO.xd.injEq, lk0, tSeq, tPar3, tPar, tCons, tNil, tVar, tC, tAsg, gName, gCons, gNil, gTupN, gSub, tOp, rI, rI0, rU, tTest, rNe, rEq, rIxTN, rIxLN, rLenL, rLenT, rIntI, rIntB, rAbs, rSetLN, tTruL, tRaiseX, rIsTy, rIsOw, ixN0, ixN1, tRet, tIf, tIfS, tNext, tBreak, tCont, tDrop, tTupN, tLstN, tUn, tCB, tCall, tNot, tAnd, tOr, tB, tAndV, tOrV, tNotV, tChain, tApp, LamX.tLam, tRevLN, rCatN, rInTN, rInLN, flatV, inV, List.all_cons, List.all_nil, List.any_cons, List.any_nil, Bool.and_self, Bool.and_true, if_true, Bool.false_eq_true, if_false, tMt, tFldN, tSto, HO.ins.injEq, lkh, List.drop_zero, List.drop_succ_cons, List.drop_nil, rListS, wipe, L2.start, List.map_cons, List.map_nil, List.length_cons, List.length_nil, List.replicate, List.cons_append, List.nil_append, List.append_nil, Nat.reduceAdd, Nat.reduceSub, Nat.zero_add, List.replicate_succ, List.replicate_zero, List.getElem?_cons_zero, List.getElem?_cons_succ, List.set_cons_zero, List.set_cons_succ, Option.some.injEq, V.int.injEq, V.bl.injEq, V.ref.injEq, V.str.injEq, V.ty.injEq, List.cons.injEq, HO.tup.injEq, HO.lst.injEq, and_true, true_and, and_assoc, exists_eq_left, exists_eq_left', exists_and_left, exists_eq', atI0, atI1, atI2, atI3, Int.cast_ofNat_Int, Int.reduceToNat, scal_ii, scal_in, scal_ni, scal_nn, scal_bb, scal_ss, scal_sn, scal_ns, scal_bn, scal_nb, ite_iff, decide_eq_true_eq, decide_eq_false_iff_not, Bool.not_eq_true', Classical.not_not, ne_eq, not_false_eq_true, not_true_eq_false, forall_const, true_implies, false_implies, imp_self, sizeLine_eq, Nat.reduceLeDiff, reduceCtorEq, decide_true, decide_false]
  cases hr with
  | nil =>
    simp only [List.isEmpty_nil, cx_K, Value.ref.injEq, HO.xd.injEq, lk0, tSeq, tPar3, tPar, tCons, tNil, tVar, tC, tAsg, gName, gCons, gNil, gTupN, gSub, tOp, rI, rI0, rU, tTest, rNe, rEq, rIxTN, rIxLN, rLenL, rLenT, rIntI, rIntB, rAbs, rSetLN, tTruL, tRaiseX, rIsTy, rIsOw, ixN0, ixN1, tRet, tIf, tIfS, tNext, tBreak, tCont, tDrop, tTupN, tLstN, tUn, tCB, tCall, tNot, tAnd, tOr, tB, tAndV, tOrV, tNotV, tChain, tApp, LamX.tLam, tRevLN, rCatN, rInTN, rInLN, flatV, inV, List.all_cons, List.all_nil, List.any_cons, List.any_nil, Bool.and_self, Bool.and_true, if_true, Bool.false_eq_true, if_false, tMt, tFldN, tSto, HO.ins.injEq, lkh, List.drop_zero, List.drop_succ_cons, List.drop_nil, rListS, wipe, L2.start, List.map_cons, List.map_nil, List.length_cons, List.length_nil, List.replicate, List.cons_append, List.nil_append, List.append_nil, Nat.reduceAdd, Nat.reduceSub, Nat.zero_add, List.replicate_succ, List.replicate_zero, List.getElem?_cons_zero, List.getElem?_cons_succ, List.set_cons_zero, List.set_cons_succ, Option.some.injEq, V.int.injEq, V.bl.injEq, V.ref.injEq, V.str.injEq, V.ty.injEq, List.cons.injEq, HO.tup.injEq, HO.lst.injEq, and_true, true_and, and_assoc, exists_eq_left, exists_eq_left', exists_and_left, exists_eq', atI0, atI1, atI2, atI3, Int.cast_ofNat_Int, Int.reduceToNat, scal_ii, scal_in, scal_ni, scal_nn, scal_bb, scal_ss, scal_sn, scal_ns, scal_bn, scal_nb, ite_iff, decide_eq_true_eq, decide_eq_false_iff_not, Bool.not_eq_true', Classical.not_not, ne_eq, not_false_eq_true, not_true_eq_false, forall_const, true_implies, false_implies, imp_self, sizeLine_eq, Nat.reduceLeDiff, reduceCtorEq, decide_true, decide_false]
    exact k H2 s2
  | cons hq2 hp =>
    rename_i a1 xs q ps
    obtain ⟨lo, hi⟩ := q
    have hp2 : PAll H2 (.ref a1 :: xs) ((lo, hi) :: ps) := .cons hq2 hp
    simp only [List.isEmpty_cons, hq2, List.reverse_cons, atI_last, cx_K, Value.ref.injEq, HO.xd.injEq, lk0, tSeq, tPar3, tPar, tCons, tNil, tVar, tC, tAsg, gName, gCons, gNil, gTupN, gSub, tOp, rI, rI0, rU, tTest, rNe, rEq, rIxTN, rIxLN, rLenL, rLenT, rIntI, rIntB, rAbs, rSetLN, tTruL, tRaiseX, rIsTy, rIsOw, ixN0, ixN1, tRet, tIf, tIfS, tNext, tBreak, tCont, tDrop, tTupN, tLstN, tUn, tCB, tCall, tNot, tAnd, tOr, tB, tAndV, tOrV, tNotV, tChain, tApp, LamX.tLam, tRevLN, rCatN, rInTN, rInLN, flatV, inV, List.all_cons, List.all_nil, List.any_cons, List.any_nil, Bool.and_self, Bool.and_true, if_true, Bool.false_eq_true, if_false, tMt, tFldN, tSto, HO.ins.injEq, lkh, List.drop_zero, List.drop_succ_cons, List.drop_nil, rListS, wipe, L2.start, List.map_cons, List.map_nil, List.length_cons, List.length_nil, List.replicate, List.cons_append, List.nil_append, List.append_nil, Nat.reduceAdd, Nat.reduceSub, Nat.zero_add, List.replicate_succ, List.replicate_zero, List.getElem?_cons_zero, List.getElem?_cons_succ, List.set_cons_zero, List.set_cons_succ, Option.some.injEq, V.int.injEq, V.bl.injEq, V.ref.injEq, V.str.injEq, V.ty.injEq, List.cons.injEq, HO.tup.injEq, HO.lst.injEq, and_true, true_and, and_assoc, exists_eq_left, exists_eq_left', exists_and_left, exists_eq', atI0, atI1, atI2, atI3, Int.cast_ofNat_Int, Int.reduceToNat, scal_ii, scal_in, scal_ni, scal_nn, scal_bb, scal_ss, scal_sn, scal_ns, scal_bn, scal_nb, ite_iff, decide_eq_true_eq, decide_eq_false_iff_not, Bool.not_eq_true', Classical.not_not, ne_eq, not_false_eq_true, not_true_eq_false, forall_const, true_implies, false_implies, imp_self, sizeLine_eq, Nat.reduceLeDiff, reduceCtorEq, decide_true, decide_false]
    cases hi with
    | none =>
      simp only [ov, cx_K, Value.ref.injEq, HO.xd.injEq, lk0, tSeq, tPar3, tPar, tCons, tNil, tVar, tC, tAsg, gName, gCons, gNil, gTupN, gSub, tOp, rI, rI0, rU, tTest, rNe, rEq, rIxTN, rIxLN, rLenL, rLenT, rIntI, rIntB, rAbs, rSetLN, tTruL, tRaiseX, rIsTy, rIsOw, ixN0, ixN1, tRet, tIf, tIfS, tNext, tBreak, tCont, tDrop, tTupN, tLstN, tUn, tCB, tCall, tNot, tAnd, tOr, tB, tAndV, tOrV, tNotV, tChain, tApp, LamX.tLam, tRevLN, rCatN, rInTN, rInLN, flatV, inV, List.all_cons, List.all_nil, List.any_cons, List.any_nil, Bool.and_self, Bool.and_true, if_true, Bool.false_eq_true, if_false, tMt, tFldN, tSto, HO.ins.injEq, lkh, List.drop_zero, List.drop_succ_cons, List.drop_nil, rListS, wipe, L2.start, List.map_cons, List.map_nil, List.length_cons, List.length_nil, List.replicate, List.cons_append, List.nil_append, List.append_nil, Nat.reduceAdd, Nat.reduceSub, Nat.zero_add, List.replicate_succ, List.replicate_zero, List.getElem?_cons_zero, List.getElem?_cons_succ, List.set_cons_zero, List.set_cons_succ, Option.some.injEq, V.int.injEq, V.bl.injEq, V.ref.injEq, V.str.injEq, V.ty.injEq, List.cons.injEq, HO.tup.injEq, HO.lst.injEq, and_true, true_and, and_assoc, exists_eq_left, exists_eq_left', exists_and_left, exists_eq', atI0, atI1, atI2, atI3, Int.cast_ofNat_Int, Int.reduceToNat, scal_ii, scal_in, scal_ni, scal_nn, scal_bb, scal_ss, scal_sn, scal_ns, scal_bn, scal_nb, ite_iff, decide_eq_true_eq, decide_eq_false_iff_not, Bool.not_eq_true', Classical.not_not, ne_eq, not_false_eq_true, not_true_eq_false, forall_const, true_implies, false_implies, imp_self, sizeLine_eq, Nat.reduceLeDiff, reduceCtorEq, decide_true, decide_false]
      exact k H2 s2
    | some l =>
      simp only [ov, cx_K, Value.ref.injEq, HO.xd.injEq, lk0, tSeq, tPar3, tPar, tCons, tNil, tVar, tC, tAsg, gName, gCons, gNil, gTupN, gSub, tOp, rI, rI0, rU, tTest, rNe, rEq, rIxTN, rIxLN, rLenL, rLenT, rIntI, rIntB, rAbs, rSetLN, tTruL, tRaiseX, rIsTy, rIsOw, ixN0, ixN1, tRet, tIf, tIfS, tNext, tBreak, tCont, tDrop, tTupN, tLstN, tUn, tCB, tCall, tNot, tAnd, tOr, tB, tAndV, tOrV, tNotV, tChain, tApp, LamX.tLam, tRevLN, rCatN, rInTN, rInLN, flatV, inV, List.all_cons, List.all_nil, List.any_cons, List.any_nil, Bool.and_self, Bool.and_true, if_true, Bool.false_eq_true, if_false, tMt, tFldN, tSto, HO.ins.injEq, lkh, List.drop_zero, List.drop_succ_cons, List.drop_nil, rListS, wipe, L2.start, List.map_cons, List.map_nil, List.length_cons, List.length_nil, List.replicate, List.cons_append, List.nil_append, List.append_nil, Nat.reduceAdd, Nat.reduceSub, Nat.zero_add, List.replicate_succ, List.replicate_zero, List.getElem?_cons_zero, List.getElem?_cons_succ, List.set_cons_zero, List.set_cons_succ, Option.some.injEq, V.int.injEq, V.bl.injEq, V.ref.injEq, V.str.injEq, V.ty.injEq, List.cons.injEq, HO.tup.injEq, HO.lst.injEq, and_true, true_and, and_assoc, exists_eq_left, exists_eq_left', exists_and_left, exists_eq', atI0, atI1, atI2, atI3, Int.cast_ofNat_Int, Int.reduceToNat, scal_ii, scal_in, scal_ni, scal_nn, scal_bb, scal_ss, scal_sn, scal_ns, scal_bn, scal_nb, ite_iff, decide_eq_true_eq, decide_eq_false_iff_not, Bool.not_eq_true', Classical.not_not, ne_eq, not_false_eq_true, not_true_eq_false, forall_const, true_implies, false_implies, imp_self, sizeLine_eq, Nat.reduceLeDiff, reduceCtorEq, decide_true, decide_false]
      have k : ∀ H', Same H2 H' → Q (ov (finL ((lo, some l) :: ps) r p)) H' := fun H' s => k H' (s2.trans s)
      have hall : ∀ q ∈ (lo, some l) :: ps, q.2.isSome = true := fun q hq => by
        rcases List.mem_cons.mp hq with rfl | hq
        · rfl
        · exact hT q hq
      generalize hps : (lo, some l) :: ps = ps' at *
      refine ⟨_, rfl, a, _, rfl, hx2, fun D H3 hD s3 h3 => ⟨D, rfl, ⟨_, SqL.of h3⟩, for_list (fun i σ' H' => H' = H3 ∧ ∃ t u v, σ' = [some (.ref a), some (.int r), some (.int p), t, u, v] ∧ finL (ps'.drop i) r p = finL ps' r p) ⟨rfl, none, none, none, rfl, rfl⟩ (fun i σ' H' _ q => q.1 ▸ SqL.of h3) ?_ ?_⟩⟩
      all_goals simp only [List.reverse_reverse]
      all_goals have hp3 := hp2.mono s3
      all_goals have k3 := k H3 s3
      · rintro i x _ H' hi ⟨rfl, t, u, v, rfl, e⟩
        obtain ⟨b, q, rfl, hq, hb⟩ := hp3.get hi
        have hs := hall q (List.mem_of_getElem? hq)
        rw [drop_of hq] at e
        obtain ⟨lo, hi'⟩ := q
        cases hi' with
        | none => cases hs
        | some hh =>
          cases lo with
          | none =>
            simp only [hb, exists_and_left, ov, cx_K, Value.ref.injEq, HO.xd.injEq, lk0, tSeq, tPar3, tPar, tCons, tNil, tVar, tC, tAsg, gName, gCons, gNil, gTupN, gSub, tOp, rI, rI0, rU, tTest, rNe, rEq, rIxTN, rIxLN, rLenL, rLenT, rIntI, rIntB, rAbs, rSetLN, tTruL, tRaiseX, rIsTy, rIsOw, ixN0, ixN1, tRet, tIf, tIfS, tNext, tBreak, tCont, tDrop, tTupN, tLstN, tUn, tCB, tCall, tNot, tAnd, tOr, tB, tAndV, tOrV, tNotV, tChain, tApp, LamX.tLam, tRevLN, rCatN, rInTN, rInLN, flatV, inV, List.all_cons, List.all_nil, List.any_cons, List.any_nil, Bool.and_self, Bool.and_true, if_true, Bool.false_eq_true, if_false, tMt, tFldN, tSto, HO.ins.injEq, lkh, List.drop_zero, List.drop_succ_cons, List.drop_nil, rListS, wipe, L2.start, List.map_cons, List.map_nil, List.length_cons, List.length_nil, List.replicate, List.cons_append, List.nil_append, List.append_nil, Nat.reduceAdd, Nat.reduceSub, Nat.zero_add, List.replicate_succ, List.replicate_zero, List.getElem?_cons_zero, List.getElem?_cons_succ, List.set_cons_zero, List.set_cons_succ, Option.some.injEq, V.int.injEq, V.bl.injEq, V.ref.injEq, V.str.injEq, V.ty.injEq, List.cons.injEq, HO.tup.injEq, HO.lst.injEq, and_true, true_and, and_assoc, exists_eq_left, exists_eq_left', exists_and_left, exists_eq', atI0, atI1, atI2, atI3, Int.cast_ofNat_Int, Int.reduceToNat, scal_ii, scal_in, scal_ni, scal_nn, scal_bb, scal_ss, scal_sn, scal_ns, scal_bn, scal_nb, ite_iff, decide_eq_true_eq, decide_eq_false_iff_not, Bool.not_eq_true', Classical.not_not, ne_eq, not_false_eq_true, not_true_eq_false, forall_const, true_implies, false_implies, imp_self, sizeLine_eq, Nat.reduceLeDiff, reduceCtorEq, decide_true, decide_false]
            rw [← e] at k3
            exact ⟨p1, k3⟩
          | some lo =>
            simp only [hb, exists_and_left, ov, cx_K, Value.ref.injEq, HO.xd.injEq, lk0, tSeq, tPar3, tPar, tCons, tNil, tVar, tC, tAsg, gName, gCons, gNil, gTupN, gSub, tOp, rI, rI0, rU, tTest, rNe, rEq, rIxTN, rIxLN, rLenL, rLenT, rIntI, rIntB, rAbs, rSetLN, tTruL, tRaiseX, rIsTy, rIsOw, ixN0, ixN1, tRet, tIf, tIfS, tNext, tBreak, tCont, tDrop, tTupN, tLstN, tUn, tCB, tCall, tNot, tAnd, tOr, tB, tAndV, tOrV, tNotV, tChain, tApp, LamX.tLam, tRevLN, rCatN, rInTN, rInLN, flatV, inV, List.all_cons, List.all_nil, List.any_cons, List.any_nil, Bool.and_self, Bool.and_true, if_true, Bool.false_eq_true, if_false, tMt, tFldN, tSto, HO.ins.injEq, lkh, List.drop_zero, List.drop_succ_cons, List.drop_nil, rListS, wipe, L2.start, List.map_cons, List.map_nil, List.length_cons, List.length_nil, List.replicate, List.cons_append, List.nil_append, List.append_nil, Nat.reduceAdd, Nat.reduceSub, Nat.zero_add, List.replicate_succ, List.replicate_zero, List.getElem?_cons_zero, List.getElem?_cons_succ, List.set_cons_zero, List.set_cons_succ, Option.some.injEq, V.int.injEq, V.bl.injEq, V.ref.injEq, V.str.injEq, V.ty.injEq, List.cons.injEq, HO.tup.injEq, HO.lst.injEq, and_true, true_and, and_assoc, exists_eq_left, exists_eq_left', exists_and_left, exists_eq', atI0, atI1, atI2, atI3, Int.cast_ofNat_Int, Int.reduceToNat, scal_ii, scal_in, scal_ni, scal_nn, scal_bb, scal_ss, scal_sn, scal_ns, scal_bn, scal_nb, ite_iff, decide_eq_true_eq, decide_eq_false_iff_not, Bool.not_eq_true', Classical.not_not, ne_eq, not_false_eq_true, not_true_eq_false, forall_const, true_implies, false_implies, imp_self, sizeLine_eq, Nat.reduceLeDiff, reduceCtorEq, decide_true, decide_false]
            simp only [finL, Option.getD_some, inS, Bool.and_true, decide_eq_true_eq] at e
            refine ⟨p1, fun h => ?_, fun h => ?_⟩
            · rw [if_pos h] at e; rw [← e] at k3; exact k3
            · rw [if_neg h] at e; exact e
      · rintro _ H' ⟨rfl, t, u, v, rfl, e⟩
        rw [hp3.length, List.drop_length] at e
        simp only [exists_and_left, cx_K, Value.ref.injEq, HO.xd.injEq, lk0, tSeq, tPar3, tPar, tCons, tNil, tVar, tC, tAsg, gName, gCons, gNil, gTupN, gSub, tOp, rI, rI0, rU, tTest, rNe, rEq, rIxTN, rIxLN, rLenL, rLenT, rIntI, rIntB, rAbs, rSetLN, tTruL, tRaiseX, rIsTy, rIsOw, ixN0, ixN1, tRet, tIf, tIfS, tNext, tBreak, tCont, tDrop, tTupN, tLstN, tUn, tCB, tCall, tNot, tAnd, tOr, tB, tAndV, tOrV, tNotV, tChain, tApp, LamX.tLam, tRevLN, rCatN, rInTN, rInLN, flatV, inV, List.all_cons, List.all_nil, List.any_cons, List.any_nil, Bool.and_self, Bool.and_true, if_true, Bool.false_eq_true, if_false, tMt, tFldN, tSto, HO.ins.injEq, lkh, List.drop_zero, List.drop_succ_cons, List.drop_nil, rListS, wipe, L2.start, List.map_cons, List.map_nil, List.length_cons, List.length_nil, List.replicate, List.cons_append, List.nil_append, List.append_nil, Nat.reduceAdd, Nat.reduceSub, Nat.zero_add, List.replicate_succ, List.replicate_zero, List.getElem?_cons_zero, List.getElem?_cons_succ, List.set_cons_zero, List.set_cons_succ, Option.some.injEq, V.int.injEq, V.bl.injEq, V.ref.injEq, V.str.injEq, V.ty.injEq, List.cons.injEq, HO.tup.injEq, HO.lst.injEq, and_true, true_and, and_assoc, exists_eq_left, exists_eq_left', exists_and_left, exists_eq', atI0, atI1, atI2, atI3, Int.cast_ofNat_Int, Int.reduceToNat, scal_ii, scal_in, scal_ni, scal_nn, scal_bb, scal_ss, scal_sn, scal_ns, scal_bn, scal_nb, ite_iff, decide_eq_true_eq, decide_eq_false_iff_not, Bool.not_eq_true', Classical.not_not, ne_eq, not_false_eq_true, not_true_eq_false, forall_const, true_implies, false_implies, imp_self, sizeLine_eq, Nat.reduceLeDiff, reduceCtorEq, decide_true, decide_false]
        rw [← e] at k3
        exact k3
/-- what of a told row is below n -/
def cutQ (n : Int) (q : Option Int × Option Int) : Option (Option Int × Option Int) :=
  let e := match q.2 with
    | none => n
    | some h => if h > n then n else h
  if okS (ov q.1) (.int e) = true then some (q.1, some e) else none
def spCut : Sp := fun vs H Q _ => ∃ a n ps, vs = [.ref a, .int n] ∧ PairsAt H a ps ∧ ps.length < 1000 ∧ ∀ b H', Same H H' → PairsAt H' b (ps.filterMap (cutQ n)) → Q (.ref b) H'
theorem o__law_cut (T : Txt K mg) : OkF P w K mg base CX0 1 "_law_cut" ["_law_pairs", "_law_number_here"] spCut := by
  obtain ⟨f, fd, g, F⟩ := T.d__law_cut
  refine ⟨f, fd, g, F.kp, F.binds (fun _ _ _ _ _ _ us hl => match us, hl with | [_, _], _ => rfl), F.ok sc__law_cut (fun vs H Q E h => ?_) (fun cdv A outer s H vs Q E hr h => ?_)⟩
  · first | (obtain ⟨_, rfl, _⟩ := h; rfl) | (obtain ⟨_, _, rfl, _⟩ := h; rfl) | (obtain ⟨_, _, _, rfl, _⟩ := h; rfl) | (obtain ⟨_, _, _, _, rfl, _⟩ := h; rfl) | (obtain ⟨_, _, _, _, _, rfl, _⟩ := h; rfl) | (obtain ⟨_, _, _, _, _, _, rfl, _⟩ := h; rfl) | (obtain ⟨_, _, _, _, _, _, _, rfl, _⟩ := h; rfl)
  have hu64 := hr.units
  refine ⟨_, pss_cons (ps_set (i := 2) sc__law_cut.nd rfl (Or.inl rfl) (pe_lstN (pa_nil)))
      (pss_cons (ps_for PassesOwn.never rfl (pi_list (pv 0)) (pg_tupN (n := 2) (by rfl) (pgs_cons (pg_name (i := 3) sc__law_cut.nd rfl (Or.inl rfl)) (pgs_cons (pg_name (i := 4) sc__law_cut.nd rfl (Or.inl rfl)) pgs_nil))) (pss_cons (ps_set (i := 5) sc__law_cut.nd rfl (Or.inl rfl) (pe_ifExp (PW.pt (pw_or (pt_cmpR op_isN (pv 4) (pe_non) (nomark _)) (pw_or1 (pt_cmpR op_gt (pv 4) (pv 1) (nomark _))))) (pv 1) (pv 4)))
      (pss_one (ps_if (PW.pt (pw_or (pt_cmpR op_isN (pv 3) (pe_non) (nomark _)) (pw_or1 (pt_cmpR op_lt (pv 3) (pv 5) (nomark _))))) (pss_one (ps_expr (pe_appN (pv 2) (pa_cons (pe_tupN (pa_cons (pv 3) (pa_cons (pv 5) pa_nil))) pa_nil)))) (pss_nil)))))
      (pss_one (ps_ret (pv 2)))), ?_⟩
  obtain ⟨a, n, ps, rfl, ⟨xs, hx, hp⟩, hlen, k⟩ := h
  simp only [exists_and_left, cx_K, Value.ref.injEq, HO.xd.injEq, lk0, tSeq, tPar3, tPar, tCons, tNil, tVar, tC, tAsg, gName, gCons, gNil, gTupN, gSub, tOp, rI, rI0, rU, tTest, rNe, rEq, rIxTN, rIxLN, rLenL, rLenT, rIntI, rIntB, rAbs, rSetLN, tTruL, tRaiseX, rIsTy, rIsOw, ixN0, ixN1, tRet, tIf, tIfS, tNext, tBreak, tCont, tDrop, tTupN, tLstN, tUn, tCB, tCall, tNot, tAnd, tOr, tB, tAndV, tOrV, tNotV, tChain, tApp, LamX.tLam, tRevLN, rCatN, rInTN, rInLN, flatV, inV, List.all_cons, List.all_nil, List.any_cons, List.any_nil, Bool.and_self, Bool.and_true, if_true, Bool.false_eq_true, if_false, tMt, tFldN, tSto, HO.ins.injEq, lkh, List.drop_zero, List.drop_succ_cons, List.drop_nil, rListS, wipe, L2.start, List.map_cons, List.map_nil, List.length_cons, List.length_nil, List.replicate, List.cons_append, List.nil_append, List.append_nil, Nat.reduceAdd, Nat.reduceSub, Nat.zero_add, List.replicate_succ, List.replicate_zero, List.getElem?_cons_zero, List.getElem?_cons_succ, List.set_cons_zero, List.set_cons_succ, Option.some.injEq, V.int.injEq, V.bl.injEq, V.ref.injEq, V.str.injEq, V.ty.injEq, List.cons.injEq, HO.tup.injEq, HO.lst.injEq, and_true, true_and, and_assoc, exists_eq_left, exists_eq_left', exists_and_left, exists_eq', atI0, atI1, atI2, atI3, Int.cast_ofNat_Int, Int.reduceToNat, scal_ii, scal_in, scal_ni, scal_nn, scal_bb, scal_ss, scal_sn, scal_ns, scal_bn, scal_nb, ite_iff, decide_eq_true_eq, decide_eq_false_iff_not, Bool.not_eq_true', Classical.not_not, ne_eq, not_false_eq_true, not_true_eq_false, forall_const, true_implies, false_implies, imp_self, sizeLine_eq, Nat.reduceLeDiff, reduceCtorEq, decide_true, decide_false]
  intro D H2 hD s2 h2
  have hp2 := hp.mono s2
  have hz : sizeLine = sizeLine := rfl
  refine st_forL (a := a) (fun R r' => ⟨_, rfl, r'⟩) (s2 _ _ hx) (fun i σ' H' => ∃ t u v, σ' = [some (.ref a), some (.int n), some (.ref D), t, u, v] ∧ (∀ b o, H b = some o → H' b = some o) ∧ ∃ ys, H' D = some (.lst ys) ∧ PAll H' ys ((ps.take i).filterMap (cutQ n))) ⟨none, none, none, rfl, fun b o h => s2 _ _ h, [], h2, .nil⟩ (fun i σ' H' q => let ⟨_, _, _, _, q, _⟩ := q; q _ _ hx) ?_ ?_
  · rintro i x _ H' hi ⟨t, u, v, rfl, st, ys, hys, hpa⟩
    obtain ⟨b, q, rfl, hq, hb⟩ := hp.get hi
    have hb' := st _ _ hb
    have htk : (ps.take (i + 1)).filterMap (cutQ n) = (ps.take i).filterMap (cutQ n) ++ (cutQ n q).toList := by
      rw [List.take_succ, hq, List.filterMap_append]
      congr 1
    rw [htk]
    have hyl : ys.length < 16777216 := by
      rw [hpa.length]
      have h1 := List.length_filterMap_le (cutQ n) (ps.take i)
      have h2 : (ps.take i).length ≤ ps.length := by rw [List.length_take]; exact Nat.min_le_right _ _
      omega
    have yes : ∀ (x y : V) (l : Option Int) (e : Int) (q : Option Int × Option Int), x = ov l → y = .int e → cutQ n q = some (l, some e) → (∃ xs, H' D = some (HO.lst xs)) ∧ News H' (HO.tup [x, y]) fun x H1 =>
        ∃ zs, H1 D = some (HO.lst zs) ∧ zs.length < 16777216 ∧ ∀ H3, Put H1 H3 D (HO.lst (zs ++ [x])) → (∀ b o, H b = some o → H3 b = some o) ∧ ∃ ys, H3 D = some (HO.lst ys) ∧ PAll H3 ys (List.filterMap (cutQ n) (List.take i ps) ++ (cutQ n q).toList) := by
      rintro x y l e q rfl rfl hc
      refine ⟨⟨ys, hys⟩, fun p H1 hp1 s1 h1 => ⟨ys, s1 _ _ hys, hyl, fun H3 p3 => ⟨fun b o h => by rw [p3.2 b (ne_of_none h hD)]; exact s1 _ _ (st _ _ h), ys ++ [.ref p], p3.1, ?_⟩⟩⟩
      rw [hc]
      have hpD : p ≠ D := fun h => by rw [h, hys] at hp1; cases hp1
      refine PAll.snoc (hpa.monoT fun b us h => ?_) (by rw [p3.2 p hpD]; exact h1)
      rw [p3.2 b (fun e => by rw [e, hys] at h; cases h)]
      exact s1 _ _ h
    have no : ∀ (q : Option Int × Option Int), cutQ n q = none → (∀ b o, H b = some o → H' b = some o) ∧ ∃ ys, H' D = some (HO.lst ys) ∧ PAll H' ys (List.filterMap (cutQ n) (List.take i ps) ++ (cutQ n q).toList) := by
      rintro q hc
      exact ⟨st, ys, hys, by rw [hc]; simpa using hpa⟩
    obtain ⟨lo, hi'⟩ := q
    cases lo with
    | none => cases hi' with
      | none => simp only [hb', exists_and_left, ov, cx_K, Value.ref.injEq, HO.xd.injEq, lk0, tSeq, tPar3, tPar, tCons, tNil, tVar, tC, tAsg, gName, gCons, gNil, gTupN, gSub, tOp, rI, rI0, rU, tTest, rNe, rEq, rIxTN, rIxLN, rLenL, rLenT, rIntI, rIntB, rAbs, rSetLN, tTruL, tRaiseX, rIsTy, rIsOw, ixN0, ixN1, tRet, tIf, tIfS, tNext, tBreak, tCont, tDrop, tTupN, tLstN, tUn, tCB, tCall, tNot, tAnd, tOr, tB, tAndV, tOrV, tNotV, tChain, tApp, LamX.tLam, tRevLN, rCatN, rInTN, rInLN, flatV, inV, List.all_cons, List.all_nil, List.any_cons, List.any_nil, Bool.and_self, Bool.and_true, if_true, Bool.false_eq_true, if_false, tMt, tFldN, tSto, HO.ins.injEq, lkh, List.drop_zero, List.drop_succ_cons, List.drop_nil, rListS, wipe, L2.start, List.map_cons, List.map_nil, List.length_cons, List.length_nil, List.replicate, List.cons_append, List.nil_append, List.append_nil, Nat.reduceAdd, Nat.reduceSub, Nat.zero_add, List.replicate_succ, List.replicate_zero, List.getElem?_cons_zero, List.getElem?_cons_succ, List.set_cons_zero, List.set_cons_succ, Option.some.injEq, V.int.injEq, V.bl.injEq, V.ref.injEq, V.str.injEq, V.ty.injEq, List.cons.injEq, HO.tup.injEq, HO.lst.injEq, and_true, true_and, and_assoc, exists_eq_left, exists_eq_left', exists_and_left, exists_eq', atI0, atI1, atI2, atI3, Int.cast_ofNat_Int, Int.reduceToNat, scal_ii, scal_in, scal_ni, scal_nn, scal_bb, scal_ss, scal_sn, scal_ns, scal_bn, scal_nb, ite_iff, decide_eq_true_eq, decide_eq_false_iff_not, Bool.not_eq_true', Classical.not_not, ne_eq, not_false_eq_true, not_true_eq_false, forall_const, true_implies, false_implies, imp_self, sizeLine_eq, Nat.reduceLeDiff, reduceCtorEq, decide_true, decide_false]; exact yes _ _ none n _ rfl rfl (by simp [cutQ, okS, ov])
      | some h =>
        simp only [hb', exists_and_left, ov, cx_K, Value.ref.injEq, HO.xd.injEq, lk0, tSeq, tPar3, tPar, tCons, tNil, tVar, tC, tAsg, gName, gCons, gNil, gTupN, gSub, tOp, rI, rI0, rU, tTest, rNe, rEq, rIxTN, rIxLN, rLenL, rLenT, rIntI, rIntB, rAbs, rSetLN, tTruL, tRaiseX, rIsTy, rIsOw, ixN0, ixN1, tRet, tIf, tIfS, tNext, tBreak, tCont, tDrop, tTupN, tLstN, tUn, tCB, tCall, tNot, tAnd, tOr, tB, tAndV, tOrV, tNotV, tChain, tApp, LamX.tLam, tRevLN, rCatN, rInTN, rInLN, flatV, inV, List.all_cons, List.all_nil, List.any_cons, List.any_nil, Bool.and_self, Bool.and_true, if_true, Bool.false_eq_true, if_false, tMt, tFldN, tSto, HO.ins.injEq, lkh, List.drop_zero, List.drop_succ_cons, List.drop_nil, rListS, wipe, L2.start, List.map_cons, List.map_nil, List.length_cons, List.length_nil, List.replicate, List.cons_append, List.nil_append, List.append_nil, Nat.reduceAdd, Nat.reduceSub, Nat.zero_add, List.replicate_succ, List.replicate_zero, List.getElem?_cons_zero, List.getElem?_cons_succ, List.set_cons_zero, List.set_cons_succ, Option.some.injEq, V.int.injEq, V.bl.injEq, V.ref.injEq, V.str.injEq, V.ty.injEq, List.cons.injEq, HO.tup.injEq, HO.lst.injEq, and_true, true_and, and_assoc, exists_eq_left, exists_eq_left', exists_and_left, exists_eq', atI0, atI1, atI2, atI3, Int.cast_ofNat_Int, Int.reduceToNat, scal_ii, scal_in, scal_ni, scal_nn, scal_bb, scal_ss, scal_sn, scal_ns, scal_bn, scal_nb, ite_iff, decide_eq_true_eq, decide_eq_false_iff_not, Bool.not_eq_true', Classical.not_not, ne_eq, not_false_eq_true, not_true_eq_false, forall_const, true_implies, false_implies, imp_self, sizeLine_eq, Nat.reduceLeDiff, reduceCtorEq, decide_true, decide_false]
        exact ⟨fun c => yes _ _ none n _ rfl rfl (by simp [cutQ, okS, ov, c]), fun c => yes _ _ none h _ rfl rfl (by simp [cutQ, okS, ov]; omega)⟩
    | some l => cases hi' with
      | none => 
        simp only [hb', exists_and_left, ov, cx_K, Value.ref.injEq, HO.xd.injEq, lk0, tSeq, tPar3, tPar, tCons, tNil, tVar, tC, tAsg, gName, gCons, gNil, gTupN, gSub, tOp, rI, rI0, rU, tTest, rNe, rEq, rIxTN, rIxLN, rLenL, rLenT, rIntI, rIntB, rAbs, rSetLN, tTruL, tRaiseX, rIsTy, rIsOw, ixN0, ixN1, tRet, tIf, tIfS, tNext, tBreak, tCont, tDrop, tTupN, tLstN, tUn, tCB, tCall, tNot, tAnd, tOr, tB, tAndV, tOrV, tNotV, tChain, tApp, LamX.tLam, tRevLN, rCatN, rInTN, rInLN, flatV, inV, List.all_cons, List.all_nil, List.any_cons, List.any_nil, Bool.and_self, Bool.and_true, if_true, Bool.false_eq_true, if_false, tMt, tFldN, tSto, HO.ins.injEq, lkh, List.drop_zero, List.drop_succ_cons, List.drop_nil, rListS, wipe, L2.start, List.map_cons, List.map_nil, List.length_cons, List.length_nil, List.replicate, List.cons_append, List.nil_append, List.append_nil, Nat.reduceAdd, Nat.reduceSub, Nat.zero_add, List.replicate_succ, List.replicate_zero, List.getElem?_cons_zero, List.getElem?_cons_succ, List.set_cons_zero, List.set_cons_succ, Option.some.injEq, V.int.injEq, V.bl.injEq, V.ref.injEq, V.str.injEq, V.ty.injEq, List.cons.injEq, HO.tup.injEq, HO.lst.injEq, and_true, true_and, and_assoc, exists_eq_left, exists_eq_left', exists_and_left, exists_eq', atI0, atI1, atI2, atI3, Int.cast_ofNat_Int, Int.reduceToNat, scal_ii, scal_in, scal_ni, scal_nn, scal_bb, scal_ss, scal_sn, scal_ns, scal_bn, scal_nb, ite_iff, decide_eq_true_eq, decide_eq_false_iff_not, Bool.not_eq_true', Classical.not_not, ne_eq, not_false_eq_true, not_true_eq_false, forall_const, true_implies, false_implies, imp_self, sizeLine_eq, Nat.reduceLeDiff, reduceCtorEq, decide_true, decide_false]
        exact ⟨fun c => yes _ _ (some l) n _ rfl rfl (by simp [cutQ, okS, ov, c]), fun c => no _ (by simp [cutQ, okS, ov]; omega)⟩
      | some h =>
        simp only [hb', exists_and_left, ov, cx_K, Value.ref.injEq, HO.xd.injEq, lk0, tSeq, tPar3, tPar, tCons, tNil, tVar, tC, tAsg, gName, gCons, gNil, gTupN, gSub, tOp, rI, rI0, rU, tTest, rNe, rEq, rIxTN, rIxLN, rLenL, rLenT, rIntI, rIntB, rAbs, rSetLN, tTruL, tRaiseX, rIsTy, rIsOw, ixN0, ixN1, tRet, tIf, tIfS, tNext, tBreak, tCont, tDrop, tTupN, tLstN, tUn, tCB, tCall, tNot, tAnd, tOr, tB, tAndV, tOrV, tNotV, tChain, tApp, LamX.tLam, tRevLN, rCatN, rInTN, rInLN, flatV, inV, List.all_cons, List.all_nil, List.any_cons, List.any_nil, Bool.and_self, Bool.and_true, if_true, Bool.false_eq_true, if_false, tMt, tFldN, tSto, HO.ins.injEq, lkh, List.drop_zero, List.drop_succ_cons, List.drop_nil, rListS, wipe, L2.start, List.map_cons, List.map_nil, List.length_cons, List.length_nil, List.replicate, List.cons_append, List.nil_append, List.append_nil, Nat.reduceAdd, Nat.reduceSub, Nat.zero_add, List.replicate_succ, List.replicate_zero, List.getElem?_cons_zero, List.getElem?_cons_succ, List.set_cons_zero, List.set_cons_succ, Option.some.injEq, V.int.injEq, V.bl.injEq, V.ref.injEq, V.str.injEq, V.ty.injEq, List.cons.injEq, HO.tup.injEq, HO.lst.injEq, and_true, true_and, and_assoc, exists_eq_left, exists_eq_left', exists_and_left, exists_eq', atI0, atI1, atI2, atI3, Int.cast_ofNat_Int, Int.reduceToNat, scal_ii, scal_in, scal_ni, scal_nn, scal_bb, scal_ss, scal_sn, scal_ns, scal_bn, scal_nb, ite_iff, decide_eq_true_eq, decide_eq_false_iff_not, Bool.not_eq_true', Classical.not_not, ne_eq, not_false_eq_true, not_true_eq_false, forall_const, true_implies, false_implies, imp_self, sizeLine_eq, Nat.reduceLeDiff, reduceCtorEq, decide_true, decide_false]
        refine ⟨fun c => ⟨fun c2 => yes _ _ (some l) n _ rfl rfl (by simp [cutQ, okS, ov, c, c2]), fun c2 => no _ (by simp [cutQ, okS, ov, c]; omega)⟩, fun c => ⟨fun c2 => yes _ _ (some l) h _ rfl rfl ?_, fun c2 => no _ ?_⟩⟩
        · have e : ¬ n < h := c
          simp [cutQ, okS, ov, c2]; omega
        · have e : ¬ n < h := c
          simp [cutQ, okS, ov, e]; omega
  · rintro _ H' ⟨t, u, v, rfl, st, ys, hys, hpa⟩
    rw [hp.length, List.take_length] at hpa
    simp only [exists_and_left, cx_K, Value.ref.injEq, HO.xd.injEq, lk0, tSeq, tPar3, tPar, tCons, tNil, tVar, tC, tAsg, gName, gCons, gNil, gTupN, gSub, tOp, rI, rI0, rU, tTest, rNe, rEq, rIxTN, rIxLN, rLenL, rLenT, rIntI, rIntB, rAbs, rSetLN, tTruL, tRaiseX, rIsTy, rIsOw, ixN0, ixN1, tRet, tIf, tIfS, tNext, tBreak, tCont, tDrop, tTupN, tLstN, tUn, tCB, tCall, tNot, tAnd, tOr, tB, tAndV, tOrV, tNotV, tChain, tApp, LamX.tLam, tRevLN, rCatN, rInTN, rInLN, flatV, inV, List.all_cons, List.all_nil, List.any_cons, List.any_nil, Bool.and_self, Bool.and_true, if_true, Bool.false_eq_true, if_false, tMt, tFldN, tSto, HO.ins.injEq, lkh, List.drop_zero, List.drop_succ_cons, List.drop_nil, rListS, wipe, L2.start, List.map_cons, List.map_nil, List.length_cons, List.length_nil, List.replicate, List.cons_append, List.nil_append, List.append_nil, Nat.reduceAdd, Nat.reduceSub, Nat.zero_add, List.replicate_succ, List.replicate_zero, List.getElem?_cons_zero, List.getElem?_cons_succ, List.set_cons_zero, List.set_cons_succ, Option.some.injEq, V.int.injEq, V.bl.injEq, V.ref.injEq, V.str.injEq, V.ty.injEq, List.cons.injEq, HO.tup.injEq, HO.lst.injEq, and_true, true_and, and_assoc, exists_eq_left, exists_eq_left', exists_and_left, exists_eq', atI0, atI1, atI2, atI3, Int.cast_ofNat_Int, Int.reduceToNat, scal_ii, scal_in, scal_ni, scal_nn, scal_bb, scal_ss, scal_sn, scal_ns, scal_bn, scal_nb, ite_iff, decide_eq_true_eq, decide_eq_false_iff_not, Bool.not_eq_true', Classical.not_not, ne_eq, not_false_eq_true, not_true_eq_false, forall_const, true_implies, false_implies, imp_self, sizeLine_eq, Nat.reduceLeDiff, reduceCtorEq, decide_true, decide_false]
    exact k D H' (fun b o h => st b o h) ⟨ys, hys, hpa⟩

end
end Iz
/-! k02_f -/
set_option Elab.async false
set_option linter.all false
set_option maxRecDepth 100000
set_option maxHeartbeats 4000000
namespace Iz
open PySem PySem.Spec PyProof.Rows L2
open He (ga)
local macro_rules | `(tactic| walk_at "wp") => `(tactic| simp only [cx_K, Value.ref.injEq, HO.xd.injEq, lk0, tSeq, tPar3, tPar, tCons, tNil, tVar, tC, tAsg, gName, gCons, gNil, gTupN, gSub, tOp, rI, rI0, rU, tTest, rNe, rEq, rIxTN, rIxLN, rLenL, rLenT, rIntI, rIntB, rAbs, rSetLN, tTruL, tRaiseX, rIsTy, rIsOw, ixN0, ixN1, tRet, tIf, tIfS, tNext, tBreak, tCont, tDrop, tTupN, tLstN, tUn, tCB, tCall, tNot, tAnd, tOr, tB, tAndV, tOrV, tNotV, tChain, tApp, LamX.tLam, tRevLN, rCatN, rInTN, rInLN, flatV, inV, List.all_cons, List.all_nil, List.any_cons, List.any_nil, Bool.and_self, Bool.and_true, if_true, Bool.false_eq_true, if_false, tMt, tFldN, tSto, HO.ins.injEq, lkh, List.drop_zero, List.drop_succ_cons, List.drop_nil, rListS, wipe, L2.start, List.map_cons, List.map_nil, List.length_cons, List.length_nil, List.replicate, List.cons_append, List.nil_append, List.append_nil, Nat.reduceAdd, Nat.reduceSub, Nat.zero_add, List.replicate_succ, List.replicate_zero, List.getElem?_cons_zero, List.getElem?_cons_succ, List.set_cons_zero, List.set_cons_succ, Option.some.injEq, V.int.injEq, V.bl.injEq, V.ref.injEq, V.str.injEq, V.ty.injEq, List.cons.injEq, HO.tup.injEq, HO.lst.injEq, and_true, true_and, and_assoc, exists_eq_left, exists_eq_left', exists_and_left, exists_eq', atI0, atI1, atI2, atI3, Int.cast_ofNat_Int, Int.reduceToNat, scal_ii, scal_in, scal_ni, scal_nn, scal_bb, scal_ss, scal_sn, scal_ns, scal_bn, scal_nb, ite_iff, decide_eq_true_eq, decide_eq_false_iff_not, Bool.not_eq_true', Classical.not_not, ne_eq, not_false_eq_true, not_true_eq_false, forall_const, true_implies, false_implies, imp_self, sizeLine_eq, Nat.reduceLeDiff, reduceCtorEq, decide_true, decide_false])
section
variable {P : Program} {w : World} {K : PySem.W.Frag} {mg : Str → Option Value} {base : Heap}
/-- a list of ints -/
def IntsAt (H : Hp) (a : Addr) (ns : List Int) : Prop := H a = some (.lst (ns.map V.int))
theorem op_pow40 : (10 : Int) ^ (40 : Int).toNat = 10000000000000000000000000000000000000000 := rfl
def spPts : Sp := fun vs H Q _ => ∃ a ps, vs = [.ref a] ∧ PairsAt H a ps ∧ ps.length < 1000 ∧ ∀ b ns H', Same H H' → IntsAt H' b ns → Q (.ref b) H'
theorem o__law_points (T : Txt K mg) : OkF P w K mg base CX0 1 "_law_points" ["_law_pairs"] spPts := by
  obtain ⟨f, fd, g, F⟩ := T.d__law_points
  refine ⟨f, fd, g, F.kp, F.binds (fun _ _ _ _ _ _ us hl => match us, hl with | [_], _ => rfl), F.ok sc__law_points (fun vs H Q E h => ?_) (fun cdv A outer s H vs Q E hr h => ?_)⟩
  · first | (obtain ⟨_, rfl, _⟩ := h; rfl) | (obtain ⟨_, _, rfl, _⟩ := h; rfl) | (obtain ⟨_, _, _, rfl, _⟩ := h; rfl) | (obtain ⟨_, _, _, _, rfl, _⟩ := h; rfl) | (obtain ⟨_, _, _, _, _, rfl, _⟩ := h; rfl) | (obtain ⟨_, _, _, _, _, _, rfl, _⟩ := h; rfl) | (obtain ⟨_, _, _, _, _, _, _, rfl, _⟩ := h; rfl)
  have hu64 := hr.units
  refine ⟨_, pss_cons (ps_set (i := 1) sc__law_points.nd rfl (Or.inl rfl) (pe_lstN (pa_cons (pe_un un_neg (pe_op op_pow (pe_int) (pe_int))) (pa_cons (pe_un un_neg (pe_int)) (pa_cons (pe_int) (pa_cons (pe_int) (pa_cons (pe_op op_pow (pe_int) (pe_int)) pa_nil)))))))
      (pss_cons (ps_for PassesOwn.never rfl (pi_list (pv 0)) (pg_tupN (n := 2) (by rfl) (pgs_cons (pg_name (i := 2) sc__law_points.nd rfl (Or.inl rfl)) (pgs_cons (pg_name (i := 3) sc__law_points.nd rfl (Or.inl rfl)) pgs_nil))) (pss_one (ps_for PassesOwn.never rfl (pi_tup (pe_tupN (pa_cons (pv 2) (pa_cons (pv 3) pa_nil)))) (pg_name (i := 4) sc__law_points.nd rfl (Or.inl rfl)) (pss_one (ps_if (pt_cmpR op_notN (pv 4) (pe_non) (nomark _)) (pss_one (ps_set (i := 1) sc__law_points.nd rfl (Or.inl rfl) (pe_op op_catN (pv 1) (pe_lstN (pa_cons (pe_op op_sub (pv 4) (pe_int)) (pa_cons (pe_op op_sub (pv 4) (pe_int)) (pa_cons (pv 4) (pa_cons (pe_op op_add (pv 4) (pe_int)) (pa_cons (pe_op op_add (pv 4) (pe_int)) pa_nil))))))))) (pss_nil))))))
      (pss_one (ps_ret (pv 1)))), ?_⟩
  obtain ⟨a, ps, rfl, ⟨xs, hx, hp⟩, hlen, k⟩ := h
  simp only [exists_and_left, op_pow40, cx_K, Value.ref.injEq, HO.xd.injEq, lk0, tSeq, tPar3, tPar, tCons, tNil, tVar, tC, tAsg, gName, gCons, gNil, gTupN, gSub, tOp, rI, rI0, rU, tTest, rNe, rEq, rIxTN, rIxLN, rLenL, rLenT, rIntI, rIntB, rAbs, rSetLN, tTruL, tRaiseX, rIsTy, rIsOw, ixN0, ixN1, tRet, tIf, tIfS, tNext, tBreak, tCont, tDrop, tTupN, tLstN, tUn, tCB, tCall, tNot, tAnd, tOr, tB, tAndV, tOrV, tNotV, tChain, tApp, LamX.tLam, tRevLN, rCatN, rInTN, rInLN, flatV, inV, List.all_cons, List.all_nil, List.any_cons, List.any_nil, Bool.and_self, Bool.and_true, if_true, Bool.false_eq_true, if_false, tMt, tFldN, tSto, HO.ins.injEq, lkh, List.drop_zero, List.drop_succ_cons, List.drop_nil, rListS, wipe, L2.start, List.map_cons, List.map_nil, List.length_cons, List.length_nil, List.replicate, List.cons_append, List.nil_append, List.append_nil, Nat.reduceAdd, Nat.reduceSub, Nat.zero_add, List.replicate_succ, List.replicate_zero, List.getElem?_cons_zero, List.getElem?_cons_succ, List.set_cons_zero, List.set_cons_succ, Option.some.injEq, V.int.injEq, V.bl.injEq, V.ref.injEq, V.str.injEq, V.ty.injEq, List.cons.injEq, HO.tup.injEq, HO.lst.injEq, and_true, true_and, and_assoc, exists_eq_left, exists_eq_left', exists_and_left, exists_eq', atI0, atI1, atI2, atI3, Int.cast_ofNat_Int, Int.reduceToNat, scal_ii, scal_in, scal_ni, scal_nn, scal_bb, scal_ss, scal_sn, scal_ns, scal_bn, scal_nb, ite_iff, decide_eq_true_eq, decide_eq_false_iff_not, Bool.not_eq_true', Classical.not_not, ne_eq, not_false_eq_true, not_true_eq_false, forall_const, true_implies, false_implies, imp_self, sizeLine_eq, Nat.reduceLeDiff, reduceCtorEq, decide_true, decide_false]
  refine ⟨⟨by decide, by decide, by decide⟩, ⟨by decide, by decide, by decide⟩, ?_⟩
  intro D H2 hD s2 h2
  have hp2 := hp.mono s2
  refine st_forL (a := a) (fun R r' => ⟨_, rfl, r'⟩) (s2 _ _ hx) (fun i σ' H' => ∃ D ns t u v, σ' = [some (.ref a), some (.ref D), t, u, v] ∧ Same H H' ∧ IntsAt H' D ns ∧ ns.length ≤ 5 + 10 * i) ?_ (fun i σ' H' q => ?_) ?_ ?_
  · exact ⟨D, [-10000000000000000000000000000000000000000, -1, 0, 1, 10000000000000000000000000000000000000000], none, none, none, rfl, s2, h2, by decide⟩
  · obtain ⟨D, ns, t, u, v, rfl, s, q⟩ := q
    exact s _ _ hx
  · rintro i x _ H' hi ⟨D, ns, t, u, v, rfl, st, hD, hl⟩
    obtain ⟨b, q, rfl, hq, hb⟩ := hp.get hi
    have hb' := st _ _ hb
    obtain ⟨lo, hi'⟩ := q
    simp only [hb', exists_and_left, cx_K, Value.ref.injEq, HO.xd.injEq, lk0, tSeq, tPar3, tPar, tCons, tNil, tVar, tC, tAsg, gName, gCons, gNil, gTupN, gSub, tOp, rI, rI0, rU, tTest, rNe, rEq, rIxTN, rIxLN, rLenL, rLenT, rIntI, rIntB, rAbs, rSetLN, tTruL, tRaiseX, rIsTy, rIsOw, ixN0, ixN1, tRet, tIf, tIfS, tNext, tBreak, tCont, tDrop, tTupN, tLstN, tUn, tCB, tCall, tNot, tAnd, tOr, tB, tAndV, tOrV, tNotV, tChain, tApp, LamX.tLam, tRevLN, rCatN, rInTN, rInLN, flatV, inV, List.all_cons, List.all_nil, List.any_cons, List.any_nil, Bool.and_self, Bool.and_true, if_true, Bool.false_eq_true, if_false, tMt, tFldN, tSto, HO.ins.injEq, lkh, List.drop_zero, List.drop_succ_cons, List.drop_nil, rListS, wipe, L2.start, List.map_cons, List.map_nil, List.length_cons, List.length_nil, List.replicate, List.cons_append, List.nil_append, List.append_nil, Nat.reduceAdd, Nat.reduceSub, Nat.zero_add, List.replicate_succ, List.replicate_zero, List.getElem?_cons_zero, List.getElem?_cons_succ, List.set_cons_zero, List.set_cons_succ, Option.some.injEq, V.int.injEq, V.bl.injEq, V.ref.injEq, V.str.injEq, V.ty.injEq, List.cons.injEq, HO.tup.injEq, HO.lst.injEq, and_true, true_and, and_assoc, exists_eq_left, exists_eq_left', exists_and_left, exists_eq', atI0, atI1, atI2, atI3, Int.cast_ofNat_Int, Int.reduceToNat, scal_ii, scal_in, scal_ni, scal_nn, scal_bb, scal_ss, scal_sn, scal_ns, scal_bn, scal_nb, ite_iff, decide_eq_true_eq, decide_eq_false_iff_not, Bool.not_eq_true', Classical.not_not, ne_eq, not_false_eq_true, not_true_eq_false, forall_const, true_implies, false_implies, imp_self, sizeLine_eq, Nat.reduceLeDiff, reduceCtorEq, decide_true, decide_false]
    have hi2 := (List.getElem?_eq_some_iff.mp hq).1
    refine ⟨_, rfl, _, rfl, by rw [sizeLine_eq]; simp, fun T H3 hT s3 h3 => ⟨T, rfl, ⟨_, SqT.of h3⟩, for_tup (xs := [ov lo, ov hi']) (fun j σ' H' => ∃ D ns t u v, σ' = [some (.ref a), some (.ref D), t, u, v] ∧ Same H3 H' ∧ IntsAt H' D ns ∧ ns.length ≤ 5 + 10 * i + 5 * j) ?_ (fun j σ' H' _ q => ?_) ?_ ?_⟩⟩
    · exact ⟨D, ns, _, _, v, rfl, fun _ _ h => h, s3 _ _ hD, by omega⟩
    · obtain ⟨D, ns, t, u, v, rfl, s, q⟩ := q
      exact SqT.of (s _ _ h3)
    · rintro j x _ H4 hj ⟨D, ns, t, u, v, rfl, s4, hD, hl⟩
      have hj2 := (List.getElem?_eq_some_iff.mp hj).1
      have hj3 : j < 2 := hj2
      have hxo : ∃ o : Option Int, x = ov o := by
        have := List.mem_of_getElem? hj
        simp only [List.mem_cons, List.not_mem_nil, or_false] at this
        rcases this with rfl | rfl <;> exact ⟨_, rfl⟩
      obtain ⟨o, rfl⟩ := hxo
      cases o with
      | none =>
        simp only [exists_and_left, ov, cx_K, Value.ref.injEq, HO.xd.injEq, lk0, tSeq, tPar3, tPar, tCons, tNil, tVar, tC, tAsg, gName, gCons, gNil, gTupN, gSub, tOp, rI, rI0, rU, tTest, rNe, rEq, rIxTN, rIxLN, rLenL, rLenT, rIntI, rIntB, rAbs, rSetLN, tTruL, tRaiseX, rIsTy, rIsOw, ixN0, ixN1, tRet, tIf, tIfS, tNext, tBreak, tCont, tDrop, tTupN, tLstN, tUn, tCB, tCall, tNot, tAnd, tOr, tB, tAndV, tOrV, tNotV, tChain, tApp, LamX.tLam, tRevLN, rCatN, rInTN, rInLN, flatV, inV, List.all_cons, List.all_nil, List.any_cons, List.any_nil, Bool.and_self, Bool.and_true, if_true, Bool.false_eq_true, if_false, tMt, tFldN, tSto, HO.ins.injEq, lkh, List.drop_zero, List.drop_succ_cons, List.drop_nil, rListS, wipe, L2.start, List.map_cons, List.map_nil, List.length_cons, List.length_nil, List.replicate, List.cons_append, List.nil_append, List.append_nil, Nat.reduceAdd, Nat.reduceSub, Nat.zero_add, List.replicate_succ, List.replicate_zero, List.getElem?_cons_zero, List.getElem?_cons_succ, List.set_cons_zero, List.set_cons_succ, Option.some.injEq, V.int.injEq, V.bl.injEq, V.ref.injEq, V.str.injEq, V.ty.injEq, List.cons.injEq, HO.tup.injEq, HO.lst.injEq, and_true, true_and, and_assoc, exists_eq_left, exists_eq_left', exists_and_left, exists_eq', atI0, atI1, atI2, atI3, Int.cast_ofNat_Int, Int.reduceToNat, scal_ii, scal_in, scal_ni, scal_nn, scal_bb, scal_ss, scal_sn, scal_ns, scal_bn, scal_nb, ite_iff, decide_eq_true_eq, decide_eq_false_iff_not, Bool.not_eq_true', Classical.not_not, ne_eq, not_false_eq_true, not_true_eq_false, forall_const, true_implies, false_implies, imp_self, sizeLine_eq, Nat.reduceLeDiff, reduceCtorEq, decide_true, decide_false]
        exact ⟨s4, ns, hD, by omega⟩
      | some e =>
        simp only [exists_and_left, ov, cx_K, Value.ref.injEq, HO.xd.injEq, lk0, tSeq, tPar3, tPar, tCons, tNil, tVar, tC, tAsg, gName, gCons, gNil, gTupN, gSub, tOp, rI, rI0, rU, tTest, rNe, rEq, rIxTN, rIxLN, rLenL, rLenT, rIntI, rIntB, rAbs, rSetLN, tTruL, tRaiseX, rIsTy, rIsOw, ixN0, ixN1, tRet, tIf, tIfS, tNext, tBreak, tCont, tDrop, tTupN, tLstN, tUn, tCB, tCall, tNot, tAnd, tOr, tB, tAndV, tOrV, tNotV, tChain, tApp, LamX.tLam, tRevLN, rCatN, rInTN, rInLN, flatV, inV, List.all_cons, List.all_nil, List.any_cons, List.any_nil, Bool.and_self, Bool.and_true, if_true, Bool.false_eq_true, if_false, tMt, tFldN, tSto, HO.ins.injEq, lkh, List.drop_zero, List.drop_succ_cons, List.drop_nil, rListS, wipe, L2.start, List.map_cons, List.map_nil, List.length_cons, List.length_nil, List.replicate, List.cons_append, List.nil_append, List.append_nil, Nat.reduceAdd, Nat.reduceSub, Nat.zero_add, List.replicate_succ, List.replicate_zero, List.getElem?_cons_zero, List.getElem?_cons_succ, List.set_cons_zero, List.set_cons_succ, Option.some.injEq, V.int.injEq, V.bl.injEq, V.ref.injEq, V.str.injEq, V.ty.injEq, List.cons.injEq, HO.tup.injEq, HO.lst.injEq, and_true, true_and, and_assoc, exists_eq_left, exists_eq_left', exists_and_left, exists_eq', atI0, atI1, atI2, atI3, Int.cast_ofNat_Int, Int.reduceToNat, scal_ii, scal_in, scal_ni, scal_nn, scal_bb, scal_ss, scal_sn, scal_ns, scal_bn, scal_nb, ite_iff, decide_eq_true_eq, decide_eq_false_iff_not, Bool.not_eq_true', Classical.not_not, ne_eq, not_false_eq_true, not_true_eq_false, forall_const, true_implies, false_implies, imp_self, sizeLine_eq, Nat.reduceLeDiff, reduceCtorEq, decide_true, decide_false]
        refine fun D2 H5 hD2 s5 h5 => ⟨D2, rfl, _, s5 _ _ hD, _, h5, ?_, fun D3 H6 hD3 s6 h6 => ⟨D3, rfl, (s4.trans s5).trans s6, ns ++ [e - 2, e - 1, e, e + 1, e + 3], by unfold IntsAt; rw [h6]; simp, by simp; omega⟩⟩
        simp; omega
    · rintro _ H4 ⟨D, ns, t, u, v, rfl, s4, hD, hl⟩
      exact ⟨D, ns, t, u, v, rfl, (st.trans s3).trans s4, hD, by simp at hl; omega⟩
  · rintro _ H' ⟨D, ns, t, u, v, rfl, st, hD, hl⟩
    simp only [exists_and_left, cx_K, Value.ref.injEq, HO.xd.injEq, lk0, tSeq, tPar3, tPar, tCons, tNil, tVar, tC, tAsg, gName, gCons, gNil, gTupN, gSub, tOp, rI, rI0, rU, tTest, rNe, rEq, rIxTN, rIxLN, rLenL, rLenT, rIntI, rIntB, rAbs, rSetLN, tTruL, tRaiseX, rIsTy, rIsOw, ixN0, ixN1, tRet, tIf, tIfS, tNext, tBreak, tCont, tDrop, tTupN, tLstN, tUn, tCB, tCall, tNot, tAnd, tOr, tB, tAndV, tOrV, tNotV, tChain, tApp, LamX.tLam, tRevLN, rCatN, rInTN, rInLN, flatV, inV, List.all_cons, List.all_nil, List.any_cons, List.any_nil, Bool.and_self, Bool.and_true, if_true, Bool.false_eq_true, if_false, tMt, tFldN, tSto, HO.ins.injEq, lkh, List.drop_zero, List.drop_succ_cons, List.drop_nil, rListS, wipe, L2.start, List.map_cons, List.map_nil, List.length_cons, List.length_nil, List.replicate, List.cons_append, List.nil_append, List.append_nil, Nat.reduceAdd, Nat.reduceSub, Nat.zero_add, List.replicate_succ, List.replicate_zero, List.getElem?_cons_zero, List.getElem?_cons_succ, List.set_cons_zero, List.set_cons_succ, Option.some.injEq, V.int.injEq, V.bl.injEq, V.ref.injEq, V.str.injEq, V.ty.injEq, List.cons.injEq, HO.tup.injEq, HO.lst.injEq, and_true, true_and, and_assoc, exists_eq_left, exists_eq_left', exists_and_left, exists_eq', atI0, atI1, atI2, atI3, Int.cast_ofNat_Int, Int.reduceToNat, scal_ii, scal_in, scal_ni, scal_nn, scal_bb, scal_ss, scal_sn, scal_ns, scal_bn, scal_nb, ite_iff, decide_eq_true_eq, decide_eq_false_iff_not, Bool.not_eq_true', Classical.not_not, ne_eq, not_false_eq_true, not_true_eq_false, forall_const, true_implies, false_implies, imp_self, sizeLine_eq, Nat.reduceLeDiff, reduceCtorEq, decide_true, decide_false]
    exact k D ns H' st hD
/-- the members of a small stretch -/
def memB (l h r p : Int) : List Int := (intsB l h).filter fun n => decide ((n - r) % p = 0)
def spMem : Sp := fun vs H Q _ => ∃ l h r p, vs = [.int l, .int h, .int r, .int p] ∧ h - l ≤ 1000 ∧ 1 ≤ p ∧ ∀ b H', Same H H' → IntsAt H' b (memB l h r p) → Q (.ref b) H'
theorem o__law_members (T : Txt K mg) : OkF P w K mg base CX0 1 "_law_members" ["_law_low", "_law_high", "_law_r", "_law_p"] spMem := by
  obtain ⟨f, fd, g, F⟩ := T.d__law_members
  refine ⟨f, fd, g, F.kp, F.binds (fun _ _ _ _ _ _ us hl => match us, hl with | [_, _, _, _], _ => rfl), F.ok sc__law_members (fun vs H Q E h => ?_) (fun cdv A outer s H vs Q E hr h => ?_)⟩
  · first | (obtain ⟨_, rfl, _⟩ := h; rfl) | (obtain ⟨_, _, rfl, _⟩ := h; rfl) | (obtain ⟨_, _, _, rfl, _⟩ := h; rfl) | (obtain ⟨_, _, _, _, rfl, _⟩ := h; rfl) | (obtain ⟨_, _, _, _, _, rfl, _⟩ := h; rfl) | (obtain ⟨_, _, _, _, _, _, rfl, _⟩ := h; rfl) | (obtain ⟨_, _, _, _, _, _, _, rfl, _⟩ := h; rfl)
  have hu64 := hr.units
  refine ⟨_, pss_one (ps_ret (pe_lc (own := [("_law_number_here", 4)]) (g := gName 4) (by rfl) sc__law_members.nd (pi_rangeL (by rfl) T.m_range (pa_cons (pv 0) (pa_cons (pv 1) pa_nil))) (blkOk_by (N := ["_law_low", "_law_high", "_law_r", "_law_p", "_law_number_here"]) (sc := defScope s__law_members) (own := [("_law_number_here", 4)]) (by decide +kernel)) (fun _ _ _ _ _ => pg_name (i := 4) sc__law_members.nd rfl (Or.inl rfl)) (fun _ _ _ _ _ => pts_one (pt_cmpR op_eq (pe_op op_mod (pe_callTy call_intI (by rfl) T.m_int (by decide +kernel) (pa_cons (pe_op op_sub (pv 4) (pv 2)) pa_nil)) (pv 3)) (pe_int) (nomark _))) (fun _ _ _ _ _ => pv 4))), ?_⟩
  obtain ⟨l, h, r, p, rfl, hs, p1, k⟩ := h
  simp only [exists_and_left, cx_K, Value.ref.injEq, HO.xd.injEq, lk0, tSeq, tPar3, tPar, tCons, tNil, tVar, tC, tAsg, gName, gCons, gNil, gTupN, gSub, tOp, rI, rI0, rU, tTest, rNe, rEq, rIxTN, rIxLN, rLenL, rLenT, rIntI, rIntB, rAbs, rSetLN, tTruL, tRaiseX, rIsTy, rIsOw, ixN0, ixN1, tRet, tIf, tIfS, tNext, tBreak, tCont, tDrop, tTupN, tLstN, tUn, tCB, tCall, tNot, tAnd, tOr, tB, tAndV, tOrV, tNotV, tChain, tApp, LamX.tLam, tRevLN, rCatN, rInTN, rInLN, flatV, inV, List.all_cons, List.all_nil, List.any_cons, List.any_nil, Bool.and_self, Bool.and_true, if_true, Bool.false_eq_true, if_false, tMt, tFldN, tSto, HO.ins.injEq, lkh, List.drop_zero, List.drop_succ_cons, List.drop_nil, rListS, wipe, L2.start, List.map_cons, List.map_nil, List.length_cons, List.length_nil, List.replicate, List.cons_append, List.nil_append, List.append_nil, Nat.reduceAdd, Nat.reduceSub, Nat.zero_add, List.replicate_succ, List.replicate_zero, List.getElem?_cons_zero, List.getElem?_cons_succ, List.set_cons_zero, List.set_cons_succ, Option.some.injEq, V.int.injEq, V.bl.injEq, V.ref.injEq, V.str.injEq, V.ty.injEq, List.cons.injEq, HO.tup.injEq, HO.lst.injEq, and_true, true_and, and_assoc, exists_eq_left, exists_eq_left', exists_and_left, exists_eq', atI0, atI1, atI2, atI3, Int.cast_ofNat_Int, Int.reduceToNat, scal_ii, scal_in, scal_ni, scal_nn, scal_bb, scal_ss, scal_sn, scal_ns, scal_bn, scal_nb, ite_iff, decide_eq_true_eq, decide_eq_false_iff_not, Bool.not_eq_true', Classical.not_not, ne_eq, not_false_eq_true, not_true_eq_false, forall_const, true_implies, false_implies, imp_self, sizeLine_eq, Nat.reduceLeDiff, reduceCtorEq, decide_true, decide_false]
  refine st_lcRF l h (fun R r => ⟨_, rfl, _, rfl, r⟩) (by rw [sizeLine_eq]; omega) (fun n => decide ((n - r) % p = 0)) (fun n => .int n) (fun x H' A B h1 h2 s hA hB => ?_) (fun D H' hD s h' => k D H' s h')
  simp only [exists_and_left, cx_K, Value.ref.injEq, HO.xd.injEq, lk0, tSeq, tPar3, tPar, tCons, tNil, tVar, tC, tAsg, gName, gCons, gNil, gTupN, gSub, tOp, rI, rI0, rU, tTest, rNe, rEq, rIxTN, rIxLN, rLenL, rLenT, rIntI, rIntB, rAbs, rSetLN, tTruL, tRaiseX, rIsTy, rIsOw, ixN0, ixN1, tRet, tIf, tIfS, tNext, tBreak, tCont, tDrop, tTupN, tLstN, tUn, tCB, tCall, tNot, tAnd, tOr, tB, tAndV, tOrV, tNotV, tChain, tApp, LamX.tLam, tRevLN, rCatN, rInTN, rInLN, flatV, inV, List.all_cons, List.all_nil, List.any_cons, List.any_nil, Bool.and_self, Bool.and_true, if_true, Bool.false_eq_true, if_false, tMt, tFldN, tSto, HO.ins.injEq, lkh, List.drop_zero, List.drop_succ_cons, List.drop_nil, rListS, wipe, L2.start, List.map_cons, List.map_nil, List.length_cons, List.length_nil, List.replicate, List.cons_append, List.nil_append, List.append_nil, Nat.reduceAdd, Nat.reduceSub, Nat.zero_add, List.replicate_succ, List.replicate_zero, List.getElem?_cons_zero, List.getElem?_cons_succ, List.set_cons_zero, List.set_cons_succ, Option.some.injEq, V.int.injEq, V.bl.injEq, V.ref.injEq, V.str.injEq, V.ty.injEq, List.cons.injEq, HO.tup.injEq, HO.lst.injEq, and_true, true_and, and_assoc, exists_eq_left, exists_eq_left', exists_and_left, exists_eq', atI0, atI1, atI2, atI3, Int.cast_ofNat_Int, Int.reduceToNat, scal_ii, scal_in, scal_ni, scal_nn, scal_bb, scal_ss, scal_sn, scal_ns, scal_bn, scal_nb, ite_iff, decide_eq_true_eq, decide_eq_false_iff_not, Bool.not_eq_true', Classical.not_not, ne_eq, not_false_eq_true, not_true_eq_false, forall_const, true_implies, false_implies, imp_self, sizeLine_eq, Nat.reduceLeDiff, reduceCtorEq, decide_true, decide_false]
  exact ⟨by omega, fun e => hB (by simpa using e) H' (fun _ _ h => h), fun e => hA (by simpa using e) H' (fun _ _ h => h)⟩

end
end Iz
/-! k02_g -/
set_option Elab.async false
set_option linter.all false
set_option maxRecDepth 100000
set_option maxHeartbeats 4000000
namespace Iz
open PySem PySem.Spec PyProof.Rows L2
open He (ga)
local macro_rules | `(tactic| walk_at "wp") => `(tactic| simp only [cx_K, Value.ref.injEq, HO.xd.injEq, lk0, tSeq, tPar3, tPar, tCons, tNil, tVar, tC, tAsg, gName, gCons, gNil, gTupN, gSub, tOp, rI, rI0, rU, tTest, rNe, rEq, rIxTN, rIxLN, rLenL, rLenT, rIntI, rIntB, rAbs, rSetLN, tTruL, tRaiseX, rIsTy, rIsOw, ixN0, ixN1, tRet, tIf, tIfS, tNext, tBreak, tCont, tDrop, tTupN, tLstN, tUn, tCB, tCall, tNot, tAnd, tOr, tB, tAndV, tOrV, tNotV, tChain, tApp, LamX.tLam, tRevLN, rCatN, rInTN, rInLN, flatV, inV, List.all_cons, List.all_nil, List.any_cons, List.any_nil, Bool.and_self, Bool.and_true, if_true, Bool.false_eq_true, if_false, tMt, tFldN, tSto, HO.ins.injEq, lkh, List.drop_zero, List.drop_succ_cons, List.drop_nil, rListS, wipe, L2.start, List.map_cons, List.map_nil, List.length_cons, List.length_nil, List.replicate, List.cons_append, List.nil_append, List.append_nil, Nat.reduceAdd, Nat.reduceSub, Nat.zero_add, List.replicate_succ, List.replicate_zero, List.getElem?_cons_zero, List.getElem?_cons_succ, List.set_cons_zero, List.set_cons_succ, Option.some.injEq, V.int.injEq, V.bl.injEq, V.ref.injEq, V.str.injEq, V.ty.injEq, List.cons.injEq, HO.tup.injEq, HO.lst.injEq, and_true, true_and, and_assoc, exists_eq_left, exists_eq_left', exists_and_left, exists_eq', atI0, atI1, atI2, atI3, Int.cast_ofNat_Int, Int.reduceToNat, scal_ii, scal_in, scal_ni, scal_nn, scal_bb, scal_ss, scal_sn, scal_ns, scal_bn, scal_nb, ite_iff, decide_eq_true_eq, decide_eq_false_iff_not, Bool.not_eq_true', Classical.not_not, ne_eq, not_false_eq_true, not_true_eq_false, forall_const, true_implies, false_implies, imp_self, sizeLine_eq, Nat.reduceLeDiff, reduceCtorEq, decide_true, decide_false])
section
variable {P : Program} {w : World} {K : PySem.W.Frag} {mg : Str → Option Value} {base : Heap}
/-! ### members of a stretch, counted -/
theorem intsB_self {l : Int} : intsB l l = [] := by simp [intsB]
theorem intsB_succ {l h : Int} (e : l ≤ h) : intsB l (h + 1) = intsB l h ++ [h] := by
  unfold intsB
  rw [show (h + 1 - l).toNat = (h - l).toNat + 1 by omega, List.range_succ, List.map_append, List.map_singleton, show l + ((h - l).toNat : Int) = h by omega]
/-- the least from l on -/
def lst1 (l r p : Int) : Int := l + (r - l) % p
/-- how many below h -/
def num1 (m h p : Int) : Nat := ((h - m + p - 1) / p).toNat
theorem lst1_b {l r p : Int} (hp : 1 ≤ p) : l ≤ lst1 l r p ∧ lst1 l r p < l + p := by
  have h1 := Int.emod_nonneg (r - l) (b := p) (by omega)
  have h2 := Int.emod_lt_of_pos (r - l) (b := p) (by omega)
  unfold lst1; omega
theorem lst1_mod {l r p x : Int} : (x - r) % p = (x - lst1 l r p) % p := by
  have e : lst1 l r p = r - p * ((r - l) / p) := by
    have := Int.mul_ediv_add_emod (r - l) p
    unfold lst1; omega
  rw [e, show x - (r - p * ((r - l) / p)) = (x - r) + p * ((r - l) / p) by omega, Int.add_mul_emod_self_left]
theorem div_step {a p : Int} (hp : 1 ≤ p) : (a % p = 0 → (a + p) / p = (a + p - 1) / p + 1 ∧ a = (a + p - 1) / p * p) ∧ (a % p ≠ 0 → (a + p) / p = (a + p - 1) / p) := by
  have h0 := Int.mul_ediv_add_emod a p
  have h1 := Int.emod_nonneg a (b := p) (by omega)
  have h2 := Int.emod_lt_of_pos a (b := p) (by omega)
  have e1 : (a + p) / p = a / p + 1 := Int.add_ediv_of_dvd_right (Int.dvd_refl p) |>.trans (by rw [Int.ediv_self (by omega)])
  generalize a / p = q at *
  generalize a % p = t at *
  constructor
  · intro ht
    subst ht
    have e2 : (a + p - 1) / p = q := by
      rw [show a + p - 1 = (p - 1) + p * q by omega, Int.add_mul_ediv_left _ _ (by omega), Int.ediv_eq_zero_of_lt (by omega) (by omega)]; omega
    rw [e1, e2]
    exact ⟨rfl, by rw [Int.mul_comm]; omega⟩
  · intro ht
    rw [e1, show a + p - 1 = (t - 1) + p * (q + 1) by rw [Int.mul_add]; omega, Int.add_mul_ediv_left _ _ (by omega), Int.ediv_eq_zero_of_lt (by omega) (by omega)]; omega
theorem memB_range {l r p : Int} (hp : 1 ≤ p) (n : Nat) : memB l (l + n) r p = (List.range (num1 (lst1 l r p) (l + n) p)).map fun (k : Nat) => lst1 l r p + k * p := by
  have hb := lst1_b (l := l) (r := r) hp
  induction n with
  | zero =>
    have e : num1 (lst1 l r p) (l + (0 : Nat)) p = 0 := by
      unfold num1
      rw [Int.ediv_eq_zero_of_lt (by omega) (by omega)]; rfl
    rw [e]
    simp [memB, intsB_self]
  | succ n ih =>
    have hl := lst1_mod (l := l) (r := r) (p := p) (x := l + n)
    have st := div_step (a := l + n - lst1 l r p) hp
    have hnn : 0 ≤ (l + n - lst1 l r p + p - 1) / p := Int.ediv_nonneg (by omega) (by omega)
    rw [show l + ((n + 1 : Nat) : Int) = l + n + 1 by omega]
    have e1 : memB l (l + n + 1) r p = memB l (l + n) r p ++ (if (l + n - r) % p = 0 then [l + n] else []) := by
      unfold memB
      rw [intsB_succ (by omega), List.filter_append]
      congr 1
      by_cases h : (l + n - r) % p = 0 <;> simp [h]
    rw [e1, ih, hl]
    have e2 : num1 (lst1 l r p) (l + n + 1) p = ((l + n - lst1 l r p + p) / p).toNat := by unfold num1; congr 2; omega
    rw [e2]
    unfold num1
    by_cases h : (l + n - lst1 l r p) % p = 0
    · have s := st.1 h
      rw [if_pos h, s.1, show ((l + n - lst1 l r p + p - 1) / p + 1).toNat = ((l + n - lst1 l r p + p - 1) / p).toNat + 1 by omega, List.range_succ, List.map_append, List.map_singleton]
      congr 1
      have : (((l + n - lst1 l r p + p - 1) / p).toNat : Int) = (l + n - lst1 l r p + p - 1) / p := by omega
      rw [this]
      congr 1
      omega
    · rw [if_neg h, st.2 h, List.append_nil]
theorem memB_eq {l h r p : Int} (hp : 1 ≤ p) (hl : l ≤ h) : memB l h r p = (List.range (num1 (lst1 l r p) h p)).map fun (k : Nat) => lst1 l r p + k * p := by
  have := memB_range (l := l) (r := r) hp (h - l).toNat
  rw [show l + ((h - l).toNat : Int) = h by omega] at this
  exact this
theorem num1_lt {m h p : Int} (hp : 1 ≤ p) (k : Nat) : k < num1 m h p ↔ m + k * p < h := by
  unfold num1
  have e : (k : Int) < (h - m + p - 1) / p ↔ (k + 1) * p ≤ h - m + p - 1 := by
    rw [show (k : Int) < (h - m + p - 1) / p ↔ (k : Int) + 1 ≤ (h - m + p - 1) / p from Iff.rfl, Int.le_ediv_iff_mul_le (by omega)]
  rw [Int.add_mul] at e
  omega
theorem num1_le {m h p : Int} (hp : 1 ≤ p) (k : Nat) : num1 m h p ≤ k ↔ h ≤ m + k * p := by
  have := num1_lt (m := m) (h := h) hp k
  omega

end
end Iz
/-! k02_i -/
set_option Elab.async false
set_option linter.all false
set_option maxRecDepth 100000
set_option maxHeartbeats 4000000
namespace Iz
open PySem PySem.Spec PyProof.Rows L2
open He (ga)
local macro_rules | `(tactic| walk_at "wp") => `(tactic| simp only [cx_K, Value.ref.injEq, HO.xd.injEq, lk0, tSeq, tPar3, tPar, tCons, tNil, tVar, tC, tAsg, gName, gCons, gNil, gTupN, gSub, tOp, rI, rI0, rU, tTest, rNe, rEq, rIxTN, rIxLN, rLenL, rLenT, rIntI, rIntB, rAbs, rSetLN, tTruL, tRaiseX, rIsTy, rIsOw, ixN0, ixN1, tRet, tIf, tIfS, tNext, tBreak, tCont, tDrop, tTupN, tLstN, tUn, tCB, tCall, tNot, tAnd, tOr, tB, tAndV, tOrV, tNotV, tChain, tApp, LamX.tLam, tRevLN, rCatN, rInTN, rInLN, flatV, inV, List.all_cons, List.all_nil, List.any_cons, List.any_nil, Bool.and_self, Bool.and_true, if_true, Bool.false_eq_true, if_false, tMt, tFldN, tSto, HO.ins.injEq, lkh, List.drop_zero, List.drop_succ_cons, List.drop_nil, rListS, wipe, L2.start, List.map_cons, List.map_nil, List.length_cons, List.length_nil, List.replicate, List.cons_append, List.nil_append, List.append_nil, Nat.reduceAdd, Nat.reduceSub, Nat.zero_add, List.replicate_succ, List.replicate_zero, List.getElem?_cons_zero, List.getElem?_cons_succ, List.set_cons_zero, List.set_cons_succ, Option.some.injEq, V.int.injEq, V.bl.injEq, V.ref.injEq, V.str.injEq, V.ty.injEq, List.cons.injEq, HO.tup.injEq, HO.lst.injEq, and_true, true_and, and_assoc, exists_eq_left, exists_eq_left', exists_and_left, exists_eq', atI0, atI1, atI2, atI3, Int.cast_ofNat_Int, Int.reduceToNat, scal_ii, scal_in, scal_ni, scal_nn, scal_bb, scal_ss, scal_sn, scal_ns, scal_bn, scal_nb, ite_iff, decide_eq_true_eq, decide_eq_false_iff_not, Bool.not_eq_true', Classical.not_not, ne_eq, not_false_eq_true, not_true_eq_false, forall_const, true_implies, false_implies, imp_self, sizeLine_eq, Nat.reduceLeDiff, reduceCtorEq, decide_true, decide_false])
section
variable {P : Program} {w : World} {K : PySem.W.Frag} {mg : Str → Option Value} {base : Heap}
/-! ### the answers are those told one by one, and by quotients -/
theorem num1_int {l r h p : Int} (hp : 1 ≤ p) (hl : l ≤ h) : (num1 (lst1 l r p) h p : Int) = (h - 1 - lst1 l r p) / p + 1 := by
  have hb := lst1_b (l := l) (r := r) hp
  have h0 : 0 ≤ (h - lst1 l r p + p - 1) / p := Int.ediv_nonneg (by omega) (by omega)
  unfold num1
  rw [Int.toNat_of_nonneg h0, show h - lst1 l r p + p - 1 = (h - 1 - lst1 l r p) + p * 1 by omega, Int.add_mul_ediv_left _ _ (by omega)]
theorem quot_lst {l r p x : Int} (hp : 1 ≤ p) : (x - r) / p = (x - lst1 l r p) / p + (lst1 l r p - r) / p := by
  have e : lst1 l r p = r - p * ((r - l) / p) := by
    have := Int.mul_ediv_add_emod (r - l) p
    unfold lst1; omega
  generalize (r - l) / p = t at e
  rw [e, show x - (r - p * t) = (x - r) + p * t by omega, show r - p * t - r = 0 + p * (-t) by rw [Int.mul_neg]; omega, Int.add_mul_ediv_left _ _ (by omega), Int.add_mul_ediv_left _ _ (by omega)]
  simp; omega
theorem quot_cnt {l r h p : Int} (hp : 1 ≤ p) : (h - 1 - r) / p - (l - 1 - r) / p = (h - 1 - lst1 l r p) / p + 1 := by
  have hb := lst1_b (l := l) (r := r) hp
  rw [quot_lst (l := l) (x := h - 1) hp, quot_lst (l := l) (x := l - 1) hp]
  have : (l - 1 - lst1 l r p) / p = -1 := by
    rw [show l - 1 - lst1 l r p = (l - 1 - lst1 l r p + p) + p * (-1) by omega, Int.add_mul_ediv_left _ _ (by omega), Int.ediv_eq_zero_of_lt (by omega) (by omega)]; omega
  omega
theorem firstO_some {l r p : Int} {hi : Option Int} (hp : 1 ≤ p) : firstO (some l) hi r p = if inS none hi (lst1 l r p) = true then some (lst1 l r p) else none := by
  have hb := lst1_b (l := l) (r := r) hp
  show (if inS (some l) hi (lst1 l r p) = true then some (lst1 l r p) else none) = _
  have : inS (some l) hi (lst1 l r p) = inS none hi (lst1 l r p) := by simp [inS, hb.1]
  rw [this]
theorem countO_some {l h r p : Int} (hp : 1 ≤ p) (hl : l ≤ h) : countO (some l) (some h) r p = some (num1 (lst1 l r p) h p : Int) := by
  have hn := num1_lt (m := lst1 l r p) (h := h) hp 0
  have hi := num1_int (r := r) hp hl
  unfold countO
  simp only [firstO_some hp]
  by_cases hm : lst1 l r p < h
  · simp only [inS, decide_eq_true_eq, hm, Bool.true_and, decide_true, if_true]
    rw [← hi]
  · simp only [inS, decide_eq_true_eq, hm, Bool.true_and, decide_false, if_false]
    have : num1 (lst1 l r p) h p = 0 := by
      have := (num1_le (m := lst1 l r p) (h := h) hp 0).mpr (by simp; omega)
      omega
    simp [this]
theorem cnt_count {lo hi : Option Int} {r p : Int} (hp : 1 ≤ p) (ho : okO lo hi) : cntL [(lo, hi)] r p 0 = countO lo hi r p := by
  cases lo with
  | none => rfl
  | some l => cases hi with
    | none => rfl
    | some h =>
      have hl : l < h := ho
      rw [countO_some hp (by omega), num1_int hp (by omega)]
      show some (0 + (h - 1 - r) / p - (l - 1 - r) / p) = _
      have := quot_cnt (l := l) (r := r) (h := h) hp
      congr 1; omega
theorem frs_first {lo hi : Option Int} {r p : Int} (hp : 1 ≤ p) : frsO [(lo, hi)] r p = firstO lo hi r p := by
  cases lo with
  | none => rfl
  | some l =>
    rw [firstO_some hp]
    rfl
theorem fin_final {lo hi : Option Int} {r p : Int} (hp : 1 ≤ p) : finO [(lo, hi)] r p = finalO lo hi r p := by
  unfold finalO
  cases hi with
  | none => rfl
  | some h =>
    show _ = negO (firstO (some (1 - h)) (turnO lo) (-r) p)
    rw [firstO_some hp]
    have e : lst1 (1 - h) (-r) p = -(h - 1 - (h - 1 - r) % p) := by
      unfold lst1
      rw [show -r - (1 - h) = h - 1 - r by omega]; omega
    rw [e]
    show (if inS lo none (h - 1 - (h - 1 - r) % p) = true then some (h - 1 - (h - 1 - r) % p) else finL [] r p) = _
    generalize h - 1 - (h - 1 - r) % p = n
    cases lo with
    | none => simp [inS, turnO, negO]
    | some l =>
      by_cases hn : l ≤ n
      · rw [if_pos (by simp [inS, hn]), if_pos (by simp [inS, turnO]; omega)]; simp [negO]
      · rw [if_neg (by simp [inS, hn]), if_neg (by simp [inS, turnO]; omega)]; rfl
theorem below_cut {lo hi : Option Int} {i r p : Int} (hp : 1 ≤ p) : cntL ([(lo, hi)].filterMap (cutQ i)) r p 0 = belowO lo hi i r p := by
  have e : lhigh hi (some i) = some (match hi with | none => i | some h => if h > i then i else h) := by
    cases hi with
    | none => rfl
    | some h =>
      show some (if h < i then h else i) = some (if h > i then i else h)
      congr 1
      split <;> split <;> omega
  unfold belowO
  rw [e]
  generalize (match hi with | none => i | some h => if h > i then i else h) = e1 at *
  have ec : cutQ i (lo, hi) = if okS (ov lo) (ov (some e1)) = true then some (lo, some e1) else none := by
    unfold cutQ
    cases hi with
    | none => injection e with e; subst e; rfl
    | some h =>
      have : (if h > i then i else h) = e1 := by
        have e' : (if h < i then h else i) = e1 := by injection e
        rw [← e']; split <;> split <;> omega
      simp only [this]; rfl
  by_cases hc : okS (ov lo) (ov (some e1)) = true
  · rw [if_pos hc] at ec ⊢
    rw [show [(lo, hi)].filterMap (cutQ i) = [(lo, some e1)] by simp [ec]]
    exact cnt_count hp (okS_ov.mp hc)
  · rw [if_neg hc] at ec ⊢
    rw [show [(lo, hi)].filterMap (cutQ i) = [] by simp [ec]]
    rfl
/-- the n-th of one stretch, as the law reckons it -/
def nthL (lo hi : Option Int) (n r p : Int) : Option Int := match frsO [(lo, hi)] r p with
  | none => none
  | some m => match cntL [(lo, hi)] r p 0 with
    | none => some (m + n * p)
    | some c => if n ≥ c then none else some (m + n * p)
theorem nthO_some {l h n r p : Int} (hp : 1 ≤ p) (hn : 0 ≤ n) (hl : l ≤ h) : nthO (some l) (some h) n r p = if n < num1 (lst1 l r p) h p then some (lst1 l r p + n * p) else none := by
  have hb := lst1_b (l := l) (r := r) hp
  have hk := num1_lt (m := lst1 l r p) (h := h) hp n.toNat
  rw [show (n.toNat : Int) = n by omega] at hk
  have hnp : 0 ≤ n * p := Int.mul_nonneg hn (by omega)
  unfold nthO
  rw [firstO_some hp]
  by_cases hm : lst1 l r p < h
  · rw [if_pos (by simp [inS, hm])]
    by_cases hc : lst1 l r p + n * p < h
    · rw [if_pos (by have := hk.mpr hc; omega)]
      simp only [inS, hc, decide_true, Bool.and_true, decide_eq_true_eq]
      rw [if_pos (by omega)]
    · rw [if_neg (by have := mt hk.mp hc; omega)]
      simp only [inS, hc, decide_false, Bool.and_false]
      rfl
  · rw [if_neg (by simp [inS, hm]), if_neg (by have := mt hk.mp (by omega); omega)]
theorem nth_nth {lo hi : Option Int} {n r p : Int} (hp : 1 ≤ p) (hn : 0 ≤ n) (ho : okO lo hi) : nthL lo hi n r p = nthO lo hi n r p := by
  unfold nthL
  rw [frs_first hp, cnt_count hp ho]
  cases lo with
  | none => rfl
  | some l => cases hi with
    | none =>
      have hb := lst1_b (l := l) (r := r) hp
      have hnp : 0 ≤ n * p := Int.mul_nonneg hn (by omega)
      unfold nthO
      rw [firstO_some hp]
      simp only [inS, Bool.and_self, Bool.and_true, decide_eq_true_eq, countO, if_true]
      rw [if_pos (by omega)]
    | some h =>
      have hl : l < h := ho
      rw [nthO_some hp hn (by omega), countO_some hp (by omega), firstO_some hp]
      by_cases hm : lst1 l r p < h
      · rw [if_pos (by simp [inS, hm])]
        by_cases hc : n < num1 (lst1 l r p) h p
        · rw [if_pos hc]; simp only []; rw [if_neg (by omega)]
        · rw [if_neg hc]; simp only []; rw [if_pos (by omega)]
      · rw [if_neg (by simp [inS, hm])]
        have := (num1_le (m := lst1 l r p) (h := h) hp 0).mpr (by simp; omega)
        rw [if_neg (by omega)]
section
variable {l h r p : Int} (hp : 1 ≤ p) (hl : l < h)
include hp hl
theorem memB_len : (memB l h r p).length = num1 (lst1 l r p) h p := by rw [memB_eq hp (by omega)]; simp
theorem memB_get (k : Nat) : (memB l h r p)[k]? = if k < num1 (lst1 l r p) h p then some (lst1 l r p + k * p) else none := by
  rw [memB_eq hp (by omega), List.getElem?_map]
  by_cases hk : k < num1 (lst1 l r p) h p <;> simp [hk]
theorem m_count : countO (some l) (some h) r p = some ((memB l h r p).length : Int) := by rw [countO_some hp (by omega), memB_len hp hl]
theorem m_nth {n : Int} (hn : 0 ≤ n) : nthO (some l) (some h) n r p = (memB l h r p)[n.toNat]? := by
  rw [nthO_some hp hn (by omega), memB_get hp hl, show (n.toNat : Int) = n by omega]
  by_cases hk : n < num1 (lst1 l r p) h p
  · rw [if_pos hk, if_pos (by omega)]
  · rw [if_neg hk, if_neg (by omega)]
theorem m_first : firstO (some l) (some h) r p = (memB l h r p)[0]? := by
  rw [memB_get hp hl, firstO_some hp]
  have hk := num1_lt (m := lst1 l r p) (h := h) hp 0
  by_cases hm : lst1 l r p < h
  · rw [if_pos (by simp [inS, hm]), if_pos (by omega)]; simp
  · rw [if_neg (by simp [inS, hm]), if_neg (by omega)]
theorem m_final : finalO (some l) (some h) r p = (memB l h r p).getLast? := by
  rw [← fin_final hp, List.getLast?_eq_getElem?, memB_len hp hl, memB_get hp hl]
  have hb := lst1_b (l := l) (r := r) hp
  have hi := num1_int (l := l) (r := r) (h := h) hp (by omega)
  have hm := lst1_mod (l := l) (r := r) (p := p) (x := h - 1)
  have h0 := Int.mul_ediv_add_emod (h - 1 - lst1 l r p) p
  have h1 := Int.emod_nonneg (h - 1 - lst1 l r p) (b := p) (by omega)
  have h2 := Int.emod_lt_of_pos (h - 1 - lst1 l r p) (b := p) (by omega)
  show (if inS (some l) none (h - 1 - (h - 1 - r) % p) = true then some (h - 1 - (h - 1 - r) % p) else finL [] r p) = _
  rw [hm]
  generalize hq : (h - 1 - lst1 l r p) / p = q at *
  generalize (h - 1 - lst1 l r p) % p = t at *
  generalize num1 (lst1 l r p) h p = c at *
  generalize lst1 l r p = m at *
  by_cases hc : c = 0
  · have : q = -1 := by omega
    subst this
    rw [if_neg (by simp [inS]; omega), if_neg (by omega)]; rfl
  · have hq0 : 0 ≤ q := by omega
    have hpq : 0 ≤ p * q := Int.mul_nonneg (by omega) hq0
    rw [if_pos (by simp [inS]; omega), if_pos (by omega), show ((c - 1 : Nat) : Int) = q by omega, Int.mul_comm q p]
    congr 1; omega
theorem m_below (i : Int) : belowO (some l) (some h) i r p = some (((memB l h r p).filter fun n => decide (n < i)).length : Int) := by
  have e : lhigh (some h) (some i) = some (if h < i then h else i) := rfl
  unfold belowO
  rw [e]
  generalize he : (if h < i then h else i) = e1
  by_cases hc : l < e1
  · rw [if_pos (by simp [okS, ov, hc]), m_count hp hc]
    congr 2
    have hle : e1 ≤ h := by rw [← he]; split <;> omega
    have : (memB l h r p).filter (fun n => decide (n < i)) = memB l e1 r p := by
      unfold memB
      have e3 : intsB l h = intsB l e1 ++ (intsB e1 h) := by
        unfold intsB
        apply List.ext_getElem?
        intro k
        simp only [List.getElem?_map, List.getElem?_append, List.length_map, List.length_range]
        by_cases h1 : k < (e1 - l).toNat
        · rw [if_pos h1]; simp [List.getElem?_range, h1, show k < (h - l).toNat by omega]
        · rw [if_neg h1]
          by_cases h2 : k < (h - l).toNat
          · simp [List.getElem?_range, h2, show k - (e1 - l).toNat < (h - e1).toNat by omega]; omega
          · simp [List.getElem?_range, h2, show ¬ k - (e1 - l).toNat < (h - e1).toNat by omega]
      rw [e3, List.filter_append, List.filter_append]
      have z : ((intsB e1 h).filter fun n => decide ((n - r) % p = 0)).filter (fun n => decide (n < i)) = [] := by
        rw [List.filter_eq_nil_iff]
        intro a ha
        have := mem_intsB.mp (List.mem_filter.mp ha).1
        have : ¬ a < i := by
          by_cases h3 : h < i
          · rw [if_pos h3] at he; omega
          · rw [if_neg h3] at he; omega
        simpa using this
      rw [z, List.append_nil, List.filter_eq_self]
      intro a ha
      have := mem_intsB.mp (List.mem_filter.mp ha).1
      have : a < i := by
        by_cases h3 : h < i
        · rw [if_pos h3] at he; omega
        · rw [if_neg h3] at he; omega
      simpa using this
    rw [this]
  · rw [if_neg (by simp [okS, ov, hc])]
    have : (memB l h r p).filter (fun n => decide (n < i)) = [] := by
      rw [List.filter_eq_nil_iff]
      intro a ha
      have := mem_intsB.mp (List.mem_filter.mp ha).1
      have : ¬ a < i := by
        by_cases h3 : h < i
        · rw [if_pos h3] at he; omega
        · rw [if_neg h3] at he; omega
      simpa using this
    rw [this]; rfl
end

end
end Iz
/-! k02_j -/
set_option Elab.async false
set_option linter.all false
set_option maxRecDepth 100000
set_option maxHeartbeats 4000000
namespace Iz
open PySem PySem.Spec PyProof.Rows L2
open He (ga)
local macro_rules | `(tactic| walk_at "wp") => `(tactic| simp only [cx_K, Value.ref.injEq, HO.xd.injEq, lk0, tSeq, tPar3, tPar, tCons, tNil, tVar, tC, tAsg, gName, gCons, gNil, gTupN, gSub, tOp, rI, rI0, rU, tTest, rNe, rEq, rIxTN, rIxLN, rLenL, rLenT, rIntI, rIntB, rAbs, rSetLN, tTruL, tRaiseX, rIsTy, rIsOw, ixN0, ixN1, tRet, tIf, tIfS, tNext, tBreak, tCont, tDrop, tTupN, tLstN, tUn, tCB, tCall, tNot, tAnd, tOr, tB, tAndV, tOrV, tNotV, tChain, tApp, LamX.tLam, tRevLN, rCatN, rInTN, rInLN, flatV, inV, List.all_cons, List.all_nil, List.any_cons, List.any_nil, Bool.and_self, Bool.and_true, if_true, Bool.false_eq_true, if_false, tMt, tFldN, tSto, HO.ins.injEq, lkh, List.drop_zero, List.drop_succ_cons, List.drop_nil, rListS, wipe, L2.start, List.map_cons, List.map_nil, List.length_cons, List.length_nil, List.replicate, List.cons_append, List.nil_append, List.append_nil, Nat.reduceAdd, Nat.reduceSub, Nat.zero_add, List.replicate_succ, List.replicate_zero, List.getElem?_cons_zero, List.getElem?_cons_succ, List.set_cons_zero, List.set_cons_succ, Option.some.injEq, V.int.injEq, V.bl.injEq, V.ref.injEq, V.str.injEq, V.ty.injEq, List.cons.injEq, HO.tup.injEq, HO.lst.injEq, and_true, true_and, and_assoc, exists_eq_left, exists_eq_left', exists_and_left, exists_eq', atI0, atI1, atI2, atI3, Int.cast_ofNat_Int, Int.reduceToNat, scal_ii, scal_in, scal_ni, scal_nn, scal_bb, scal_ss, scal_sn, scal_ns, scal_bn, scal_nb, ite_iff, decide_eq_true_eq, decide_eq_false_iff_not, Bool.not_eq_true', Classical.not_not, ne_eq, not_false_eq_true, not_true_eq_false, forall_const, true_implies, false_implies, imp_self, sizeLine_eq, Nat.reduceLeDiff, reduceCtorEq, decide_true, decide_false])
section
variable {P : Program} {w : World} {K : PySem.W.Frag} {mg : Str → Option Value} {base : Heap}
/-! ### the law's own n-th, small stretches -/
theorem scal_ov {a b : Option Int} : scal (ov a) (ov b) = true := by cases a <;> cases b <;> rfl
theorem scal_oi {a : Option Int} {b : Int} : scal (ov a) (.int b) = true := by cases a <;> rfl
theorem pa1 {H : Hp} {a b : Addr} {lo hi : Option Int} (h : H a = some (.lst [.ref b])) (h2 : H b = some (.tup [ov lo, ov hi])) : PairsAt H a [(lo, hi)] := ⟨_, h, .cons h2 .nil⟩
def spNthL : Sp := fun vs H Q _ => ∃ a n r p lo hi, vs = [.ref a, .int n, .int r, .int p] ∧ PairsAt H a [(lo, hi)] ∧ 1 ≤ p ∧ n.natAbs < 2 ^ 90 ∧ p.natAbs < 2 ^ 90 ∧ ∀ H', Same H H' → Q (ov (nthL lo hi n r p)) H'
theorem o__law_nth (T : Txt K mg) : OkF P w K mg base CX0 2 "_law_nth" ["_law_pairs", "_law_n", "_law_r", "_law_p"] spNthL := by
  have o__law_first := o__law_first (P := P) (w := w) (base := base) T
  have o__law_count := o__law_count (P := P) (w := w) (base := base) T
  obtain ⟨f, fd, g, F⟩ := T.d__law_nth
  refine ⟨f, fd, g, F.kp, F.binds (fun _ _ _ _ _ _ us hl => match us, hl with | [_, _, _, _], _ => rfl), F.ok sc__law_nth (fun vs H Q E h => ?_) (fun cdv A outer s H vs Q E hr h => ?_)⟩
  · first | (obtain ⟨_, rfl, _⟩ := h; rfl) | (obtain ⟨_, _, rfl, _⟩ := h; rfl) | (obtain ⟨_, _, _, rfl, _⟩ := h; rfl) | (obtain ⟨_, _, _, _, rfl, _⟩ := h; rfl) | (obtain ⟨_, _, _, _, _, rfl, _⟩ := h; rfl) | (obtain ⟨_, _, _, _, _, _, rfl, _⟩ := h; rfl) | (obtain ⟨_, _, _, _, _, _, _, rfl, _⟩ := h; rfl)
  have hu64 := hr.units
  refine ⟨_, pss_cons (ps_par (i := 4) (j := 5) (by rfl) sc__law_nth.nd rfl rfl (by decide) rfl rfl (pa_cons (pcl o__law_first (hr.mono (by decide)) pass0 (pa_cons (pv 0) (pa_cons (pv 2) (pa_cons (pv 3) pa_nil)))) (pa_cons (pcl o__law_count (hr.mono (by decide)) pass0 (pa_cons (pv 0) (pa_cons (pv 2) (pa_cons (pv 3) pa_nil)))) pa_nil)) (by rfl))
      (pss_cons (ps_if (PW.pt (pw_or (pt_cmpR op_isN (pe_ix ix_tupN (pe_ix ix_listN (pv 0) (pe_int) (fun _ _ => rfl)) (pe_int) (fun _ _ => rfl)) (pe_non) (nomark _)) (pw_or (pt_cmpR op_isN (pv 4) (pe_non) (nomark _)) (pw_or1 (PW.pt (pw_and (pt_cmpR op_notN (pv 5) (pe_non) (nomark _)) (pw_and1 (pt_cmpR op_ge (pv 1) (pv 5) (nomark _))))))))) (pss_one (ps_ret (pe_non))) (pss_nil))
      (pss_one (ps_ret (pe_op op_add (pv 4) (pe_op op_mulW (pv 1) (pv 3)))))), ?_⟩
  obtain ⟨a, n, r, p, lo, hi, rfl, hps, p1, bn, bp, k⟩ := h
  simp only [spFrs, exists_and_left, cx_K, Value.ref.injEq, HO.xd.injEq, lk0, tSeq, tPar3, tPar, tCons, tNil, tVar, tC, tAsg, gName, gCons, gNil, gTupN, gSub, tOp, rI, rI0, rU, tTest, rNe, rEq, rIxTN, rIxLN, rLenL, rLenT, rIntI, rIntB, rAbs, rSetLN, tTruL, tRaiseX, rIsTy, rIsOw, ixN0, ixN1, tRet, tIf, tIfS, tNext, tBreak, tCont, tDrop, tTupN, tLstN, tUn, tCB, tCall, tNot, tAnd, tOr, tB, tAndV, tOrV, tNotV, tChain, tApp, LamX.tLam, tRevLN, rCatN, rInTN, rInLN, flatV, inV, List.all_cons, List.all_nil, List.any_cons, List.any_nil, Bool.and_self, Bool.and_true, if_true, Bool.false_eq_true, if_false, tMt, tFldN, tSto, HO.ins.injEq, lkh, List.drop_zero, List.drop_succ_cons, List.drop_nil, rListS, wipe, L2.start, List.map_cons, List.map_nil, List.length_cons, List.length_nil, List.replicate, List.cons_append, List.nil_append, List.append_nil, Nat.reduceAdd, Nat.reduceSub, Nat.zero_add, List.replicate_succ, List.replicate_zero, List.getElem?_cons_zero, List.getElem?_cons_succ, List.set_cons_zero, List.set_cons_succ, Option.some.injEq, V.int.injEq, V.bl.injEq, V.ref.injEq, V.str.injEq, V.ty.injEq, List.cons.injEq, HO.tup.injEq, HO.lst.injEq, and_true, true_and, and_assoc, exists_eq_left, exists_eq_left', exists_and_left, exists_eq', atI0, atI1, atI2, atI3, Int.cast_ofNat_Int, Int.reduceToNat, scal_ii, scal_in, scal_ni, scal_nn, scal_bb, scal_ss, scal_sn, scal_ns, scal_bn, scal_nb, ite_iff, decide_eq_true_eq, decide_eq_false_iff_not, Bool.not_eq_true', Classical.not_not, ne_eq, not_false_eq_true, not_true_eq_false, forall_const, true_implies, false_implies, imp_self, sizeLine_eq, Nat.reduceLeDiff, reduceCtorEq, decide_true, decide_false]
  refine ⟨_, hps, by simp, p1, fun H2 s2 => ?_⟩
  have mw := wide_mul bn bp (by decide) (by decide) (by decide)
  simp only [spCnt, exists_and_left, cx_K, Value.ref.injEq, HO.xd.injEq, lk0, tSeq, tPar3, tPar, tCons, tNil, tVar, tC, tAsg, gName, gCons, gNil, gTupN, gSub, tOp, rI, rI0, rU, tTest, rNe, rEq, rIxTN, rIxLN, rLenL, rLenT, rIntI, rIntB, rAbs, rSetLN, tTruL, tRaiseX, rIsTy, rIsOw, ixN0, ixN1, tRet, tIf, tIfS, tNext, tBreak, tCont, tDrop, tTupN, tLstN, tUn, tCB, tCall, tNot, tAnd, tOr, tB, tAndV, tOrV, tNotV, tChain, tApp, LamX.tLam, tRevLN, rCatN, rInTN, rInLN, flatV, inV, List.all_cons, List.all_nil, List.any_cons, List.any_nil, Bool.and_self, Bool.and_true, if_true, Bool.false_eq_true, if_false, tMt, tFldN, tSto, HO.ins.injEq, lkh, List.drop_zero, List.drop_succ_cons, List.drop_nil, rListS, wipe, L2.start, List.map_cons, List.map_nil, List.length_cons, List.length_nil, List.replicate, List.cons_append, List.nil_append, List.append_nil, Nat.reduceAdd, Nat.reduceSub, Nat.zero_add, List.replicate_succ, List.replicate_zero, List.getElem?_cons_zero, List.getElem?_cons_succ, List.set_cons_zero, List.set_cons_succ, Option.some.injEq, V.int.injEq, V.bl.injEq, V.ref.injEq, V.str.injEq, V.ty.injEq, List.cons.injEq, HO.tup.injEq, HO.lst.injEq, and_true, true_and, and_assoc, exists_eq_left, exists_eq_left', exists_and_left, exists_eq', atI0, atI1, atI2, atI3, Int.cast_ofNat_Int, Int.reduceToNat, scal_ii, scal_in, scal_ni, scal_nn, scal_bb, scal_ss, scal_sn, scal_ns, scal_bn, scal_nb, ite_iff, decide_eq_true_eq, decide_eq_false_iff_not, Bool.not_eq_true', Classical.not_not, ne_eq, not_false_eq_true, not_true_eq_false, forall_const, true_implies, false_implies, imp_self, sizeLine_eq, Nat.reduceLeDiff, reduceCtorEq, decide_true, decide_false]
  refine ⟨_, hps.mono s2, p1, Nat.lt_trans bp (by decide), ?_⟩
  obtain ⟨xs, hx, hp⟩ := hps
  cases hp with
  | cons hq hp =>
    cases hp
    have hx2 := s2 _ _ hx
    have hq2 := s2 _ _ hq
    have k := k H2 s2
    unfold nthL at k
    simp only [hx2, hq2, exists_and_left, cx_K, Value.ref.injEq, HO.xd.injEq, lk0, tSeq, tPar3, tPar, tCons, tNil, tVar, tC, tAsg, gName, gCons, gNil, gTupN, gSub, tOp, rI, rI0, rU, tTest, rNe, rEq, rIxTN, rIxLN, rLenL, rLenT, rIntI, rIntB, rAbs, rSetLN, tTruL, tRaiseX, rIsTy, rIsOw, ixN0, ixN1, tRet, tIf, tIfS, tNext, tBreak, tCont, tDrop, tTupN, tLstN, tUn, tCB, tCall, tNot, tAnd, tOr, tB, tAndV, tOrV, tNotV, tChain, tApp, LamX.tLam, tRevLN, rCatN, rInTN, rInLN, flatV, inV, List.all_cons, List.all_nil, List.any_cons, List.any_nil, Bool.and_self, Bool.and_true, if_true, Bool.false_eq_true, if_false, tMt, tFldN, tSto, HO.ins.injEq, lkh, List.drop_zero, List.drop_succ_cons, List.drop_nil, rListS, wipe, L2.start, List.map_cons, List.map_nil, List.length_cons, List.length_nil, List.replicate, List.cons_append, List.nil_append, List.append_nil, Nat.reduceAdd, Nat.reduceSub, Nat.zero_add, List.replicate_succ, List.replicate_zero, List.getElem?_cons_zero, List.getElem?_cons_succ, List.set_cons_zero, List.set_cons_succ, Option.some.injEq, V.int.injEq, V.bl.injEq, V.ref.injEq, V.str.injEq, V.ty.injEq, List.cons.injEq, HO.tup.injEq, HO.lst.injEq, and_true, true_and, and_assoc, exists_eq_left, exists_eq_left', exists_and_left, exists_eq', atI0, atI1, atI2, atI3, Int.cast_ofNat_Int, Int.reduceToNat, scal_ii, scal_in, scal_ni, scal_nn, scal_bb, scal_ss, scal_sn, scal_ns, scal_bn, scal_nb, ite_iff, decide_eq_true_eq, decide_eq_false_iff_not, Bool.not_eq_true', Classical.not_not, ne_eq, not_false_eq_true, not_true_eq_false, forall_const, true_implies, false_implies, imp_self, sizeLine_eq, Nat.reduceLeDiff, reduceCtorEq, decide_true, decide_false]
    cases lo with
    | none => 
      have e : frsO [((none : Option Int), hi)] r p = none := rfl
      rw [e] at k ⊢
      simp only [ov, cx_K, Value.ref.injEq, HO.xd.injEq, lk0, tSeq, tPar3, tPar, tCons, tNil, tVar, tC, tAsg, gName, gCons, gNil, gTupN, gSub, tOp, rI, rI0, rU, tTest, rNe, rEq, rIxTN, rIxLN, rLenL, rLenT, rIntI, rIntB, rAbs, rSetLN, tTruL, tRaiseX, rIsTy, rIsOw, ixN0, ixN1, tRet, tIf, tIfS, tNext, tBreak, tCont, tDrop, tTupN, tLstN, tUn, tCB, tCall, tNot, tAnd, tOr, tB, tAndV, tOrV, tNotV, tChain, tApp, LamX.tLam, tRevLN, rCatN, rInTN, rInLN, flatV, inV, List.all_cons, List.all_nil, List.any_cons, List.any_nil, Bool.and_self, Bool.and_true, if_true, Bool.false_eq_true, if_false, tMt, tFldN, tSto, HO.ins.injEq, lkh, List.drop_zero, List.drop_succ_cons, List.drop_nil, rListS, wipe, L2.start, List.map_cons, List.map_nil, List.length_cons, List.length_nil, List.replicate, List.cons_append, List.nil_append, List.append_nil, Nat.reduceAdd, Nat.reduceSub, Nat.zero_add, List.replicate_succ, List.replicate_zero, List.getElem?_cons_zero, List.getElem?_cons_succ, List.set_cons_zero, List.set_cons_succ, Option.some.injEq, V.int.injEq, V.bl.injEq, V.ref.injEq, V.str.injEq, V.ty.injEq, List.cons.injEq, HO.tup.injEq, HO.lst.injEq, and_true, true_and, and_assoc, exists_eq_left, exists_eq_left', exists_and_left, exists_eq', atI0, atI1, atI2, atI3, Int.cast_ofNat_Int, Int.reduceToNat, scal_ii, scal_in, scal_ni, scal_nn, scal_bb, scal_ss, scal_sn, scal_ns, scal_bn, scal_nb, ite_iff, decide_eq_true_eq, decide_eq_false_iff_not, Bool.not_eq_true', Classical.not_not, ne_eq, not_false_eq_true, not_true_eq_false, forall_const, true_implies, false_implies, imp_self, sizeLine_eq, Nat.reduceLeDiff, reduceCtorEq, decide_true, decide_false]
      exact k
    | some l =>
      cases e : frsO [(some l, hi)] r p with
      | none => 
        rw [e] at k
        simp only [ov, cx_K, Value.ref.injEq, HO.xd.injEq, lk0, tSeq, tPar3, tPar, tCons, tNil, tVar, tC, tAsg, gName, gCons, gNil, gTupN, gSub, tOp, rI, rI0, rU, tTest, rNe, rEq, rIxTN, rIxLN, rLenL, rLenT, rIntI, rIntB, rAbs, rSetLN, tTruL, tRaiseX, rIsTy, rIsOw, ixN0, ixN1, tRet, tIf, tIfS, tNext, tBreak, tCont, tDrop, tTupN, tLstN, tUn, tCB, tCall, tNot, tAnd, tOr, tB, tAndV, tOrV, tNotV, tChain, tApp, LamX.tLam, tRevLN, rCatN, rInTN, rInLN, flatV, inV, List.all_cons, List.all_nil, List.any_cons, List.any_nil, Bool.and_self, Bool.and_true, if_true, Bool.false_eq_true, if_false, tMt, tFldN, tSto, HO.ins.injEq, lkh, List.drop_zero, List.drop_succ_cons, List.drop_nil, rListS, wipe, L2.start, List.map_cons, List.map_nil, List.length_cons, List.length_nil, List.replicate, List.cons_append, List.nil_append, List.append_nil, Nat.reduceAdd, Nat.reduceSub, Nat.zero_add, List.replicate_succ, List.replicate_zero, List.getElem?_cons_zero, List.getElem?_cons_succ, List.set_cons_zero, List.set_cons_succ, Option.some.injEq, V.int.injEq, V.bl.injEq, V.ref.injEq, V.str.injEq, V.ty.injEq, List.cons.injEq, HO.tup.injEq, HO.lst.injEq, and_true, true_and, and_assoc, exists_eq_left, exists_eq_left', exists_and_left, exists_eq', atI0, atI1, atI2, atI3, Int.cast_ofNat_Int, Int.reduceToNat, scal_ii, scal_in, scal_ni, scal_nn, scal_bb, scal_ss, scal_sn, scal_ns, scal_bn, scal_nb, ite_iff, decide_eq_true_eq, decide_eq_false_iff_not, Bool.not_eq_true', Classical.not_not, ne_eq, not_false_eq_true, not_true_eq_false, forall_const, true_implies, false_implies, imp_self, sizeLine_eq, Nat.reduceLeDiff, reduceCtorEq, decide_true, decide_false]
        exact k
      | some m =>
        rw [e] at k
        cases e2 : cntL [(some l, hi)] r p 0 with
        | none =>
          rw [e2] at k
          simp only [ov, cx_K, Value.ref.injEq, HO.xd.injEq, lk0, tSeq, tPar3, tPar, tCons, tNil, tVar, tC, tAsg, gName, gCons, gNil, gTupN, gSub, tOp, rI, rI0, rU, tTest, rNe, rEq, rIxTN, rIxLN, rLenL, rLenT, rIntI, rIntB, rAbs, rSetLN, tTruL, tRaiseX, rIsTy, rIsOw, ixN0, ixN1, tRet, tIf, tIfS, tNext, tBreak, tCont, tDrop, tTupN, tLstN, tUn, tCB, tCall, tNot, tAnd, tOr, tB, tAndV, tOrV, tNotV, tChain, tApp, LamX.tLam, tRevLN, rCatN, rInTN, rInLN, flatV, inV, List.all_cons, List.all_nil, List.any_cons, List.any_nil, Bool.and_self, Bool.and_true, if_true, Bool.false_eq_true, if_false, tMt, tFldN, tSto, HO.ins.injEq, lkh, List.drop_zero, List.drop_succ_cons, List.drop_nil, rListS, wipe, L2.start, List.map_cons, List.map_nil, List.length_cons, List.length_nil, List.replicate, List.cons_append, List.nil_append, List.append_nil, Nat.reduceAdd, Nat.reduceSub, Nat.zero_add, List.replicate_succ, List.replicate_zero, List.getElem?_cons_zero, List.getElem?_cons_succ, List.set_cons_zero, List.set_cons_succ, Option.some.injEq, V.int.injEq, V.bl.injEq, V.ref.injEq, V.str.injEq, V.ty.injEq, List.cons.injEq, HO.tup.injEq, HO.lst.injEq, and_true, true_and, and_assoc, exists_eq_left, exists_eq_left', exists_and_left, exists_eq', atI0, atI1, atI2, atI3, Int.cast_ofNat_Int, Int.reduceToNat, scal_ii, scal_in, scal_ni, scal_nn, scal_bb, scal_ss, scal_sn, scal_ns, scal_bn, scal_nb, ite_iff, decide_eq_true_eq, decide_eq_false_iff_not, Bool.not_eq_true', Classical.not_not, ne_eq, not_false_eq_true, not_true_eq_false, forall_const, true_implies, false_implies, imp_self, sizeLine_eq, Nat.reduceLeDiff, reduceCtorEq, decide_true, decide_false]
          exact ⟨mw, k⟩
        | some c =>
          rw [e2] at k
          simp only [ov, cx_K, Value.ref.injEq, HO.xd.injEq, lk0, tSeq, tPar3, tPar, tCons, tNil, tVar, tC, tAsg, gName, gCons, gNil, gTupN, gSub, tOp, rI, rI0, rU, tTest, rNe, rEq, rIxTN, rIxLN, rLenL, rLenT, rIntI, rIntB, rAbs, rSetLN, tTruL, tRaiseX, rIsTy, rIsOw, ixN0, ixN1, tRet, tIf, tIfS, tNext, tBreak, tCont, tDrop, tTupN, tLstN, tUn, tCB, tCall, tNot, tAnd, tOr, tB, tAndV, tOrV, tNotV, tChain, tApp, LamX.tLam, tRevLN, rCatN, rInTN, rInLN, flatV, inV, List.all_cons, List.all_nil, List.any_cons, List.any_nil, Bool.and_self, Bool.and_true, if_true, Bool.false_eq_true, if_false, tMt, tFldN, tSto, HO.ins.injEq, lkh, List.drop_zero, List.drop_succ_cons, List.drop_nil, rListS, wipe, L2.start, List.map_cons, List.map_nil, List.length_cons, List.length_nil, List.replicate, List.cons_append, List.nil_append, List.append_nil, Nat.reduceAdd, Nat.reduceSub, Nat.zero_add, List.replicate_succ, List.replicate_zero, List.getElem?_cons_zero, List.getElem?_cons_succ, List.set_cons_zero, List.set_cons_succ, Option.some.injEq, V.int.injEq, V.bl.injEq, V.ref.injEq, V.str.injEq, V.ty.injEq, List.cons.injEq, HO.tup.injEq, HO.lst.injEq, and_true, true_and, and_assoc, exists_eq_left, exists_eq_left', exists_and_left, exists_eq', atI0, atI1, atI2, atI3, Int.cast_ofNat_Int, Int.reduceToNat, scal_ii, scal_in, scal_ni, scal_nn, scal_bb, scal_ss, scal_sn, scal_ns, scal_bn, scal_nb, ite_iff, decide_eq_true_eq, decide_eq_false_iff_not, Bool.not_eq_true', Classical.not_not, ne_eq, not_false_eq_true, not_true_eq_false, forall_const, true_implies, false_implies, imp_self, sizeLine_eq, Nat.reduceLeDiff, reduceCtorEq, decide_true, decide_false]
          simp only [] at k
          refine ⟨fun h => ?_, fun h => ⟨mw, ?_⟩⟩
          · rw [if_pos h] at k; exact k
          · rw [if_neg h] at k; exact k
theorem atI_cat0 {M : List Int} : atI (M.map V.int ++ [.non]) 0 = some (ov M[0]?) := by cases M <;> exact atI_ok (by decide) rfl
theorem atI_catL {M : List Int} : atI ([.non] ++ M.map V.int) (-1) = some (ov M.getLast?) := by
  rcases List.eq_nil_or_concat M with rfl | ⟨L, b, rfl⟩
  · rfl
  · rw [List.concat_eq_append, List.map_append, ← List.append_assoc, List.map_singleton, atI_last]; simp [ov]
theorem atI_catN {M : List Int} {n : Nat} (h : n < M.length + 2) : atI (M.map V.int ++ [.non, .non]) (n : Int) = some (ov M[n]?) := by
  refine atI_ok (by omega) ?_
  rw [show ((n : Int)).toNat = n by omega]
  by_cases hn : n < M.length
  · rw [List.getElem?_append_left (by simpa using hn)]; simp [hn, ov]
  · have hle : (M.map V.int).length ≤ n := by rw [List.length_map]; omega
    rw [List.getElem?_append_right hle, List.length_map]
    have : n - M.length = 0 ∨ n - M.length = 1 := by omega
    have e2 : M[n]? = none := List.getElem?_eq_none (by omega)
    rw [e2]
    rcases this with e | e <;> rw [e] <;> rfl
def spSmall (K : PySem.W.Frag) : Sp := fun vs H Q _ => ∃ a r p, vs = [.ref a, .int r, .int p] ∧ ∃ dx l h, SAt K H a dx (some l) (some h) ∧ l < h ∧ h - l < 30 ∧ 1 ≤ p ∧ p < 30 ∧ ∀ H', Same H H' → Q (.bl true) H'
theorem o__law_small_right (T : Txt K mg) : OkF P w K mg base CX0 8 "_law_small_right" ["_law_stretch", "_law_r", "_law_p"] (spSmall K) := by
  have o__law_members := o__law_members (P := P) (w := w) (base := base) T
  have o_Stretch_count := o_Stretch_count (P := P) (w := w) (base := base) T
  have o_Stretch_first := o_Stretch_first (P := P) (w := w) (base := base) T
  have o_Stretch_final := o_Stretch_final (P := P) (w := w) (base := base) T
  have o_Stretch_nth := o_Stretch_nth (P := P) (w := w) (base := base) T
  have o_Stretch_below := o_Stretch_below (P := P) (w := w) (base := base) T
  obtain ⟨f, fd, g, F⟩ := T.d__law_small_right
  refine ⟨f, fd, g, F.kp, F.binds (fun _ _ _ _ _ _ us hl => match us, hl with | [_, _, _], _ => rfl), F.ok sc__law_small_right (fun vs H Q E h => ?_) (fun cdv A outer s H vs Q E hr h => ?_)⟩
  · first | (obtain ⟨_, rfl, _⟩ := h; rfl) | (obtain ⟨_, _, rfl, _⟩ := h; rfl) | (obtain ⟨_, _, _, rfl, _⟩ := h; rfl) | (obtain ⟨_, _, _, _, rfl, _⟩ := h; rfl) | (obtain ⟨_, _, _, _, _, rfl, _⟩ := h; rfl) | (obtain ⟨_, _, _, _, _, _, rfl, _⟩ := h; rfl) | (obtain ⟨_, _, _, _, _, _, _, rfl, _⟩ := h; rfl)
  have hu64 := hr.units
  refine ⟨_, pss_cons (ps_set (i := 3) sc__law_small_right.nd rfl (Or.inl rfl) (pcl o__law_members (hr.mono (by decide)) pass0 (pa_cons (pe_fldN T.c_Stretch T.na_Stretch_low (pv 0)) (pa_cons (pe_fldN T.c_Stretch T.na_Stretch_high (pv 0)) (pa_cons (pv 1) (pa_cons (pv 2) pa_nil))))))
      (pss_cons (ps_if (PW.pt (pw_or (pt_cmpR op_ne (pmt (j := 2) o_Stretch_count T.c_Stretch (pv 0) (by decide) (hr.mono (by decide)) passL (pa_cons (pv 1) (pa_cons (pv 2) pa_nil))) (pe_callB call_lenL (by rfl) T.m_len (by decide +kernel) (pa_cons (pv 3) pa_nil)) (nomark _)) (pw_or1 (pt_cmpR op_ne (pmt (j := 2) o_Stretch_first T.c_Stretch (pv 0) (by decide) (hr.mono (by decide)) passL (pa_cons (pv 1) (pa_cons (pv 2) pa_nil))) (pe_ix ix_listN (pe_op op_catN (pv 3) (pe_lstN (pa_cons (pe_non) pa_nil))) (pe_int) (fun _ _ => rfl)) (nomark _))))) (pss_one (ps_ret (pe_bl))) (pss_nil))
      (pss_cons (ps_if (pt_cmpR op_ne (pmt (j := 2) o_Stretch_final T.c_Stretch (pv 0) (by decide) (hr.mono (by decide)) passL (pa_cons (pv 1) (pa_cons (pv 2) pa_nil))) (pe_ix ix_listN (pe_op op_catN (pe_lstN (pa_cons (pe_non) pa_nil)) (pv 3)) (pe_un un_neg (pe_int)) (fun _ _ => rfl)) (nomark _)) (pss_one (ps_ret (pe_bl))) (pss_nil))
      (pss_cons (ps_for PassesOwn.never rfl (pi_range1 rfl T.m_range (pa_cons (pe_op op_add (pe_callB call_lenL (by rfl) T.m_len (by decide +kernel) (pa_cons (pv 3) pa_nil)) (pe_int)) pa_nil)) (pg_name (i := 4) sc__law_small_right.nd rfl (Or.inl rfl)) (pss_one (ps_if (pt_cmpR op_ne (pmt (j := 2) o_Stretch_nth T.c_Stretch (pv 0) (by decide) (hr.mono (by decide)) passL (pa_cons (pv 4) (pa_cons (pv 1) (pa_cons (pv 2) pa_nil)))) (pe_ix ix_listN (pe_op op_catN (pv 3) (pe_lstN (pa_cons (pe_non) (pa_cons (pe_non) pa_nil)))) (pv 4) (fun _ _ => rfl)) (nomark _)) (pss_one (ps_ret (pe_bl))) (pss_nil))))
      (pss_cons (ps_for PassesOwn.never rfl (pi_rangeL rfl T.m_range (pa_cons (pe_op op_sub (pe_fldN T.c_Stretch T.na_Stretch_low (pv 0)) (pe_int)) (pa_cons (pe_op op_add (pe_fldN T.c_Stretch T.na_Stretch_high (pv 0)) (pe_int)) pa_nil))) (pg_name (i := 5) sc__law_small_right.nd rfl (Or.inr rfl)) (pss_one (ps_if (pt_cmpR op_ne (pmt (j := 2) o_Stretch_below T.c_Stretch (pv 0) (by decide) (hr.mono (by decide)) passL (pa_cons (pv 5) (pa_cons (pv 1) (pa_cons (pv 2) pa_nil)))) (pe_callB call_lenL (by rfl) T.m_len (by decide +kernel) (pa_cons (pe_lc (own := [("_law_one", 6)]) (g := gName 6) (by rfl) sc__law_small_right.nd (pi_list (pv 3)) (blkOk_by (N := ["_law_stretch", "_law_r", "_law_p", "_law_members_here", "_law_n", "_law_number_here", "_law_one"]) (sc := defScope s__law_small_right) (own := [("_law_one", 6)]) (by decide +kernel)) (fun _ _ _ _ _ => pg_name (i := 6) sc__law_small_right.nd rfl (Or.inl rfl)) (fun _ _ _ _ _ => pts_one (pt_cmpR op_lt (pv 6) (pv 5) (nomark _))) (fun _ _ _ _ _ => pv 6)) pa_nil)) (nomark _)) (pss_one (ps_ret (pe_bl))) (pss_nil))))
      (pss_one (ps_ret (pe_bl))))))), ?_⟩
  obtain ⟨a, r, p, rfl, dx, l, h, hs, hl, hs30, p1, p30, k⟩ := h
  have hs' := hs
  simp only [spMem, exists_and_left, hs, lkLow, lkHigh, lkN_holds, lkN_turned, lkN_common, lkN_count, lkN_first, lkN_final, lkN_nth, lkN_below, ov, cx_K, Value.ref.injEq, HO.xd.injEq, lk0, tSeq, tPar3, tPar, tCons, tNil, tVar, tC, tAsg, gName, gCons, gNil, gTupN, gSub, tOp, rI, rI0, rU, tTest, rNe, rEq, rIxTN, rIxLN, rLenL, rLenT, rIntI, rIntB, rAbs, rSetLN, tTruL, tRaiseX, rIsTy, rIsOw, ixN0, ixN1, tRet, tIf, tIfS, tNext, tBreak, tCont, tDrop, tTupN, tLstN, tUn, tCB, tCall, tNot, tAnd, tOr, tB, tAndV, tOrV, tNotV, tChain, tApp, LamX.tLam, tRevLN, rCatN, rInTN, rInLN, flatV, inV, List.all_cons, List.all_nil, List.any_cons, List.any_nil, Bool.and_self, Bool.and_true, if_true, Bool.false_eq_true, if_false, tMt, tFldN, tSto, HO.ins.injEq, lkh, List.drop_zero, List.drop_succ_cons, List.drop_nil, rListS, wipe, L2.start, List.map_cons, List.map_nil, List.length_cons, List.length_nil, List.replicate, List.cons_append, List.nil_append, List.append_nil, Nat.reduceAdd, Nat.reduceSub, Nat.zero_add, List.replicate_succ, List.replicate_zero, List.getElem?_cons_zero, List.getElem?_cons_succ, List.set_cons_zero, List.set_cons_succ, Option.some.injEq, V.int.injEq, V.bl.injEq, V.ref.injEq, V.str.injEq, V.ty.injEq, List.cons.injEq, HO.tup.injEq, HO.lst.injEq, and_true, true_and, and_assoc, exists_eq_left, exists_eq_left', exists_and_left, exists_eq', atI0, atI1, atI2, atI3, Int.cast_ofNat_Int, Int.reduceToNat, scal_ii, scal_in, scal_ni, scal_nn, scal_bb, scal_ss, scal_sn, scal_ns, scal_bn, scal_nb, ite_iff, decide_eq_true_eq, decide_eq_false_iff_not, Bool.not_eq_true', Classical.not_not, ne_eq, not_false_eq_true, not_true_eq_false, forall_const, true_implies, false_implies, imp_self, sizeLine_eq, Nat.reduceLeDiff, reduceCtorEq, decide_true, decide_false]
  refine ⟨by omega, p1, fun b H2 s2 h2 => ?_⟩
  have hs2 := s2 _ _ hs
  have e1 := m_count (r := r) p1 hl
  have e2 := m_first (r := r) p1 hl
  have e3 := m_final (r := r) p1 hl
  have eb : (2 : Nat) ^ 1000 = 2 ^ 1000 := rfl
  have b1000 : p.natAbs < 2 ^ 1000 := Nat.lt_trans (show p.natAbs < 2 ^ 6 by omega) (Nat.pow_lt_pow_right (by decide) (by decide))
  have hM : (memB l h r p).length ≤ 30 := by
    have h1 := List.length_filter_le (fun n => decide ((n - r) % p = 0)) (intsB l h)
    have h2 : (intsB l h).length = (h - l).toNat := by simp [intsB]
    unfold memB; omega
  have e4 := fun (n : Int) (hn : 0 ≤ n) => m_nth (r := r) p1 hl hn
  have e5 := m_below (r := r) p1 hl
  generalize hMM : memB l h r p = M at *
  simp only [spCount, exists_and_left, hs2, lkLow, lkHigh, lkN_holds, lkN_turned, lkN_common, lkN_count, lkN_first, lkN_final, lkN_nth, lkN_below, cx_K, Value.ref.injEq, HO.xd.injEq, lk0, tSeq, tPar3, tPar, tCons, tNil, tVar, tC, tAsg, gName, gCons, gNil, gTupN, gSub, tOp, rI, rI0, rU, tTest, rNe, rEq, rIxTN, rIxLN, rLenL, rLenT, rIntI, rIntB, rAbs, rSetLN, tTruL, tRaiseX, rIsTy, rIsOw, ixN0, ixN1, tRet, tIf, tIfS, tNext, tBreak, tCont, tDrop, tTupN, tLstN, tUn, tCB, tCall, tNot, tAnd, tOr, tB, tAndV, tOrV, tNotV, tChain, tApp, LamX.tLam, tRevLN, rCatN, rInTN, rInLN, flatV, inV, List.all_cons, List.all_nil, List.any_cons, List.any_nil, Bool.and_self, Bool.and_true, if_true, Bool.false_eq_true, if_false, tMt, tFldN, tSto, HO.ins.injEq, lkh, List.drop_zero, List.drop_succ_cons, List.drop_nil, rListS, wipe, L2.start, List.map_cons, List.map_nil, List.length_cons, List.length_nil, List.replicate, List.cons_append, List.nil_append, List.append_nil, Nat.reduceAdd, Nat.reduceSub, Nat.zero_add, List.replicate_succ, List.replicate_zero, List.getElem?_cons_zero, List.getElem?_cons_succ, List.set_cons_zero, List.set_cons_succ, Option.some.injEq, V.int.injEq, V.bl.injEq, V.ref.injEq, V.str.injEq, V.ty.injEq, List.cons.injEq, HO.tup.injEq, HO.lst.injEq, and_true, true_and, and_assoc, exists_eq_left, exists_eq_left', exists_and_left, exists_eq', atI0, atI1, atI2, atI3, Int.cast_ofNat_Int, Int.reduceToNat, scal_ii, scal_in, scal_ni, scal_nn, scal_bb, scal_ss, scal_sn, scal_ns, scal_bn, scal_nb, ite_iff, decide_eq_true_eq, decide_eq_false_iff_not, Bool.not_eq_true', Classical.not_not, ne_eq, not_false_eq_true, not_true_eq_false, forall_const, true_implies, false_implies, imp_self, sizeLine_eq, Nat.reduceLeDiff, reduceCtorEq, decide_true, decide_false]
  refine ⟨dx, some l, some h, hs2, Rm.ints p1 ⟨b1000, _, h2, scal_oi, ?_⟩⟩
  rw [e1, List.length_map]
  refine ⟨fun h => absurd rfl h, fun _ => ⟨_, _, _, rfl, dx, some l, some h, hs2, Rm.ints p1 ?_⟩⟩
  intro c1 H3 hc1 s3 h3
  refine ⟨c1, rfl, _, s3 _ _ h2, _, h3, by simp; omega, fun c2 H4 hc2 s4 h4 => ⟨c2, rfl, _, h4, _, atI_cat0, scal_ov, ?_⟩⟩
  rw [e2]
  refine ⟨fun h => absurd rfl h, fun _ => ?_⟩
  have hs4 := s4 _ _ (s3 _ _ hs2)
  have h24 := s4 _ _ (s3 _ _ h2)
  simp only [spFinal, exists_and_left, hs4, lkLow, lkHigh, lkN_holds, lkN_turned, lkN_common, lkN_count, lkN_first, lkN_final, lkN_nth, lkN_below, cx_K, Value.ref.injEq, HO.xd.injEq, lk0, tSeq, tPar3, tPar, tCons, tNil, tVar, tC, tAsg, gName, gCons, gNil, gTupN, gSub, tOp, rI, rI0, rU, tTest, rNe, rEq, rIxTN, rIxLN, rLenL, rLenT, rIntI, rIntB, rAbs, rSetLN, tTruL, tRaiseX, rIsTy, rIsOw, ixN0, ixN1, tRet, tIf, tIfS, tNext, tBreak, tCont, tDrop, tTupN, tLstN, tUn, tCB, tCall, tNot, tAnd, tOr, tB, tAndV, tOrV, tNotV, tChain, tApp, LamX.tLam, tRevLN, rCatN, rInTN, rInLN, flatV, inV, List.all_cons, List.all_nil, List.any_cons, List.any_nil, Bool.and_self, Bool.and_true, if_true, Bool.false_eq_true, if_false, tMt, tFldN, tSto, HO.ins.injEq, lkh, List.drop_zero, List.drop_succ_cons, List.drop_nil, rListS, wipe, L2.start, List.map_cons, List.map_nil, List.length_cons, List.length_nil, List.replicate, List.cons_append, List.nil_append, List.append_nil, Nat.reduceAdd, Nat.reduceSub, Nat.zero_add, List.replicate_succ, List.replicate_zero, List.getElem?_cons_zero, List.getElem?_cons_succ, List.set_cons_zero, List.set_cons_succ, Option.some.injEq, V.int.injEq, V.bl.injEq, V.ref.injEq, V.str.injEq, V.ty.injEq, List.cons.injEq, HO.tup.injEq, HO.lst.injEq, and_true, true_and, and_assoc, exists_eq_left, exists_eq_left', exists_and_left, exists_eq', atI0, atI1, atI2, atI3, Int.cast_ofNat_Int, Int.reduceToNat, scal_ii, scal_in, scal_ni, scal_nn, scal_bb, scal_ss, scal_sn, scal_ns, scal_bn, scal_nb, ite_iff, decide_eq_true_eq, decide_eq_false_iff_not, Bool.not_eq_true', Classical.not_not, ne_eq, not_false_eq_true, not_true_eq_false, forall_const, true_implies, false_implies, imp_self, sizeLine_eq, Nat.reduceLeDiff, reduceCtorEq, decide_true, decide_false]
  refine ⟨dx, some l, some h, hs4, hl, Rm.ints p1 fun H5 s5 => ?_⟩
  intro c3 H6 hc3 s6 h6
  refine ⟨c3, rfl, _, h6, _, s6 _ _ (s5 _ _ h24), by simp; omega, fun c4 H7 hc4 s7 h7 => ⟨c4, rfl, _, h7, _, atI_catL, scal_ov, ?_⟩⟩
  rw [e3]
  refine ⟨fun h => absurd rfl h, fun _ => ?_⟩
  have hs7 := s7 _ _ (s6 _ _ (s5 _ _ hs4))
  have h27 := s7 _ _ (s6 _ _ (s5 _ _ h24))
  have S7 := (((s2.trans s3).trans s4).trans s5).trans (s6.trans s7)
  refine st_forR1 ((M.length : Int) + 2) (by omega) (fun R r => ?_) (fun i σ' H' => ∃ t, σ' = [some (V.ref a), some (V.int r), some (V.int p), some (V.ref b), t, none, none] ∧ Same H7 H') ⟨none, rfl, fun _ _ h => h⟩ ?_ ?_
  · simp only [exists_and_left, h27, cx_K, Value.ref.injEq, HO.xd.injEq, lk0, tSeq, tPar3, tPar, tCons, tNil, tVar, tC, tAsg, gName, gCons, gNil, gTupN, gSub, tOp, rI, rI0, rU, tTest, rNe, rEq, rIxTN, rIxLN, rLenL, rLenT, rIntI, rIntB, rAbs, rSetLN, tTruL, tRaiseX, rIsTy, rIsOw, ixN0, ixN1, tRet, tIf, tIfS, tNext, tBreak, tCont, tDrop, tTupN, tLstN, tUn, tCB, tCall, tNot, tAnd, tOr, tB, tAndV, tOrV, tNotV, tChain, tApp, LamX.tLam, tRevLN, rCatN, rInTN, rInLN, flatV, inV, List.all_cons, List.all_nil, List.any_cons, List.any_nil, Bool.and_self, Bool.and_true, if_true, Bool.false_eq_true, if_false, tMt, tFldN, tSto, HO.ins.injEq, lkh, List.drop_zero, List.drop_succ_cons, List.drop_nil, rListS, wipe, L2.start, List.map_cons, List.map_nil, List.length_cons, List.length_nil, List.replicate, List.cons_append, List.nil_append, List.append_nil, Nat.reduceAdd, Nat.reduceSub, Nat.zero_add, List.replicate_succ, List.replicate_zero, List.getElem?_cons_zero, List.getElem?_cons_succ, List.set_cons_zero, List.set_cons_succ, Option.some.injEq, V.int.injEq, V.bl.injEq, V.ref.injEq, V.str.injEq, V.ty.injEq, List.cons.injEq, HO.tup.injEq, HO.lst.injEq, and_true, true_and, and_assoc, exists_eq_left, exists_eq_left', exists_and_left, exists_eq', atI0, atI1, atI2, atI3, Int.cast_ofNat_Int, Int.reduceToNat, scal_ii, scal_in, scal_ni, scal_nn, scal_bb, scal_ss, scal_sn, scal_ns, scal_bn, scal_nb, ite_iff, decide_eq_true_eq, decide_eq_false_iff_not, Bool.not_eq_true', Classical.not_not, ne_eq, not_false_eq_true, not_true_eq_false, forall_const, true_implies, false_implies, imp_self, sizeLine_eq, Nat.reduceLeDiff, reduceCtorEq, decide_true, decide_false]
    simpa using r
  · rintro i _ H8 hi ⟨t, rfl, s8⟩
    have hs8 := s8 _ _ hs7
    have h28 := s8 _ _ h27
    simp only [spNth, exists_and_left, hs8, lkLow, lkHigh, lkN_holds, lkN_turned, lkN_common, lkN_count, lkN_first, lkN_final, lkN_nth, lkN_below, cx_K, Value.ref.injEq, HO.xd.injEq, lk0, tSeq, tPar3, tPar, tCons, tNil, tVar, tC, tAsg, gName, gCons, gNil, gTupN, gSub, tOp, rI, rI0, rU, tTest, rNe, rEq, rIxTN, rIxLN, rLenL, rLenT, rIntI, rIntB, rAbs, rSetLN, tTruL, tRaiseX, rIsTy, rIsOw, ixN0, ixN1, tRet, tIf, tIfS, tNext, tBreak, tCont, tDrop, tTupN, tLstN, tUn, tCB, tCall, tNot, tAnd, tOr, tB, tAndV, tOrV, tNotV, tChain, tApp, LamX.tLam, tRevLN, rCatN, rInTN, rInLN, flatV, inV, List.all_cons, List.all_nil, List.any_cons, List.any_nil, Bool.and_self, Bool.and_true, if_true, Bool.false_eq_true, if_false, tMt, tFldN, tSto, HO.ins.injEq, lkh, List.drop_zero, List.drop_succ_cons, List.drop_nil, rListS, wipe, L2.start, List.map_cons, List.map_nil, List.length_cons, List.length_nil, List.replicate, List.cons_append, List.nil_append, List.append_nil, Nat.reduceAdd, Nat.reduceSub, Nat.zero_add, List.replicate_succ, List.replicate_zero, List.getElem?_cons_zero, List.getElem?_cons_succ, List.set_cons_zero, List.set_cons_succ, Option.some.injEq, V.int.injEq, V.bl.injEq, V.ref.injEq, V.str.injEq, V.ty.injEq, List.cons.injEq, HO.tup.injEq, HO.lst.injEq, and_true, true_and, and_assoc, exists_eq_left, exists_eq_left', exists_and_left, exists_eq', atI0, atI1, atI2, atI3, Int.cast_ofNat_Int, Int.reduceToNat, scal_ii, scal_in, scal_ni, scal_nn, scal_bb, scal_ss, scal_sn, scal_ns, scal_bn, scal_nb, ite_iff, decide_eq_true_eq, decide_eq_false_iff_not, Bool.not_eq_true', Classical.not_not, ne_eq, not_false_eq_true, not_true_eq_false, forall_const, true_implies, false_implies, imp_self, sizeLine_eq, Nat.reduceLeDiff, reduceCtorEq, decide_true, decide_false]
    refine ⟨dx, some l, some h, hs8, wh_int, fun q => absurd (q _ rfl) (by omega), ?_⟩
    rintro _ rfl _
    refine Rm.ints p1 ⟨by omega, by omega, ?_⟩
    intro c1 Ha hc1 sa ha
    refine ⟨c1, rfl, _, sa _ _ h28, _, ha, by simp; omega, fun c2 Hb hc2 sb hb => ⟨c2, rfl, _, hb, _, atI_catN (by omega), scal_ov, ?_⟩⟩
    rw [e4 i (by omega), show ((i : Int)).toNat = i by omega]
    exact ⟨fun h => absurd rfl h, fun _ => (s8.trans sa).trans sb⟩
  · rintro _ H8 ⟨t, rfl, s8⟩
    have hs8 := s8 _ _ hs7
    have h28 := s8 _ _ h27
    have S8 := S7.trans s8
    simp only [exists_and_left, cx_K, Value.ref.injEq, HO.xd.injEq, lk0, tSeq, tPar3, tPar, tCons, tNil, tVar, tC, tAsg, gName, gCons, gNil, gTupN, gSub, tOp, rI, rI0, rU, tTest, rNe, rEq, rIxTN, rIxLN, rLenL, rLenT, rIntI, rIntB, rAbs, rSetLN, tTruL, tRaiseX, rIsTy, rIsOw, ixN0, ixN1, tRet, tIf, tIfS, tNext, tBreak, tCont, tDrop, tTupN, tLstN, tUn, tCB, tCall, tNot, tAnd, tOr, tB, tAndV, tOrV, tNotV, tChain, tApp, LamX.tLam, tRevLN, rCatN, rInTN, rInLN, flatV, inV, List.all_cons, List.all_nil, List.any_cons, List.any_nil, Bool.and_self, Bool.and_true, if_true, Bool.false_eq_true, if_false, tMt, tFldN, tSto, HO.ins.injEq, lkh, List.drop_zero, List.drop_succ_cons, List.drop_nil, rListS, wipe, L2.start, List.map_cons, List.map_nil, List.length_cons, List.length_nil, List.replicate, List.cons_append, List.nil_append, List.append_nil, Nat.reduceAdd, Nat.reduceSub, Nat.zero_add, List.replicate_succ, List.replicate_zero, List.getElem?_cons_zero, List.getElem?_cons_succ, List.set_cons_zero, List.set_cons_succ, Option.some.injEq, V.int.injEq, V.bl.injEq, V.ref.injEq, V.str.injEq, V.ty.injEq, List.cons.injEq, HO.tup.injEq, HO.lst.injEq, and_true, true_and, and_assoc, exists_eq_left, exists_eq_left', exists_and_left, exists_eq', atI0, atI1, atI2, atI3, Int.cast_ofNat_Int, Int.reduceToNat, scal_ii, scal_in, scal_ni, scal_nn, scal_bb, scal_ss, scal_sn, scal_ns, scal_bn, scal_nb, ite_iff, decide_eq_true_eq, decide_eq_false_iff_not, Bool.not_eq_true', Classical.not_not, ne_eq, not_false_eq_true, not_true_eq_false, forall_const, true_implies, false_implies, imp_self, sizeLine_eq, Nat.reduceLeDiff, reduceCtorEq, decide_true, decide_false]
    refine st_forRL (l - 1) (h + 2) (fun R r => ?_) (fun i σ' H' => ∃ t u, σ' = [some (V.ref a), some (V.int r), some (V.int p), some (V.ref b), t, u, none] ∧ Same H8 H') ⟨_, none, rfl, fun _ _ h => h⟩ ?_ ?_
    · simp only [exists_and_left, hs8, lkLow, lkHigh, ov, cx_K, Value.ref.injEq, HO.xd.injEq, lk0, tSeq, tPar3, tPar, tCons, tNil, tVar, tC, tAsg, gName, gCons, gNil, gTupN, gSub, tOp, rI, rI0, rU, tTest, rNe, rEq, rIxTN, rIxLN, rLenL, rLenT, rIntI, rIntB, rAbs, rSetLN, tTruL, tRaiseX, rIsTy, rIsOw, ixN0, ixN1, tRet, tIf, tIfS, tNext, tBreak, tCont, tDrop, tTupN, tLstN, tUn, tCB, tCall, tNot, tAnd, tOr, tB, tAndV, tOrV, tNotV, tChain, tApp, LamX.tLam, tRevLN, rCatN, rInTN, rInLN, flatV, inV, List.all_cons, List.all_nil, List.any_cons, List.any_nil, Bool.and_self, Bool.and_true, if_true, Bool.false_eq_true, if_false, tMt, tFldN, tSto, HO.ins.injEq, lkh, List.drop_zero, List.drop_succ_cons, List.drop_nil, rListS, wipe, L2.start, List.map_cons, List.map_nil, List.length_cons, List.length_nil, List.replicate, List.cons_append, List.nil_append, List.append_nil, Nat.reduceAdd, Nat.reduceSub, Nat.zero_add, List.replicate_succ, List.replicate_zero, List.getElem?_cons_zero, List.getElem?_cons_succ, List.set_cons_zero, List.set_cons_succ, Option.some.injEq, V.int.injEq, V.bl.injEq, V.ref.injEq, V.str.injEq, V.ty.injEq, List.cons.injEq, HO.tup.injEq, HO.lst.injEq, and_true, true_and, and_assoc, exists_eq_left, exists_eq_left', exists_and_left, exists_eq', atI0, atI1, atI2, atI3, Int.cast_ofNat_Int, Int.reduceToNat, scal_ii, scal_in, scal_ni, scal_nn, scal_bb, scal_ss, scal_sn, scal_ns, scal_bn, scal_nb, ite_iff, decide_eq_true_eq, decide_eq_false_iff_not, Bool.not_eq_true', Classical.not_not, ne_eq, not_false_eq_true, not_true_eq_false, forall_const, true_implies, false_implies, imp_self, sizeLine_eq, Nat.reduceLeDiff, reduceCtorEq, decide_true, decide_false]
      exact r
    · rintro i _ H9 hi ⟨t, u, rfl, s9⟩
      have hs9 := s9 _ _ hs8
      have h29 := s9 _ _ h28
      simp only [spBelow, exists_and_left, hs9, lkLow, lkHigh, lkN_holds, lkN_turned, lkN_common, lkN_count, lkN_first, lkN_final, lkN_nth, lkN_below, cx_K, Value.ref.injEq, HO.xd.injEq, lk0, tSeq, tPar3, tPar, tCons, tNil, tVar, tC, tAsg, gName, gCons, gNil, gTupN, gSub, tOp, rI, rI0, rU, tTest, rNe, rEq, rIxTN, rIxLN, rLenL, rLenT, rIntI, rIntB, rAbs, rSetLN, tTruL, tRaiseX, rIsTy, rIsOw, ixN0, ixN1, tRet, tIf, tIfS, tNext, tBreak, tCont, tDrop, tTupN, tLstN, tUn, tCB, tCall, tNot, tAnd, tOr, tB, tAndV, tOrV, tNotV, tChain, tApp, LamX.tLam, tRevLN, rCatN, rInTN, rInLN, flatV, inV, List.all_cons, List.all_nil, List.any_cons, List.any_nil, Bool.and_self, Bool.and_true, if_true, Bool.false_eq_true, if_false, tMt, tFldN, tSto, HO.ins.injEq, lkh, List.drop_zero, List.drop_succ_cons, List.drop_nil, rListS, wipe, L2.start, List.map_cons, List.map_nil, List.length_cons, List.length_nil, List.replicate, List.cons_append, List.nil_append, List.append_nil, Nat.reduceAdd, Nat.reduceSub, Nat.zero_add, List.replicate_succ, List.replicate_zero, List.getElem?_cons_zero, List.getElem?_cons_succ, List.set_cons_zero, List.set_cons_succ, Option.some.injEq, V.int.injEq, V.bl.injEq, V.ref.injEq, V.str.injEq, V.ty.injEq, List.cons.injEq, HO.tup.injEq, HO.lst.injEq, and_true, true_and, and_assoc, exists_eq_left, exists_eq_left', exists_and_left, exists_eq', atI0, atI1, atI2, atI3, Int.cast_ofNat_Int, Int.reduceToNat, scal_ii, scal_in, scal_ni, scal_nn, scal_bb, scal_ss, scal_sn, scal_ns, scal_bn, scal_nb, ite_iff, decide_eq_true_eq, decide_eq_false_iff_not, Bool.not_eq_true', Classical.not_not, ne_eq, not_false_eq_true, not_true_eq_false, forall_const, true_implies, false_implies, imp_self, sizeLine_eq, Nat.reduceLeDiff, reduceCtorEq, decide_true, decide_false]
      refine ⟨dx, some l, some h, hs9, wh_int, fun q => (by cases q), ?_⟩
      rintro _ rfl
      refine Rm.ints p1 ⟨b1000, fun Ha sa => ?_⟩
      refine st_lcLF (a := b) (fun R r' => ⟨_, rfl, r'⟩) (sa _ _ h29) (by rw [List.length_map, sizeLine_eq]; omega) (fun v => match v with | .int x => decide (x < l - 1 + i) | _ => false) (fun v => v) (fun v H' A B hv s hA hB => ?_) (fun D Hb hD sb hb => ?_)
      · obtain ⟨x, hx, rfl⟩ := List.mem_map.mp hv
        simp only [exists_and_left, cx_K, Value.ref.injEq, HO.xd.injEq, lk0, tSeq, tPar3, tPar, tCons, tNil, tVar, tC, tAsg, gName, gCons, gNil, gTupN, gSub, tOp, rI, rI0, rU, tTest, rNe, rEq, rIxTN, rIxLN, rLenL, rLenT, rIntI, rIntB, rAbs, rSetLN, tTruL, tRaiseX, rIsTy, rIsOw, ixN0, ixN1, tRet, tIf, tIfS, tNext, tBreak, tCont, tDrop, tTupN, tLstN, tUn, tCB, tCall, tNot, tAnd, tOr, tB, tAndV, tOrV, tNotV, tChain, tApp, LamX.tLam, tRevLN, rCatN, rInTN, rInLN, flatV, inV, List.all_cons, List.all_nil, List.any_cons, List.any_nil, Bool.and_self, Bool.and_true, if_true, Bool.false_eq_true, if_false, tMt, tFldN, tSto, HO.ins.injEq, lkh, List.drop_zero, List.drop_succ_cons, List.drop_nil, rListS, wipe, L2.start, List.map_cons, List.map_nil, List.length_cons, List.length_nil, List.replicate, List.cons_append, List.nil_append, List.append_nil, Nat.reduceAdd, Nat.reduceSub, Nat.zero_add, List.replicate_succ, List.replicate_zero, List.getElem?_cons_zero, List.getElem?_cons_succ, List.set_cons_zero, List.set_cons_succ, Option.some.injEq, V.int.injEq, V.bl.injEq, V.ref.injEq, V.str.injEq, V.ty.injEq, List.cons.injEq, HO.tup.injEq, HO.lst.injEq, and_true, true_and, and_assoc, exists_eq_left, exists_eq_left', exists_and_left, exists_eq', atI0, atI1, atI2, atI3, Int.cast_ofNat_Int, Int.reduceToNat, scal_ii, scal_in, scal_ni, scal_nn, scal_bb, scal_ss, scal_sn, scal_ns, scal_bn, scal_nb, ite_iff, decide_eq_true_eq, decide_eq_false_iff_not, Bool.not_eq_true', Classical.not_not, ne_eq, not_false_eq_true, not_true_eq_false, forall_const, true_implies, false_implies, imp_self, sizeLine_eq, Nat.reduceLeDiff, reduceCtorEq, decide_true, decide_false]
        exact ⟨fun e => hB (by simpa using e) H' (fun _ _ h => h), fun e => hA (by simpa using e) H' (fun _ _ h => h)⟩
      · refine ⟨D, rfl, _, hb, scal_oi, ?_⟩
        rw [e5]
        have el : ((M.map V.int).filter (fun v => match v with | .int x => decide (x < l - 1 + i) | _ => false)).length = (M.filter fun n => decide (n < l - 1 + i)).length := by
          rw [List.filter_map, List.length_map]; rfl
        rw [List.length_map, el]
        exact ⟨fun h => absurd rfl h, fun _ => (s9.trans sa).trans sb⟩
    · rintro _ H9 ⟨t, u, rfl, s9⟩
      simp only [exists_and_left, cx_K, Value.ref.injEq, HO.xd.injEq, lk0, tSeq, tPar3, tPar, tCons, tNil, tVar, tC, tAsg, gName, gCons, gNil, gTupN, gSub, tOp, rI, rI0, rU, tTest, rNe, rEq, rIxTN, rIxLN, rLenL, rLenT, rIntI, rIntB, rAbs, rSetLN, tTruL, tRaiseX, rIsTy, rIsOw, ixN0, ixN1, tRet, tIf, tIfS, tNext, tBreak, tCont, tDrop, tTupN, tLstN, tUn, tCB, tCall, tNot, tAnd, tOr, tB, tAndV, tOrV, tNotV, tChain, tApp, LamX.tLam, tRevLN, rCatN, rInTN, rInLN, flatV, inV, List.all_cons, List.all_nil, List.any_cons, List.any_nil, Bool.and_self, Bool.and_true, if_true, Bool.false_eq_true, if_false, tMt, tFldN, tSto, HO.ins.injEq, lkh, List.drop_zero, List.drop_succ_cons, List.drop_nil, rListS, wipe, L2.start, List.map_cons, List.map_nil, List.length_cons, List.length_nil, List.replicate, List.cons_append, List.nil_append, List.append_nil, Nat.reduceAdd, Nat.reduceSub, Nat.zero_add, List.replicate_succ, List.replicate_zero, List.getElem?_cons_zero, List.getElem?_cons_succ, List.set_cons_zero, List.set_cons_succ, Option.some.injEq, V.int.injEq, V.bl.injEq, V.ref.injEq, V.str.injEq, V.ty.injEq, List.cons.injEq, HO.tup.injEq, HO.lst.injEq, and_true, true_and, and_assoc, exists_eq_left, exists_eq_left', exists_and_left, exists_eq', atI0, atI1, atI2, atI3, Int.cast_ofNat_Int, Int.reduceToNat, scal_ii, scal_in, scal_ni, scal_nn, scal_bb, scal_ss, scal_sn, scal_ns, scal_bn, scal_nb, ite_iff, decide_eq_true_eq, decide_eq_false_iff_not, Bool.not_eq_true', Classical.not_not, ne_eq, not_false_eq_true, not_true_eq_false, forall_const, true_implies, false_implies, imp_self, sizeLine_eq, Nat.reduceLeDiff, reduceCtorEq, decide_true, decide_false]
      exact k H9 (S8.trans s9)

end
end Iz
/-! k02_k -/
set_option Elab.async false
set_option linter.all false
set_option maxRecDepth 100000
set_option maxHeartbeats 4000000
namespace Iz
open PySem PySem.Spec PyProof.Rows L2
open He (ga)
local macro_rules | `(tactic| walk_at "wp") => `(tactic| simp only [cx_K, Value.ref.injEq, HO.xd.injEq, lk0, tSeq, tPar3, tPar, tCons, tNil, tVar, tC, tAsg, gName, gCons, gNil, gTupN, gSub, tOp, rI, rI0, rU, tTest, rNe, rEq, rIxTN, rIxLN, rLenL, rLenT, rIntI, rIntB, rAbs, rSetLN, tTruL, tRaiseX, rIsTy, rIsOw, ixN0, ixN1, tRet, tIf, tIfS, tNext, tBreak, tCont, tDrop, tTupN, tLstN, tUn, tCB, tCall, tNot, tAnd, tOr, tB, tAndV, tOrV, tNotV, tChain, tApp, LamX.tLam, tRevLN, rCatN, rInTN, rInLN, flatV, inV, List.all_cons, List.all_nil, List.any_cons, List.any_nil, Bool.and_self, Bool.and_true, if_true, Bool.false_eq_true, if_false, tMt, tFldN, tSto, HO.ins.injEq, lkh, List.drop_zero, List.drop_succ_cons, List.drop_nil, rListS, wipe, L2.start, List.map_cons, List.map_nil, List.length_cons, List.length_nil, List.replicate, List.cons_append, List.nil_append, List.append_nil, Nat.reduceAdd, Nat.reduceSub, Nat.zero_add, List.replicate_succ, List.replicate_zero, List.getElem?_cons_zero, List.getElem?_cons_succ, List.set_cons_zero, List.set_cons_succ, Option.some.injEq, V.int.injEq, V.bl.injEq, V.ref.injEq, V.str.injEq, V.ty.injEq, List.cons.injEq, HO.tup.injEq, HO.lst.injEq, and_true, true_and, and_assoc, exists_eq_left, exists_eq_left', exists_and_left, exists_eq', atI0, atI1, atI2, atI3, Int.cast_ofNat_Int, Int.reduceToNat, scal_ii, scal_in, scal_ni, scal_nn, scal_bb, scal_ss, scal_sn, scal_ns, scal_bn, scal_nb, ite_iff, decide_eq_true_eq, decide_eq_false_iff_not, Bool.not_eq_true', Classical.not_not, ne_eq, not_false_eq_true, not_true_eq_false, forall_const, true_implies, false_implies, imp_self, sizeLine_eq, Nat.reduceLeDiff, reduceCtorEq, decide_true, decide_false])
section
variable {P : Program} {w : World} {K : PySem.W.Frag} {mg : Str → Option Value} {base : Heap}
open LamX
/-- what _law_refused makes of an error -/
def RefN (K : PySem.W.Frag) (Q : VK) : XK := fun cls d H' => ∃ dd, d = some dd ∧ cls = .ref (ga K "BadNumber") ∧ ∃ v s, H' dd = some (.xd [("number", v)]) ∧ ReprV v s ∧ Q (.str s) H'
def TTr (K : PySem.W.Frag) : (XK → Hp → VK → Prop) → Hp → VK → Prop := fun tl H Q => tl (RefN K Q) H fun _ H' => Q .non H'
theorem refused_gives {X : Cx} {g : Addr} {cdg : Value} {q : Str} (T : Txt X.K X.mg) : GivesTo X ["_law_call", "e"] "_law_refused" (defScope s__law_refused) g cdg (defBody s__law_refused) "_law_call" q (TTr X.K) := by
  intro f c' s H Q tl act hc h
  refine ⟨_, pss_cons (ps_try_as (X := (cxOf C8.CX0 X.prog X.w X.K X.mg X.base ["_law_call", "e"] "_law_refused" (defScope s__law_refused) g cdg X.A X.stack s H C8.E0).nox) (i := 1) (c := .ref (ga X.K "BadNumber"))
    (tb := fun W D σ H => ∃ Ech : XK, (∀ cls d σ' H', Ech cls d H' → W cls d σ' H') ∧ σ[0]? = some (some (.ref f)) ∧ H c' = some (CodeO c' q) ∧ tl Ech H fun _ H1 => D.nx σ H1)
    rfl rfl sc__law_refused.nd rfl rfl ⟨rfl, by decide, .inl T.x_BadNumber.g⟩ L2.takes0 (fun W pn xe tk _ => ?_)
    (fun a oe cls d pn hz hf => pss_len (n := 2) (pss_one (ps_ret (pe_callB call_reprN (by rfl) T.m_repr (by decide +kernel) (pa_cons (pe_xf T.x_BadNumber.xf T.x_BadNumber.no hz hf (pv 1)) pa_nil)))) rfl))
    (pss_one (ps_ret pe_non)), ?_⟩
  · refine ⟨fun pins s' σ H' D I h' => ?_⟩
    obtain ⟨Ech, hW, h1, h2, h3⟩ := h'
    exact (pss_one (ps_expr (act W pn xe Ech _ _ tk hW))).run pins s' σ H' D I ⟨h1, h2, h3⟩
  · refine ⟨RefN X.K Q, fun cls d σ' H' hh => ?_, rfl, hc, h⟩
    obtain ⟨dd, rfl, rfl, v, z, hd, hr, n⟩ := hh
    refine ⟨true, T.mNN, fun _ a ha hlen => ?_, fun z => nomatch z⟩
    rw [List.length_set] at hlen
    have hs1 : (σ'.set 1 (some (V.ref a)))[1]? = some (some (V.ref a)) := by simp [hlen]
    simp only [rIsX, tXf, rRepr, hs1, hd, exists_and_left, cx_K, Value.ref.injEq, HO.xd.injEq, lk0, tSeq, tPar3, tPar, tCons, tNil, tVar, tC, tAsg, gName, gCons, gNil, gTupN, gSub, tOp, rI, rI0, rU, tTest, rNe, rEq, rIxTN, rIxLN, rLenL, rLenT, rIntI, rIntB, rAbs, rSetLN, tTruL, tRaiseX, rIsTy, rIsOw, ixN0, ixN1, tRet, tIf, tIfS, tNext, tBreak, tCont, tDrop, tTupN, tLstN, tUn, tCB, tCall, tNot, tAnd, tOr, tB, tAndV, tOrV, tNotV, tChain, tApp, LamX.tLam, tRevLN, rCatN, rInTN, rInLN, flatV, inV, List.all_cons, List.all_nil, List.any_cons, List.any_nil, Bool.and_self, Bool.and_true, if_true, Bool.false_eq_true, if_false, tMt, tFldN, tSto, HO.ins.injEq, lkh, List.drop_zero, List.drop_succ_cons, List.drop_nil, rListS, wipe, L2.start, List.map_cons, List.map_nil, List.length_cons, List.length_nil, List.replicate, List.cons_append, List.nil_append, List.append_nil, Nat.reduceAdd, Nat.reduceSub, Nat.zero_add, List.replicate_succ, List.replicate_zero, List.getElem?_cons_zero, List.getElem?_cons_succ, List.set_cons_zero, List.set_cons_succ, Option.some.injEq, V.int.injEq, V.bl.injEq, V.ref.injEq, V.str.injEq, V.ty.injEq, List.cons.injEq, HO.tup.injEq, HO.lst.injEq, and_true, true_and, and_assoc, exists_eq_left, exists_eq_left', exists_and_left, exists_eq', atI0, atI1, atI2, atI3, Int.cast_ofNat_Int, Int.reduceToNat, scal_ii, scal_in, scal_ni, scal_nn, scal_bb, scal_ss, scal_sn, scal_ns, scal_bn, scal_nb, ite_iff, decide_eq_true_eq, decide_eq_false_iff_not, Bool.not_eq_true', Classical.not_not, ne_eq, not_false_eq_true, not_true_eq_false, forall_const, true_implies, false_implies, imp_self, sizeLine_eq, Nat.reduceLeDiff, reduceCtorEq, decide_true, decide_false]
    exact ⟨z, hr, n⟩
theorem ref_num {K : PySem.W.Frag} {Q : VK} {H : Hp} {v : V} {z : Str} (hz : ReprV v z) (n : ∀ H', Same H H' → Q (.str z) H') : Rse K (RefN K Q) H "BadNumber" "number" v := fun d H' hd hs h2 => ⟨d, rfl, rfl, v, z, h2, hz, n H' hs⟩
theorem ref1 {K : PySem.W.Frag} {H : Hp} {v : V} {z : Str} {T : List (Addr × Str)} {tl : XK → Hp → VK → Prop} {R : VK} (hT : Tabs T H) (hz : ReprV v z) (hsp : ∀ H1 (Q : VK) (E : XK), ExtN H H1 → Rse K E H1 "BadNumber" "number" v → tl E H1 Q)
    (k : ∀ H2, ExtN H H2 → Tabs T H2 → R (.str z) H2) : Tabs T H ∧ ∀ H1, ExtN H H1 → Tabs T H1 → TTr K tl H1 R :=
  ⟨hT, fun H1 e1 hT1 => hsp H1 _ _ e1 (ref_num hz fun H2 s2 => k H2 (e1.trans (extS s2)) (hT1.ext s2))⟩
theorem Tabs.stp {a c P : Addr} {q : Str} {H H' : Hp} (hT : Tabs [(P, q)] H) (hS : StA H a c) (e : Stp a c H H') : Tabs [(P, q)] H' := by
  obtain ⟨hac, n, cs, ha, hc, _⟩ := hS
  have key : ∀ b o, H b = some o → (∀ xs, o ≠ .lst xs) → H' b = some o := fun b o h hn => e b o h (fun z => by subst z; rw [ha] at h; exact hn _ (Option.some.inj h).symm) (fun z => by subst z; rw [hc] at h; exact hn _ (Option.some.inj h).symm)
  intro p hp
  obtain ⟨ps, h1, h2, h3⟩ := hT p hp
  refine ⟨ps, key _ _ h1 (fun xs z => by cases z), h2, fun pos cv hcv => ?_⟩
  obtain ⟨c0, e1, e2⟩ := h3 pos cv hcv
  exact ⟨c0, e1, key _ _ e2 (fun xs z => by unfold CodeO at z; cases z)⟩
theorem Stp.nl {a c b : Addr} {H H' : Hp} {o : HO} (e : Stp a c H H') (hS : StA H a c) (h : H b = some o) (hn : ∀ xs, o ≠ .lst xs) : H' b = some o := by
  obtain ⟨hac, n, cs, ha, hc, _⟩ := hS
  exact e b o h (fun z => by subst z; rw [ha] at h; exact hn _ (Option.some.inj h).symm) (fun z => by subst z; rw [hc] at h; exact hn _ (Option.some.inj h).symm)
theorem StA.ext {a c : Addr} {H H1 : Hp} (x : StA H a c) (h : ExtN H H1) : StA H1 a c := let ⟨n, m, cs, h1, h2, h3⟩ := x; ⟨n, m, cs, extL h h1, extL h h2, h3⟩
theorem extI {H H' : Hp} {p C dx : Addr} {fs : List (Str × V)} (e : ExtN H H') (h : H p = some (.ins C dx fs)) : H' p = some (.ins C dx fs) := e p _ h fun ps z => by cases z
theorem Tabs.put {T : List (Addr × Str)} {H H' : Hp} {L : Addr} {xs ys : List V} (hT : Tabs T H) (hL : H L = some (.lst xs)) (p : Put H H' L (.lst ys)) : Tabs T H' := by
  have key : ∀ b o, H b = some o → (∀ xs, o ≠ .lst xs) → H' b = some o := fun b o h hn => by
    rw [p.2 b (fun z => by subst z; rw [hL] at h; exact hn _ (Option.some.inj h).symm)]; exact h
  intro x hx
  obtain ⟨ps, h1, h2, h3⟩ := hT x hx
  refine ⟨ps, key _ _ h1 (fun xs z => by cases z), h2, fun pos cv hcv => ?_⟩
  obtain ⟨c0, e1, e2⟩ := h3 pos cv hcv
  exact ⟨c0, e1, key _ _ e2 (fun xs z => by unfold CodeO at z; cases z)⟩
theorem StA.put {a c L : Addr} {H H' : Hp} {o : HO} (x : StA H a c) (p : Put H H' L o) (h : L ≠ a ∧ L ≠ c) : StA H' a c := let ⟨n, m, cs, h1, h2, h3⟩ := x; ⟨n, m, cs, by rw [p.2 a h.1.symm]; exact h1, by rw [p.2 c h.2.symm]; exact h2, h3⟩
/-- what is told so far: the texts in the list at L; one object stands by -/
structure Sto (H : Hp) (T : List (Addr × Str)) (a c L st C dx : Addr) (fs : List (Str × V)) (zs : List Str) : Prop where
  hS : StA H a c
  hT : Tabs T H
  hO : H st = some (.ins C dx fs)
  hL : H L = some (.lst (zs.map V.str))
  hLa : L ≠ a ∧ L ≠ c
theorem ref_app {K : PySem.W.Frag} {H : Hp} {v : V} {z : Str} {T : List (Addr × Str)} {tl : XK → Hp → VK → Prop} {R : Hp → Prop} {a c L st C dx : Addr} {fs : List (Str × V)} {zs : List Str} (S : Sto H T a c L st C dx fs zs) (hl : zs.length ≤ 20) (hz : ReprV v z)
    (hsp : ∀ H1 (Q : VK) (E : XK), H1 st = some (.ins C dx fs) → Rse K E H1 "BadNumber" "number" v → tl E H1 Q) (k : ∀ H3, Sto H3 T a c L st C dx fs (zs ++ [z]) → R H3) :
    ∃ l, V.ref L = V.ref l ∧ (∃ xs, H l = some (.lst xs)) ∧ Tabs T H ∧ ∀ H1, ExtN H H1 → Tabs T H1 → TTr K tl H1 fun y H1 => ∃ xs, H1 l = some (.lst xs) ∧ xs.length < 16777216 ∧ ∀ H3, Put H1 H3 l (.lst (xs ++ [y])) → R H3 := by
  refine ⟨L, rfl, ⟨_, S.hL⟩, ref1 S.hT hz (fun H1 Q E e r => hsp H1 Q E (extI e S.hO) r) fun H2 e hT2 => ⟨_, extL e S.hL, by rw [List.length_map]; omega, fun H3 p => k H3 ⟨(S.hS.ext e).put p S.hLa, Tabs.put hT2 (extL e S.hL) p, ?_, ?_, S.hLa⟩⟩⟩
  · rw [p.2 st (ne_of (extI e S.hO) (extL e S.hL) (by intro z; cases z))]; exact extI e S.hO
  · rw [p.1, List.map_append]; rfl
/-- an odd value, and its repr -/
structure OddV (v : V) (z : Str) : Prop where
  wh : ∀ K H, Wh K H v
  nP : isP v = false
  rp : ReprV v z
  ok : PyData.strOk z = true
theorem odd3 {d : Int} (h0 : 0 ≤ d) (h1 : d < 3) : ∃ v z, atI [V.non, V.bl true, V.str (Str.ofString "1"), V.int (-1), V.int 0] d = some v ∧ OddV v z ∧ isI v = false := by
  have : d = 0 ∨ d = 1 ∨ d = 2 := by omega
  rcases this with rfl | rfl | rfl
  · exact ⟨_, _, atI0, ⟨fun _ _ => wh_non, rfl, rfl, by decide +kernel⟩, rfl⟩
  · exact ⟨_, _, atI1, ⟨fun _ _ => wh_bl, rfl, rfl, by decide +kernel⟩, rfl⟩
  · exact ⟨_, _, atI2, ⟨fun _ _ => wh_str, rfl, ⟨by decide +kernel, rfl⟩, by decide +kernel⟩, rfl⟩
theorem odd5 {d : Int} (h0 : 0 ≤ d) (h1 : d < 5) : ∃ v z, atI [V.non, V.bl true, V.str (Str.ofString "1"), V.int 0, V.int (-3)] d = some v ∧ OddV v z := by
  have : d = 0 ∨ d = 1 ∨ d = 2 ∨ d = 3 ∨ d = 4 := by omega
  rcases this with rfl | rfl | rfl | rfl | rfl
  · exact ⟨_, _, atI0, fun _ _ => wh_non, rfl, rfl, by decide +kernel⟩
  · exact ⟨_, _, atI1, fun _ _ => wh_bl, rfl, rfl, by decide +kernel⟩
  · exact ⟨_, _, atI2, fun _ _ => wh_str, rfl, ⟨by decide +kernel, rfl⟩, by decide +kernel⟩
  · exact ⟨_, _, atI_ok (by decide) rfl, fun _ _ => wh_int, rfl, ⟨by decide +kernel, rfl⟩, by decide +kernel⟩
  · exact ⟨_, _, atI_ok (by decide) rfl, fun _ _ => wh_int, rfl, ⟨by decide +kernel, rfl⟩, by decide +kernel⟩
theorem dp_strs {K : PySem.W.Frag} {H : Hp} {p : Addr} {zs : List Str} (h : H p = some (.lst (zs.map V.str))) : Dp K H (.ref p) (.list (zs.map PyData.str)) := by
  refine .lst (SqL.of h) ?_
  clear h
  induction zs with
  | nil => exact .nil
  | cons z zs ih => exact .cons (.str z) ih
theorem ShN.str {n : Nat} {z : Str} (h : PyData.strOk z = true) : ShN n (.str z) := ⟨by simp [PyData.canLay0, h], by simp [PyData.depth]⟩
theorem sh_strs {zs : List Str} (h : ∀ z ∈ zs, PyData.strOk z = true) : SeqAt.shaped (.list (zs.map PyData.str)) = true := (ShN.list (n := 0) fun d hd => by
  obtain ⟨z, hz, rfl⟩ := List.mem_map.mp hd; exact ShN.str (h z hz)).ok
theorem Rm.bad1 {K : PySem.W.Frag} {H : Hp} {E : XK} {r p : V} {G : Int → Int → Prop} (W : Wh K H r) (hr : isI r = false) (x : Rse K E H "BadNumber" "number" r) : Rm K H E r p G := ⟨W, fun _ => x, fun h => (by rw [hr] at h; cases h), fun r' p' e => (by subst e; cases hr)⟩
theorem Rm.bad2 {K : PySem.W.Frag} {H : Hp} {E : XK} {r : Int} {p : V} {G : Int → Int → Prop} (W : Wh K H p) (hp : isP p = false) (x : Rse K E H "BadNumber" "number" p) : Rm K H E (.int r) p G := ⟨wh_int, fun h => (by cases h), fun _ => ⟨W, fun _ => x⟩, fun r' p' _ e h1 => by subst e; simp [isP] at hp; omega⟩

end
end Iz
/-! k02_l -/
set_option Elab.async false
set_option linter.all false
set_option maxRecDepth 100000
set_option maxHeartbeats 4000000
namespace Iz
open PySem PySem.Spec PyProof.Rows L2
open He (ga)
local macro_rules | `(tactic| walk_at "wp") => `(tactic| simp only [cx_K, Value.ref.injEq, HO.xd.injEq, lk0, tSeq, tPar3, tPar, tCons, tNil, tVar, tC, tAsg, gName, gCons, gNil, gTupN, gSub, tOp, rI, rI0, rU, tTest, rNe, rEq, rIxTN, rIxLN, rLenL, rLenT, rIntI, rIntB, rAbs, rSetLN, tTruL, tRaiseX, rIsTy, rIsOw, ixN0, ixN1, tRet, tIf, tIfS, tNext, tBreak, tCont, tDrop, tTupN, tLstN, tUn, tCB, tCall, tNot, tAnd, tOr, tB, tAndV, tOrV, tNotV, tChain, tApp, LamX.tLam, tRevLN, rCatN, rInTN, rInLN, flatV, inV, List.all_cons, List.all_nil, List.any_cons, List.any_nil, Bool.and_self, Bool.and_true, if_true, Bool.false_eq_true, if_false, tMt, tFldN, tSto, HO.ins.injEq, lkh, List.drop_zero, List.drop_succ_cons, List.drop_nil, rListS, wipe, L2.start, List.map_cons, List.map_nil, List.length_cons, List.length_nil, List.replicate, List.cons_append, List.nil_append, List.append_nil, Nat.reduceAdd, Nat.reduceSub, Nat.zero_add, List.replicate_succ, List.replicate_zero, List.getElem?_cons_zero, List.getElem?_cons_succ, List.set_cons_zero, List.set_cons_succ, Option.some.injEq, V.int.injEq, V.bl.injEq, V.ref.injEq, V.str.injEq, V.ty.injEq, List.cons.injEq, HO.tup.injEq, HO.lst.injEq, and_true, true_and, and_assoc, exists_eq_left, exists_eq_left', exists_and_left, exists_eq', atI0, atI1, atI2, atI3, Int.cast_ofNat_Int, Int.reduceToNat, scal_ii, scal_in, scal_ni, scal_nn, scal_bb, scal_ss, scal_sn, scal_ns, scal_bn, scal_nb, ite_iff, decide_eq_true_eq, decide_eq_false_iff_not, Bool.not_eq_true', Classical.not_not, ne_eq, not_false_eq_true, not_true_eq_false, forall_const, true_implies, false_implies, imp_self, sizeLine_eq, Nat.reduceLeDiff, reduceCtorEq, decide_true, decide_false])
section
variable {P : Program} {w : World} {K : PySem.W.Frag} {mg : Str → Option Value} {base : Heap}
open LamX
def qn__law_odd_right : Str := (("_law_odd_right" : Str) ++ ".<locals>.") ++ "<lambda>"
def spOdd (K : PySem.W.Frag) : Sp := fun vs H Q _ => ∃ a st, vs = [.ref a, .ref st] ∧ ∃ c dx lo hi, StA H a c ∧ SAt K H st dx lo hi ∧ okO lo hi ∧ Tabs [(pOf K "_law_odd_right", qn__law_odd_right)] H ∧ ∀ H', StA H' a c → Tabs [(pOf K "_law_odd_right", qn__law_odd_right)] H' → Q (.bl true) H'
theorem o__law_odd_right (T : Txt K mg) (TB : TabB base mg (cOf K "_law_odd_right") (pOf K "_law_odd_right")) : OkF P w K mg base (L2.CX P w) 12 "_law_odd_right" ["_law_state", "_law_stretch"] (spOdd K) := by
  have o__law_draw := o__law_draw (P := P) (w := w) (base := base) T
  have o_Stretch_count := o_Stretch_count (P := P) (w := w) (base := base) T
  have o_Stretch_first := o_Stretch_first (P := P) (w := w) (base := base) T
  have o_Stretch_final := o_Stretch_final (P := P) (w := w) (base := base) T
  have o_Stretch_below := o_Stretch_below (P := P) (w := w) (base := base) T
  have o_Stretch_nth := o_Stretch_nth (P := P) (w := w) (base := base) T
  refine T.lam__law_odd_right.okF sc__law_odd_right (fun _ _ _ _ _ _ us hl => match us, hl with | [_, _], _ => rfl) (fun vs H Q E h => ?_) (fun f A outer s H vs Q E hr h => ?_)
  · first | (obtain ⟨_, rfl, _⟩ := h; rfl) | (obtain ⟨_, _, rfl, _⟩ := h; rfl) | (obtain ⟨_, _, _, rfl, _⟩ := h; rfl) | (obtain ⟨_, _, _, _, rfl, _⟩ := h; rfl) | (obtain ⟨_, _, _, _, _, rfl, _⟩ := h; rfl) | (obtain ⟨_, _, _, _, _, _, rfl, _⟩ := h; rfl) | (obtain ⟨_, _, _, _, _, _, _, rfl, _⟩ := h; rfl)
  have hu64 := hr.units
  refine ⟨_, pss_cons (ps_set (i := 3) sc__law_odd_right.nd rfl (Or.inr rfl) (pe_ix ix_tupN (pe_tupN (pa_cons (pe_non) (pa_cons (pe_bl) (pa_cons (pe_str) (pa_cons (pe_un un_neg (pe_int)) (pa_cons (pe_int) pa_nil)))))) (pcl o__law_draw (hr.mono (by decide)) pass0 (pa_cons (pv 0) (pa_cons (pe_int) pa_nil))) (fun _ _ => rfl)))
      (pss_cons (ps_set (i := 4) sc__law_odd_right.nd rfl (Or.inr rfl) (pe_ix ix_tupN (pe_tupN (pa_cons (pe_non) (pa_cons (pe_bl) (pa_cons (pe_str) (pa_cons (pe_int) (pa_cons (pe_un un_neg (pe_int)) pa_nil)))))) (pcl o__law_draw (hr.mono (by decide)) pass0 (pa_cons (pv 0) (pa_cons (pe_int) pa_nil))) (fun _ _ => rfl)))
      (pss_cons (ps_set (i := 2) sc__law_odd_right.nd rfl (Or.inl rfl) (pe_lstN (pa_cons (plam (k := 8) (qn := qn__law_odd_right) T.d__law_refused sc__law_refused (fun _ _ _ _ _ _ us hl => match us, hl with | [_], _ => rfl) (fun g cdg => refused_gives T) TB rfl rfl (hr.mono (by decide)) (by show lamSB (defScope s__law_odd_right) _ = true; decide +kernel) (fun A outer s H E f c hr2 => by exact (pmtK (K := K) rfl (j := 2) o_Stretch_count T.c_Stretch (pv 1) (by decide) (hr2.mono (by decide)) passLam (pa_cons (pv 3) (pa_cons (pv 4) pa_nil))))) pa_nil)))
      (pss_cons (ps_expr (pe_appN (pv 2) (pa_cons (plam (k := 8) (qn := qn__law_odd_right) T.d__law_refused sc__law_refused (fun _ _ _ _ _ _ us hl => match us, hl with | [_], _ => rfl) (fun g cdg => refused_gives T) TB rfl rfl (hr.mono (by decide)) (by show lamSB (defScope s__law_odd_right) _ = true; decide +kernel) (fun A outer s H E f c hr2 => by exact (pmtK (K := K) rfl (j := 2) o_Stretch_first T.c_Stretch (pv 1) (by decide) (hr2.mono (by decide)) passLam (pa_cons (pe_int) (pa_cons (pv 4) pa_nil))))) pa_nil)))
      (pss_cons (ps_expr (pe_appN (pv 2) (pa_cons (plam (k := 8) (qn := qn__law_odd_right) T.d__law_refused sc__law_refused (fun _ _ _ _ _ _ us hl => match us, hl with | [_], _ => rfl) (fun g cdg => refused_gives T) TB rfl rfl (hr.mono (by decide)) (by show lamSB (defScope s__law_odd_right) _ = true; decide +kernel) (fun A outer s H E f c hr2 => by exact (pmtK (K := K) rfl (j := 2) o_Stretch_final T.c_Stretch (pv 1) (by decide) (hr2.mono (by decide)) passLam (pa_cons (pe_int) (pa_cons (pv 4) pa_nil))))) pa_nil)))
      (pss_cons (ps_expr (pe_appN (pv 2) (pa_cons (plam (k := 8) (qn := qn__law_odd_right) T.d__law_refused sc__law_refused (fun _ _ _ _ _ _ us hl => match us, hl with | [_], _ => rfl) (fun g cdg => refused_gives T) TB rfl rfl (hr.mono (by decide)) (by show lamSB (defScope s__law_odd_right) _ = true; decide +kernel) (fun A outer s H E f c hr2 => by exact (pmtK (K := K) rfl (j := 2) o_Stretch_below T.c_Stretch (pv 1) (by decide) (hr2.mono (by decide)) passLam (pa_cons (pv 3) (pa_cons (pv 3) (pa_cons (pe_int) pa_nil)))))) pa_nil)))
      (pss_cons (ps_expr (pe_appN (pv 2) (pa_cons (plam (k := 8) (qn := qn__law_odd_right) T.d__law_refused sc__law_refused (fun _ _ _ _ _ _ us hl => match us, hl with | [_], _ => rfl) (fun g cdg => refused_gives T) TB rfl rfl (hr.mono (by decide)) (by show lamSB (defScope s__law_odd_right) _ = true; decide +kernel) (fun A outer s H E f c hr2 => by exact (pmtK (K := K) rfl (j := 2) o_Stretch_nth T.c_Stretch (pv 1) (by decide) (hr2.mono (by decide)) passLam (pa_cons (pe_un un_neg (pe_int)) (pa_cons (pv 3) (pa_cons (pv 4) pa_nil)))))) pa_nil)))
      (pss_cons (ps_expr (pe_appN (pv 2) (pa_cons (plam (k := 8) (qn := qn__law_odd_right) T.d__law_refused sc__law_refused (fun _ _ _ _ _ _ us hl => match us, hl with | [_], _ => rfl) (fun g cdg => refused_gives T) TB rfl rfl (hr.mono (by decide)) (by show lamSB (defScope s__law_odd_right) _ = true; decide +kernel) (fun A outer s H E f c hr2 => by exact (pmtK (K := K) rfl (j := 1) o_Stretch_nth T.c_Stretch (pv 1) (by decide) (hr2.mono (by decide)) passLam (pa_cons (pe_int) (pa_cons (pv 3) pa_nil))))) pa_nil)))
      (pss_one (ps_ret (pe_cmpR (op_eqDk (K := K) rfl hu64) (pv 2) (pe_lstN (pa_cons (pe_callB call_reprN (by rfl) T.m_repr (by decide +kernel) (pa_cons (pv 3) pa_nil)) (pa_cons (pe_callB call_reprN (by rfl) T.m_repr (by decide +kernel) (pa_cons (pv 4) pa_nil)) (pa_cons (pe_callB call_reprN (by rfl) T.m_repr (by decide +kernel) (pa_cons (pv 4) pa_nil)) (pa_cons (pe_callB call_reprN (by rfl) T.m_repr (by decide +kernel) (pa_cons (pv 3) pa_nil)) (pa_cons (pe_str) (pa_cons (pe_callB call_reprN (by rfl) T.m_repr (by decide +kernel) (pa_cons (pv 3) pa_nil)) pa_nil))))))) (nomark _))))))))))), ?_⟩
  obtain ⟨a, st, rfl, c, dx, lo, hi, hS, hst, ho, hT, k⟩ := h
  simp only [spDraw, exists_and_left, cx_K, Value.ref.injEq, HO.xd.injEq, lk0, tSeq, tPar3, tPar, tCons, tNil, tVar, tC, tAsg, gName, gCons, gNil, gTupN, gSub, tOp, rI, rI0, rU, tTest, rNe, rEq, rIxTN, rIxLN, rLenL, rLenT, rIntI, rIntB, rAbs, rSetLN, tTruL, tRaiseX, rIsTy, rIsOw, ixN0, ixN1, tRet, tIf, tIfS, tNext, tBreak, tCont, tDrop, tTupN, tLstN, tUn, tCB, tCall, tNot, tAnd, tOr, tB, tAndV, tOrV, tNotV, tChain, tApp, LamX.tLam, tRevLN, rCatN, rInTN, rInLN, flatV, inV, List.all_cons, List.all_nil, List.any_cons, List.any_nil, Bool.and_self, Bool.and_true, if_true, Bool.false_eq_true, if_false, tMt, tFldN, tSto, HO.ins.injEq, lkh, List.drop_zero, List.drop_succ_cons, List.drop_nil, rListS, wipe, L2.start, List.map_cons, List.map_nil, List.length_cons, List.length_nil, List.replicate, List.cons_append, List.nil_append, List.append_nil, Nat.reduceAdd, Nat.reduceSub, Nat.zero_add, List.replicate_succ, List.replicate_zero, List.getElem?_cons_zero, List.getElem?_cons_succ, List.set_cons_zero, List.set_cons_succ, Option.some.injEq, V.int.injEq, V.bl.injEq, V.ref.injEq, V.str.injEq, V.ty.injEq, List.cons.injEq, HO.tup.injEq, HO.lst.injEq, and_true, true_and, and_assoc, exists_eq_left, exists_eq_left', exists_and_left, exists_eq', atI0, atI1, atI2, atI3, Int.cast_ofNat_Int, Int.reduceToNat, scal_ii, scal_in, scal_ni, scal_nn, scal_bb, scal_ss, scal_sn, scal_ns, scal_bn, scal_nb, ite_iff, decide_eq_true_eq, decide_eq_false_iff_not, Bool.not_eq_true', Classical.not_not, ne_eq, not_false_eq_true, not_true_eq_false, forall_const, true_implies, false_implies, imp_self, sizeLine_eq, Nat.reduceLeDiff, reduceCtorEq, decide_true, decide_false]
  intro p1 H1 hp1 s1 h1
  have hS1 := hS.same s1
  have hst1 := s1 _ _ hst
  refine ⟨c, hS1, by decide, by decide, fun d H2 d0 d1 hS2 t2 => ?_⟩
  have h2 := t2.nl hS1 h1 (fun _ z => by cases z)
  have hst2 := t2.nl hS1 hst1 (fun _ z => by cases z)
  obtain ⟨v, z, hv, ov, oI⟩ := odd3 d0 d1
  have hT2 := Tabs.stp (hT.ext s1) hS1 t2
  clear hS1 t2 h1 s1 hS hT hp1 hst hst1 H1
  simp only [h2, hv, exists_and_left, spDraw, cx_K, Value.ref.injEq, HO.xd.injEq, lk0, tSeq, tPar3, tPar, tCons, tNil, tVar, tC, tAsg, gName, gCons, gNil, gTupN, gSub, tOp, rI, rI0, rU, tTest, rNe, rEq, rIxTN, rIxLN, rLenL, rLenT, rIntI, rIntB, rAbs, rSetLN, tTruL, tRaiseX, rIsTy, rIsOw, ixN0, ixN1, tRet, tIf, tIfS, tNext, tBreak, tCont, tDrop, tTupN, tLstN, tUn, tCB, tCall, tNot, tAnd, tOr, tB, tAndV, tOrV, tNotV, tChain, tApp, LamX.tLam, tRevLN, rCatN, rInTN, rInLN, flatV, inV, List.all_cons, List.all_nil, List.any_cons, List.any_nil, Bool.and_self, Bool.and_true, if_true, Bool.false_eq_true, if_false, tMt, tFldN, tSto, HO.ins.injEq, lkh, List.drop_zero, List.drop_succ_cons, List.drop_nil, rListS, wipe, L2.start, List.map_cons, List.map_nil, List.length_cons, List.length_nil, List.replicate, List.cons_append, List.nil_append, List.append_nil, Nat.reduceAdd, Nat.reduceSub, Nat.zero_add, List.replicate_succ, List.replicate_zero, List.getElem?_cons_zero, List.getElem?_cons_succ, List.set_cons_zero, List.set_cons_succ, Option.some.injEq, V.int.injEq, V.bl.injEq, V.ref.injEq, V.str.injEq, V.ty.injEq, List.cons.injEq, HO.tup.injEq, HO.lst.injEq, and_true, true_and, and_assoc, exists_eq_left, exists_eq_left', exists_and_left, exists_eq', atI0, atI1, atI2, atI3, Int.cast_ofNat_Int, Int.reduceToNat, scal_ii, scal_in, scal_ni, scal_nn, scal_bb, scal_ss, scal_sn, scal_ns, scal_bn, scal_nb, ite_iff, decide_eq_true_eq, decide_eq_false_iff_not, Bool.not_eq_true', Classical.not_not, ne_eq, not_false_eq_true, not_true_eq_false, forall_const, true_implies, false_implies, imp_self, sizeLine_eq, Nat.reduceLeDiff, reduceCtorEq, decide_true, decide_false]
  intro p2 H3 hp2 s3 h3
  have hS3 := hS2.same s3
  have hst3 := s3 _ _ hst2
  refine ⟨c, hS3, by decide, by decide, fun d H4 d0 d1 hS4 t4 => ?_⟩
  have h4 := t4.nl hS3 h3 (fun _ z => by cases z)
  have hst4 := t4.nl hS3 hst3 (fun _ z => by cases z)
  obtain ⟨u, y, hu, ou⟩ := odd5 d0 d1
  have hT4 := Tabs.stp (hT2.ext s3) hS3 t4
  clear hS3 t4 h3 s3 hS2 hT2 hp2 hst2 hst3 h2 H3
  simp only [h4, hu, exists_and_left, rRepr, cx_K, Value.ref.injEq, HO.xd.injEq, lk0, tSeq, tPar3, tPar, tCons, tNil, tVar, tC, tAsg, gName, gCons, gNil, gTupN, gSub, tOp, rI, rI0, rU, tTest, rNe, rEq, rIxTN, rIxLN, rLenL, rLenT, rIntI, rIntB, rAbs, rSetLN, tTruL, tRaiseX, rIsTy, rIsOw, ixN0, ixN1, tRet, tIf, tIfS, tNext, tBreak, tCont, tDrop, tTupN, tLstN, tUn, tCB, tCall, tNot, tAnd, tOr, tB, tAndV, tOrV, tNotV, tChain, tApp, LamX.tLam, tRevLN, rCatN, rInTN, rInLN, flatV, inV, List.all_cons, List.all_nil, List.any_cons, List.any_nil, Bool.and_self, Bool.and_true, if_true, Bool.false_eq_true, if_false, tMt, tFldN, tSto, HO.ins.injEq, lkh, List.drop_zero, List.drop_succ_cons, List.drop_nil, rListS, wipe, L2.start, List.map_cons, List.map_nil, List.length_cons, List.length_nil, List.replicate, List.cons_append, List.nil_append, List.append_nil, Nat.reduceAdd, Nat.reduceSub, Nat.zero_add, List.replicate_succ, List.replicate_zero, List.getElem?_cons_zero, List.getElem?_cons_succ, List.set_cons_zero, List.set_cons_succ, Option.some.injEq, V.int.injEq, V.bl.injEq, V.ref.injEq, V.str.injEq, V.ty.injEq, List.cons.injEq, HO.tup.injEq, HO.lst.injEq, and_true, true_and, and_assoc, exists_eq_left, exists_eq_left', exists_and_left, exists_eq', atI0, atI1, atI2, atI3, Int.cast_ofNat_Int, Int.reduceToNat, scal_ii, scal_in, scal_ni, scal_nn, scal_bb, scal_ss, scal_sn, scal_ns, scal_bn, scal_nb, ite_iff, decide_eq_true_eq, decide_eq_false_iff_not, Bool.not_eq_true', Classical.not_not, ne_eq, not_false_eq_true, not_true_eq_false, forall_const, true_implies, false_implies, imp_self, sizeLine_eq, Nat.reduceLeDiff, reduceCtorEq, decide_true, decide_false]
  have M1 : ReprV (.int (-1)) "-1" := ⟨by decide +kernel, by decide +kernel⟩
  refine ref1 hT4 ov.rp (fun H7 Q E e r => ⟨dx, _, extI e hst4, lkN_count, _, _, _, rfl, dx, lo, hi, extI e hst4, Rm.bad1 (ov.wh K H7) oI r⟩) (fun H7 e7 hT7 => ?_)
  intro L H8 hL s8 h8
  have hS7 := hS4.ext e7
  have hLa : L ≠ a ∧ L ≠ c := by obtain ⟨_, _, _, ha, hc, _⟩ := hS7; exact ⟨(ne_of_none ha hL).symm, (ne_of_none hc hL).symm⟩
  have S8 : Sto H8 [(pOf K "_law_odd_right", qn__law_odd_right)] a c L st (ga K "Stretch") dx [("low", Iz.ov lo), ("high", Iz.ov hi)] [z] := ⟨hS7.same s8, hT7.ext s8, s8 _ _ (extI e7 hst4), h8, hLa⟩
  clear hS4 hT4 hst4 h4 hS7 hT7 hL s8 h8 e7
  refine ref_app S8 (by simp) ou.rp (fun H1 Q E ho r => ⟨dx, _, ho, lkN_first, _, _, _, rfl, dx, lo, hi, ho, Rm.bad2 (ou.wh K H1) ou.nP r⟩) (fun H9 S9 => ?_)
  refine ref_app S9 (by simp) ou.rp (fun H1 Q E h2 r => ⟨dx, _, h2, lkN_final, _, _, _, rfl, dx, lo, hi, h2, ho, Rm.bad2 (ou.wh K H1) ou.nP r⟩) (fun H10 S10 => ?_)
  refine ref_app S10 (by simp) ov.rp (fun H1 Q E ho r => ⟨dx, _, ho, lkN_below, _, _, _, _, rfl, dx, lo, hi, ho, ov.wh K H1, fun _ => r, fun i e => by subst e; cases oI⟩) (fun H11 S11 => ?_)
  refine ref_app S11 (by simp) M1 (fun H1 Q E ho r => ⟨dx, _, ho, lkN_nth, _, _, _, _, rfl, dx, lo, hi, ho, wh_int, fun _ => r, fun n e h => by cases e; omega⟩) (fun H12 S12 => ?_)
  refine ref_app S12 (by simp) ov.rp (fun H1 Q E ho r => ⟨dx, _, ho, lkN_nth, _, _, _, _, rfl, dx, lo, hi, ho, wh_int, fun h => absurd (h 2 rfl) (by omega), fun n e h => Rm.bad1 (ov.wh K H1) oI r⟩) (fun H13 S13 => ?_)
  clear S8 S9 S10 S11 S12
  refine ⟨_, ov.rp, _, ou.rp, _, ou.rp, _, ov.rp, _, ov.rp, fun N Hn hN sn hn => ?_⟩
  have zz : [V.str z, V.str y, V.str y, V.str z, V.str (Str.ofString "-1"), V.str z] = [z, y, y, z, Str.ofString "-1", z].map V.str := rfl
  refine eq_same (dp_strs (sn _ _ S13.hL)) (dp_strs (zs := [z, y, y, z, Str.ofString "-1", z]) hn) (sh_strs fun x hx => ?_) (k _ (S13.hS.same sn) (S13.hT.ext sn))
  have om : PyData.strOk (Str.ofString "-1") = true := by decide +kernel
  have o1 := ov.ok
  have o2 := ou.ok
  simp only [List.cons_append, List.nil_append, List.mem_cons, List.not_mem_nil, or_false] at hx
  rcases hx with rfl | rfl | rfl | rfl | rfl | rfl <;> assumption

end
end Iz
/-! k02_m -/
set_option Elab.async false
set_option linter.all false
set_option maxRecDepth 100000
set_option maxHeartbeats 4000000
namespace Iz
open PySem PySem.Spec PyProof.Rows L2
open He (ga)
local macro_rules | `(tactic| walk_at "wp") => `(tactic| simp only [cx_K, Value.ref.injEq, HO.xd.injEq, lk0, tSeq, tPar3, tPar, tCons, tNil, tVar, tC, tAsg, gName, gCons, gNil, gTupN, gSub, tOp, rI, rI0, rU, tTest, rNe, rEq, rIxTN, rIxLN, rLenL, rLenT, rIntI, rIntB, rAbs, rSetLN, tTruL, tRaiseX, rIsTy, rIsOw, ixN0, ixN1, tRet, tIf, tIfS, tNext, tBreak, tCont, tDrop, tTupN, tLstN, tUn, tCB, tCall, tNot, tAnd, tOr, tB, tAndV, tOrV, tNotV, tChain, tApp, LamX.tLam, tRevLN, rCatN, rInTN, rInLN, flatV, inV, List.all_cons, List.all_nil, List.any_cons, List.any_nil, Bool.and_self, Bool.and_true, if_true, Bool.false_eq_true, if_false, tMt, tFldN, tSto, HO.ins.injEq, lkh, List.drop_zero, List.drop_succ_cons, List.drop_nil, rListS, wipe, L2.start, List.map_cons, List.map_nil, List.length_cons, List.length_nil, List.replicate, List.cons_append, List.nil_append, List.append_nil, Nat.reduceAdd, Nat.reduceSub, Nat.zero_add, List.replicate_succ, List.replicate_zero, List.getElem?_cons_zero, List.getElem?_cons_succ, List.set_cons_zero, List.set_cons_succ, Option.some.injEq, V.int.injEq, V.bl.injEq, V.ref.injEq, V.str.injEq, V.ty.injEq, List.cons.injEq, HO.tup.injEq, HO.lst.injEq, and_true, true_and, and_assoc, exists_eq_left, exists_eq_left', exists_and_left, exists_eq', atI0, atI1, atI2, atI3, Int.cast_ofNat_Int, Int.reduceToNat, scal_ii, scal_in, scal_ni, scal_nn, scal_bb, scal_ss, scal_sn, scal_ns, scal_bn, scal_nb, ite_iff, decide_eq_true_eq, decide_eq_false_iff_not, Bool.not_eq_true', Classical.not_not, ne_eq, not_false_eq_true, not_true_eq_false, forall_const, true_implies, false_implies, imp_self, sizeLine_eq, Nat.reduceLeDiff, reduceCtorEq, decide_true, decide_false])
section
variable {P : Program} {w : World} {K : PySem.W.Frag} {mg : Str → Option Value} {base : Heap}
open LamX
abbrev TbO (K : PySem.W.Frag) : List (Addr × Str) := [(pOf K "_law_odd_right", qn__law_odd_right)]
structure LS (K : PySem.W.Frag) (H : Hp) (a c q st dx : Addr) (lo hi : Option Int) : Prop where
  hS : StA H a c
  hT : Tabs (TbO K) H
  hq : H q = some (.tup [ov lo, ov hi])
  hst : SAt K H st dx lo hi
section
variable {H H' : Hp} {a c q st dx : Addr} {lo hi : Option Int}
theorem LS.same (L : LS K H a c q st dx lo hi) (s : Same H H') : LS K H' a c q st dx lo hi := ⟨L.hS.same s, Tabs.ext L.hT s, s _ _ L.hq, s _ _ L.hst⟩
theorem LS.stp (L : LS K H a c q st dx lo hi) (s : StA H' a c) (t : Stp a c H H') : LS K H' a c q st dx lo hi := ⟨s, Tabs.stp L.hT L.hS t, t.nl L.hS L.hq (fun _ z => by cases z), t.nl L.hS L.hst (fun _ z => by cases z)⟩
end
theorem for_inT {K : PySem.W.Frag} {tl : TE} {g : TG} {tb : TS} {D : Ends} {σ : L2.St} {H : Hp} (h : tl σ H fun x H1 => tFor (iTup K fun _ H R => R x H) g tb D σ H1) : tFor (iTup K tl) g tb D σ H := h
theorem for_inL {K : PySem.W.Frag} {tl : TE} {g : TG} {tb : TS} {D : Ends} {σ : L2.St} {H : Hp} (h : tl σ H fun x H1 => tFor (iList K fun _ H R => R x H) g tb D σ H1) : tFor (iList K tl) g tb D σ H := h
def spLaw (K : PySem.W.Frag) : Sp := fun vs H Q _ => ∃ sc, vs = [.ref sc] ∧ ∃ ns : List Int, SqL K H sc (ns.map V.int) ∧ ns.length ≤ 63 ∧ Tabs (TbO K) H ∧ ∀ H', Q (.bl true) H'
theorem o_law (T : Txt K mg) (TB : TabB base mg (cOf K "_law_odd_right") (pOf K "_law_odd_right")) {f : Addr} {fd : FuncData} (F : Fun K "law" "law" s_law f fd) : FnOk P w K mg base (L2.CX P w) 13 f fd ["_law_script"] (spLaw K) := by
  have o__law_draw := o__law_draw (P := P) (w := w) (base := base) T
  have o__law_number := o__law_number (P := P) (w := w) (base := base) T
  have o__law_ends := o__law_ends (P := P) (w := w) (base := base) T
  have o_Stretch := o_Stretch (P := P) (w := w) (base := base) T
  have o__law_small_right := o__law_small_right (P := P) (w := w) (base := base) T
  have o_Stretch_count := o_Stretch_count (P := P) (w := w) (base := base) T
  have o_Stretch_first := o_Stretch_first (P := P) (w := w) (base := base) T
  have o_Stretch_final := o_Stretch_final (P := P) (w := w) (base := base) T
  have o_Stretch_nth := o_Stretch_nth (P := P) (w := w) (base := base) T
  have o_Stretch_below := o_Stretch_below (P := P) (w := w) (base := base) T
  have o__law_count := o__law_count (P := P) (w := w) (base := base) T
  have o__law_first := o__law_first (P := P) (w := w) (base := base) T
  have o__law_final := o__law_final (P := P) (w := w) (base := base) T
  have o__law_nth := o__law_nth (P := P) (w := w) (base := base) T
  have o__law_points := o__law_points (P := P) (w := w) (base := base) T
  have o__law_cut := o__law_cut (P := P) (w := w) (base := base) T
  have o__law_odd_right := o__law_odd_right (P := P) (w := w) (base := base) T TB
  refine F.okX sc_law (fun vs H Q E h => ?_) (fun cdv A outer s H vs Q E hr h => ?_)
  · first | (obtain ⟨_, rfl, _⟩ := h; rfl) | (obtain ⟨_, _, rfl, _⟩ := h; rfl) | (obtain ⟨_, _, _, rfl, _⟩ := h; rfl) | (obtain ⟨_, _, _, _, rfl, _⟩ := h; rfl) | (obtain ⟨_, _, _, _, _, rfl, _⟩ := h; rfl) | (obtain ⟨_, _, _, _, _, _, rfl, _⟩ := h; rfl) | (obtain ⟨_, _, _, _, _, _, _, rfl, _⟩ := h; rfl)
  have hu64 := hr.units
  refine ⟨_, pss_cons (ps_set (i := 1) sc_law.nd rfl (Or.inl rfl) (pe_lstN (pa_cons (pe_callTy call_listS (by rfl) T.m_list (by decide +kernel) (pa_cons (pv 0) pa_nil)) (pa_cons (pe_int) pa_nil))))
      (pss_cons (ps_for (passes_of rfl) rfl (pi_range1 rfl T.m_range (pa_cons (pe_int) pa_nil)) (pg_name (i := 2) sc_law.nd rfl (Or.inl rfl)) (pss_cons (ps_set (i := 3) sc_law.nd rfl (Or.inl rfl) (pcl o__law_ends (hr.mono (by decide)) pass0 (pa_cons (pv 1) pa_nil)))
      (pss_cons (ps_set (i := 4) sc_law.nd rfl (Or.inl rfl) (pmk (j := 2) o_Stretch (by decide) (hr.mono (by decide)) passE (pa_cons (pe_ix ix_tupN (pv 3) (pe_int) (fun _ _ => rfl)) (pa_cons (pe_ix ix_tupN (pv 3) (pe_int) (fun _ _ => rfl)) pa_nil))))
      (pss_cons (ps_par (i := 5) (j := 6) (by rfl) sc_law.nd rfl rfl (by decide) rfl rfl (pa_cons (pcl o__law_number (hr.mono (by decide)) pass0 (pa_cons (pv 1) (pa_cons (pe_int) pa_nil))) (pa_cons (pe_op op_add (pe_int) (pcl o__law_draw (hr.mono (by decide)) pass0 (pa_cons (pv 1) (pa_cons (pe_int) pa_nil)))) pa_nil)) (by rfl))
      (pss_cons (ps_cut (ps_if (pt_cmpR op_eq (pcl o__law_draw (hr.mono (by decide)) pass0 (pa_cons (pv 1) (pa_cons (pe_int) pa_nil))) (pe_int) (nomark _)) (pss_one (ps_set (i := 6) sc_law.nd rfl (Or.inl rfl) (pe_op op_add (pv 6) (pe_op op_pow (pe_int) (pe_int))))) (pss_nil)))
      (pss_cons (ps_cut (ps_if (PW.pt (pw_and (pt_cmpR op_notInTN (pe_non) (pv 3) (by rfl)) (pw_and (pt_cmpR op_lt (pe_op op_sub (pe_ix ix_tupN (pv 3) (pe_int) (fun _ _ => rfl)) (pe_ix ix_tupN (pv 3) (pe_int) (fun _ _ => rfl))) (pe_int) (nomark _)) (pw_and (pt_cmpR op_lt (pv 6) (pe_int) (nomark _)) (pw_and1 (pt_not (pt_val (pcl o__law_small_right (hr.mono (by decide)) pass0 (pa_cons (pv 4) (pa_cons (pv 5) (pa_cons (pv 6) pa_nil))))))))))) (pss_one (ps_ret (pe_bl))) (pss_nil)))
      (pss_cons (ps_cut (ps_if (PW.pt (pw_or (pt_cmpR op_ne (pmt (j := 2) o_Stretch_count T.c_Stretch (pv 4) (by decide) (hr.mono (by decide)) passE (pa_cons (pv 5) (pa_cons (pv 6) pa_nil))) (pcl o__law_count (hr.mono (by decide)) pass0 (pa_cons (pe_lstN (pa_cons (pv 3) pa_nil)) (pa_cons (pv 5) (pa_cons (pv 6) pa_nil)))) (nomark _)) (pw_or1 (pt_cmpR op_ne (pmt (j := 2) o_Stretch_first T.c_Stretch (pv 4) (by decide) (hr.mono (by decide)) passE (pa_cons (pv 5) (pa_cons (pv 6) pa_nil))) (pcl o__law_first (hr.mono (by decide)) pass0 (pa_cons (pe_lstN (pa_cons (pv 3) pa_nil)) (pa_cons (pv 5) (pa_cons (pv 6) pa_nil)))) (nomark _))))) (pss_one (ps_ret (pe_bl))) (pss_nil)))
      (pss_cons (ps_cut (ps_if (PW.pt (pw_or (pt_cmpR op_ne (pmt (j := 2) o_Stretch_final T.c_Stretch (pv 4) (by decide) (hr.mono (by decide)) passE (pa_cons (pv 5) (pa_cons (pv 6) pa_nil))) (pcl o__law_final (hr.mono (by decide)) pass0 (pa_cons (pe_lstN (pa_cons (pv 3) pa_nil)) (pa_cons (pv 5) (pa_cons (pv 6) pa_nil)))) (nomark _)) (pw_or1 (pt_cmpR op_ne (pmt0 (j := 0) o_Stretch_count T.c_Stretch (pv 4) (by decide) (hr.mono (by decide)) passE) (pcl o__law_count (hr.mono (by decide)) pass0 (pa_cons (pe_lstN (pa_cons (pv 3) pa_nil)) (pa_cons (pe_int) (pa_cons (pe_int) pa_nil)))) (nomark _))))) (pss_one (ps_ret (pe_bl))) (pss_nil)))
      (pss_cons (ps_for (passes_of rfl) rfl (pi_tup (pe_tupN (pa_cons (pe_int) (pa_cons (pe_int) (pa_cons (pe_int) (pa_cons (pe_op op_pow (pe_int) (pe_int)) pa_nil)))))) (pg_name (i := 7) sc_law.nd rfl (Or.inl rfl)) (pss_one (ps_if (PW.pt (pw_or (pt_cmpR op_ne (pmt (j := 2) o_Stretch_nth T.c_Stretch (pv 4) (by decide) (hr.mono (by decide)) passE (pa_cons (pv 7) (pa_cons (pv 5) (pa_cons (pv 6) pa_nil)))) (pcl o__law_nth (hr.mono (by decide)) pass0 (pa_cons (pe_lstN (pa_cons (pv 3) pa_nil)) (pa_cons (pv 7) (pa_cons (pv 5) (pa_cons (pv 6) pa_nil))))) (nomark _)) (pw_or1 (pt_cmpR op_ne (pmt (j := 0) o_Stretch_nth T.c_Stretch (pv 4) (by decide) (hr.mono (by decide)) passE (pa_cons (pv 7) pa_nil)) (pcl o__law_nth (hr.mono (by decide)) pass0 (pa_cons (pe_lstN (pa_cons (pv 3) pa_nil)) (pa_cons (pv 7) (pa_cons (pe_int) (pa_cons (pe_int) pa_nil))))) (nomark _))))) (pss_one (ps_ret (pe_bl))) (pss_nil))))
      (pss_cons (ps_for (passes_of rfl) rfl (pi_list (pcl o__law_points (hr.mono (by decide)) pass0 (pa_cons (pe_lstN (pa_cons (pv 3) pa_nil)) pa_nil))) (pg_name (i := 8) sc_law.nd rfl (Or.inl rfl)) (pss_one (ps_if (pt_cmpR op_ne (pmt (j := 2) o_Stretch_below T.c_Stretch (pv 4) (by decide) (hr.mono (by decide)) passE (pa_cons (pv 8) (pa_cons (pv 5) (pa_cons (pv 6) pa_nil)))) (pcl o__law_count (hr.mono (by decide)) pass0 (pa_cons (pcl o__law_cut (hr.mono (by decide)) pass0 (pa_cons (pe_lstN (pa_cons (pv 3) pa_nil)) (pa_cons (pv 8) pa_nil))) (pa_cons (pv 5) (pa_cons (pv 6) pa_nil)))) (nomark _)) (pss_one (ps_ret (pe_bl))) (pss_nil))))
      (pss_one (ps_if (pt_not (pt_val (pcl o__law_odd_right (hr.mono (by decide)) passE (pa_cons (pv 1) (pa_cons (pv 4) pa_nil))))) (pss_one (ps_ret (pe_bl))) (pss_nil)))))))))))))
      (pss_one (ps_ret (pe_bl)))), ?_⟩
  obtain ⟨sc, rfl, ns, hsc, hns, hT, k⟩ := h
  simp only [exists_and_left, cx_K, Value.ref.injEq, HO.xd.injEq, lk0, tSeq, tPar3, tPar, tCons, tNil, tVar, tC, tAsg, gName, gCons, gNil, gTupN, gSub, tOp, rI, rI0, rU, tTest, rNe, rEq, rIxTN, rIxLN, rLenL, rLenT, rIntI, rIntB, rAbs, rSetLN, tTruL, tRaiseX, rIsTy, rIsOw, ixN0, ixN1, tRet, tIf, tIfS, tNext, tBreak, tCont, tDrop, tTupN, tLstN, tUn, tCB, tCall, tNot, tAnd, tOr, tB, tAndV, tOrV, tNotV, tChain, tApp, LamX.tLam, tRevLN, rCatN, rInTN, rInLN, flatV, inV, List.all_cons, List.all_nil, List.any_cons, List.any_nil, Bool.and_self, Bool.and_true, if_true, Bool.false_eq_true, if_false, tMt, tFldN, tSto, HO.ins.injEq, lkh, List.drop_zero, List.drop_succ_cons, List.drop_nil, rListS, wipe, L2.start, List.map_cons, List.map_nil, List.length_cons, List.length_nil, List.replicate, List.cons_append, List.nil_append, List.append_nil, Nat.reduceAdd, Nat.reduceSub, Nat.zero_add, List.replicate_succ, List.replicate_zero, List.getElem?_cons_zero, List.getElem?_cons_succ, List.set_cons_zero, List.set_cons_succ, Option.some.injEq, V.int.injEq, V.bl.injEq, V.ref.injEq, V.str.injEq, V.ty.injEq, List.cons.injEq, HO.tup.injEq, HO.lst.injEq, and_true, true_and, and_assoc, exists_eq_left, exists_eq_left', exists_and_left, exists_eq', atI0, atI1, atI2, atI3, Int.cast_ofNat_Int, Int.reduceToNat, scal_ii, scal_in, scal_ni, scal_nn, scal_bb, scal_ss, scal_sn, scal_ns, scal_bn, scal_nb, ite_iff, decide_eq_true_eq, decide_eq_false_iff_not, Bool.not_eq_true', Classical.not_not, ne_eq, not_false_eq_true, not_true_eq_false, forall_const, true_implies, false_implies, imp_self, sizeLine_eq, Nat.reduceLeDiff, reduceCtorEq, decide_true, decide_false]
  refine ⟨_, hsc, fun c H1 n1 s1 h1 => fun a H2 n2 s2 h2 => ?_⟩
  have hS : StA H2 a c := ⟨ne_of_none (show H1 c = _ from h1) n2 |>.symm, 0, ns, h2, s2 _ _ h1, hns⟩
  have hT2 := Tabs.ext (Tabs.ext hT s1) s2
  clear hT h1 h2 s1 s2 n1 n2 hsc
  refine st_forR1 3 (by decide) (fun Q q => q) (fun i σ H' => StA H' a c ∧ Tabs (TbO K) H' ∧ ∃ (t x1 x2 x3 x4 x5 x6 : Option V), σ = [some (.ref sc), some (.ref a), t, x1, x2, x3, x4, x5, x6]) ⟨hS, hT2, _, _, _, _, _, _, _, rfl⟩ ?_ ?_
  · clear hS hT2
    rintro i _ H3 hi ⟨hS, hT, t, x1, x2, x3, x4, x5, x6, rfl⟩
    simp only [exists_and_left, spEnds, cx_K, Value.ref.injEq, HO.xd.injEq, lk0, tSeq, tPar3, tPar, tCons, tNil, tVar, tC, tAsg, gName, gCons, gNil, gTupN, gSub, tOp, rI, rI0, rU, tTest, rNe, rEq, rIxTN, rIxLN, rLenL, rLenT, rIntI, rIntB, rAbs, rSetLN, tTruL, tRaiseX, rIsTy, rIsOw, ixN0, ixN1, tRet, tIf, tIfS, tNext, tBreak, tCont, tDrop, tTupN, tLstN, tUn, tCB, tCall, tNot, tAnd, tOr, tB, tAndV, tOrV, tNotV, tChain, tApp, LamX.tLam, tRevLN, rCatN, rInTN, rInLN, flatV, inV, List.all_cons, List.all_nil, List.any_cons, List.any_nil, Bool.and_self, Bool.and_true, if_true, Bool.false_eq_true, if_false, tMt, tFldN, tSto, HO.ins.injEq, lkh, List.drop_zero, List.drop_succ_cons, List.drop_nil, rListS, wipe, L2.start, List.map_cons, List.map_nil, List.length_cons, List.length_nil, List.replicate, List.cons_append, List.nil_append, List.append_nil, Nat.reduceAdd, Nat.reduceSub, Nat.zero_add, List.replicate_succ, List.replicate_zero, List.getElem?_cons_zero, List.getElem?_cons_succ, List.set_cons_zero, List.set_cons_succ, Option.some.injEq, V.int.injEq, V.bl.injEq, V.ref.injEq, V.str.injEq, V.ty.injEq, List.cons.injEq, HO.tup.injEq, HO.lst.injEq, and_true, true_and, and_assoc, exists_eq_left, exists_eq_left', exists_and_left, exists_eq', atI0, atI1, atI2, atI3, Int.cast_ofNat_Int, Int.reduceToNat, scal_ii, scal_in, scal_ni, scal_nn, scal_bb, scal_ss, scal_sn, scal_ns, scal_bn, scal_nb, ite_iff, decide_eq_true_eq, decide_eq_false_iff_not, Bool.not_eq_true', Classical.not_not, ne_eq, not_false_eq_true, not_true_eq_false, forall_const, true_implies, false_implies, imp_self, sizeLine_eq, Nat.reduceLeDiff, reduceCtorEq, decide_true, decide_false]
    refine ⟨c, hS, fun q lo hi H4 ho blo bhi hS4 t4 h4 => ?_⟩
    have hT4 := Tabs.stp hT hS t4
    simp only [exists_and_left, h4, spSt, wh_ov, cx_K, Value.ref.injEq, HO.xd.injEq, lk0, tSeq, tPar3, tPar, tCons, tNil, tVar, tC, tAsg, gName, gCons, gNil, gTupN, gSub, tOp, rI, rI0, rU, tTest, rNe, rEq, rIxTN, rIxLN, rLenL, rLenT, rIntI, rIntB, rAbs, rSetLN, tTruL, tRaiseX, rIsTy, rIsOw, ixN0, ixN1, tRet, tIf, tIfS, tNext, tBreak, tCont, tDrop, tTupN, tLstN, tUn, tCB, tCall, tNot, tAnd, tOr, tB, tAndV, tOrV, tNotV, tChain, tApp, LamX.tLam, tRevLN, rCatN, rInTN, rInLN, flatV, inV, List.all_cons, List.all_nil, List.any_cons, List.any_nil, Bool.and_self, Bool.and_true, if_true, Bool.false_eq_true, if_false, tMt, tFldN, tSto, HO.ins.injEq, lkh, List.drop_zero, List.drop_succ_cons, List.drop_nil, rListS, wipe, L2.start, List.map_cons, List.map_nil, List.length_cons, List.length_nil, List.replicate, List.cons_append, List.nil_append, List.append_nil, Nat.reduceAdd, Nat.reduceSub, Nat.zero_add, List.replicate_succ, List.replicate_zero, List.getElem?_cons_zero, List.getElem?_cons_succ, List.set_cons_zero, List.set_cons_succ, Option.some.injEq, V.int.injEq, V.bl.injEq, V.ref.injEq, V.str.injEq, V.ty.injEq, List.cons.injEq, HO.tup.injEq, HO.lst.injEq, and_true, true_and, and_assoc, exists_eq_left, exists_eq_left', exists_and_left, exists_eq', atI0, atI1, atI2, atI3, Int.cast_ofNat_Int, Int.reduceToNat, scal_ii, scal_in, scal_ni, scal_nn, scal_bb, scal_ss, scal_sn, scal_ns, scal_bn, scal_nb, ite_iff, decide_eq_true_eq, decide_eq_false_iff_not, Bool.not_eq_true', Classical.not_not, ne_eq, not_false_eq_true, not_true_eq_false, forall_const, true_implies, false_implies, imp_self, sizeLine_eq, Nat.reduceLeDiff, reduceCtorEq, decide_true, decide_false]
    refine ⟨fun _ => fun st dx H5 hst5 s5 h5 => ?_, fun e => by rw [okS_ov.mpr ho] at e; cases e⟩
    simp only [exists_and_left, spNum, cx_K, Value.ref.injEq, HO.xd.injEq, lk0, tSeq, tPar3, tPar, tCons, tNil, tVar, tC, tAsg, gName, gCons, gNil, gTupN, gSub, tOp, rI, rI0, rU, tTest, rNe, rEq, rIxTN, rIxLN, rLenL, rLenT, rIntI, rIntB, rAbs, rSetLN, tTruL, tRaiseX, rIsTy, rIsOw, ixN0, ixN1, tRet, tIf, tIfS, tNext, tBreak, tCont, tDrop, tTupN, tLstN, tUn, tCB, tCall, tNot, tAnd, tOr, tB, tAndV, tOrV, tNotV, tChain, tApp, LamX.tLam, tRevLN, rCatN, rInTN, rInLN, flatV, inV, List.all_cons, List.all_nil, List.any_cons, List.any_nil, Bool.and_self, Bool.and_true, if_true, Bool.false_eq_true, if_false, tMt, tFldN, tSto, HO.ins.injEq, lkh, List.drop_zero, List.drop_succ_cons, List.drop_nil, rListS, wipe, L2.start, List.map_cons, List.map_nil, List.length_cons, List.length_nil, List.replicate, List.cons_append, List.nil_append, List.append_nil, Nat.reduceAdd, Nat.reduceSub, Nat.zero_add, List.replicate_succ, List.replicate_zero, List.getElem?_cons_zero, List.getElem?_cons_succ, List.set_cons_zero, List.set_cons_succ, Option.some.injEq, V.int.injEq, V.bl.injEq, V.ref.injEq, V.str.injEq, V.ty.injEq, List.cons.injEq, HO.tup.injEq, HO.lst.injEq, and_true, true_and, and_assoc, exists_eq_left, exists_eq_left', exists_and_left, exists_eq', atI0, atI1, atI2, atI3, Int.cast_ofNat_Int, Int.reduceToNat, scal_ii, scal_in, scal_ni, scal_nn, scal_bb, scal_ss, scal_sn, scal_ns, scal_bn, scal_nb, ite_iff, decide_eq_true_eq, decide_eq_false_iff_not, Bool.not_eq_true', Classical.not_not, ne_eq, not_false_eq_true, not_true_eq_false, forall_const, true_implies, false_implies, imp_self, sizeLine_eq, Nat.reduceLeDiff, reduceCtorEq, decide_true, decide_false]
    have L5 : LS K H5 a c q st dx lo hi := ⟨hS4.same s5, Tabs.ext hT4 s5, s5 _ _ h4, h5⟩
    clear hS hT hS4 t4 h4 hT4 s5 h5 hst5
    refine ⟨c, L5.hS, by decide, by decide, fun r H6 br hS6 t6 => ?_⟩
    simp only [exists_and_left, spDraw, cx_K, Value.ref.injEq, HO.xd.injEq, lk0, tSeq, tPar3, tPar, tCons, tNil, tVar, tC, tAsg, gName, gCons, gNil, gTupN, gSub, tOp, rI, rI0, rU, tTest, rNe, rEq, rIxTN, rIxLN, rLenL, rLenT, rIntI, rIntB, rAbs, rSetLN, tTruL, tRaiseX, rIsTy, rIsOw, ixN0, ixN1, tRet, tIf, tIfS, tNext, tBreak, tCont, tDrop, tTupN, tLstN, tUn, tCB, tCall, tNot, tAnd, tOr, tB, tAndV, tOrV, tNotV, tChain, tApp, LamX.tLam, tRevLN, rCatN, rInTN, rInLN, flatV, inV, List.all_cons, List.all_nil, List.any_cons, List.any_nil, Bool.and_self, Bool.and_true, if_true, Bool.false_eq_true, if_false, tMt, tFldN, tSto, HO.ins.injEq, lkh, List.drop_zero, List.drop_succ_cons, List.drop_nil, rListS, wipe, L2.start, List.map_cons, List.map_nil, List.length_cons, List.length_nil, List.replicate, List.cons_append, List.nil_append, List.append_nil, Nat.reduceAdd, Nat.reduceSub, Nat.zero_add, List.replicate_succ, List.replicate_zero, List.getElem?_cons_zero, List.getElem?_cons_succ, List.set_cons_zero, List.set_cons_succ, Option.some.injEq, V.int.injEq, V.bl.injEq, V.ref.injEq, V.str.injEq, V.ty.injEq, List.cons.injEq, HO.tup.injEq, HO.lst.injEq, and_true, true_and, and_assoc, exists_eq_left, exists_eq_left', exists_and_left, exists_eq', atI0, atI1, atI2, atI3, Int.cast_ofNat_Int, Int.reduceToNat, scal_ii, scal_in, scal_ni, scal_nn, scal_bb, scal_ss, scal_sn, scal_ns, scal_bn, scal_nb, ite_iff, decide_eq_true_eq, decide_eq_false_iff_not, Bool.not_eq_true', Classical.not_not, ne_eq, not_false_eq_true, not_true_eq_false, forall_const, true_implies, false_implies, imp_self, sizeLine_eq, Nat.reduceLeDiff, reduceCtorEq, decide_true, decide_false]
    refine ⟨c, hS6, by decide, by decide, fun p0 H7 p00 p01 hS7 t7 => ?_⟩
    have L7 := (L5.stp hS6 t6).stp hS7 t7
    clear L5 hS6 t6 t7 hS7
    have e20 : (10 : Int) ^ (20 : Int).toNat = 100000000000000000000 := rfl
    have e25 : (10 : Int) ^ (25 : Int).toNat = 10000000000000000000000000 := rfl
    refine ⟨fun σ' H' => ∃ p : Int, σ' = [some (.ref sc), some (.ref a), some (.int i), some (.ref q), some (.ref st), some (.int r), some (.int p), x5, x6] ∧ 1 ≤ p ∧ p.natAbs < 2 ^ 90 ∧ LS K H' a c q st dx lo hi, ?_, ?_⟩
    · simp only [exists_and_left, spDraw, e20, cx_K, Value.ref.injEq, HO.xd.injEq, lk0, tSeq, tPar3, tPar, tCons, tNil, tVar, tC, tAsg, gName, gCons, gNil, gTupN, gSub, tOp, rI, rI0, rU, tTest, rNe, rEq, rIxTN, rIxLN, rLenL, rLenT, rIntI, rIntB, rAbs, rSetLN, tTruL, tRaiseX, rIsTy, rIsOw, ixN0, ixN1, tRet, tIf, tIfS, tNext, tBreak, tCont, tDrop, tTupN, tLstN, tUn, tCB, tCall, tNot, tAnd, tOr, tB, tAndV, tOrV, tNotV, tChain, tApp, LamX.tLam, tRevLN, rCatN, rInTN, rInLN, flatV, inV, List.all_cons, List.all_nil, List.any_cons, List.any_nil, Bool.and_self, Bool.and_true, if_true, Bool.false_eq_true, if_false, tMt, tFldN, tSto, HO.ins.injEq, lkh, List.drop_zero, List.drop_succ_cons, List.drop_nil, rListS, wipe, L2.start, List.map_cons, List.map_nil, List.length_cons, List.length_nil, List.replicate, List.cons_append, List.nil_append, List.append_nil, Nat.reduceAdd, Nat.reduceSub, Nat.zero_add, List.replicate_succ, List.replicate_zero, List.getElem?_cons_zero, List.getElem?_cons_succ, List.set_cons_zero, List.set_cons_succ, Option.some.injEq, V.int.injEq, V.bl.injEq, V.ref.injEq, V.str.injEq, V.ty.injEq, List.cons.injEq, HO.tup.injEq, HO.lst.injEq, and_true, true_and, and_assoc, exists_eq_left, exists_eq_left', exists_and_left, exists_eq', atI0, atI1, atI2, atI3, Int.cast_ofNat_Int, Int.reduceToNat, scal_ii, scal_in, scal_ni, scal_nn, scal_bb, scal_ss, scal_sn, scal_ns, scal_bn, scal_nb, ite_iff, decide_eq_true_eq, decide_eq_false_iff_not, Bool.not_eq_true', Classical.not_not, ne_eq, not_false_eq_true, not_true_eq_false, forall_const, true_implies, false_implies, imp_self, sizeLine_eq, Nat.reduceLeDiff, reduceCtorEq, decide_true, decide_false]
      refine ⟨c, L7.hS, by decide, by decide, fun d H8 d0 d1 hS8 t8 => ⟨fun _ => ⟨⟨by decide, by decide, by decide⟩, by omega, by omega, L7.stp hS8 t8⟩, fun _ => ⟨by omega, by omega, L7.stp hS8 t8⟩⟩⟩
    · rintro _ H8 ⟨p, rfl, p1, bp, L⟩
      clear L7
      have b1000 : p.natAbs < 2 ^ 1000 := Nat.lt_trans bp (by decide +kernel)
      refine ⟨fun σ' H' => σ' = [some (.ref sc), some (.ref a), some (.int i), some (.ref q), some (.ref st), some (.int r), some (.int p), x5, x6] ∧ LS K H' a c q st dx lo hi, ?_, ?_⟩
      · have hq8 := L.hq
        cases lo <;> cases hi <;> simp only [exists_and_left, spSmall, hq8, ov, cx_K, Value.ref.injEq, HO.xd.injEq, lk0, tSeq, tPar3, tPar, tCons, tNil, tVar, tC, tAsg, gName, gCons, gNil, gTupN, gSub, tOp, rI, rI0, rU, tTest, rNe, rEq, rIxTN, rIxLN, rLenL, rLenT, rIntI, rIntB, rAbs, rSetLN, tTruL, tRaiseX, rIsTy, rIsOw, ixN0, ixN1, tRet, tIf, tIfS, tNext, tBreak, tCont, tDrop, tTupN, tLstN, tUn, tCB, tCall, tNot, tAnd, tOr, tB, tAndV, tOrV, tNotV, tChain, tApp, LamX.tLam, tRevLN, rCatN, rInTN, rInLN, flatV, inV, List.all_cons, List.all_nil, List.any_cons, List.any_nil, Bool.and_self, Bool.and_true, if_true, Bool.false_eq_true, if_false, tMt, tFldN, tSto, HO.ins.injEq, lkh, List.drop_zero, List.drop_succ_cons, List.drop_nil, rListS, wipe, L2.start, List.map_cons, List.map_nil, List.length_cons, List.length_nil, List.replicate, List.cons_append, List.nil_append, List.append_nil, Nat.reduceAdd, Nat.reduceSub, Nat.zero_add, List.replicate_succ, List.replicate_zero, List.getElem?_cons_zero, List.getElem?_cons_succ, List.set_cons_zero, List.set_cons_succ, Option.some.injEq, V.int.injEq, V.bl.injEq, V.ref.injEq, V.str.injEq, V.ty.injEq, List.cons.injEq, HO.tup.injEq, HO.lst.injEq, and_true, true_and, and_assoc, exists_eq_left, exists_eq_left', exists_and_left, exists_eq', atI0, atI1, atI2, atI3, Int.cast_ofNat_Int, Int.reduceToNat, scal_ii, scal_in, scal_ni, scal_nn, scal_bb, scal_ss, scal_sn, scal_ns, scal_bn, scal_nb, ite_iff, decide_eq_true_eq, decide_eq_false_iff_not, Bool.not_eq_true', Classical.not_not, ne_eq, not_false_eq_true, not_true_eq_false, forall_const, true_implies, false_implies, imp_self, sizeLine_eq, Nat.reduceLeDiff, reduceCtorEq, decide_true, decide_false]
        · exact ⟨fun e => by simp [eqV] at e, fun _ => L⟩
        · exact ⟨fun e => by simp [eqV] at e, fun _ => L⟩
        · exact ⟨fun e => by simp [eqV] at e, fun _ => L⟩
        · exact ⟨fun _ => ⟨fun h1 => ⟨fun h2 => ⟨_, _, _, L.hst, ho, h1, p1, h2, fun H' s => L.same s⟩, fun _ => L⟩, fun _ => L⟩, fun _ => L⟩
      · rintro _ H9 ⟨rfl, L9⟩
        clear L
        refine ⟨fun σ' H' => σ' = [some (.ref sc), some (.ref a), some (.int i), some (.ref q), some (.ref st), some (.int r), some (.int p), x5, x6] ∧ LS K H' a c q st dx lo hi, ?_, ?_⟩
        · have hst9 := L9.hst
          simp only [exists_and_left, spCount, spCnt, hst9, lkLow, lkHigh, lkN_holds, lkN_turned, lkN_common, lkN_count, lkN_first, lkN_final, lkN_nth, lkN_below, cx_K, Value.ref.injEq, HO.xd.injEq, lk0, tSeq, tPar3, tPar, tCons, tNil, tVar, tC, tAsg, gName, gCons, gNil, gTupN, gSub, tOp, rI, rI0, rU, tTest, rNe, rEq, rIxTN, rIxLN, rLenL, rLenT, rIntI, rIntB, rAbs, rSetLN, tTruL, tRaiseX, rIsTy, rIsOw, ixN0, ixN1, tRet, tIf, tIfS, tNext, tBreak, tCont, tDrop, tTupN, tLstN, tUn, tCB, tCall, tNot, tAnd, tOr, tB, tAndV, tOrV, tNotV, tChain, tApp, LamX.tLam, tRevLN, rCatN, rInTN, rInLN, flatV, inV, List.all_cons, List.all_nil, List.any_cons, List.any_nil, Bool.and_self, Bool.and_true, if_true, Bool.false_eq_true, if_false, tMt, tFldN, tSto, HO.ins.injEq, lkh, List.drop_zero, List.drop_succ_cons, List.drop_nil, rListS, wipe, L2.start, List.map_cons, List.map_nil, List.length_cons, List.length_nil, List.replicate, List.cons_append, List.nil_append, List.append_nil, Nat.reduceAdd, Nat.reduceSub, Nat.zero_add, List.replicate_succ, List.replicate_zero, List.getElem?_cons_zero, List.getElem?_cons_succ, List.set_cons_zero, List.set_cons_succ, Option.some.injEq, V.int.injEq, V.bl.injEq, V.ref.injEq, V.str.injEq, V.ty.injEq, List.cons.injEq, HO.tup.injEq, HO.lst.injEq, and_true, true_and, and_assoc, exists_eq_left, exists_eq_left', exists_and_left, exists_eq', atI0, atI1, atI2, atI3, Int.cast_ofNat_Int, Int.reduceToNat, scal_ii, scal_in, scal_ni, scal_nn, scal_bb, scal_ss, scal_sn, scal_ns, scal_bn, scal_nb, ite_iff, decide_eq_true_eq, decide_eq_false_iff_not, Bool.not_eq_true', Classical.not_not, ne_eq, not_false_eq_true, not_true_eq_false, forall_const, true_implies, false_implies, imp_self, sizeLine_eq, Nat.reduceLeDiff, reduceCtorEq, decide_true, decide_false]
          refine ⟨dx, lo, hi, hst9, Rm.ints p1 ⟨b1000, ?_⟩⟩
          rintro L1 Ha - sa ha
          have La := L9.same sa
          refine ⟨L1, rfl, _, pa1 ha La.hq, p1, b1000, scal_ov, fun e => absurd (congrArg ov (cnt_count p1 ho).symm) e, fun _ => ?_⟩
          refine ⟨dx, _, La.hst, lkN_first, _, _, _, rfl, dx, lo, hi, La.hst, Rm.ints p1 ?_⟩
          rintro L2 Hb - sb hb
          exact ⟨_, _, _, _, rfl, pa1 hb (sb _ _ La.hq), by simp, p1, fun Hc sc' => ⟨scal_ov, fun e => absurd (congrArg ov (frs_first p1).symm) e, fun _ => (La.same sb).same sc'⟩⟩
        · rintro _ H9 ⟨rfl, L9⟩
          refine ⟨fun σ' H' => σ' = [some (.ref sc), some (.ref a), some (.int i), some (.ref q), some (.ref st), some (.int r), some (.int p), x5, x6] ∧ LS K H' a c q st dx lo hi, ?_, ?_⟩
          · have hst9 := L9.hst
            simp only [exists_and_left, spFinal, spCount, spCnt, spFin, hst9, lkLow, lkHigh, lkN_holds, lkN_turned, lkN_common, lkN_count, lkN_first, lkN_final, lkN_nth, lkN_below, cx_K, Value.ref.injEq, HO.xd.injEq, lk0, tSeq, tPar3, tPar, tCons, tNil, tVar, tC, tAsg, gName, gCons, gNil, gTupN, gSub, tOp, rI, rI0, rU, tTest, rNe, rEq, rIxTN, rIxLN, rLenL, rLenT, rIntI, rIntB, rAbs, rSetLN, tTruL, tRaiseX, rIsTy, rIsOw, ixN0, ixN1, tRet, tIf, tIfS, tNext, tBreak, tCont, tDrop, tTupN, tLstN, tUn, tCB, tCall, tNot, tAnd, tOr, tB, tAndV, tOrV, tNotV, tChain, tApp, LamX.tLam, tRevLN, rCatN, rInTN, rInLN, flatV, inV, List.all_cons, List.all_nil, List.any_cons, List.any_nil, Bool.and_self, Bool.and_true, if_true, Bool.false_eq_true, if_false, tMt, tFldN, tSto, HO.ins.injEq, lkh, List.drop_zero, List.drop_succ_cons, List.drop_nil, rListS, wipe, L2.start, List.map_cons, List.map_nil, List.length_cons, List.length_nil, List.replicate, List.cons_append, List.nil_append, List.append_nil, Nat.reduceAdd, Nat.reduceSub, Nat.zero_add, List.replicate_succ, List.replicate_zero, List.getElem?_cons_zero, List.getElem?_cons_succ, List.set_cons_zero, List.set_cons_succ, Option.some.injEq, V.int.injEq, V.bl.injEq, V.ref.injEq, V.str.injEq, V.ty.injEq, List.cons.injEq, HO.tup.injEq, HO.lst.injEq, and_true, true_and, and_assoc, exists_eq_left, exists_eq_left', exists_and_left, exists_eq', atI0, atI1, atI2, atI3, Int.cast_ofNat_Int, Int.reduceToNat, scal_ii, scal_in, scal_ni, scal_nn, scal_bb, scal_ss, scal_sn, scal_ns, scal_bn, scal_nb, ite_iff, decide_eq_true_eq, decide_eq_false_iff_not, Bool.not_eq_true', Classical.not_not, ne_eq, not_false_eq_true, not_true_eq_false, forall_const, true_implies, false_implies, imp_self, sizeLine_eq, Nat.reduceLeDiff, reduceCtorEq, decide_true, decide_false]
            refine ⟨dx, lo, hi, hst9, ho, Rm.ints p1 fun Ha sa => ?_⟩
            have La := L9.same sa
            rintro L1 Hb - sb hb
            refine ⟨L1, rfl, _, pa1 hb (sb _ _ La.hq), by simp, p1, fun Hc sc' => ⟨scal_ov, fun e => absurd (congrArg ov (fin_final p1).symm) e, fun _ => ?_⟩⟩
            have Lc := (La.same sb).same sc'
            refine ⟨dx, _, Lc.hst, lkN_count, dx, lo, hi, Lc.hst, Rm.ints (by decide) ⟨by decide +kernel, ?_⟩⟩
            rintro L2 Hd - sd hd
            exact ⟨L2, rfl, _, pa1 hd (sd _ _ Lc.hq), by decide, by decide +kernel, scal_ov, fun e => absurd (congrArg ov (cnt_count (by decide) ho).symm) e, fun _ => Lc.same sd⟩
          · rintro _ H9 ⟨rfl, L9⟩
            simp only [exists_and_left, cx_K, Value.ref.injEq, HO.xd.injEq, lk0, tSeq, tPar3, tPar, tCons, tNil, tVar, tC, tAsg, gName, gCons, gNil, gTupN, gSub, tOp, rI, rI0, rU, tTest, rNe, rEq, rIxTN, rIxLN, rLenL, rLenT, rIntI, rIntB, rAbs, rSetLN, tTruL, tRaiseX, rIsTy, rIsOw, ixN0, ixN1, tRet, tIf, tIfS, tNext, tBreak, tCont, tDrop, tTupN, tLstN, tUn, tCB, tCall, tNot, tAnd, tOr, tB, tAndV, tOrV, tNotV, tChain, tApp, LamX.tLam, tRevLN, rCatN, rInTN, rInLN, flatV, inV, List.all_cons, List.all_nil, List.any_cons, List.any_nil, Bool.and_self, Bool.and_true, if_true, Bool.false_eq_true, if_false, tMt, tFldN, tSto, HO.ins.injEq, lkh, List.drop_zero, List.drop_succ_cons, List.drop_nil, rListS, wipe, L2.start, List.map_cons, List.map_nil, List.length_cons, List.length_nil, List.replicate, List.cons_append, List.nil_append, List.append_nil, Nat.reduceAdd, Nat.reduceSub, Nat.zero_add, List.replicate_succ, List.replicate_zero, List.getElem?_cons_zero, List.getElem?_cons_succ, List.set_cons_zero, List.set_cons_succ, Option.some.injEq, V.int.injEq, V.bl.injEq, V.ref.injEq, V.str.injEq, V.ty.injEq, List.cons.injEq, HO.tup.injEq, HO.lst.injEq, and_true, true_and, and_assoc, exists_eq_left, exists_eq_left', exists_and_left, exists_eq', atI0, atI1, atI2, atI3, Int.cast_ofNat_Int, Int.reduceToNat, scal_ii, scal_in, scal_ni, scal_nn, scal_bb, scal_ss, scal_sn, scal_ns, scal_bn, scal_nb, ite_iff, decide_eq_true_eq, decide_eq_false_iff_not, Bool.not_eq_true', Classical.not_not, ne_eq, not_false_eq_true, not_true_eq_false, forall_const, true_implies, false_implies, imp_self, sizeLine_eq, Nat.reduceLeDiff, reduceCtorEq, decide_true, decide_false]
            refine for_inT ?_
            simp only [exists_and_left, e25, cx_K, Value.ref.injEq, HO.xd.injEq, lk0, tSeq, tPar3, tPar, tCons, tNil, tVar, tC, tAsg, gName, gCons, gNil, gTupN, gSub, tOp, rI, rI0, rU, tTest, rNe, rEq, rIxTN, rIxLN, rLenL, rLenT, rIntI, rIntB, rAbs, rSetLN, tTruL, tRaiseX, rIsTy, rIsOw, ixN0, ixN1, tRet, tIf, tIfS, tNext, tBreak, tCont, tDrop, tTupN, tLstN, tUn, tCB, tCall, tNot, tAnd, tOr, tB, tAndV, tOrV, tNotV, tChain, tApp, LamX.tLam, tRevLN, rCatN, rInTN, rInLN, flatV, inV, List.all_cons, List.all_nil, List.any_cons, List.any_nil, Bool.and_self, Bool.and_true, if_true, Bool.false_eq_true, if_false, tMt, tFldN, tSto, HO.ins.injEq, lkh, List.drop_zero, List.drop_succ_cons, List.drop_nil, rListS, wipe, L2.start, List.map_cons, List.map_nil, List.length_cons, List.length_nil, List.replicate, List.cons_append, List.nil_append, List.append_nil, Nat.reduceAdd, Nat.reduceSub, Nat.zero_add, List.replicate_succ, List.replicate_zero, List.getElem?_cons_zero, List.getElem?_cons_succ, List.set_cons_zero, List.set_cons_succ, Option.some.injEq, V.int.injEq, V.bl.injEq, V.ref.injEq, V.str.injEq, V.ty.injEq, List.cons.injEq, HO.tup.injEq, HO.lst.injEq, and_true, true_and, and_assoc, exists_eq_left, exists_eq_left', exists_and_left, exists_eq', atI0, atI1, atI2, atI3, Int.cast_ofNat_Int, Int.reduceToNat, scal_ii, scal_in, scal_ni, scal_nn, scal_bb, scal_ss, scal_sn, scal_ns, scal_bn, scal_nb, ite_iff, decide_eq_true_eq, decide_eq_false_iff_not, Bool.not_eq_true', Classical.not_not, ne_eq, not_false_eq_true, not_true_eq_false, forall_const, true_implies, false_implies, imp_self, sizeLine_eq, Nat.reduceLeDiff, reduceCtorEq, decide_true, decide_false]
            refine ⟨⟨by decide, by decide, by decide⟩, ?_⟩
            rintro tn Ha - sa ha
            have La := L9.same sa
            refine st_forT (fun R r => r) ha (fun j σ' H' => ∃ t, σ' = [some (.ref sc), some (.ref a), some (.int i), some (.ref q), some (.ref st), some (.int r), some (.int p), t, x6] ∧ LS K H' a c q st dx lo hi ∧ H' tn = some (.tup [.int 0, .int 1, .int 2, .int 10000000000000000000000000])) ⟨_, rfl, La, ha⟩ (fun _ _ _ h => by obtain ⟨_, _, _, h⟩ := h; exact h) ?_ ?_
            · rintro j n _ Hb hn ⟨t, rfl, Lb, hb⟩
              have hn' : ∃ z : Int, n = .int z ∧ 0 ≤ z ∧ z.natAbs < 2 ^ 90 := by
                have := List.mem_of_getElem? hn
                simp only [List.mem_cons, List.not_mem_nil, or_false] at this
                rcases this with rfl | rfl | rfl | rfl <;> exact ⟨_, rfl, by decide, by decide⟩
              obtain ⟨n, rfl, n0, nb⟩ := hn'
              have hstb := Lb.hst
              simp only [exists_and_left, spNth, hstb, lkLow, lkHigh, lkN_holds, lkN_turned, lkN_common, lkN_count, lkN_first, lkN_final, lkN_nth, lkN_below, cx_K, Value.ref.injEq, HO.xd.injEq, lk0, tSeq, tPar3, tPar, tCons, tNil, tVar, tC, tAsg, gName, gCons, gNil, gTupN, gSub, tOp, rI, rI0, rU, tTest, rNe, rEq, rIxTN, rIxLN, rLenL, rLenT, rIntI, rIntB, rAbs, rSetLN, tTruL, tRaiseX, rIsTy, rIsOw, ixN0, ixN1, tRet, tIf, tIfS, tNext, tBreak, tCont, tDrop, tTupN, tLstN, tUn, tCB, tCall, tNot, tAnd, tOr, tB, tAndV, tOrV, tNotV, tChain, tApp, LamX.tLam, tRevLN, rCatN, rInTN, rInLN, flatV, inV, List.all_cons, List.all_nil, List.any_cons, List.any_nil, Bool.and_self, Bool.and_true, if_true, Bool.false_eq_true, if_false, tMt, tFldN, tSto, HO.ins.injEq, lkh, List.drop_zero, List.drop_succ_cons, List.drop_nil, rListS, wipe, L2.start, List.map_cons, List.map_nil, List.length_cons, List.length_nil, List.replicate, List.cons_append, List.nil_append, List.append_nil, Nat.reduceAdd, Nat.reduceSub, Nat.zero_add, List.replicate_succ, List.replicate_zero, List.getElem?_cons_zero, List.getElem?_cons_succ, List.set_cons_zero, List.set_cons_succ, Option.some.injEq, V.int.injEq, V.bl.injEq, V.ref.injEq, V.str.injEq, V.ty.injEq, List.cons.injEq, HO.tup.injEq, HO.lst.injEq, and_true, true_and, and_assoc, exists_eq_left, exists_eq_left', exists_and_left, exists_eq', atI0, atI1, atI2, atI3, Int.cast_ofNat_Int, Int.reduceToNat, scal_ii, scal_in, scal_ni, scal_nn, scal_bb, scal_ss, scal_sn, scal_ns, scal_bn, scal_nb, ite_iff, decide_eq_true_eq, decide_eq_false_iff_not, Bool.not_eq_true', Classical.not_not, ne_eq, not_false_eq_true, not_true_eq_false, forall_const, true_implies, false_implies, imp_self, sizeLine_eq, Nat.reduceLeDiff, reduceCtorEq, decide_true, decide_false]
              refine ⟨dx, lo, hi, hstb, wh_int, fun q => absurd (q _ rfl) (by omega), ?_⟩
              rintro _ rfl _
              refine Rm.ints p1 ⟨nb, bp, ?_⟩
              rintro L1 Hc - sc1 hc
              have Lc := Lb.same sc1
              refine ⟨_, _, _, _, _, _, rfl, pa1 hc Lc.hq, p1, nb, bp, fun Hd sd => ⟨scal_ov, fun e => absurd (congrArg ov (nth_nth p1 n0 ho).symm) e, fun _ => ?_⟩⟩
              have Ld := Lc.same sd
              refine ⟨dx, _, Ld.hst, lkN_nth, dx, lo, hi, Ld.hst, wh_int, fun q => absurd (q _ rfl) (by omega), ?_⟩
              rintro _ rfl _
              refine Rm.ints (by decide) ⟨nb, by decide, ?_⟩
              rintro L2 He - se he
              have Le := Ld.same se
              exact ⟨_, _, _, _, _, _, rfl, pa1 he Le.hq, by decide, nb, by decide, fun Hf sf => ⟨scal_ov, fun e => absurd (congrArg ov (nth_nth (by decide) n0 ho).symm) e, fun _ => ⟨Le.same sf, sf _ _ (se _ _ (sd _ _ (sc1 _ _ hb)))⟩⟩⟩
            · rintro _ Hb ⟨t, rfl, Lb, hb⟩
              simp only [exists_and_left, cx_K, Value.ref.injEq, HO.xd.injEq, lk0, tSeq, tPar3, tPar, tCons, tNil, tVar, tC, tAsg, gName, gCons, gNil, gTupN, gSub, tOp, rI, rI0, rU, tTest, rNe, rEq, rIxTN, rIxLN, rLenL, rLenT, rIntI, rIntB, rAbs, rSetLN, tTruL, tRaiseX, rIsTy, rIsOw, ixN0, ixN1, tRet, tIf, tIfS, tNext, tBreak, tCont, tDrop, tTupN, tLstN, tUn, tCB, tCall, tNot, tAnd, tOr, tB, tAndV, tOrV, tNotV, tChain, tApp, LamX.tLam, tRevLN, rCatN, rInTN, rInLN, flatV, inV, List.all_cons, List.all_nil, List.any_cons, List.any_nil, Bool.and_self, Bool.and_true, if_true, Bool.false_eq_true, if_false, tMt, tFldN, tSto, HO.ins.injEq, lkh, List.drop_zero, List.drop_succ_cons, List.drop_nil, rListS, wipe, L2.start, List.map_cons, List.map_nil, List.length_cons, List.length_nil, List.replicate, List.cons_append, List.nil_append, List.append_nil, Nat.reduceAdd, Nat.reduceSub, Nat.zero_add, List.replicate_succ, List.replicate_zero, List.getElem?_cons_zero, List.getElem?_cons_succ, List.set_cons_zero, List.set_cons_succ, Option.some.injEq, V.int.injEq, V.bl.injEq, V.ref.injEq, V.str.injEq, V.ty.injEq, List.cons.injEq, HO.tup.injEq, HO.lst.injEq, and_true, true_and, and_assoc, exists_eq_left, exists_eq_left', exists_and_left, exists_eq', atI0, atI1, atI2, atI3, Int.cast_ofNat_Int, Int.reduceToNat, scal_ii, scal_in, scal_ni, scal_nn, scal_bb, scal_ss, scal_sn, scal_ns, scal_bn, scal_nb, ite_iff, decide_eq_true_eq, decide_eq_false_iff_not, Bool.not_eq_true', Classical.not_not, ne_eq, not_false_eq_true, not_true_eq_false, forall_const, true_implies, false_implies, imp_self, sizeLine_eq, Nat.reduceLeDiff, reduceCtorEq, decide_true, decide_false]
              refine for_inL ?_
              simp only [exists_and_left, spPts, cx_K, Value.ref.injEq, HO.xd.injEq, lk0, tSeq, tPar3, tPar, tCons, tNil, tVar, tC, tAsg, gName, gCons, gNil, gTupN, gSub, tOp, rI, rI0, rU, tTest, rNe, rEq, rIxTN, rIxLN, rLenL, rLenT, rIntI, rIntB, rAbs, rSetLN, tTruL, tRaiseX, rIsTy, rIsOw, ixN0, ixN1, tRet, tIf, tIfS, tNext, tBreak, tCont, tDrop, tTupN, tLstN, tUn, tCB, tCall, tNot, tAnd, tOr, tB, tAndV, tOrV, tNotV, tChain, tApp, LamX.tLam, tRevLN, rCatN, rInTN, rInLN, flatV, inV, List.all_cons, List.all_nil, List.any_cons, List.any_nil, Bool.and_self, Bool.and_true, if_true, Bool.false_eq_true, if_false, tMt, tFldN, tSto, HO.ins.injEq, lkh, List.drop_zero, List.drop_succ_cons, List.drop_nil, rListS, wipe, L2.start, List.map_cons, List.map_nil, List.length_cons, List.length_nil, List.replicate, List.cons_append, List.nil_append, List.append_nil, Nat.reduceAdd, Nat.reduceSub, Nat.zero_add, List.replicate_succ, List.replicate_zero, List.getElem?_cons_zero, List.getElem?_cons_succ, List.set_cons_zero, List.set_cons_succ, Option.some.injEq, V.int.injEq, V.bl.injEq, V.ref.injEq, V.str.injEq, V.ty.injEq, List.cons.injEq, HO.tup.injEq, HO.lst.injEq, and_true, true_and, and_assoc, exists_eq_left, exists_eq_left', exists_and_left, exists_eq', atI0, atI1, atI2, atI3, Int.cast_ofNat_Int, Int.reduceToNat, scal_ii, scal_in, scal_ni, scal_nn, scal_bb, scal_ss, scal_sn, scal_ns, scal_bn, scal_nb, ite_iff, decide_eq_true_eq, decide_eq_false_iff_not, Bool.not_eq_true', Classical.not_not, ne_eq, not_false_eq_true, not_true_eq_false, forall_const, true_implies, false_implies, imp_self, sizeLine_eq, Nat.reduceLeDiff, reduceCtorEq, decide_true, decide_false]
              rintro L1 Hc - sc1 hc
              have Lc := Lb.same sc1
              refine ⟨_, rfl, _, pa1 hc Lc.hq, by simp, fun pl ns Hd sd hd => ?_⟩
              have Ld := Lc.same sd
              refine st_forL (fun R r => r) hd (fun j σ' H' => ∃ u, σ' = [some (.ref sc), some (.ref a), some (.int i), some (.ref q), some (.ref st), some (.int r), some (.int p), t, u] ∧ LS K H' a c q st dx lo hi ∧ IntsAt H' pl ns) ⟨_, rfl, Ld, hd⟩ (fun _ _ _ h => by obtain ⟨_, _, _, h⟩ := h; exact h) ?_ ?_
              · rintro j n _ He hn ⟨u, rfl, Le, he⟩
                obtain ⟨n, -, rfl⟩ := List.mem_map.mp (List.mem_of_getElem? hn)
                have hste := Le.hst
                simp only [exists_and_left, spBelow, hste, lkLow, lkHigh, lkN_holds, lkN_turned, lkN_common, lkN_count, lkN_first, lkN_final, lkN_nth, lkN_below, cx_K, Value.ref.injEq, HO.xd.injEq, lk0, tSeq, tPar3, tPar, tCons, tNil, tVar, tC, tAsg, gName, gCons, gNil, gTupN, gSub, tOp, rI, rI0, rU, tTest, rNe, rEq, rIxTN, rIxLN, rLenL, rLenT, rIntI, rIntB, rAbs, rSetLN, tTruL, tRaiseX, rIsTy, rIsOw, ixN0, ixN1, tRet, tIf, tIfS, tNext, tBreak, tCont, tDrop, tTupN, tLstN, tUn, tCB, tCall, tNot, tAnd, tOr, tB, tAndV, tOrV, tNotV, tChain, tApp, LamX.tLam, tRevLN, rCatN, rInTN, rInLN, flatV, inV, List.all_cons, List.all_nil, List.any_cons, List.any_nil, Bool.and_self, Bool.and_true, if_true, Bool.false_eq_true, if_false, tMt, tFldN, tSto, HO.ins.injEq, lkh, List.drop_zero, List.drop_succ_cons, List.drop_nil, rListS, wipe, L2.start, List.map_cons, List.map_nil, List.length_cons, List.length_nil, List.replicate, List.cons_append, List.nil_append, List.append_nil, Nat.reduceAdd, Nat.reduceSub, Nat.zero_add, List.replicate_succ, List.replicate_zero, List.getElem?_cons_zero, List.getElem?_cons_succ, List.set_cons_zero, List.set_cons_succ, Option.some.injEq, V.int.injEq, V.bl.injEq, V.ref.injEq, V.str.injEq, V.ty.injEq, List.cons.injEq, HO.tup.injEq, HO.lst.injEq, and_true, true_and, and_assoc, exists_eq_left, exists_eq_left', exists_and_left, exists_eq', atI0, atI1, atI2, atI3, Int.cast_ofNat_Int, Int.reduceToNat, scal_ii, scal_in, scal_ni, scal_nn, scal_bb, scal_ss, scal_sn, scal_ns, scal_bn, scal_nb, ite_iff, decide_eq_true_eq, decide_eq_false_iff_not, Bool.not_eq_true', Classical.not_not, ne_eq, not_false_eq_true, not_true_eq_false, forall_const, true_implies, false_implies, imp_self, sizeLine_eq, Nat.reduceLeDiff, reduceCtorEq, decide_true, decide_false]
                refine ⟨dx, lo, hi, hste, wh_int, fun q => (by cases q), ?_⟩
                rintro _ rfl
                refine Rm.ints p1 ⟨b1000, fun Hf sf => ?_⟩
                have Lf := Le.same sf
                rintro L2 Hg - sg hg
                have Lg := Lf.same sg
                refine ⟨_, _, _, rfl, pa1 hg Lg.hq, by simp, fun L3 Hh sh hh => ?_⟩
                have Lh := Lg.same sh
                exact ⟨_, _, _, _, rfl, hh, p1, b1000, scal_ov, fun e => absurd (congrArg ov (below_cut p1).symm) e, fun _ => ⟨Lh, sh _ _ (sg _ _ (sf _ _ he))⟩⟩
              · rintro _ He ⟨u, rfl, Le, he⟩
                simp only [exists_and_left, spOdd, cx_K, Value.ref.injEq, HO.xd.injEq, lk0, tSeq, tPar3, tPar, tCons, tNil, tVar, tC, tAsg, gName, gCons, gNil, gTupN, gSub, tOp, rI, rI0, rU, tTest, rNe, rEq, rIxTN, rIxLN, rLenL, rLenT, rIntI, rIntB, rAbs, rSetLN, tTruL, tRaiseX, rIsTy, rIsOw, ixN0, ixN1, tRet, tIf, tIfS, tNext, tBreak, tCont, tDrop, tTupN, tLstN, tUn, tCB, tCall, tNot, tAnd, tOr, tB, tAndV, tOrV, tNotV, tChain, tApp, LamX.tLam, tRevLN, rCatN, rInTN, rInLN, flatV, inV, List.all_cons, List.all_nil, List.any_cons, List.any_nil, Bool.and_self, Bool.and_true, if_true, Bool.false_eq_true, if_false, tMt, tFldN, tSto, HO.ins.injEq, lkh, List.drop_zero, List.drop_succ_cons, List.drop_nil, rListS, wipe, L2.start, List.map_cons, List.map_nil, List.length_cons, List.length_nil, List.replicate, List.cons_append, List.nil_append, List.append_nil, Nat.reduceAdd, Nat.reduceSub, Nat.zero_add, List.replicate_succ, List.replicate_zero, List.getElem?_cons_zero, List.getElem?_cons_succ, List.set_cons_zero, List.set_cons_succ, Option.some.injEq, V.int.injEq, V.bl.injEq, V.ref.injEq, V.str.injEq, V.ty.injEq, List.cons.injEq, HO.tup.injEq, HO.lst.injEq, and_true, true_and, and_assoc, exists_eq_left, exists_eq_left', exists_and_left, exists_eq', atI0, atI1, atI2, atI3, Int.cast_ofNat_Int, Int.reduceToNat, scal_ii, scal_in, scal_ni, scal_nn, scal_bb, scal_ss, scal_sn, scal_ns, scal_bn, scal_nb, ite_iff, decide_eq_true_eq, decide_eq_false_iff_not, Bool.not_eq_true', Classical.not_not, ne_eq, not_false_eq_true, not_true_eq_false, forall_const, true_implies, false_implies, imp_self, sizeLine_eq, Nat.reduceLeDiff, reduceCtorEq, decide_true, decide_false]
                exact ⟨c, Le.hS, dx, lo, hi, Le.hst, ho, Le.hT, fun H' hS hT => ⟨hS, hT⟩⟩
  · rintro _ H' ⟨hS', hT', t, x1, x2, x3, x4, x5, x6, rfl⟩
    simp only [exists_and_left, cx_K, Value.ref.injEq, HO.xd.injEq, lk0, tSeq, tPar3, tPar, tCons, tNil, tVar, tC, tAsg, gName, gCons, gNil, gTupN, gSub, tOp, rI, rI0, rU, tTest, rNe, rEq, rIxTN, rIxLN, rLenL, rLenT, rIntI, rIntB, rAbs, rSetLN, tTruL, tRaiseX, rIsTy, rIsOw, ixN0, ixN1, tRet, tIf, tIfS, tNext, tBreak, tCont, tDrop, tTupN, tLstN, tUn, tCB, tCall, tNot, tAnd, tOr, tB, tAndV, tOrV, tNotV, tChain, tApp, LamX.tLam, tRevLN, rCatN, rInTN, rInLN, flatV, inV, List.all_cons, List.all_nil, List.any_cons, List.any_nil, Bool.and_self, Bool.and_true, if_true, Bool.false_eq_true, if_false, tMt, tFldN, tSto, HO.ins.injEq, lkh, List.drop_zero, List.drop_succ_cons, List.drop_nil, rListS, wipe, L2.start, List.map_cons, List.map_nil, List.length_cons, List.length_nil, List.replicate, List.cons_append, List.nil_append, List.append_nil, Nat.reduceAdd, Nat.reduceSub, Nat.zero_add, List.replicate_succ, List.replicate_zero, List.getElem?_cons_zero, List.getElem?_cons_succ, List.set_cons_zero, List.set_cons_succ, Option.some.injEq, V.int.injEq, V.bl.injEq, V.ref.injEq, V.str.injEq, V.ty.injEq, List.cons.injEq, HO.tup.injEq, HO.lst.injEq, and_true, true_and, and_assoc, exists_eq_left, exists_eq_left', exists_and_left, exists_eq', atI0, atI1, atI2, atI3, Int.cast_ofNat_Int, Int.reduceToNat, scal_ii, scal_in, scal_ni, scal_nn, scal_bb, scal_ss, scal_sn, scal_ns, scal_bn, scal_nb, ite_iff, decide_eq_true_eq, decide_eq_false_iff_not, Bool.not_eq_true', Classical.not_not, ne_eq, not_false_eq_true, not_true_eq_false, forall_const, true_implies, false_implies, imp_self, sizeLine_eq, Nat.reduceLeDiff, reduceCtorEq, decide_true, decide_false]
    exact k H'

end
end Iz
/-! k02_n -/
set_option Elab.async false
set_option linter.all false
set_option maxRecDepth 100000
set_option maxHeartbeats 4000000
namespace Iz
open PySem PySem.Spec PyProof.Rows L2
open He (ga)
local macro_rules | `(tactic| walk_at "wp") => `(tactic| simp only [cx_K, Value.ref.injEq, HO.xd.injEq, lk0, tSeq, tPar3, tPar, tCons, tNil, tVar, tC, tAsg, gName, gCons, gNil, gTupN, gSub, tOp, rI, rI0, rU, tTest, rNe, rEq, rIxTN, rIxLN, rLenL, rLenT, rIntI, rIntB, rAbs, rSetLN, tTruL, tRaiseX, rIsTy, rIsOw, ixN0, ixN1, tRet, tIf, tIfS, tNext, tBreak, tCont, tDrop, tTupN, tLstN, tUn, tCB, tCall, tNot, tAnd, tOr, tB, tAndV, tOrV, tNotV, tChain, tApp, LamX.tLam, tRevLN, rCatN, rInTN, rInLN, flatV, inV, List.all_cons, List.all_nil, List.any_cons, List.any_nil, Bool.and_self, Bool.and_true, if_true, Bool.false_eq_true, if_false, tMt, tFldN, tSto, HO.ins.injEq, lkh, List.drop_zero, List.drop_succ_cons, List.drop_nil, rListS, wipe, L2.start, List.map_cons, List.map_nil, List.length_cons, List.length_nil, List.replicate, List.cons_append, List.nil_append, List.append_nil, Nat.reduceAdd, Nat.reduceSub, Nat.zero_add, List.replicate_succ, List.replicate_zero, List.getElem?_cons_zero, List.getElem?_cons_succ, List.set_cons_zero, List.set_cons_succ, Option.some.injEq, V.int.injEq, V.bl.injEq, V.ref.injEq, V.str.injEq, V.ty.injEq, List.cons.injEq, HO.tup.injEq, HO.lst.injEq, and_true, true_and, and_assoc, exists_eq_left, exists_eq_left', exists_and_left, exists_eq', atI0, atI1, atI2, atI3, Int.cast_ofNat_Int, Int.reduceToNat, scal_ii, scal_in, scal_ni, scal_nn, scal_bb, scal_ss, scal_sn, scal_ns, scal_bn, scal_nb, ite_iff, decide_eq_true_eq, decide_eq_false_iff_not, Bool.not_eq_true', Classical.not_not, ne_eq, not_false_eq_true, not_true_eq_false, forall_const, true_implies, false_implies, imp_self, sizeLine_eq, Nat.reduceLeDiff, reduceCtorEq, decide_true, decide_false])
section
variable {P : Program} {w : World} {K : PySem.W.Frag} {mg : Str → Option Value} {base : Heap}
theorem txt_mk {h : Heap} (X : K.In h) (G : h.Ns mainGlobals mg) {f_is_whole f_is_from f_is_span f_require_whole f_require_from f_Stretch___init__ f_Stretch_holds f_Stretch_turned f_Stretch_common f_Stretch_count f_Stretch_first f_Stretch_final f_Stretch_nth f_Stretch_below f__require_remainder f__greater_low f__lesser_high f__law_draw f__law_number f__law_ends f__law_points f__law_count f__law_first f__law_final f__law_cut f__law_members f__law_nth f__law_small_right f__law_refused f__law_odd_right f_law c__law_odd_right P__law_odd_right C_BadNumber N_BadNumber fi_BadNumber C_BadPart N_BadPart fi_BadPart  : Addr} {od_is_whole an_is_whole od_is_from an_is_from od_is_span an_is_span od_require_whole an_require_whole od_require_from an_require_from od_Stretch___init__ an_Stretch___init__ od_Stretch_holds an_Stretch_holds od_Stretch_turned an_Stretch_turned od_Stretch_common an_Stretch_common od_Stretch_count an_Stretch_count od_Stretch_first an_Stretch_first od_Stretch_final an_Stretch_final od_Stretch_nth an_Stretch_nth od_Stretch_below an_Stretch_below od__require_remainder an__require_remainder od__greater_low an__greater_low od__lesser_high an__lesser_high od__law_draw an__law_draw od__law_number an__law_number od__law_ends an__law_ends od__law_points an__law_points od__law_count an__law_count od__law_first an__law_first od__law_final an__law_final od__law_cut an__law_cut od__law_members an__law_members od__law_nth an__law_nth od__law_small_right an__law_small_right od__law_refused an__law_refused od__law_odd_right an__law_odd_right od_law an_law : Option Addr} {sl_is_whole sl_is_from sl_is_span sl_require_whole sl_require_from sl_Stretch___init__ sl_Stretch_holds sl_Stretch_turned sl_Stretch_common sl_Stretch_count sl_Stretch_first sl_Stretch_final sl_Stretch_nth sl_Stretch_below sl__require_remainder sl__greater_low sl__lesser_high sl__law_draw sl__law_number sl__law_ends sl__law_points sl__law_count sl__law_first sl__law_final sl__law_cut sl__law_members sl__law_nth sl__law_small_right sl__law_refused sl__law_odd_right sl_law : Array (Option Value)} {oc_is_whole kV_is_whole dc_is_whole pm_is_whole ct_is_whole oc_is_from kV_is_from dc_is_from pm_is_from ct_is_from oc_is_span kV_is_span dc_is_span pm_is_span ct_is_span oc_require_whole kV_require_whole dc_require_whole pm_require_whole ct_require_whole oc_require_from kV_require_from dc_require_from pm_require_from ct_require_from oc_Stretch___init__ kV_Stretch___init__ dc_Stretch___init__ pm_Stretch___init__ ct_Stretch___init__ oc_Stretch_holds kV_Stretch_holds dc_Stretch_holds pm_Stretch_holds ct_Stretch_holds oc_Stretch_turned kV_Stretch_turned dc_Stretch_turned pm_Stretch_turned ct_Stretch_turned oc_Stretch_common kV_Stretch_common dc_Stretch_common pm_Stretch_common ct_Stretch_common oc_Stretch_count kV_Stretch_count dc_Stretch_count pm_Stretch_count ct_Stretch_count oc_Stretch_first kV_Stretch_first dc_Stretch_first pm_Stretch_first ct_Stretch_first oc_Stretch_final kV_Stretch_final dc_Stretch_final pm_Stretch_final ct_Stretch_final oc_Stretch_nth kV_Stretch_nth dc_Stretch_nth pm_Stretch_nth ct_Stretch_nth oc_Stretch_below kV_Stretch_below dc_Stretch_below pm_Stretch_below ct_Stretch_below oc__require_remainder kV__require_remainder dc__require_remainder pm__require_remainder ct__require_remainder oc__greater_low kV__greater_low dc__greater_low pm__greater_low ct__greater_low oc__lesser_high kV__lesser_high dc__lesser_high pm__lesser_high ct__lesser_high oc__law_draw kV__law_draw dc__law_draw pm__law_draw ct__law_draw oc__law_number kV__law_number dc__law_number pm__law_number ct__law_number oc__law_ends kV__law_ends dc__law_ends pm__law_ends ct__law_ends oc__law_points kV__law_points dc__law_points pm__law_points ct__law_points oc__law_count kV__law_count dc__law_count pm__law_count ct__law_count oc__law_first kV__law_first dc__law_first pm__law_first ct__law_first oc__law_final kV__law_final dc__law_final pm__law_final ct__law_final oc__law_cut kV__law_cut dc__law_cut pm__law_cut ct__law_cut oc__law_members kV__law_members dc__law_members pm__law_members ct__law_members oc__law_nth kV__law_nth dc__law_nth pm__law_nth ct__law_nth oc__law_small_right kV__law_small_right dc__law_small_right pm__law_small_right ct__law_small_right oc__law_refused kV__law_refused dc__law_refused pm__law_refused ct__law_refused oc__law_odd_right kV__law_odd_right dc__law_odd_right pm__law_odd_right ct__law_odd_right oc_law kV_law dc_law pm_law ct_law cd_is_whole cd_is_from cd_is_span cd_require_whole cd_require_from cd_Stretch___init__ cd_Stretch_holds cd_Stretch_turned cd_Stretch_common cd_Stretch_count cd_Stretch_first cd_Stretch_final cd_Stretch_nth cd_Stretch_below cd__require_remainder cd__greater_low cd__lesser_high cd__law_draw cd__law_number cd__law_ends cd__law_points cd__law_count cd__law_first cd__law_final cd__law_cut cd__law_members cd__law_nth cd__law_small_right cd__law_refused cd_law : Value} {C_Stretch : Addr} {T_Stretch___init__ T_Stretch_count T_Stretch_first T_Stretch_final T_Stretch_nth T_Stretch_below : Addr} {ocT_Stretch___init__ ocT_Stretch_count ocT_Stretch_first ocT_Stretch_final ocT_Stretch_nth ocT_Stretch_below : Value} {odT_Stretch___init__ odT_Stretch_count odT_Stretch_first odT_Stretch_final odT_Stretch_nth odT_Stretch_below : Option Addr} {nT_Stretch___init__ nT_Stretch_count nT_Stretch_first nT_Stretch_final nT_Stretch_nth nT_Stretch_below : Nat} {slT_Stretch___init__ slT_Stretch_count slT_Stretch_first slT_Stretch_final slT_Stretch_nth slT_Stretch_below : Array (Option Value)} {tk_Stretch_count_0 tk_Stretch_count_1 tk_Stretch_first_0 tk_Stretch_first_1 tk_Stretch_final_0 tk_Stretch_final_1 tk_Stretch_nth_0 tk_Stretch_nth_1 tk_Stretch_below_0 tk_Stretch_below_1 : Tok} {dd_BadNumber odx_BadNumber anx_BadNumber dd_BadPart odx_BadPart anx_BadPart : Option Addr} {nm_BadNumber q_BadNumber nm_BadPart q_BadPart : Str} {bs_BadNumber bm_BadNumber sub_BadNumber bs_BadPart bm_BadPart sub_BadPart : List Value} {sn_BadNumber sn_BadPart : List Str} {ab_BadNumber ab_BadPart : Bool} {col_BadNumber col_BadPart : Option Bool} {m0_BadNumber m1_BadNumber m2_BadNumber m3_BadNumber m5_BadNumber m0_BadPart m1_BadPart m2_BadPart m3_BadPart m5_BadPart : Option Value} {ocx_BadNumber kVx_BadNumber dcx_BadNumber pmx_BadNumber cdx_BadNumber ctx_BadNumber ocx_BadPart kVx_BadPart dcx_BadPart pmx_BadPart cdx_BadPart ctx_BadPart : Value} {slx_BadNumber slx_BadPart : Array (Option Value)}
    (a_is_whole : PySem.W.nsIn K mainGlobals "is_whole" = some (some (.ref f_is_whole)))
    (l_is_whole : K.lookup f_is_whole = some ⟨oc_is_whole, od_is_whole, .func (PySem.W.fnOf "is_whole" "is_whole" (defArgs s_is_whole) (defBody s_is_whole) (defScope s_is_whole) .none kV_is_whole dc_is_whole pm_is_whole an_is_whole cd_is_whole ct_is_whole), sl_is_whole⟩)
    (d_is_whole : PySem.W.codeIn K cd_is_whole "is_whole" = true)
    (k_is_whole : PySem.W.keepIn K (.ref f_is_whole) = true)
    (a_is_from : PySem.W.nsIn K mainGlobals "is_from" = some (some (.ref f_is_from)))
    (l_is_from : K.lookup f_is_from = some ⟨oc_is_from, od_is_from, .func (PySem.W.fnOf "is_from" "is_from" (defArgs s_is_from) (defBody s_is_from) (defScope s_is_from) .none kV_is_from dc_is_from pm_is_from an_is_from cd_is_from ct_is_from), sl_is_from⟩)
    (d_is_from : PySem.W.codeIn K cd_is_from "is_from" = true)
    (k_is_from : PySem.W.keepIn K (.ref f_is_from) = true)
    (a_is_span : PySem.W.nsIn K mainGlobals "is_span" = some (some (.ref f_is_span)))
    (l_is_span : K.lookup f_is_span = some ⟨oc_is_span, od_is_span, .func (PySem.W.fnOf "is_span" "is_span" (defArgs s_is_span) (defBody s_is_span) (defScope s_is_span) .none kV_is_span dc_is_span pm_is_span an_is_span cd_is_span ct_is_span), sl_is_span⟩)
    (d_is_span : PySem.W.codeIn K cd_is_span "is_span" = true)
    (k_is_span : PySem.W.keepIn K (.ref f_is_span) = true)
    (a_require_whole : PySem.W.nsIn K mainGlobals "require_whole" = some (some (.ref f_require_whole)))
    (l_require_whole : K.lookup f_require_whole = some ⟨oc_require_whole, od_require_whole, .func (PySem.W.fnOf "require_whole" "require_whole" (defArgs s_require_whole) (defBody s_require_whole) (defScope s_require_whole) .none kV_require_whole dc_require_whole pm_require_whole an_require_whole cd_require_whole ct_require_whole), sl_require_whole⟩)
    (d_require_whole : PySem.W.codeIn K cd_require_whole "require_whole" = true)
    (k_require_whole : PySem.W.keepIn K (.ref f_require_whole) = true)
    (a_require_from : PySem.W.nsIn K mainGlobals "require_from" = some (some (.ref f_require_from)))
    (l_require_from : K.lookup f_require_from = some ⟨oc_require_from, od_require_from, .func (PySem.W.fnOf "require_from" "require_from" (defArgs s_require_from) (defBody s_require_from) (defScope s_require_from) .none kV_require_from dc_require_from pm_require_from an_require_from cd_require_from ct_require_from), sl_require_from⟩)
    (d_require_from : PySem.W.codeIn K cd_require_from "require_from" = true)
    (k_require_from : PySem.W.keepIn K (.ref f_require_from) = true)
    (a__require_remainder : PySem.W.nsIn K mainGlobals "_require_remainder" = some (some (.ref f__require_remainder)))
    (l__require_remainder : K.lookup f__require_remainder = some ⟨oc__require_remainder, od__require_remainder, .func (PySem.W.fnOf "_require_remainder" "_require_remainder" (defArgs s__require_remainder) (defBody s__require_remainder) (defScope s__require_remainder) .none kV__require_remainder dc__require_remainder pm__require_remainder an__require_remainder cd__require_remainder ct__require_remainder), sl__require_remainder⟩)
    (d__require_remainder : PySem.W.codeIn K cd__require_remainder "_require_remainder" = true)
    (k__require_remainder : PySem.W.keepIn K (.ref f__require_remainder) = true)
    (a__greater_low : PySem.W.nsIn K mainGlobals "_greater_low" = some (some (.ref f__greater_low)))
    (l__greater_low : K.lookup f__greater_low = some ⟨oc__greater_low, od__greater_low, .func (PySem.W.fnOf "_greater_low" "_greater_low" (defArgs s__greater_low) (defBody s__greater_low) (defScope s__greater_low) .none kV__greater_low dc__greater_low pm__greater_low an__greater_low cd__greater_low ct__greater_low), sl__greater_low⟩)
    (d__greater_low : PySem.W.codeIn K cd__greater_low "_greater_low" = true)
    (k__greater_low : PySem.W.keepIn K (.ref f__greater_low) = true)
    (a__lesser_high : PySem.W.nsIn K mainGlobals "_lesser_high" = some (some (.ref f__lesser_high)))
    (l__lesser_high : K.lookup f__lesser_high = some ⟨oc__lesser_high, od__lesser_high, .func (PySem.W.fnOf "_lesser_high" "_lesser_high" (defArgs s__lesser_high) (defBody s__lesser_high) (defScope s__lesser_high) .none kV__lesser_high dc__lesser_high pm__lesser_high an__lesser_high cd__lesser_high ct__lesser_high), sl__lesser_high⟩)
    (d__lesser_high : PySem.W.codeIn K cd__lesser_high "_lesser_high" = true)
    (k__lesser_high : PySem.W.keepIn K (.ref f__lesser_high) = true)
    (a__law_draw : PySem.W.nsIn K mainGlobals "_law_draw" = some (some (.ref f__law_draw)))
    (l__law_draw : K.lookup f__law_draw = some ⟨oc__law_draw, od__law_draw, .func (PySem.W.fnOf "_law_draw" "_law_draw" (defArgs s__law_draw) (defBody s__law_draw) (defScope s__law_draw) .none kV__law_draw dc__law_draw pm__law_draw an__law_draw cd__law_draw ct__law_draw), sl__law_draw⟩)
    (d__law_draw : PySem.W.codeIn K cd__law_draw "_law_draw" = true)
    (k__law_draw : PySem.W.keepIn K (.ref f__law_draw) = true)
    (a__law_number : PySem.W.nsIn K mainGlobals "_law_number" = some (some (.ref f__law_number)))
    (l__law_number : K.lookup f__law_number = some ⟨oc__law_number, od__law_number, .func (PySem.W.fnOf "_law_number" "_law_number" (defArgs s__law_number) (defBody s__law_number) (defScope s__law_number) .none kV__law_number dc__law_number pm__law_number an__law_number cd__law_number ct__law_number), sl__law_number⟩)
    (d__law_number : PySem.W.codeIn K cd__law_number "_law_number" = true)
    (k__law_number : PySem.W.keepIn K (.ref f__law_number) = true)
    (a__law_ends : PySem.W.nsIn K mainGlobals "_law_ends" = some (some (.ref f__law_ends)))
    (l__law_ends : K.lookup f__law_ends = some ⟨oc__law_ends, od__law_ends, .func (PySem.W.fnOf "_law_ends" "_law_ends" (defArgs s__law_ends) (defBody s__law_ends) (defScope s__law_ends) .none kV__law_ends dc__law_ends pm__law_ends an__law_ends cd__law_ends ct__law_ends), sl__law_ends⟩)
    (d__law_ends : PySem.W.codeIn K cd__law_ends "_law_ends" = true)
    (k__law_ends : PySem.W.keepIn K (.ref f__law_ends) = true)
    (a__law_points : PySem.W.nsIn K mainGlobals "_law_points" = some (some (.ref f__law_points)))
    (l__law_points : K.lookup f__law_points = some ⟨oc__law_points, od__law_points, .func (PySem.W.fnOf "_law_points" "_law_points" (defArgs s__law_points) (defBody s__law_points) (defScope s__law_points) .none kV__law_points dc__law_points pm__law_points an__law_points cd__law_points ct__law_points), sl__law_points⟩)
    (d__law_points : PySem.W.codeIn K cd__law_points "_law_points" = true)
    (k__law_points : PySem.W.keepIn K (.ref f__law_points) = true)
    (a__law_count : PySem.W.nsIn K mainGlobals "_law_count" = some (some (.ref f__law_count)))
    (l__law_count : K.lookup f__law_count = some ⟨oc__law_count, od__law_count, .func (PySem.W.fnOf "_law_count" "_law_count" (defArgs s__law_count) (defBody s__law_count) (defScope s__law_count) .none kV__law_count dc__law_count pm__law_count an__law_count cd__law_count ct__law_count), sl__law_count⟩)
    (d__law_count : PySem.W.codeIn K cd__law_count "_law_count" = true)
    (k__law_count : PySem.W.keepIn K (.ref f__law_count) = true)
    (a__law_first : PySem.W.nsIn K mainGlobals "_law_first" = some (some (.ref f__law_first)))
    (l__law_first : K.lookup f__law_first = some ⟨oc__law_first, od__law_first, .func (PySem.W.fnOf "_law_first" "_law_first" (defArgs s__law_first) (defBody s__law_first) (defScope s__law_first) .none kV__law_first dc__law_first pm__law_first an__law_first cd__law_first ct__law_first), sl__law_first⟩)
    (d__law_first : PySem.W.codeIn K cd__law_first "_law_first" = true)
    (k__law_first : PySem.W.keepIn K (.ref f__law_first) = true)
    (a__law_final : PySem.W.nsIn K mainGlobals "_law_final" = some (some (.ref f__law_final)))
    (l__law_final : K.lookup f__law_final = some ⟨oc__law_final, od__law_final, .func (PySem.W.fnOf "_law_final" "_law_final" (defArgs s__law_final) (defBody s__law_final) (defScope s__law_final) .none kV__law_final dc__law_final pm__law_final an__law_final cd__law_final ct__law_final), sl__law_final⟩)
    (d__law_final : PySem.W.codeIn K cd__law_final "_law_final" = true)
    (k__law_final : PySem.W.keepIn K (.ref f__law_final) = true)
    (a__law_cut : PySem.W.nsIn K mainGlobals "_law_cut" = some (some (.ref f__law_cut)))
    (l__law_cut : K.lookup f__law_cut = some ⟨oc__law_cut, od__law_cut, .func (PySem.W.fnOf "_law_cut" "_law_cut" (defArgs s__law_cut) (defBody s__law_cut) (defScope s__law_cut) .none kV__law_cut dc__law_cut pm__law_cut an__law_cut cd__law_cut ct__law_cut), sl__law_cut⟩)
    (d__law_cut : PySem.W.codeIn K cd__law_cut "_law_cut" = true)
    (k__law_cut : PySem.W.keepIn K (.ref f__law_cut) = true)
    (a__law_members : PySem.W.nsIn K mainGlobals "_law_members" = some (some (.ref f__law_members)))
    (l__law_members : K.lookup f__law_members = some ⟨oc__law_members, od__law_members, .func (PySem.W.fnOf "_law_members" "_law_members" (defArgs s__law_members) (defBody s__law_members) (defScope s__law_members) .none kV__law_members dc__law_members pm__law_members an__law_members cd__law_members ct__law_members), sl__law_members⟩)
    (d__law_members : PySem.W.codeIn K cd__law_members "_law_members" = true)
    (k__law_members : PySem.W.keepIn K (.ref f__law_members) = true)
    (a__law_nth : PySem.W.nsIn K mainGlobals "_law_nth" = some (some (.ref f__law_nth)))
    (l__law_nth : K.lookup f__law_nth = some ⟨oc__law_nth, od__law_nth, .func (PySem.W.fnOf "_law_nth" "_law_nth" (defArgs s__law_nth) (defBody s__law_nth) (defScope s__law_nth) .none kV__law_nth dc__law_nth pm__law_nth an__law_nth cd__law_nth ct__law_nth), sl__law_nth⟩)
    (d__law_nth : PySem.W.codeIn K cd__law_nth "_law_nth" = true)
    (k__law_nth : PySem.W.keepIn K (.ref f__law_nth) = true)
    (a__law_small_right : PySem.W.nsIn K mainGlobals "_law_small_right" = some (some (.ref f__law_small_right)))
    (l__law_small_right : K.lookup f__law_small_right = some ⟨oc__law_small_right, od__law_small_right, .func (PySem.W.fnOf "_law_small_right" "_law_small_right" (defArgs s__law_small_right) (defBody s__law_small_right) (defScope s__law_small_right) .none kV__law_small_right dc__law_small_right pm__law_small_right an__law_small_right cd__law_small_right ct__law_small_right), sl__law_small_right⟩)
    (d__law_small_right : PySem.W.codeIn K cd__law_small_right "_law_small_right" = true)
    (k__law_small_right : PySem.W.keepIn K (.ref f__law_small_right) = true)
    (a__law_refused : PySem.W.nsIn K mainGlobals "_law_refused" = some (some (.ref f__law_refused)))
    (l__law_refused : K.lookup f__law_refused = some ⟨oc__law_refused, od__law_refused, .func (PySem.W.fnOf "_law_refused" "_law_refused" (defArgs s__law_refused) (defBody s__law_refused) (defScope s__law_refused) .none kV__law_refused dc__law_refused pm__law_refused an__law_refused cd__law_refused ct__law_refused), sl__law_refused⟩)
    (d__law_refused : PySem.W.codeIn K cd__law_refused "_law_refused" = true)
    (k__law_refused : PySem.W.keepIn K (.ref f__law_refused) = true)
    (a__law_odd_right : PySem.W.nsIn K mainGlobals "_law_odd_right" = some (some (.ref f__law_odd_right)))
    (l__law_odd_right : K.lookup f__law_odd_right = some ⟨oc__law_odd_right, od__law_odd_right, .func (PySem.W.fnOf "_law_odd_right" "_law_odd_right" (defArgs s__law_odd_right) (defBody s__law_odd_right) (defScope s__law_odd_right) .none kV__law_odd_right dc__law_odd_right pm__law_odd_right an__law_odd_right (.ref c__law_odd_right) ct__law_odd_right), sl__law_odd_right⟩)
    (d__law_odd_right : PySem.W.codeIn K (.ref c__law_odd_right) "_law_odd_right" = true)
    (k__law_odd_right : PySem.W.keepIn K (.ref f__law_odd_right) = true)
    (t__law_odd_right : PySem.W.tabIn K "_law_odd_right" = some (c__law_odd_right, P__law_odd_right))
    (a_law : PySem.W.nsIn K mainGlobals "law" = some (some (.ref f_law)))
    (l_law : K.lookup f_law = some ⟨oc_law, od_law, .func (PySem.W.fnOf "law" "law" (defArgs s_law) (defBody s_law) (defScope s_law) .none kV_law dc_law pm_law an_law cd_law ct_law), sl_law⟩)
    (d_law : PySem.W.codeIn K cd_law "law" = true)
    (k_law : PySem.W.keepIn K (.ref f_law) = true)
    (xa_Stretch : PySem.W.nsIn K mainGlobals "Stretch" = some (some (.ref C_Stretch)))
    (pg_Stretch : PySem.W.plainGet K C_Stretch Str.empty = true)
    (hd_Stretch : PySem.W.hasDictIn K C_Stretch = true)
    (po_Stretch : PySem.W.plainOver K C_Stretch = true)
    (sa_Stretch : PySem.W.findIn K (.ref C_Stretch) "__setattr__" = some (some (.builtin "object.__setattr__")))
    (mm_Stretch : PySem.W.makesIn K C_Stretch = true)
    (kc_Stretch : PySem.W.keepIn K (.ref C_Stretch) = true)
    (ya_Stretch : PySem.W.findIn K (.ref C_Stretch) "__class__" = some (some (.builtin "object.__class__")))
    (ym_Stretch : PySem.W.mroIn K C_Stretch (.type "object") = some true)
    (na_Stretch_low : PySem.W.findIn K (.ref C_Stretch) "low" = some none)
    (na_Stretch_high : PySem.W.findIn K (.ref C_Stretch) "high" = some none)
    (ma_Stretch___init__ : PySem.W.findIn K (.ref C_Stretch) "__init__" = some (some (.ref f_Stretch___init__)))
    (mi_Stretch___init__ : PySem.W.isFn K (.ref f_Stretch___init__) = true)
    (mk_Stretch___init__ : PySem.W.keepIn K (.ref f_Stretch___init__) = true)
    (l_Stretch___init__ : K.lookup f_Stretch___init__ = some ⟨oc_Stretch___init__, od_Stretch___init__, .func (PySem.W.fnOf "__init__" "Stretch.__init__" (defArgs s_Stretch___init__) (defBody s_Stretch___init__) (defScope s_Stretch___init__) (.ref T_Stretch___init__) kV_Stretch___init__ dc_Stretch___init__ pm_Stretch___init__ an_Stretch___init__ cd_Stretch___init__ ct_Stretch___init__), sl_Stretch___init__⟩)
    (d_Stretch___init__ : PySem.W.codeIn K cd_Stretch___init__ "Stretch.__init__" = true)
    (t_Stretch___init__ : K.lookup T_Stretch___init__ = some ⟨ocT_Stretch___init__, odT_Stretch___init__, .seq [Value.none, Value.none].toArray nT_Stretch___init__, slT_Stretch___init__⟩)
    (ma_Stretch_holds : PySem.W.findIn K (.ref C_Stretch) "holds" = some (some (.ref f_Stretch_holds)))
    (mi_Stretch_holds : PySem.W.isFn K (.ref f_Stretch_holds) = true)
    (mk_Stretch_holds : PySem.W.keepIn K (.ref f_Stretch_holds) = true)
    (l_Stretch_holds : K.lookup f_Stretch_holds = some ⟨oc_Stretch_holds, od_Stretch_holds, .func (PySem.W.fnOf "holds" "Stretch.holds" (defArgs s_Stretch_holds) (defBody s_Stretch_holds) (defScope s_Stretch_holds) .none kV_Stretch_holds dc_Stretch_holds pm_Stretch_holds an_Stretch_holds cd_Stretch_holds ct_Stretch_holds), sl_Stretch_holds⟩)
    (d_Stretch_holds : PySem.W.codeIn K cd_Stretch_holds "Stretch.holds" = true)
    (ma_Stretch_turned : PySem.W.findIn K (.ref C_Stretch) "turned" = some (some (.ref f_Stretch_turned)))
    (mi_Stretch_turned : PySem.W.isFn K (.ref f_Stretch_turned) = true)
    (mk_Stretch_turned : PySem.W.keepIn K (.ref f_Stretch_turned) = true)
    (l_Stretch_turned : K.lookup f_Stretch_turned = some ⟨oc_Stretch_turned, od_Stretch_turned, .func (PySem.W.fnOf "turned" "Stretch.turned" (defArgs s_Stretch_turned) (defBody s_Stretch_turned) (defScope s_Stretch_turned) .none kV_Stretch_turned dc_Stretch_turned pm_Stretch_turned an_Stretch_turned cd_Stretch_turned ct_Stretch_turned), sl_Stretch_turned⟩)
    (d_Stretch_turned : PySem.W.codeIn K cd_Stretch_turned "Stretch.turned" = true)
    (ma_Stretch_common : PySem.W.findIn K (.ref C_Stretch) "common" = some (some (.ref f_Stretch_common)))
    (mi_Stretch_common : PySem.W.isFn K (.ref f_Stretch_common) = true)
    (mk_Stretch_common : PySem.W.keepIn K (.ref f_Stretch_common) = true)
    (l_Stretch_common : K.lookup f_Stretch_common = some ⟨oc_Stretch_common, od_Stretch_common, .func (PySem.W.fnOf "common" "Stretch.common" (defArgs s_Stretch_common) (defBody s_Stretch_common) (defScope s_Stretch_common) .none kV_Stretch_common dc_Stretch_common pm_Stretch_common an_Stretch_common cd_Stretch_common ct_Stretch_common), sl_Stretch_common⟩)
    (d_Stretch_common : PySem.W.codeIn K cd_Stretch_common "Stretch.common" = true)
    (ma_Stretch_count : PySem.W.findIn K (.ref C_Stretch) "count" = some (some (.ref f_Stretch_count)))
    (mi_Stretch_count : PySem.W.isFn K (.ref f_Stretch_count) = true)
    (mk_Stretch_count : PySem.W.keepIn K (.ref f_Stretch_count) = true)
    (l_Stretch_count : K.lookup f_Stretch_count = some ⟨oc_Stretch_count, od_Stretch_count, .func (PySem.W.fnOf "count" "Stretch.count" (defArgs s_Stretch_count) (defBody s_Stretch_count) (defScope s_Stretch_count) (.ref T_Stretch_count) kV_Stretch_count dc_Stretch_count pm_Stretch_count an_Stretch_count cd_Stretch_count ct_Stretch_count), sl_Stretch_count⟩)
    (d_Stretch_count : PySem.W.codeIn K cd_Stretch_count "Stretch.count" = true)
    (t_Stretch_count : K.lookup T_Stretch_count = some ⟨ocT_Stretch_count, odT_Stretch_count, .seq [Value.int 0 tk_Stretch_count_0, Value.int 1 tk_Stretch_count_1].toArray nT_Stretch_count, slT_Stretch_count⟩)
    (ma_Stretch_first : PySem.W.findIn K (.ref C_Stretch) "first" = some (some (.ref f_Stretch_first)))
    (mi_Stretch_first : PySem.W.isFn K (.ref f_Stretch_first) = true)
    (mk_Stretch_first : PySem.W.keepIn K (.ref f_Stretch_first) = true)
    (l_Stretch_first : K.lookup f_Stretch_first = some ⟨oc_Stretch_first, od_Stretch_first, .func (PySem.W.fnOf "first" "Stretch.first" (defArgs s_Stretch_first) (defBody s_Stretch_first) (defScope s_Stretch_first) (.ref T_Stretch_first) kV_Stretch_first dc_Stretch_first pm_Stretch_first an_Stretch_first cd_Stretch_first ct_Stretch_first), sl_Stretch_first⟩)
    (d_Stretch_first : PySem.W.codeIn K cd_Stretch_first "Stretch.first" = true)
    (t_Stretch_first : K.lookup T_Stretch_first = some ⟨ocT_Stretch_first, odT_Stretch_first, .seq [Value.int 0 tk_Stretch_first_0, Value.int 1 tk_Stretch_first_1].toArray nT_Stretch_first, slT_Stretch_first⟩)
    (ma_Stretch_final : PySem.W.findIn K (.ref C_Stretch) "final" = some (some (.ref f_Stretch_final)))
    (mi_Stretch_final : PySem.W.isFn K (.ref f_Stretch_final) = true)
    (mk_Stretch_final : PySem.W.keepIn K (.ref f_Stretch_final) = true)
    (l_Stretch_final : K.lookup f_Stretch_final = some ⟨oc_Stretch_final, od_Stretch_final, .func (PySem.W.fnOf "final" "Stretch.final" (defArgs s_Stretch_final) (defBody s_Stretch_final) (defScope s_Stretch_final) (.ref T_Stretch_final) kV_Stretch_final dc_Stretch_final pm_Stretch_final an_Stretch_final cd_Stretch_final ct_Stretch_final), sl_Stretch_final⟩)
    (d_Stretch_final : PySem.W.codeIn K cd_Stretch_final "Stretch.final" = true)
    (t_Stretch_final : K.lookup T_Stretch_final = some ⟨ocT_Stretch_final, odT_Stretch_final, .seq [Value.int 0 tk_Stretch_final_0, Value.int 1 tk_Stretch_final_1].toArray nT_Stretch_final, slT_Stretch_final⟩)
    (ma_Stretch_nth : PySem.W.findIn K (.ref C_Stretch) "nth" = some (some (.ref f_Stretch_nth)))
    (mi_Stretch_nth : PySem.W.isFn K (.ref f_Stretch_nth) = true)
    (mk_Stretch_nth : PySem.W.keepIn K (.ref f_Stretch_nth) = true)
    (l_Stretch_nth : K.lookup f_Stretch_nth = some ⟨oc_Stretch_nth, od_Stretch_nth, .func (PySem.W.fnOf "nth" "Stretch.nth" (defArgs s_Stretch_nth) (defBody s_Stretch_nth) (defScope s_Stretch_nth) (.ref T_Stretch_nth) kV_Stretch_nth dc_Stretch_nth pm_Stretch_nth an_Stretch_nth cd_Stretch_nth ct_Stretch_nth), sl_Stretch_nth⟩)
    (d_Stretch_nth : PySem.W.codeIn K cd_Stretch_nth "Stretch.nth" = true)
    (t_Stretch_nth : K.lookup T_Stretch_nth = some ⟨ocT_Stretch_nth, odT_Stretch_nth, .seq [Value.int 0 tk_Stretch_nth_0, Value.int 1 tk_Stretch_nth_1].toArray nT_Stretch_nth, slT_Stretch_nth⟩)
    (ma_Stretch_below : PySem.W.findIn K (.ref C_Stretch) "below" = some (some (.ref f_Stretch_below)))
    (mi_Stretch_below : PySem.W.isFn K (.ref f_Stretch_below) = true)
    (mk_Stretch_below : PySem.W.keepIn K (.ref f_Stretch_below) = true)
    (l_Stretch_below : K.lookup f_Stretch_below = some ⟨oc_Stretch_below, od_Stretch_below, .func (PySem.W.fnOf "below" "Stretch.below" (defArgs s_Stretch_below) (defBody s_Stretch_below) (defScope s_Stretch_below) (.ref T_Stretch_below) kV_Stretch_below dc_Stretch_below pm_Stretch_below an_Stretch_below cd_Stretch_below ct_Stretch_below), sl_Stretch_below⟩)
    (d_Stretch_below : PySem.W.codeIn K cd_Stretch_below "Stretch.below" = true)
    (t_Stretch_below : K.lookup T_Stretch_below = some ⟨ocT_Stretch_below, odT_Stretch_below, .seq [Value.int 0 tk_Stretch_below_0, Value.int 1 tk_Stretch_below_1].toArray nT_Stretch_below, slT_Stretch_below⟩)
    (xa_BadNumber : PySem.W.nsIn K mainGlobals "BadNumber" = some (some (.ref C_BadNumber)))
    (xl_BadNumber : K.lookup C_BadNumber = some (excClassObj nm_BadNumber q_BadNumber C_BadNumber N_BadNumber bs_BadNumber bm_BadNumber true sn_BadNumber sub_BadNumber ab_BadNumber col_BadNumber dd_BadNumber m0_BadNumber m1_BadNumber m2_BadNumber m3_BadNumber m5_BadNumber "ValueError.__new__"))
    (xr_BadNumber : PySem.HandSPX.refsVE bm_BadNumber = true)
    (xs_BadNumber : PySem.W.findIn K (.ref C_BadNumber) "__setattr__" = some (some (.builtin "object.__setattr__")))
    (xe_BadNumber : PySem.W.subIn K (.ref C_BadNumber) (.type "BaseException") = some true)
    (xt_BadNumber : PySem.W.typeIn K (.ref C_BadNumber) = some (.type "type"))
    (xk_BadNumber : PySem.W.keepIn K (.ref C_BadNumber) = true)
    (xg_BadNumber : PySem.W.findIn K (.ref C_BadNumber) "__getattribute__" = some (some (.builtin "BaseException.__getattribute__")))
    (xG_BadNumber : PySem.W.findIn K (.ref C_BadNumber) "__getattr__" = some none)
    (xd_BadNumber : PySem.W.hasDictIn K C_BadNumber = true)
    (xn_BadNumber : PySem.W.findIn K (.ref C_BadNumber) "number" = some none)
    (xi_BadNumber : PySem.W.findIn K (.ref C_BadNumber) "__init__" = some (some (.ref fi_BadNumber)))
    (xf_BadNumber : PySem.W.typeIn K (.ref fi_BadNumber) = some (.type "function"))
    (xL_BadNumber : K.lookup fi_BadNumber = some ⟨ocx_BadNumber, odx_BadNumber, .func (PySem.W.fnOf "__init__" "BadNumber.__init__" (defArgs s_BadNumber___init__) (defBody s_BadNumber___init__) (defScope s_BadNumber___init__) .none kVx_BadNumber dcx_BadNumber pmx_BadNumber anx_BadNumber cdx_BadNumber ctx_BadNumber), slx_BadNumber⟩)
    (xc_BadNumber : PySem.W.codeIn K cdx_BadNumber "BadNumber.__init__" = true)
    (xK_BadNumber : PySem.W.keepIn K (.ref fi_BadNumber) = true)
    (yc_BadNumber : (PySem.W.clsIn K C_BadNumber).isSome = true)
    (ya_BadNumber : PySem.W.findIn K (.ref C_BadNumber) "__class__" = some (some (.builtin "object.__class__")))
    (ym_BadNumber : PySem.W.mroIn K C_BadNumber (.type "object") = some true)
    (xa_BadPart : PySem.W.nsIn K mainGlobals "BadPart" = some (some (.ref C_BadPart)))
    (xl_BadPart : K.lookup C_BadPart = some (excClassObj nm_BadPart q_BadPart C_BadPart N_BadPart bs_BadPart bm_BadPart true sn_BadPart sub_BadPart ab_BadPart col_BadPart dd_BadPart m0_BadPart m1_BadPart m2_BadPart m3_BadPart m5_BadPart "ValueError.__new__"))
    (xr_BadPart : PySem.HandSPX.refsVE bm_BadPart = true)
    (xs_BadPart : PySem.W.findIn K (.ref C_BadPart) "__setattr__" = some (some (.builtin "object.__setattr__")))
    (xe_BadPart : PySem.W.subIn K (.ref C_BadPart) (.type "BaseException") = some true)
    (xt_BadPart : PySem.W.typeIn K (.ref C_BadPart) = some (.type "type"))
    (xk_BadPart : PySem.W.keepIn K (.ref C_BadPart) = true)
    (xg_BadPart : PySem.W.findIn K (.ref C_BadPart) "__getattribute__" = some (some (.builtin "BaseException.__getattribute__")))
    (xG_BadPart : PySem.W.findIn K (.ref C_BadPart) "__getattr__" = some none)
    (xd_BadPart : PySem.W.hasDictIn K C_BadPart = true)
    (xn_BadPart : PySem.W.findIn K (.ref C_BadPart) "part" = some none)
    (xi_BadPart : PySem.W.findIn K (.ref C_BadPart) "__init__" = some (some (.ref fi_BadPart)))
    (xf_BadPart : PySem.W.typeIn K (.ref fi_BadPart) = some (.type "function"))
    (xL_BadPart : K.lookup fi_BadPart = some ⟨ocx_BadPart, odx_BadPart, .func (PySem.W.fnOf "__init__" "BadPart.__init__" (defArgs s_BadPart___init__) (defBody s_BadPart___init__) (defScope s_BadPart___init__) .none kVx_BadPart dcx_BadPart pmx_BadPart anx_BadPart cdx_BadPart ctx_BadPart), slx_BadPart⟩)
    (xc_BadPart : PySem.W.codeIn K cdx_BadPart "BadPart.__init__" = true)
    (xK_BadPart : PySem.W.keepIn K (.ref fi_BadPart) = true)
    (yc_BadPart : (PySem.W.clsIn K C_BadPart).isSome = true)
    (ya_BadPart : PySem.W.findIn K (.ref C_BadPart) "__class__" = some (some (.builtin "object.__class__")))
    (ym_BadPart : PySem.W.mroIn K C_BadPart (.type "object") = some true)
    (yn : PySem.W.specialIn K (.builtin "object.__class__") "__get__" = some (some (.builtin "getset_descriptor.__get__")))
    (yt : PySem.W.takesIn K (.builtin "object.__class__") = some true)
    (eNN : PySem.W.exmOne K (.ref C_BadNumber) (.ref C_BadNumber) = some true)
    (z_isinstance : PySem.W.nsIn K mainGlobals "isinstance" = some none)
    (z_int : PySem.W.nsIn K mainGlobals "int" = some none)
    (z_bool : PySem.W.nsIn K mainGlobals "bool" = some none)
    (z_tuple : PySem.W.nsIn K mainGlobals "tuple" = some none)
    (z_len : PySem.W.nsIn K mainGlobals "len" = some none)
    (z_abs : PySem.W.nsIn K mainGlobals "abs" = some none)
    (z_list : PySem.W.nsIn K mainGlobals "list" = some none)
    (z_range : PySem.W.nsIn K mainGlobals "range" = some none)
    (z_repr : PySem.W.nsIn K mainGlobals "repr" = some none) : Txt K mg :=
  { d_is_whole := ⟨_, _, PySem.W.mg_of X G a_is_whole, fun_mk (st := s_is_whole) l_is_whole d_is_whole k_is_whole⟩,
    d_is_from := ⟨_, _, PySem.W.mg_of X G a_is_from, fun_mk (st := s_is_from) l_is_from d_is_from k_is_from⟩,
    d_is_span := ⟨_, _, PySem.W.mg_of X G a_is_span, fun_mk (st := s_is_span) l_is_span d_is_span k_is_span⟩,
    d_require_whole := ⟨_, _, PySem.W.mg_of X G a_require_whole, fun_mk (st := s_require_whole) l_require_whole d_require_whole k_require_whole⟩,
    d_require_from := ⟨_, _, PySem.W.mg_of X G a_require_from, fun_mk (st := s_require_from) l_require_from d_require_from k_require_from⟩,
    d__require_remainder := ⟨_, _, PySem.W.mg_of X G a__require_remainder, fun_mk (st := s__require_remainder) l__require_remainder d__require_remainder k__require_remainder⟩,
    d__greater_low := ⟨_, _, PySem.W.mg_of X G a__greater_low, fun_mk (st := s__greater_low) l__greater_low d__greater_low k__greater_low⟩,
    d__lesser_high := ⟨_, _, PySem.W.mg_of X G a__lesser_high, fun_mk (st := s__lesser_high) l__lesser_high d__lesser_high k__lesser_high⟩,
    d__law_draw := ⟨_, _, PySem.W.mg_of X G a__law_draw, fun_mk (st := s__law_draw) l__law_draw d__law_draw k__law_draw⟩,
    d__law_number := ⟨_, _, PySem.W.mg_of X G a__law_number, fun_mk (st := s__law_number) l__law_number d__law_number k__law_number⟩,
    d__law_ends := ⟨_, _, PySem.W.mg_of X G a__law_ends, fun_mk (st := s__law_ends) l__law_ends d__law_ends k__law_ends⟩,
    d__law_points := ⟨_, _, PySem.W.mg_of X G a__law_points, fun_mk (st := s__law_points) l__law_points d__law_points k__law_points⟩,
    d__law_count := ⟨_, _, PySem.W.mg_of X G a__law_count, fun_mk (st := s__law_count) l__law_count d__law_count k__law_count⟩,
    d__law_first := ⟨_, _, PySem.W.mg_of X G a__law_first, fun_mk (st := s__law_first) l__law_first d__law_first k__law_first⟩,
    d__law_final := ⟨_, _, PySem.W.mg_of X G a__law_final, fun_mk (st := s__law_final) l__law_final d__law_final k__law_final⟩,
    d__law_cut := ⟨_, _, PySem.W.mg_of X G a__law_cut, fun_mk (st := s__law_cut) l__law_cut d__law_cut k__law_cut⟩,
    d__law_members := ⟨_, _, PySem.W.mg_of X G a__law_members, fun_mk (st := s__law_members) l__law_members d__law_members k__law_members⟩,
    d__law_nth := ⟨_, _, PySem.W.mg_of X G a__law_nth, fun_mk (st := s__law_nth) l__law_nth d__law_nth k__law_nth⟩,
    d__law_small_right := ⟨_, _, PySem.W.mg_of X G a__law_small_right, fun_mk (st := s__law_small_right) l__law_small_right d__law_small_right k__law_small_right⟩,
    d__law_refused := ⟨_, _, PySem.W.mg_of X G a__law_refused, fun_mk (st := s__law_refused) l__law_refused d__law_refused k__law_refused⟩,
    lam__law_odd_right := lamf_mk X G a__law_odd_right l__law_odd_right d__law_odd_right k__law_odd_right t__law_odd_right,
    d_law := ⟨_, _, PySem.W.mg_of X G a_law, fun_mk (st := s_law) l_law d_law k_law⟩,
    ci_Stretch := by rw [ga_of xa_Stretch]; exact ⟨⟨pg_Stretch, hd_Stretch, po_Stretch, sa_Stretch⟩, ya_Stretch, yn, yt, ym_Stretch⟩,
    c_Stretch := by rw [ga_of xa_Stretch]; exact ⟨pg_Stretch, hd_Stretch, po_Stretch, sa_Stretch⟩,
    g_Stretch := by rw [ga_of xa_Stretch]; exact PySem.W.mg_of X G xa_Stretch,
    na_Stretch_low := by rw [ga_of xa_Stretch]; exact na_Stretch_low,
    na_Stretch_high := by rw [ga_of xa_Stretch]; exact na_Stretch_high,
    d_Stretch___init__ := by rw [ga_of xa_Stretch]; exact ⟨_, _, ⟨mm_Stretch, ma_Stretch___init__, mi_Stretch___init__, kc_Stretch⟩, ⟨⟨_, _, _, _, _, _, _, _, _, _, rfl, l_Stretch___init__, d_Stretch___init__, .inr ⟨by simp, _, _, _, _, rfl, t_Stretch___init__, rfl, .cons (rfl) (.cons (rfl) (.nil))⟩, .inl rfl⟩, mk_Stretch___init__⟩⟩,
    d_Stretch_holds := by rw [ga_of xa_Stretch]; exact ⟨_, _, ⟨ma_Stretch_holds, mi_Stretch_holds, mk_Stretch_holds⟩, ⟨⟨_, _, _, _, _, _, _, _, _, _, rfl, l_Stretch_holds, d_Stretch_holds, .inl ⟨rfl, rfl⟩, .inl rfl⟩, mk_Stretch_holds⟩⟩,
    d_Stretch_turned := by rw [ga_of xa_Stretch]; exact ⟨_, _, ⟨ma_Stretch_turned, mi_Stretch_turned, mk_Stretch_turned⟩, ⟨⟨_, _, _, _, _, _, _, _, _, _, rfl, l_Stretch_turned, d_Stretch_turned, .inl ⟨rfl, rfl⟩, .inl rfl⟩, mk_Stretch_turned⟩⟩,
    d_Stretch_common := by rw [ga_of xa_Stretch]; exact ⟨_, _, ⟨ma_Stretch_common, mi_Stretch_common, mk_Stretch_common⟩, ⟨⟨_, _, _, _, _, _, _, _, _, _, rfl, l_Stretch_common, d_Stretch_common, .inl ⟨rfl, rfl⟩, .inl rfl⟩, mk_Stretch_common⟩⟩,
    d_Stretch_count := by rw [ga_of xa_Stretch]; exact ⟨_, _, ⟨ma_Stretch_count, mi_Stretch_count, mk_Stretch_count⟩, ⟨⟨_, _, _, _, _, _, _, _, _, _, rfl, l_Stretch_count, d_Stretch_count, .inr ⟨by simp, _, _, _, _, rfl, t_Stretch_count, rfl, .cons (⟨_, rfl⟩) (.cons (⟨_, rfl⟩) (.nil))⟩, .inl rfl⟩, mk_Stretch_count⟩⟩,
    d_Stretch_first := by rw [ga_of xa_Stretch]; exact ⟨_, _, ⟨ma_Stretch_first, mi_Stretch_first, mk_Stretch_first⟩, ⟨⟨_, _, _, _, _, _, _, _, _, _, rfl, l_Stretch_first, d_Stretch_first, .inr ⟨by simp, _, _, _, _, rfl, t_Stretch_first, rfl, .cons (⟨_, rfl⟩) (.cons (⟨_, rfl⟩) (.nil))⟩, .inl rfl⟩, mk_Stretch_first⟩⟩,
    d_Stretch_final := by rw [ga_of xa_Stretch]; exact ⟨_, _, ⟨ma_Stretch_final, mi_Stretch_final, mk_Stretch_final⟩, ⟨⟨_, _, _, _, _, _, _, _, _, _, rfl, l_Stretch_final, d_Stretch_final, .inr ⟨by simp, _, _, _, _, rfl, t_Stretch_final, rfl, .cons (⟨_, rfl⟩) (.cons (⟨_, rfl⟩) (.nil))⟩, .inl rfl⟩, mk_Stretch_final⟩⟩,
    d_Stretch_nth := by rw [ga_of xa_Stretch]; exact ⟨_, _, ⟨ma_Stretch_nth, mi_Stretch_nth, mk_Stretch_nth⟩, ⟨⟨_, _, _, _, _, _, _, _, _, _, rfl, l_Stretch_nth, d_Stretch_nth, .inr ⟨by simp, _, _, _, _, rfl, t_Stretch_nth, rfl, .cons (⟨_, rfl⟩) (.cons (⟨_, rfl⟩) (.nil))⟩, .inl rfl⟩, mk_Stretch_nth⟩⟩,
    d_Stretch_below := by rw [ga_of xa_Stretch]; exact ⟨_, _, ⟨ma_Stretch_below, mi_Stretch_below, mk_Stretch_below⟩, ⟨⟨_, _, _, _, _, _, _, _, _, _, rfl, l_Stretch_below, d_Stretch_below, .inr ⟨by simp, _, _, _, _, rfl, t_Stretch_below, rfl, .cons (⟨_, rfl⟩) (.cons (⟨_, rfl⟩) (.nil))⟩, .inl rfl⟩, mk_Stretch_below⟩⟩,
    x_BadNumber := ext_mk (st := s_BadNumber___init__) X G xa_BadNumber xl_BadNumber xr_BadNumber xs_BadNumber xe_BadNumber xt_BadNumber xk_BadNumber xg_BadNumber xG_BadNumber xd_BadNumber xn_BadNumber xi_BadNumber xf_BadNumber xL_BadNumber xc_BadNumber xK_BadNumber sc_BadNumber___init__ rfl (fun _ _ _ _ _ _ us hl => match us, hl with | [_, _], _ => rfl),
    x_BadPart := ext_mk (st := s_BadPart___init__) X G xa_BadPart xl_BadPart xr_BadPart xs_BadPart xe_BadPart xt_BadPart xk_BadPart xg_BadPart xG_BadPart xd_BadPart xn_BadPart xi_BadPart xf_BadPart xL_BadPart xc_BadPart xK_BadPart sc_BadPart___init__ rfl (fun _ _ _ _ _ _ us hl => match us, hl with | [_, _], _ => rfl),
    mNN := by rw [ga_of xa_BadNumber]; exact eNN,
    m_isinstance := PySem.W.mg_none_of X G z_isinstance,
    m_int := PySem.W.mg_none_of X G z_int,
    m_bool := PySem.W.mg_none_of X G z_bool,
    m_tuple := PySem.W.mg_none_of X G z_tuple,
    m_len := PySem.W.mg_none_of X G z_len,
    m_abs := PySem.W.mg_none_of X G z_abs,
    m_list := PySem.W.mg_none_of X G z_list,
    m_range := PySem.W.mg_none_of X G z_range,
    m_repr := PySem.W.mg_none_of X G z_repr }
open LamX
theorem law_at {l : PySem.W.OpenLaw} {h : Heap} {fa c P0 : Addr} (X : K.In h) (hmg : mg "law" = some (.ref fa)) (T : Txt K mg) (ht : PySem.W.tabIn K "_law_odd_right" = some (c, P0)) (hc : PySem.W.codeHdIn K c P0 = true) (hP : h.get? P0 = some (PySem.W.tabObj #[])) (hn : K.lookup P0 = none) :
    LawAtS l w K (L2.CX l.prog w) 13 63 "_law_script" mg fa h := by
  obtain ⟨f, fd, g, F⟩ := T.d_law
  have e : f = fa := by
    have h1 : some (Value.ref f) = some (Value.ref fa) := g.symm.trans hmg
    injection h1 with h2
    injection h2
  subst e
  have e1 : cOf K "_law_odd_right" = c := by unfold cOf; rw [ht]; rfl
  have e2 : pOf K "_law_odd_right" = P0 := by unfold pOf; rw [ht]; rfl
  refine ⟨fd, [(c, P0)], spLaw K, ?_, ?_, ?_, ?_, ?_, ?_⟩
  · intro p hp; rw [List.mem_singleton.mp hp]; exact hP
  · intro p hp; rw [List.mem_singleton.mp hp]; exact hn
  · intro p hp; rw [List.mem_singleton.mp hp]; exact PySem.W.codeHd_of_K X hc
  · intro s u
    obtain ⟨oc, od, kV, doc, pm, an, cdv, ct, osl, rfl, _⟩ := F.ex
    exact .of_eq rfl
  · intro H a ns hl _ hT hS
    refine ⟨a, rfl, ns, hS, hl, ?_, fun _ => rfl⟩
    intro p hp
    rw [List.mem_singleton.mp hp, e2]
    exact TabS.nil (hT _ (List.mem_singleton.mpr rfl))
  · intro base kb nb hTB
    refine o_law T ?_ F
    rw [e1, e2]
    exact hTB _ (List.mem_singleton.mpr rfl)
end
end Iz
/-! k02_end -/
set_option Elab.async false
set_option linter.all false
open PySem PySem.W PyProof.Rows
set_option maxRecDepth 100000 in
set_option maxHeartbeats 0 in
theorem PySem.Challenge.cw_endlessplane_k02_whole_members_of_stretc_holds : PySem.Challenge.rw_endlessplane_k02_whole_members_of_stretc.Holds := by
  w_on; o_law; k_head; (case hw => w_witness2)
  k_fill
  refine LamX.walk_ofTs (l := PySem.Challenge.rw_endlessplane_k02_whole_members_of_stretc) (n := 63) (k := 13) (x := "_law_script") (CX := fun w => L2.CX PySem.Challenge.rw_endlessplane_k02_whole_members_of_stretc.prog w) rfl (by decide) rfl ⟨rfl, by decide, by decide⟩ (fun w h Y => PySem.W.km_in_of Y) ?F ?X
  case X =>
    intro w H s e s' hx
    obtain ⟨_, _, _, _, _, _, _, _, _, _, _, _, z⟩ := hx
    exact z.elim
  case F =>
    intro w mg fa h Y KX G hmg
    refine' Iz.law_at KX hmg (Iz.txt_mk KX G ?a_is_whole ?l_is_whole ?d_is_whole ?k_is_whole ?a_is_from ?l_is_from ?d_is_from ?k_is_from ?a_is_span ?l_is_span ?d_is_span ?k_is_span ?a_require_whole ?l_require_whole ?d_require_whole ?k_require_whole ?a_require_from ?l_require_from ?d_require_from ?k_require_from ?a__require_remainder ?l__require_remainder ?d__require_remainder ?k__require_remainder ?a__greater_low ?l__greater_low ?d__greater_low ?k__greater_low ?a__lesser_high ?l__lesser_high ?d__lesser_high ?k__lesser_high ?a__law_draw ?l__law_draw ?d__law_draw ?k__law_draw ?a__law_number ?l__law_number ?d__law_number ?k__law_number ?a__law_ends ?l__law_ends ?d__law_ends ?k__law_ends ?a__law_points ?l__law_points ?d__law_points ?k__law_points ?a__law_count ?l__law_count ?d__law_count ?k__law_count ?a__law_first ?l__law_first ?d__law_first ?k__law_first ?a__law_final ?l__law_final ?d__law_final ?k__law_final ?a__law_cut ?l__law_cut ?d__law_cut ?k__law_cut ?a__law_members ?l__law_members ?d__law_members ?k__law_members ?a__law_nth ?l__law_nth ?d__law_nth ?k__law_nth ?a__law_small_right ?l__law_small_right ?d__law_small_right ?k__law_small_right ?a__law_refused ?l__law_refused ?d__law_refused ?k__law_refused ?a__law_odd_right ?l__law_odd_right ?d__law_odd_right ?k__law_odd_right ?t__law_odd_right ?a_law ?l_law ?d_law ?k_law ?xa_Stretch ?pg_Stretch ?hd_Stretch ?po_Stretch ?sa_Stretch ?mm_Stretch ?kc_Stretch ?ya_Stretch ?ym_Stretch ?na_Stretch_low ?na_Stretch_high ?ma_Stretch___init__ ?mi_Stretch___init__ ?mk_Stretch___init__ ?l_Stretch___init__ ?d_Stretch___init__ ?t_Stretch___init__ ?ma_Stretch_holds ?mi_Stretch_holds ?mk_Stretch_holds ?l_Stretch_holds ?d_Stretch_holds ?ma_Stretch_turned ?mi_Stretch_turned ?mk_Stretch_turned ?l_Stretch_turned ?d_Stretch_turned ?ma_Stretch_common ?mi_Stretch_common ?mk_Stretch_common ?l_Stretch_common ?d_Stretch_common ?ma_Stretch_count ?mi_Stretch_count ?mk_Stretch_count ?l_Stretch_count ?d_Stretch_count ?t_Stretch_count ?ma_Stretch_first ?mi_Stretch_first ?mk_Stretch_first ?l_Stretch_first ?d_Stretch_first ?t_Stretch_first ?ma_Stretch_final ?mi_Stretch_final ?mk_Stretch_final ?l_Stretch_final ?d_Stretch_final ?t_Stretch_final ?ma_Stretch_nth ?mi_Stretch_nth ?mk_Stretch_nth ?l_Stretch_nth ?d_Stretch_nth ?t_Stretch_nth ?ma_Stretch_below ?mi_Stretch_below ?mk_Stretch_below ?l_Stretch_below ?d_Stretch_below ?t_Stretch_below ?xa_BadNumber ?xl_BadNumber ?xr_BadNumber ?xs_BadNumber ?xe_BadNumber ?xt_BadNumber ?xk_BadNumber ?xg_BadNumber ?xG_BadNumber ?xd_BadNumber ?xn_BadNumber ?xi_BadNumber ?xf_BadNumber ?xL_BadNumber ?xc_BadNumber ?xK_BadNumber ?yc_BadNumber ?ya_BadNumber ?ym_BadNumber ?xa_BadPart ?xl_BadPart ?xr_BadPart ?xs_BadPart ?xe_BadPart ?xt_BadPart ?xk_BadPart ?xg_BadPart ?xG_BadPart ?xd_BadPart ?xn_BadPart ?xi_BadPart ?xf_BadPart ?xL_BadPart ?xc_BadPart ?xK_BadPart ?yc_BadPart ?ya_BadPart ?ym_BadPart ?yn ?yt ?eNN ?z_isinstance ?z_int ?z_bool ?z_tuple ?z_len ?z_abs ?z_list ?z_range ?z_repr) ?T1 ?T2 (PySem.W.km_tabs_of Y _ ?T3) ?T4
    (case a_is_whole => k_is)
    (case l_is_whole => k_is)
    (case d_is_whole => k_is)
    (case k_is_whole => k_is)
    (case a_is_from => k_is)
    (case l_is_from => k_is)
    (case d_is_from => k_is)
    (case k_is_from => k_is)
    (case a_is_span => k_is)
    (case l_is_span => k_is)
    (case d_is_span => k_is)
    (case k_is_span => k_is)
    (case a_require_whole => k_is)
    (case l_require_whole => k_is)
    (case d_require_whole => k_is)
    (case k_require_whole => k_is)
    (case a_require_from => k_is)
    (case l_require_from => k_is)
    (case d_require_from => k_is)
    (case k_require_from => k_is)
    (case a__require_remainder => k_is)
    (case l__require_remainder => k_is)
    (case d__require_remainder => k_is)
    (case k__require_remainder => k_is)
    (case a__greater_low => k_is)
    (case l__greater_low => k_is)
    (case d__greater_low => k_is)
    (case k__greater_low => k_is)
    (case a__lesser_high => k_is)
    (case l__lesser_high => k_is)
    (case d__lesser_high => k_is)
    (case k__lesser_high => k_is)
    (case a__law_draw => k_is)
    (case l__law_draw => k_is)
    (case d__law_draw => k_is)
    (case k__law_draw => k_is)
    (case a__law_number => k_is)
    (case l__law_number => k_is)
    (case d__law_number => k_is)
    (case k__law_number => k_is)
    (case a__law_ends => k_is)
    (case l__law_ends => k_is)
    (case d__law_ends => k_is)
    (case k__law_ends => k_is)
    (case a__law_points => k_is)
    (case l__law_points => k_is)
    (case d__law_points => k_is)
    (case k__law_points => k_is)
    (case a__law_count => k_is)
    (case l__law_count => k_is)
    (case d__law_count => k_is)
    (case k__law_count => k_is)
    (case a__law_first => k_is)
    (case l__law_first => k_is)
    (case d__law_first => k_is)
    (case k__law_first => k_is)
    (case a__law_final => k_is)
    (case l__law_final => k_is)
    (case d__law_final => k_is)
    (case k__law_final => k_is)
    (case a__law_cut => k_is)
    (case l__law_cut => k_is)
    (case d__law_cut => k_is)
    (case k__law_cut => k_is)
    (case a__law_members => k_is)
    (case l__law_members => k_is)
    (case d__law_members => k_is)
    (case k__law_members => k_is)
    (case a__law_nth => k_is)
    (case l__law_nth => k_is)
    (case d__law_nth => k_is)
    (case k__law_nth => k_is)
    (case a__law_small_right => k_is)
    (case l__law_small_right => k_is)
    (case d__law_small_right => k_is)
    (case k__law_small_right => k_is)
    (case a__law_refused => k_is)
    (case l__law_refused => k_is)
    (case d__law_refused => k_is)
    (case k__law_refused => k_is)
    (case a__law_odd_right => k_is)
    (case l__law_odd_right => k_is)
    (case d__law_odd_right => k_is)
    (case k__law_odd_right => k_is)
    (case t__law_odd_right => first | rfl | (with_unfolding_all rfl) | kernel_rfl | k_is)
    (case a_law => k_is)
    (case l_law => k_is)
    (case d_law => k_is)
    (case k_law => k_is)
    (case xa_Stretch => k_is)
    (case pg_Stretch => k_is)
    (case hd_Stretch => k_is)
    (case po_Stretch => k_is)
    (case sa_Stretch => k_is)
    (case mm_Stretch => k_is)
    (case kc_Stretch => k_is)
    (case ya_Stretch => k_is)
    (case ym_Stretch => k_is)
    (case na_Stretch_low => k_is)
    (case na_Stretch_high => k_is)
    (case ma_Stretch___init__ => k_is)
    (case mi_Stretch___init__ => k_is)
    (case mk_Stretch___init__ => k_is)
    (case l_Stretch___init__ => k_is)
    (case d_Stretch___init__ => k_is)
    (case t_Stretch___init__ => k_is)
    (case ma_Stretch_holds => k_is)
    (case mi_Stretch_holds => k_is)
    (case mk_Stretch_holds => k_is)
    (case l_Stretch_holds => k_is)
    (case d_Stretch_holds => k_is)
    (case ma_Stretch_turned => k_is)
    (case mi_Stretch_turned => k_is)
    (case mk_Stretch_turned => k_is)
    (case l_Stretch_turned => k_is)
    (case d_Stretch_turned => k_is)
    (case ma_Stretch_common => k_is)
    (case mi_Stretch_common => k_is)
    (case mk_Stretch_common => k_is)
    (case l_Stretch_common => k_is)
    (case d_Stretch_common => k_is)
    (case ma_Stretch_count => k_is)
    (case mi_Stretch_count => k_is)
    (case mk_Stretch_count => k_is)
    (case l_Stretch_count => k_is)
    (case d_Stretch_count => k_is)
    (case t_Stretch_count => k_is)
    (case ma_Stretch_first => k_is)
    (case mi_Stretch_first => k_is)
    (case mk_Stretch_first => k_is)
    (case l_Stretch_first => k_is)
    (case d_Stretch_first => k_is)
    (case t_Stretch_first => k_is)
    (case ma_Stretch_final => k_is)
    (case mi_Stretch_final => k_is)
    (case mk_Stretch_final => k_is)
    (case l_Stretch_final => k_is)
    (case d_Stretch_final => k_is)
    (case t_Stretch_final => k_is)
    (case ma_Stretch_nth => k_is)
    (case mi_Stretch_nth => k_is)
    (case mk_Stretch_nth => k_is)
    (case l_Stretch_nth => k_is)
    (case d_Stretch_nth => k_is)
    (case t_Stretch_nth => k_is)
    (case ma_Stretch_below => k_is)
    (case mi_Stretch_below => k_is)
    (case mk_Stretch_below => k_is)
    (case l_Stretch_below => k_is)
    (case d_Stretch_below => k_is)
    (case t_Stretch_below => k_is)
    (case xa_BadNumber => k_is)
    (case xl_BadNumber => k_is)
    (case xr_BadNumber => first | rfl | (with_unfolding_all rfl) | kernel_rfl | k_is)
    (case xs_BadNumber => k_is)
    (case xe_BadNumber => k_is)
    (case xt_BadNumber => k_is)
    (case xk_BadNumber => k_is)
    (case xg_BadNumber => k_is)
    (case xG_BadNumber => k_is)
    (case xd_BadNumber => k_is)
    (case xn_BadNumber => k_is)
    (case xi_BadNumber => k_is)
    (case xf_BadNumber => k_is)
    (case xL_BadNumber => k_is)
    (case xc_BadNumber => k_is)
    (case xK_BadNumber => k_is)
    (case yc_BadNumber => first | rfl | (with_unfolding_all rfl) | kernel_rfl | k_is)
    (case ya_BadNumber => k_is)
    (case ym_BadNumber => k_is)
    (case xa_BadPart => k_is)
    (case xl_BadPart => k_is)
    (case xr_BadPart => first | rfl | (with_unfolding_all rfl) | kernel_rfl | k_is)
    (case xs_BadPart => k_is)
    (case xe_BadPart => k_is)
    (case xt_BadPart => k_is)
    (case xk_BadPart => k_is)
    (case xg_BadPart => k_is)
    (case xG_BadPart => k_is)
    (case xd_BadPart => k_is)
    (case xn_BadPart => k_is)
    (case xi_BadPart => k_is)
    (case xf_BadPart => k_is)
    (case xL_BadPart => k_is)
    (case xc_BadPart => k_is)
    (case xK_BadPart => k_is)
    (case yc_BadPart => first | rfl | (with_unfolding_all rfl) | kernel_rfl | k_is)
    (case ya_BadPart => k_is)
    (case ym_BadPart => k_is)
    (case yn => k_is)
    (case yt => k_is)
    (case eNN => first | rfl | (with_unfolding_all rfl) | kernel_rfl | k_is)
    (case z_isinstance => k_is)
    (case z_int => k_is)
    (case z_bool => k_is)
    (case z_tuple => k_is)
    (case z_len => k_is)
    (case z_abs => k_is)
    (case z_list => k_is)
    (case z_range => k_is)
    (case z_repr => k_is)
    (case T1 => first | rfl | with_unfolding_all rfl); (case T2 => first | rfl | with_unfolding_all rfl); (case T3 => decide); (case T4 => first | k_is | rfl | with_unfolding_all rfl)
