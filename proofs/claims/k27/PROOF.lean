import PyProof.Rows.All
import Wide.All
import OpenK.AllK
import Wide.FinOn
import HandS.ForMost
import HandS.Wide
import HandS.Evl
import HandS.IsInst
import HandS.TupAny
import HandS.TupMul
import HandS.TupLe
import HandS.Dict
import HandS.Conv
import PySem.Challenge.RW_onestepcourt_k27_words
set_option Elab.async false
set_option linter.all false
set_option maxRecDepth 100000
namespace Kit
open PySem PySem.Spec PyProof.Rows L2 Evl
abbrev St := L2.St
/-! ### facts of the text -/
structure GFn (K : PySem.W.Frag) (x qual : Str) (st : Stmt) (ps : List Str) where
  f : Addr
  fd : FuncData
  F : Fun K x qual st f fd
  b : Binds K fd ps []
structure GFn' (K : PySem.W.Frag) (mg : Str → Option Value) (x qual : Str) (st : Stmt) (ps : List Str) extends GFn K x qual st ps where
  g : mg x = some (.ref f)
structure GCl (K : PySem.W.Frag) (mg : Str → Option Value) (x : Str) (fI : Addr) where
  C : Addr
  cl : Cls K C
  M : Mk K C fI
  g : mg x = some (.ref C)
/-- a new object of so many items -/
def Alloc (n : Nat) (o : HO) (H : Hp) (Q : VK) : Prop := n ≤ sizeLine ∧ ∀ p, H p = none → Q (.ref p) (upd H p o)
/-! ### a statement with its four ways out -/
def Sm (t : TS) (nx : St → Hp → Prop) (rt : VK) (bk ct : St → Hp → Prop) (σ : St) (H : Hp) : Prop := t ⟨nx, rt, bk, ct⟩ σ H
section
variable {σ : St} {H H1 H2 : Hp} {Q : VK} {R : Bool → Hp → Prop} {A : List V → Hp → Prop} {i n : Nat} {v x y : V} {ta tb te tv : TE} {tl tr : TA} {b : Bool} {K : PySem.W.Frag} {a C dx p : Addr} {fs : List (Str × V)} {f : Str} {t u c : TT}
theorem w_var (h : σ[i]? = some (some v)) (q : Q v H) : tVar i σ H Q := ⟨v, h, q⟩
theorem w_c (q : Q v H) : tC v σ H Q := q
theorem w_op {r : R2} (h : ta σ H fun x H1 => tb σ H1 fun y H2 => r x y H2 Q) : tOp r ta tb σ H Q := h
theorem w_un {r : V → Hp → VK → Prop} (h : ta σ H fun x H1 => r x H1 Q) : tUn r ta σ H Q := h
theorem w_cb {r : List V → Hp → VK → Prop} (h : tl σ H fun vs H1 => r vs H1 Q) : tCB r tl σ H Q := h
theorem w_nil (q : A [] H) : tNil σ H A := q
theorem w_cons (h : te σ H fun x H1 => tr σ H1 fun xs H2 => A (x :: xs) H2) : tCons te tr σ H A := h
theorem w_tup (h : tl σ H fun xs H1 => Alloc xs.length (.tup xs) H1 Q) : tTup tl σ H Q := h
theorem w_lst (h : tl σ H fun xs H1 => Alloc xs.length (.lst xs) H1 Q) : tLst tl σ H Q := h
theorem w_call {sp : Sp} {dvs : List V} {E : XK} (h : tl σ H fun vs H1 => sp (vs ++ dvs) H1 Q E) : tCall sp dvs E tl σ H Q := h
theorem w_test (h : te σ H fun x H' => ∃ k, x = .bl k ∧ R k H') : tTest te σ H R := h
theorem w_B (h : te σ H fun x H' => ∃ k, x = .bl k ∧ R k H') : tB te σ H R := h
theorem w_and (h : t σ H fun c H1 => if c = true then u σ H1 R else R false H1) : tAnd t u σ H R := h
theorem w_or (h : t σ H fun c H1 => if c = true then R true H1 else u σ H1 R) : tOr t u σ H R := h
theorem w_not (h : t σ H fun c H1 => R (!c) H1) : tNot t σ H R := h
theorem w_andV (h : ta σ H fun x H1 => ∃ c, x = .bl c ∧ if c = true then tb σ H1 Q else Q (.bl false) H1) : tAndV ta tb σ H Q := h
theorem w_orV (h : ta σ H fun x H1 => ∃ c, x = .bl c ∧ if c = true then Q (.bl true) H1 else tb σ H1 Q) : tOrV ta tb σ H Q := h
theorem w_notV (h : ta σ H fun x H1 => ∃ c, x = .bl c ∧ Q (.bl (!c)) H1) : tNotV ta σ H Q := h
theorem w_ifE (h : t σ H fun c H1 => if c = true then ta σ H1 Q else tb σ H1 Q) : tIf t ta tb σ H Q := h
theorem w_fld (h : ta σ H fun x H1 => ∃ a C dx fs v, x = .ref a ∧ H1 a = some (.ins C dx fs) ∧ Cls K C ∧ NoAttr K C f ∧ fs.lookup f = some v ∧ Q v H1) : tFld K ta f σ H Q := h
theorem w_bl {k : Bool} (q : R k H) : ∃ k', V.bl k = .bl k' ∧ R k' H := ⟨k, rfl, q⟩
theorem w_blE {k : Bool} {P : Bool → Prop} (q : P k) : ∃ k', V.bl k = .bl k' ∧ P k' := ⟨k, rfl, q⟩
/-- operators -/
theorem w_I0 {g : Int → Int → V} {i j : Int} (q : Q (g i j) H) : rI0 g (.int i) (.int j) H Q := ⟨i, j, rfl, rfl, q⟩
theorem w_I {C : Int → Int → Prop} {g : Int → Int → V} {i j : Int} (hc : C i j) (q : Q (g i j) H) : rI C g (.int i) (.int j) H Q := ⟨i, j, rfl, rfl, hc, q⟩
theorem w_U {g : Int → V} {i : Int} (q : Q (g i) H) : rU g (.int i) H Q := ⟨i, rfl, q⟩
theorem w_eqI {i j : Int} (q : Q (.bl (decide (i = j))) H) : rEq (.int i) (.int j) H Q := ⟨rfl, by
  have e : decide (V.int i = V.int j) = decide (i = j) := by
    by_cases h : i = j
    · subst h; rw [decide_eq_true rfl, decide_eq_true rfl]
    · rw [decide_eq_false h, decide_eq_false (fun z => h (V.int.inj z))]
  rw [e]; exact q⟩
theorem w_neI {i j : Int} (q : Q (.bl (!decide (i = j))) H) : rNe (.int i) (.int j) H Q := ⟨rfl, by
  have e : decide (V.int i = V.int j) = decide (i = j) := by
    by_cases h : i = j
    · subst h; rw [decide_eq_true rfl, decide_eq_true rfl]
    · rw [decide_eq_false h, decide_eq_false (fun z => h (V.int.inj z))]
  rw [e]; exact q⟩
theorem w_eqB {i j : Bool} (q : Q (.bl (i == j)) H) : rEq (.bl i) (.bl j) H Q := ⟨rfl, by rw [dec_bl]; exact q⟩
theorem w_neB {i j : Bool} (q : Q (.bl (!(i == j))) H) : rNe (.bl i) (.bl j) H Q := ⟨rfl, by rw [dec_bl]; exact q⟩
theorem w_eqS {i : Str} (q : Q (.bl true) H) : rEq (.str i) (.str i) H Q := ⟨rfl, by rw [decide_eq_true rfl]; exact q⟩
theorem w_eqSF {i j : Str} (h : decide (i = j) = false) (q : Q (.bl false) H) : rEq (.str i) (.str j) H Q := ⟨rfl, by
  rw [decide_eq_false (fun z => of_decide_eq_false h (V.str.inj z))]; exact q⟩
theorem w_eqSd {i j : Str} (q : Q (.bl (decide (i = j))) H) : rEq (.str i) (.str j) H Q := ⟨rfl, by
  have e : decide (V.str i = V.str j) = decide (i = j) := by
    by_cases h : i = j
    · subst h; rw [decide_eq_true rfl, decide_eq_true rfl]
    · rw [decide_eq_false h, decide_eq_false (fun z => h (V.str.inj z))]
  rw [e]; exact q⟩
theorem w_neS {i : Str} (q : Q (.bl false) H) : rNe (.str i) (.str i) H Q := ⟨rfl, by rw [decide_eq_true rfl]; exact q⟩
theorem w_isN (q : Q (.bl (decide (x = .non))) H) : (fun (x y : V) (H : Hp) (Q : VK) => y = .non ∧ Q (.bl (decide (x = .non))) H) x .non H Q := ⟨rfl, q⟩
theorem w_ixL {p : Addr} {xs : List V} {i : Int} (h : SqL K H p xs) (ha : atI xs i = some v) (q : Q v H) : rIxL K (.ref p) (.int i) H Q := ⟨p, xs, i, v, rfl, rfl, h, ha, q⟩
theorem w_ixT {p : Addr} {xs : List V} {i : Int} (h : SqT K H p xs) (ha : atI xs i = some v) (q : Q v H) : rIxT K (.ref p) (.int i) H Q := ⟨p, xs, i, v, rfl, rfl, h, ha, q⟩
theorem w_inL {neg : Bool} {p : Addr} {xs : List V} (h : SqL K H p xs) (hx : flatV x = true) (ha : xs.all flatV = true) (q : Q (.bl (if neg then !inV x xs else inV x xs)) H) : rIn K neg x (.ref p) H Q := ⟨p, xs, rfl, Or.inl h, hx, ha, q⟩
theorem w_inT {neg : Bool} {p : Addr} {xs : List V} (h : SqT K H p xs) (hx : flatV x = true) (ha : xs.all flatV = true) (q : Q (.bl (if neg then !inV x xs else inV x xs)) H) : rIn K neg x (.ref p) H Q := ⟨p, xs, rfl, Or.inr h, hx, ha, q⟩
theorem w_call0 {sp : Sp} {E : XK} (h : tl σ H fun vs H1 => sp vs H1 Q E) : tCall sp [] E tl σ H Q := by
  have e : tCall sp [] E tl σ H Q = (tl σ H fun vs H1 => sp vs H1 Q E) := by unfold tCall; simp only [List.append_nil]
  rw [e]; exact h
theorem w_inLt {p : Addr} {xs : List V} (h : SqL K H p xs ∨ SqT K H p xs) (hb : (flatV x && xs.all flatV && inV x xs) = true) (q : Q (.bl true) H) : rIn K false x (.ref p) H Q := by
  simp only [Bool.and_eq_true] at hb
  exact ⟨p, xs, rfl, h, hb.1.1, hb.1.2, by rw [hb.2]; exact q⟩
theorem w_inLf {p : Addr} {xs : List V} (h : SqL K H p xs ∨ SqT K H p xs) (hb : (flatV x && xs.all flatV && !inV x xs) = true) (q : Q (.bl false) H) : rIn K false x (.ref p) H Q := by
  simp only [Bool.and_eq_true, Bool.not_eq_true'] at hb
  exact ⟨p, xs, rfl, h, hb.1.1, hb.1.2, by rw [hb.2]; exact q⟩
/-- built-ins by names -/
def rInt : List V → Hp → VK → Prop := fun xs H Q => (∃ i, xs = [.int i] ∧ Q (.int i) H) ∨ ∃ k, xs = [.bl k] ∧ Q (.int (if k then 1 else 0)) H
def rMax : List V → Hp → VK → Prop := fun xs H Q => ∃ i j, xs = [.int i, .int j] ∧ Q (.int (if j > i then j else i)) H
def rMin : List V → Hp → VK → Prop := fun xs H Q => ∃ i j, xs = [.int i, .int j] ∧ Q (.int (if j < i then j else i)) H
def rAbs : List V → Hp → VK → Prop := fun xs H Q => ∃ i, xs = [.int i] ∧ Q (.int (if i < 0 then -i else i)) H
def rTupS (K : PySem.W.Frag) : List V → Hp → VK → Prop := fun xs H Q => ∃ p ys, xs = [.ref p] ∧ ((SqL K H p ys ∧ ∀ l, H l = none → Q (.ref l) (upd H l (.tup ys))) ∨ (SqT K H p ys ∧ Q (.ref p) H))
theorem k_int {X : Cx} : CallR X (.type "int") rInt := call_int1
theorem k_max {X : Cx} (hc : X.calm = true) : CallR X (.builtin "max") rMax := call_max2 hc
theorem k_min {X : Cx} (hc : X.calm = true) : CallR X (.builtin "min") rMin := call_min2 hc
theorem k_abs {X : Cx} : CallR X (.builtin "abs") rAbs := call_abs
theorem k_len {X : Cx} : CallR X (.builtin "len") (rLenS X.K) := call_len_seq
theorem k_list {X : Cx} : CallR X (.type "list") (rListS X.K) := call_list_of
theorem k_tuple {X : Cx} : CallR X (.type "tuple") (rTupS X.K) := call_tuple_of
theorem w_int {i : Int} (q : Q (.int i) H) : rInt [.int i] H Q := .inl ⟨i, rfl, q⟩
theorem w_intB {k : Bool} (q : Q (.int (if k = true then 1 else 0)) H) : rInt [.bl k] H Q := .inr ⟨k, rfl, q⟩
theorem w_max {i j : Int} (q : Q (.int (if j > i then j else i)) H) : rMax [.int i, .int j] H Q := ⟨i, j, rfl, q⟩
theorem w_min {i j : Int} (q : Q (.int (if j < i then j else i)) H) : rMin [.int i, .int j] H Q := ⟨i, j, rfl, q⟩
theorem w_abs {i : Int} (q : Q (.int (if i < 0 then -i else i)) H) : rAbs [.int i] H Q := ⟨i, rfl, q⟩
theorem w_len {p : Addr} {xs : List V} (h : SqL K H p xs ∨ SqT K H p xs) (q : Q (.int (xs.length : Int)) H) : rLenS K [.ref p] H Q := ⟨p, xs, rfl, h, q⟩
theorem w_list {p : Addr} {xs : List V} (h : SqL K H p xs ∨ SqT K H p xs) (q : ∀ l H2, H l = none → Ex H H2 → H2 l = some (.lst xs) → Q (.ref l) H2) : rListS K [.ref p] H Q := ⟨p, xs, rfl, h, fun l hl => q l _ hl (Ex.new hl) upd_same⟩
theorem w_tuple {p : Addr} {xs : List V} (h : SqL K H p xs) (q : ∀ l H2, H l = none → Ex H H2 → H2 l = some (.tup xs) → Q (.ref l) H2) : rTupS K [.ref p] H Q := ⟨p, xs, rfl, .inl ⟨h, fun l hl => q l _ hl (Ex.new hl) upd_same⟩⟩
theorem w_tupleT {p : Addr} {xs : List V} (h : SqT K H p xs) (q : Q (.ref p) H) : rTupS K [.ref p] H Q := ⟨p, xs, rfl, .inr ⟨h, q⟩⟩
def rIsNo : R2 := fun x y H Q => y = .non ∧ Q (.bl (decide (x = .non))) H
def rNotNo : R2 := fun x y H Q => y = .non ∧ Q (.bl (!decide (x = .non))) H
theorem k_isN {X : Cx} : OpR X (compareOp .Is) rIsNo := op_isN
theorem k_notN {X : Cx} : OpR X (compareOp .IsNot) rNotNo := op_notN
theorem w_isNN (q : Q (.bl true) H) : rIsNo .non .non H Q := ⟨rfl, q⟩
theorem w_isNI {i : Int} (q : Q (.bl false) H) : rIsNo (.int i) .non H Q := ⟨rfl, q⟩
theorem w_isNB {i : Bool} (q : Q (.bl false) H) : rIsNo (.bl i) .non H Q := ⟨rfl, q⟩
theorem w_isNR {i : Addr} (q : Q (.bl false) H) : rIsNo (.ref i) .non H Q := ⟨rfl, q⟩
theorem w_notNN (q : Q (.bl false) H) : rNotNo .non .non H Q := ⟨rfl, q⟩
theorem w_notNI {i : Int} (q : Q (.bl true) H) : rNotNo (.int i) .non H Q := ⟨rfl, q⟩
theorem w_notNB {i : Bool} (q : Q (.bl true) H) : rNotNo (.bl i) .non H Q := ⟨rfl, q⟩
theorem w_notNR {i : Addr} (q : Q (.bl true) H) : rNotNo (.ref i) .non H Q := ⟨rfl, q⟩
theorem w_dget {td ty : TE} (h : td σ H fun x H1 => ty σ H1 fun y H2 => ∃ a v, x = .ref a ∧ DGet H2 a y (some v) ∧ Q v H2) : tDGet td ty σ H Q := h
theorem w_disp {trs : List (TE × TE)} (h : ∀ p H1, H p = none → Ex H H1 → H1 p = some (.dK []) → tPairs trs σ H1 fun ps H2 => H2 p = some (.dK []) ∧ ∃ kvs : List (Key × V), ps = kvs.map (fun kv => (kV kv.1, kv.2)) ∧ kvs.length ≤ 15 ∧ Q (.ref p) (upd H2 p (.dK (mergeK [] kvs)))) : tDisp trs σ H Q :=
  fun p hp => h p _ hp (Ex.new hp) upd_same
theorem w_pp {tk tv : TE} {r : List (TE × TE)} {B : List (V × V) → Hp → Prop} (h : tk σ H fun x H1 => tv σ H1 fun y H2 => tPairs r σ H2 fun ps H3 => B ((x, y) :: ps) H3) : tPairs ((tk, tv) :: r) σ H B := h
theorem w_pn {B : List (V × V) → Hp → Prop} (h : B [] H) : tPairs [] σ H B := h
theorem w_isi {x : V} {n : String} {t : String} {b : Bool} (ty : TyX K H x (.type t)) (e : kitB t n = some b) (q : Q (.bl b) H) : rIsi K [x, .ty n] H Q := ⟨x, .ty n, .type t, .type n, b, rfl, ClsV.ty n, ty, kit_ty e, q⟩
theorem w_isiInt {i : Int} {n : String} {b : Bool} (e : kitB "int" n = some b) (q : Q (.bl b) H) : rIsi K [.int i, .ty n] H Q := w_isi (.base (.int i)) e q
theorem w_isiNon {n : String} {b : Bool} (e : kitB "NoneType" n = some b) (q : Q (.bl b) H) : rIsi K [.non, .ty n] H Q := w_isi (.base .non) e q
theorem w_isiBl {i : Bool} {n : String} {b : Bool} (e : kitB "bool" n = some b) (q : Q (.bl b) H) : rIsi K [.bl i, .ty n] H Q := w_isi (.base (.bl i)) e q
theorem w_isiStr {i : Str} {n : String} {b : Bool} (e : kitB "str" n = some b) (q : Q (.bl b) H) : rIsi K [.str i, .ty n] H Q := w_isi (.base (.str i)) e q
theorem w_isiTup {p : Addr} {xs : List V} {n : String} {b : Bool} (h : SqT K H p xs) (e : kitB "tuple" n = some b) (q : Q (.bl b) H) : rIsi K [.ref p, .ty n] H Q := by
  rcases h with (h | ⟨o, h⟩) | ⟨o, _, _, h, c, _⟩
  · exact w_isi (.base (.tup h)) e q
  · exact w_isi (.fTuple h) e q
  · exact w_isi (.kTuple h c) e q
theorem w_isiLst {p : Addr} {xs : List V} {n : String} {b : Bool} (h : SqL K H p xs) (e : kitB "list" n = some b) (q : Q (.bl b) H) : rIsi K [.ref p, .ty n] H Q := by
  rcases h with (h | ⟨o, h⟩) | ⟨o, _, _, h, c, _⟩
  · exact w_isi (.base (.lst h)) e q
  · exact w_isi (.base (.frz h)) e q
  · exact w_isi (.kList h c) e q
theorem w_isiDK {p : Addr} {xs : List (Key × V)} {n : String} {b : Bool} (h : H p = some (.dK xs)) (e : kitB "dict" n = some b) (q : Q (.bl b) H) : rIsi K [.ref p, .ty n] H Q := w_isi (.base (.dK h)) e q
theorem w_neD {d e : PyData} (hx : Dp K H x d) (hy : Dp K H y e) (sd : SeqAt.shaped d = true) (se : SeqAt.shaped e = true) (q : Q (.bl (!PyData.eqv d e)) H) : rNeD K x y H Q := ⟨d, e, hx, hy, sd, se, q⟩
theorem w_eqD {d e : PyData} (hx : Dp K H x d) (hy : Dp K H y e) (sd : SeqAt.shaped d = true) (se : SeqAt.shaped e = true) (q : Q (.bl (PyData.eqv d e)) H) : rEqD K x y H Q := ⟨d, e, hx, hy, sd, se, q⟩
/-- a flat value as data -/
def flatD : V → PyData
  | .bl b => .bool b
  | .int i => .int i
  | .str x => .str x
  | _ => .none
def isFl : V → Bool
  | .non | .bl _ | .int _ | .str _ => true
  | _ => false
theorem dp_flat {v : V} (h : isFl v = true) : Dp K H v (flatD v) := by
  cases v <;> first | exact .non | exact .bl _ | exact .int _ | exact .str _ | cases h
theorem dp_flats : ∀ {vs : List V}, vs.all isFl = true → DpAll K H vs (vs.map flatD)
  | [], _ => .nil
  | v :: vs, h => by
    rw [List.all_cons, Bool.and_eq_true] at h
    exact .cons (dp_flat h.1) (dp_flats h.2)
theorem dp_lst {p : Addr} {vs : List V} (h : SqL K H p vs) (f : vs.all isFl = true) : Dp K H (.ref p) (.list (vs.map flatD)) := .lst h (dp_flats f)
theorem dp_tup {p : Addr} {vs : List V} (h : SqT K H p vs) (f : vs.all isFl = true) : Dp K H (.ref p) (.tuple (vs.map flatD)) := .tup h (dp_flats f)
theorem int_at {ns : List Int} {k : Int} (h0 : 0 ≤ k) (h : k < ((ns.map V.int).length : Int)) : ∃ c, atI (ns.map V.int) k = some (.int c) := by
  obtain ⟨j, rfl⟩ := Int.eq_ofNat_of_zero_le h0
  have hj : j < ns.length := by rw [List.length_map] at h; omega
  refine ⟨ns[j], atI_nat (j := j) ?_⟩
  rw [List.getElem?_map, List.getElem?_eq_getElem hj]
  rfl
/-- a new object -/
theorem w_new {m : Nat} {o : HO} (hm : m ≤ 100000) (k : ∀ p H2, H p = none → Ex H H2 → H2 p = some o → Q (.ref p) H2) : Alloc m o H Q :=
  ⟨sz_of hm, fun p hp => k p _ hp (Ex.new hp) upd_same⟩
/-- ifs over a known bool -/
theorem i_T {A B : Prop} (h : A) : if true = true then A else B := iteT h
theorem i_F {A B : Prop} (h : B) : if false = true then A else B := iteF h
theorem i_N {A B : Prop} {k : Bool} (h : if k = true then B else A) : if (!k) = true then A else B := by
  cases k
  · exact iteT (by rw [if_neg Bool.false_ne_true] at h; exact h)
  · exact iteF (by rw [if_pos rfl] at h; exact h)
theorem i_D {A B c : Prop} [Decidable c] (h1 : c → A) (h2 : ¬ c → B) : if decide c = true then A else B := by
  by_cases h : c
  · rw [decide_eq_true h]; exact iteT (h1 h)
  · rw [decide_eq_false h]; exact iteF (h2 h)
theorem i_DT {A B c : Prop} [Decidable c] (h : c) (h1 : A) : if decide c = true then A else B := by rw [decide_eq_true h]; exact iteT h1
theorem i_DF {A B c : Prop} [Decidable c] (h : ¬ c) (h1 : B) : if decide c = true then A else B := by rw [decide_eq_false h]; exact iteF h1
theorem i_B {A B : Prop} {k : Bool} (h1 : k = true → A) (h2 : k = false → B) : if k = true then A else B := by
  cases k
  · exact iteF (h2 rfl)
  · exact iteT (h1 rfl)
end
section
variable {σ : St} {H : Hp} {nx bk ct : St → Hp → Prop} {rt : VK} {t u : TS} {c : TT} {te : TE} {i : Nat} {K : PySem.W.Frag}
theorem m_norm {σ' : St} (e : σ = σ') (h : Sm t nx rt bk ct σ' H) : Sm t nx rt bk ct σ H := by rw [e]; exact h
theorem m_seq (h : Sm t (fun σ H => Sm u nx rt bk ct σ H) rt bk ct σ H) : Sm (tSeq t u) nx rt bk ct σ H := h
theorem m_cut (M : St → Hp → Prop) (h : Sm t M rt bk ct σ H) (k : ∀ σ H, M σ H → Sm u nx rt bk ct σ H) : Sm (tCut t u) nx rt bk ct σ H := ⟨M, h, k⟩
theorem m_asg (h : te σ H fun v H1 => nx (σ.set i (some v)) H1) : Sm (tAsg te (gName i)) nx rt bk ct σ H := h
theorem m_asgG {g : TG} (h : te σ H fun v H1 => g v σ H1 nx) : Sm (tAsg te g) nx rt bk ct σ H := h
theorem m_ret (h : te σ H rt) : Sm (tRet te) nx rt bk ct σ H := h
theorem m_retN (h : rt .non H) : Sm tRetN nx rt bk ct σ H := h
theorem m_drop (h : te σ H fun _ H1 => nx σ H1) : Sm (tDrop te) nx rt bk ct σ H := h
theorem m_next (h : nx σ H) : Sm tNext nx rt bk ct σ H := h
theorem m_brk (h : bk σ H) : Sm tBreak nx rt bk ct σ H := h
theorem m_cont (h : ct σ H) : Sm tCont nx rt bk ct σ H := h
theorem m_if (h : c σ H fun b H1 => if b = true then Sm t nx rt bk ct σ H1 else Sm u nx rt bk ct σ H1) : Sm (tIfS c t u) nx rt bk ct σ H := h
theorem m_aug {ti : TIp} {v : V} (hx : σ[i]? = some (some v)) (h : te σ H fun y H1 => ti v y H1 fun z H2 => nx (σ.set i (some z)) H2) : Sm (tAug i te ti) nx rt bk ct σ H := ⟨v, hx, h⟩
/-- o[i] = e over a list that stands in H by itself -/
theorem m_setL {p : Addr} {xs : List V} {k : Int} {j : Nat} {v : V} {Q : Hp → Prop} (h : H p = some (.lst xs)) (hj : ixN xs.length k = some j) (q : Q (upd H p (.lst (xs.set j v)))) : rSetL (.ref p) (.int k) v H Q := ⟨p, xs, k, j, rfl, rfl, h, hj, q⟩
theorem m_gsub {to ti : TE} {ts : TSet} {v : V} {Q : St → Hp → Prop} (h : to σ H fun o H1 => ti σ H1 fun i H2 => ts o i v H2 fun H3 => Q σ H3) : gSub to ti ts v σ H Q := h
/-- a loop over what J walks -/
def Fj (J : It) (g : TG) (t : TS) (nx : St → Hp → Prop) (rt : VK) (σ : St) (H : Hp) : Prop := ∃ W : Nat → Nat → St → Hp → Prop, (∃ m, W 0 m σ H) ∧ ∀ i m σ H, W i m σ H →
  (J.stop i H ∧ nx σ H) ∨ (J.go i H ∧ ∃ N : St → Hp → Prop, (∀ σ' H', N σ' H' → ∃ m', m' < m ∧ W (i + 1) m' σ' H') ∧ ∀ x H', J.yld i H x H' → g x σ H' fun σ2 H2 => t { nx := N, rt := rt, ct := N, bk := nx } σ2 H2)
theorem m_for {wi : TI} {g : TG} (h : wi σ H fun J H1 => Fj J g t nx rt σ H1) : Sm (tFor wi g t) nx rt bk ct σ H := h
theorem w_rng1 {tl : TA} {R : It → Hp → Prop} (h : tl σ H fun vs H1 => ∃ j : Int, vs = [.int j] ∧ -(2 ^ 62) ≤ j ∧ j < 2 ^ 62 ∧ R (Itr 0 j.toNat) H1) : iRng1 tl σ H R := h
theorem w_rng2 {tl : TA} {R : It → Hp → Prop} (h : tl σ H fun vs H1 => ∃ i j : Int, vs = [.int i, .int j] ∧ (-(2 ^ 62) ≤ i ∧ i < 2 ^ 62 ∧ -(2 ^ 62) ≤ j ∧ j < 2 ^ 62) ∧ R (Itr i (j - i).toNat) H1) : iRng2 tl σ H R := h
theorem w_itl {te : TE} {R : It → Hp → Prop} (h : te σ H fun x H1 => ∃ a, x = .ref a ∧ (∃ xs, SqL K H1 a xs) ∧ R (Itl K a) H1) : iList K te σ H R := h
theorem w_itt {te : TE} {R : It → Hp → Prop} (h : te σ H fun x H1 => ∃ a, x = .ref a ∧ (∃ xs, SqT K H1 a xs) ∧ R (Itt K a) H1) : iTup K te σ H R := h
theorem f_rng1 {j : Nat} {n : Int} (h0 : 0 ≤ n) (h1 : n ≤ 100000) (Pv : Nat → St → Hp → Prop) (p0 : Pv 0 σ H)
    (hs : ∀ (i : Nat) σ' H', (i : Int) < n → Pv i σ' H' → Sm t (Pv (i + 1)) rt nx (Pv (i + 1)) (σ'.set j (some (.int (i : Int)))) H') (hd : ∀ σ' H', Pv n.toNat σ' H' → nx σ' H') :
    ∃ k : Int, [V.int n] = [.int k] ∧ -(2 ^ 62) ≤ k ∧ k < 2 ^ 62 ∧ Fj (Itr 0 k.toNat) (gName j) t nx rt σ H := by
  refine ⟨n, rfl, by omega, by omega, for_range (D := ⟨nx, rt, nx, nx⟩) (lo := 0) (n := n.toNat) Pv p0 (fun i σ' H' hi p => ?_) hd⟩
  have e0 : (0 : Int) + (i : Int) = (i : Int) := Int.zero_add _
  show t { nx := Pv (i + 1), rt := rt, ct := Pv (i + 1), bk := nx } (σ'.set j (some (.int ((0 : Int) + (i : Int))))) H'
  rw [e0]
  exact hs i σ' H' (by omega) p
theorem f_rng2 {j : Nat} {lo n : Int} (h0 : -100000 ≤ lo ∧ lo ≤ 100000 ∧ -100000 ≤ n ∧ n ≤ 100000) (Pv : Nat → St → Hp → Prop) (p0 : Pv 0 σ H)
    (hs : ∀ (i : Nat) σ' H', lo + (i : Int) < n → Pv i σ' H' → Sm t (Pv (i + 1)) rt nx (Pv (i + 1)) (σ'.set j (some (.int (lo + (i : Int))))) H') (hd : ∀ σ' H', Pv (n - lo).toNat σ' H' → nx σ' H') :
    ∃ i k : Int, [V.int lo, V.int n] = [.int i, .int k] ∧ (-(2 ^ 62) ≤ i ∧ i < 2 ^ 62 ∧ -(2 ^ 62) ≤ k ∧ k < 2 ^ 62) ∧ Fj (Itr i (k - i).toNat) (gName j) t nx rt σ H :=
  ⟨lo, n, rfl, ⟨by omega, by omega, by omega, by omega⟩, for_range (D := ⟨nx, rt, nx, nx⟩) (lo := lo) (n := (n - lo).toNat) Pv p0 (fun i σ' H' hi p => hs i σ' H' (by omega) p) hd⟩
theorem f_list {g : TG} {a : Addr} {xs : List V} (hx : SqL K H a xs) (Pv : Nat → St → Hp → Prop) (p0 : Pv 0 σ H) (hl : ∀ i σ' H', i ≤ xs.length → Pv i σ' H' → SqL K H' a xs)
    (hs : ∀ i x σ' H', xs[i]? = some x → Pv i σ' H' → g x σ' H' fun σ2 H2 => Sm t (Pv (i + 1)) rt nx (Pv (i + 1)) σ2 H2) (hd : ∀ σ' H', Pv xs.length σ' H' → nx σ' H') :
    ∃ b, V.ref a = .ref b ∧ (∃ ys, SqL K H b ys) ∧ Fj (Itl K b) g t nx rt σ H := ⟨a, rfl, ⟨xs, hx⟩, for_list (D := ⟨nx, rt, nx, nx⟩) Pv p0 hl hs hd⟩
theorem f_tup {g : TG} {a : Addr} {xs : List V} (hx : SqT K H a xs) (Pv : Nat → St → Hp → Prop) (p0 : Pv 0 σ H) (hl : ∀ i σ' H', i ≤ xs.length → Pv i σ' H' → SqT K H' a xs)
    (hs : ∀ i x σ' H', xs[i]? = some x → Pv i σ' H' → g x σ' H' fun σ2 H2 => Sm t (Pv (i + 1)) rt nx (Pv (i + 1)) σ2 H2) (hd : ∀ σ' H', Pv xs.length σ' H' → nx σ' H') :
    ∃ b, V.ref a = .ref b ∧ (∃ ys, SqT K H b ys) ∧ Fj (Itt K b) g t nx rt σ H := ⟨a, rfl, ⟨xs, hx⟩, for_tup (D := ⟨nx, rt, nx, nx⟩) Pv p0 hl hs hd⟩
theorem m_while (W : Nat → St → Hp → Prop) (m0 : Nat) (h0 : W m0 σ H)
    (hs : ∀ m σ' H', W m σ' H' → c σ' H' fun b H1 => if b = true then Sm t (fun σ2 H2 => ∃ m', m' < m ∧ W m' σ2 H2) rt nx (fun σ2 H2 => ∃ m', m' < m ∧ W m' σ2 H2) σ' H1 else nx σ' H1)
    (mono : ∀ σ H (A B : Bool → Hp → Prop), (∀ b H, A b H → B b H) → c σ H A → c σ H B) : Sm (tWhile c t) nx rt bk ct σ H := by
  refine ⟨W, ⟨m0, h0⟩, fun m σ' H' hw => mono _ _ _ _ (fun b H1 h => ?_) (hs m σ' H' hw)⟩
  cases b
  · exact iteF (by rw [if_neg Bool.false_ne_true] at h; exact h)
  · refine iteT ⟨fun σ2 H2 => ∃ m', m' < m ∧ W m' σ2 H2, fun _ _ n => n, ?_⟩
    rw [if_pos rfl] at h
    exact h
end
theorem divW {i j : Int} (h : 0 < j) (hb : j < 2 ^ 250) : CDivW i j := wide_div (b := 250) h (by omega) (by decide) (by decide)
/-- a written tuple of texts and ints -/
def KTup (K : PySem.W.Frag) (a : Addr) (xs : List V) : Prop := ∃ (o : Obj) (its : Array Value) (n : Nat), K.lookup a = some o ∧ o.cls = .type "tuple" ∧ o.data = .seq its n ∧ its.size ≤ sizeLine ∧ Vals xs its.toList
def relB : V → Value → Bool
  | .int i, .int j _ => i == j
  | .str x, .str y _ => x == y
  | _, _ => false
def relsB : List V → List Value → Bool
  | [], [] => true
  | x :: xs, u :: us => relB x u && relsB xs us
  | _, _ => false
def tupB (o : Obj) (xs : List V) : Bool := (match o.cls with | .type t => t == "tuple" | _ => false) && match o.data with | .seq its _ => decide (its.size ≤ sizeLine) && relsB xs its.toList | _ => false
theorem relB_of : ∀ {x : V} {u : Value}, relB x u = true → RelV x u
  | .int i, .int j t, h => by
    have e : i = j := eq_of_beq h
    exact ⟨t, by rw [e]⟩
  | .str i, .str j t, h => by
    have e : i = j := eq_of_beq h
    exact ⟨t, by rw [e]⟩
theorem relsB_of : ∀ {xs : List V} {us : List Value}, relsB xs us = true → Vals xs us
  | [], [], _ => .nil
  | x :: xs, u :: us, h => by
    unfold relsB at h
    rw [Bool.and_eq_true] at h
    exact .cons (relB_of h.1) (relsB_of h.2)
theorem ktup_of {K : PySem.W.Frag} {a : Addr} {o : Obj} {xs : List V} (h : K.lookup a = some o) (t : tupB o xs = true) : KTup K a xs := by
  unfold tupB at t
  rw [Bool.and_eq_true] at t
  obtain ⟨t1, t2⟩ := t
  obtain ⟨cls, dd, data, sl⟩ := o
  cases data with
  | seq its n =>
    simp only [Bool.and_eq_true, decide_eq_true_eq] at t2
    cases cls with
    | type c =>
      have e : c = "tuple" := eq_of_beq t1
      subst e
      exact ⟨_, its, n, h, rfl, rfl, t2.1, relsB_of t2.2⟩
    | _ => cases t1
  | _ => cases t2
theorem KTup.sq {K : PySem.W.Frag} {a : Addr} {xs : List V} (h : KTup K a xs) (H : Hp) : SqT K H a xs := Or.inr h
theorem ok_body {X : Cx} {body : List Stmt} {t : TS} {Q : VK} {σ σ0 : St} {H : Hp} (h : PSs X body t) (e : σ0 = σ) (q : Sm t (fun _ H' => Q .non H') Q (fun _ _ => False) (fun _ _ => False) σ H) :
    ∃ t : TS, PSs X body t ∧ t { nx := fun _ H' => Q .non H', rt := Q } σ0 H := ⟨t, h, by subst e; exact q⟩
/-- all but one object as it was -/
def ExBut (p : Addr) (H H' : Hp) : Prop := ∀ b o, b ≠ p → H b = some o → H' b = some o
theorem ExBut.ex {p : Addr} {H0 H H' : Hp} (e : Ex H0 H) (h : H0 p = none) (m : ExBut p H H') : Ex H0 H' := fun b o hb => m b o (ne_of_none hb h) (e b o hb)
theorem ExBut.refl (p : Addr) (H : Hp) : ExBut p H H := fun _ _ _ h => h
theorem ExBut.trans {p : Addr} {H H1 H2 : Hp} (a : ExBut p H H1) (b : ExBut p H1 H2) : ExBut p H H2 := fun c o n h => b c o n (a c o n h)
theorem ExBut.of {p : Addr} {H H' : Hp} (e : Ex H H') : ExBut p H H' := fun b o _ h => e b o h
theorem ExBut.upd {p : Addr} {H H' : Hp} {o : HO} (e : ExBut p H H') : ExBut p H (upd H' p o) := fun b u n h => by rw [upd_ne n]; exact e b u n h
theorem ex_snoc {H H1 H2 : Hp} (b : Ex H1 H2) (a : Ex H H1) : Ex H H2 := a.trans b
theorem but_snoc {p : Addr} {H H1 H2 : Hp} (b : ExBut p H1 H2) (a : ExBut p H H1) : ExBut p H H2 := a.trans b
theorem but_snocE {p : Addr} {H H1 H2 : Hp} (b : Ex H1 H2) (a : ExBut p H H1) : ExBut p H H2 := a.trans (.of b)
theorem ex_but {p : Addr} {H0 H H' : Hp} (m : ExBut p H H') (h : H0 p = none) (e : Ex H0 H) : Ex H0 H' := ExBut.ex e h m
theorem but_get {p a : Addr} {H H' : Hp} {o : HO} (m : ExBut p H H') (n : a ≠ p) (h : H a = some o) : H' a = some o := m a o n h
theorem w_setL {p : Addr} {xs ys : List V} {k : Int} {j : Nat} {v : V} {H : Hp} {Q : Hp → Prop} (h : H p = some (.lst xs)) (hj : ixN xs.length k = some j) (e : xs.set j v = ys) (q : ∀ H2, ExBut p H H2 → H2 p = some (.lst ys) → Q H2) : rSetL (.ref p) (.int k) v H Q :=
  ⟨p, xs, k, j, rfl, rfl, h, hj, q _ (ExBut.upd (ExBut.refl p H)) (by rw [e]; exact upd_same)⟩
theorem ex_get {H1 H2 : Hp} {a : Addr} {o : HO} (e : Ex H1 H2) (h : H1 a = some o) : H2 a = some o := e a o h
theorem small {n m : Nat} (h : n ≤ m) (hm : m ≤ 1000) : n ≤ 1000 := Nat.le_trans h hm
end Kit

namespace Kit
open PySem PySem.Spec PyProof.Rows L2 Evl
/-! ### the walk by words: "wp" goes as far as it can, "wp1" one step; "hp": what stands at an address; "sq": a list, a tuple is there; "side": a side condition -/
end Kit

set_option Elab.async false
set_option linter.all false
set_option maxRecDepth 100000
set_option maxHeartbeats 4000000
namespace My
open PySem PySem.Spec PyProof.Rows L2
/-! ### the text by places -/
def topS (i : Nat) : Stmt := PySem.Challenge.pw_onestepcourt_k27_words.main.body.getD i (.Pass ⟨0, 0, 0, 0⟩)
abbrev s_op : Stmt := topS 3
abbrev N_op : List Str := ["sign", "a", "b"]
theorem sc_op : FnScope N_op ["sign", "a", "b"] (defScope s_op) := ⟨rfl, rfl, rfl, by decide +kernel, rfl, by decide +kernel, by decide +kernel⟩
abbrev s_divided : Stmt := topS 4
abbrev N_divided : List Str := ["sign", "a", "b"]
theorem sc_divided : FnScope N_divided ["sign", "a", "b"] (defScope s_divided) := ⟨rfl, rfl, rfl, by decide +kernel, rfl, by decide +kernel, by decide +kernel⟩
abbrev s_wrapped : Stmt := topS 5
abbrev N_wrapped : List Str := ["sign", "a", "b", "result"]
theorem sc_wrapped : FnScope N_wrapped ["sign", "a", "b"] (defScope s_wrapped) := ⟨rfl, rfl, rfl, by decide +kernel, rfl, by decide +kernel, by decide +kernel⟩
abbrev s_holds : Stmt := topS 6
abbrev N_holds : List Str := ["sign", "a", "b"]
theorem sc_holds : FnScope N_holds ["sign", "a", "b"] (defScope s_holds) := ⟨rfl, rfl, rfl, by decide +kernel, rfl, by decide +kernel, by decide +kernel⟩
abbrev s_law_bag : Stmt := topS 8
abbrev N_law_bag : List Str := ["script", "k", "cell"]
theorem sc_law_bag : FnScope N_law_bag ["script", "k"] (defScope s_law_bag) := ⟨rfl, rfl, rfl, by decide +kernel, rfl, by decide +kernel, by decide +kernel⟩
abbrev s_law_draw : Stmt := topS 9
abbrev N_law_draw : List Str := ["bag", "many", "seed", "rest"]
theorem sc_law_draw : FnScope N_law_draw ["bag", "many"] (defScope s_law_draw) := ⟨rfl, rfl, rfl, by decide +kernel, rfl, by decide +kernel, by decide +kernel⟩
abbrev s_law_word : Stmt := topS 10
abbrev N_law_word : List Str := ["bag", "other", "pick"]
theorem sc_law_word : FnScope N_law_word ["bag", "other"] (defScope s_law_word) := ⟨rfl, rfl, rfl, by decide +kernel, rfl, by decide +kernel, by decide +kernel⟩
abbrev s_law_sum : Stmt := topS 11
abbrev N_law_sum : List Str := ["a", "b", "total"]
theorem sc_law_sum : FnScope N_law_sum ["a", "b"] (defScope s_law_sum) := ⟨rfl, rfl, rfl, by decide +kernel, rfl, by decide +kernel, by decide +kernel⟩
abbrev s_law_product : Stmt := topS 12
abbrev N_law_product : List Str := ["a", "b", "total", "part", "rest", "k"]
theorem sc_law_product : FnScope N_law_product ["a", "b"] (defScope s_law_product) := ⟨rfl, rfl, rfl, by decide +kernel, rfl, by decide +kernel, by decide +kernel⟩
abbrev s_law_divided : Stmt := topS 13
abbrev N_law_divided : List Str := ["a", "b", "quotient", "power"]
theorem sc_law_divided : FnScope N_law_divided ["a", "b"] (defScope s_law_divided) := ⟨rfl, rfl, rfl, by decide +kernel, rfl, by decide +kernel, by decide +kernel⟩
abbrev s_law_due : Stmt := topS 14
abbrev N_law_due : List Str := ["sign", "a", "b", "holds_v"]
theorem sc_law_due : FnScope N_law_due ["sign", "a", "b"] (defScope s_law_due) := ⟨rfl, rfl, rfl, by decide +kernel, rfl, by decide +kernel, by decide +kernel⟩
abbrev s_law : Stmt := topS 15
abbrev N_law : List Str := ["script", "signs", "k", "bag", "sign", "a", "b", "due", "told"]
theorem sc_law : FnScope N_law ["script"] (defScope s_law) := ⟨rfl, rfl, rfl, by decide +kernel, rfl, by decide +kernel, by decide +kernel⟩
/-! ### what the top has written -/
structure Txt (K : PySem.W.Frag) (mg : Str → Option Value) where
  f_op : Kit.GFn' K mg "op" "op" s_op ["sign", "a", "b"]
  f_divided : Kit.GFn' K mg "divided" "divided" s_divided ["sign", "a", "b"]
  f_wrapped : Kit.GFn' K mg "wrapped" "wrapped" s_wrapped ["sign", "a", "b"]
  f_holds : Kit.GFn' K mg "holds" "holds" s_holds ["sign", "a", "b"]
  f_law_bag : Kit.GFn' K mg "_law_bag" "_law_bag" s_law_bag ["script", "k"]
  f_law_draw : Kit.GFn' K mg "_law_draw" "_law_draw" s_law_draw ["bag", "many"]
  f_law_word : Kit.GFn' K mg "_law_word" "_law_word" s_law_word ["bag", "other"]
  f_law_sum : Kit.GFn' K mg "_law_sum" "_law_sum" s_law_sum ["a", "b"]
  f_law_product : Kit.GFn' K mg "_law_product" "_law_product" s_law_product ["a", "b"]
  f_law_divided : Kit.GFn' K mg "_law_divided" "_law_divided" s_law_divided ["a", "b"]
  f_law_due : Kit.GFn' K mg "_law_due" "_law_due" s_law_due ["sign", "a", "b"]
  f_law : Kit.GFn' K mg "law" "law" s_law ["script"]
  t_MOST_WORD : Tok
  g_MOST_WORD : mg "MOST_WORD" = some (.int 65535 t_MOST_WORD)
  a_SIGNS : Addr
  g_SIGNS : mg "SIGNS" = some (.ref a_SIGNS)
  w_SIGNS : Kit.KTup K a_SIGNS [.str "+", .str "-", .str "*", .str "/", .str "mod", .str "==", .str "!=", .str "<", .str "<=", .str ">", .str ">="]
  z_bool : mg "bool" = none
  z_int : mg "int" = none
  z_isinstance : mg "isinstance" = none
  z_len : mg "len" = none
  z_list : mg "list" = none
  z_max : mg "max" = none
  z_min : mg "min" = none
  z_range : mg "range" = none
  z_tuple : mg "tuple" = none
/-! ### the walk: "wp" goes as far as it can, "wp1" one step; "hp": what stands at an address; "ex": a heap grown; "sqL", "sqT": a list, a tuple to be read; "side": a side condition; "ix": an item -/
local macro_rules | `(tactic| walk_at "hp") => `(tactic| first | with_reducible assumption | exact Kit.ex_get (by with_reducible assumption) (by walk_at "hp"))
local macro_rules | `(tactic| walk_at "ex") => `(tactic| first | with_reducible assumption | with_reducible exact Evl.Ex.refl _ | exact Kit.ex_snoc (by with_reducible assumption) (by walk_at "ex") | exact Kit.ex_but (by with_reducible assumption) (by with_reducible assumption) (by walk_at "ex"))
local macro_rules | `(tactic| walk_at "but") => `(tactic| first | with_reducible assumption | with_reducible exact Kit.ExBut.refl _ _ | exact Kit.but_snoc (by with_reducible assumption) (by walk_at "but") | exact Kit.but_snocE (by with_reducible assumption) (by walk_at "but"))
local macro_rules | `(tactic| walk_at "sqL") => `(tactic| first | with_reducible assumption | exact Evl.sq_of (by with_reducible assumption) | exact Evl.ex_l (by with_reducible assumption) (by walk_at "sqL"))
local macro_rules | `(tactic| walk_at "sqT") => `(tactic| first | with_reducible assumption | exact Evl.st_of (by with_reducible assumption) | exact Evl.ex_t (by with_reducible assumption) (by walk_at "sqT"))
local macro_rules | `(tactic| walk_at "sq2") => `(tactic| first | exact Or.inr (Evl.st_of (by with_reducible assumption)) | exact Or.inl (Evl.sq_of (by with_reducible assumption)) | exact Or.inl (by walk_at "sqL") | exact Or.inr (by walk_at "sqT"))
local macro_rules | `(tactic| walk_at "len") => `(tactic| (first | assumption | omega))
local macro_rules | `(tactic| walk_at "side") => `(tactic| first | (with_reducible exact trivial) | (show (0 : Int) < _; omega) | (show (0 : Int) < _; decide) | (show L2.CDiv _ _; exact ⟨by omega, by omega⟩) | (show L2.CMul _ _; exact .inr ⟨by omega, by omega⟩) | (show L2.CMul _ _; exact .inl ⟨by omega, by omega⟩) | (show L2.CDivW _ _; exact Kit.divW (by omega) (by omega)) | (show L2.CPow _ _; exact ⟨by decide, by decide, by decide⟩))
local macro_rules | `(tactic| walk_at "ix") => `(tactic| first | exact L2.atI_nat (j := 0) rfl | exact L2.atI_nat (j := 1) rfl | exact L2.atI_nat (j := 2) rfl | exact L2.atI_nat (j := 3) rfl | exact L2.atI_nat (j := 4) rfl | exact L2.atI_nat (j := 5) rfl | assumption)
local macro_rules | `(tactic| walk_at "norm") => `(tactic| ((with_reducible show Kit.Sm _ _ _ _ _ (List.set _ _ _) _); refine Kit.m_norm (by simp only [List.set_cons_succ, List.set_cons_zero]; exact rfl) ?_))
local macro_rules | `(tactic| walk_at "wp1") => `(tactic| first
  | ((with_reducible show L2.tVar _ _ _ _); refine Kit.w_var rfl ?_)
  | with_reducible refine Kit.w_op ?_
  | with_reducible refine Kit.w_c ?_
  | with_reducible refine Kit.w_cons ?_
  | with_reducible refine Kit.w_nil ?_
  | ((with_reducible show Kit.Sm _ _ _ _ _ _ _); first
      | ((with_reducible show Kit.Sm _ _ _ _ _ (List.set _ _ _) _); refine Kit.m_norm (by simp only [List.set_cons_succ, List.set_cons_zero]; exact rfl) ?_)
      | with_reducible refine Kit.m_seq ?_
      | with_reducible refine Kit.m_asg ?_
      | with_reducible refine Kit.m_if ?_
      | with_reducible refine Kit.m_ret ?_
      | with_reducible refine Kit.m_next ?_
      | with_reducible refine Kit.m_asgG ?_
      | with_reducible refine Kit.m_drop ?_
      | with_reducible refine Kit.m_for ?_
      | with_reducible refine Kit.m_retN ?_
      | with_reducible refine Kit.m_cont ?_
      | with_reducible refine Kit.m_brk ?_)
  | with_reducible refine Kit.w_test ?_
  | with_reducible refine Kit.w_bl ?_
  | with_reducible refine Kit.w_blE ?_
  | with_reducible refine Kit.w_I0 ?_
  | ((with_reducible show L2.rI _ _ _ _ _ _); refine Kit.w_I (by walk_at "side") ?_)
  | with_reducible refine Kit.w_eqI ?_
  | with_reducible refine Kit.i_T ?_
  | with_reducible refine Kit.i_F ?_
  | with_reducible refine Kit.i_N ?_
  | ((with_reducible refine Kit.i_D ?_ ?_) <;> intro _)
  | with_reducible refine Kit.w_cb ?_
  | with_reducible refine Kit.w_call0 ?_
  | ((with_reducible show Kit.Alloc _ _ _ _); refine Kit.w_new (by first | exact Nat.le_of_ble_eq_true rfl | walk_at "len") ?_; intro _ _ _ _ _)
  | with_reducible refine Kit.w_tup ?_
  | with_reducible refine Kit.w_lst ?_
  | ((with_reducible show L2.rEq (V.str _) _ _ _); first | with_reducible refine Kit.w_eqS ?_ | refine Kit.w_eqSF (by decide +kernel) ?_)
  | ((with_reducible show L2.rIxL _ _ (V.int _) _ _); refine Kit.w_ixL (by walk_at "sqL") (by walk_at "ix") ?_)
  | ((with_reducible show L2.rIxT _ _ (V.int _) _ _); refine Kit.w_ixT (by walk_at "sqT") (by walk_at "ix") ?_)
  | ((with_reducible show L2.rIn _ false _ _ _ _); first | refine Kit.w_inLt (by walk_at "sq2") (by decide +kernel) ?_ | refine Kit.w_inLf (by walk_at "sq2") (by decide +kernel) ?_)
  | with_reducible refine Kit.w_int ?_
  | with_reducible refine Kit.w_intB ?_
  | with_reducible refine Kit.w_not ?_
  | with_reducible refine Kit.w_and ?_
  | with_reducible refine Kit.w_or ?_
  | with_reducible refine Kit.w_B ?_
  | with_reducible refine Kit.w_ifE ?_
  | with_reducible refine Kit.w_fld ?_
  | with_reducible refine Kit.w_neI ?_
  | with_reducible refine Kit.w_un ?_
  | with_reducible refine Kit.w_U ?_
  | with_reducible refine Kit.w_andV ?_
  | with_reducible refine Kit.w_orV ?_
  | with_reducible refine Kit.w_notV ?_
  | with_reducible refine Kit.w_eqB ?_
  | with_reducible refine Kit.w_max ?_
  | with_reducible refine Kit.w_min ?_
  | with_reducible refine Kit.w_abs ?_
  | ((with_reducible show Evl.rLenS _ _ _ _); refine Kit.w_len (by walk_at "sq2") ?_)
  | ((with_reducible show Evl.rListS _ _ _ _); refine Kit.w_list (by walk_at "sq2") ?_; intro _ _ _ _ _)
  | ((with_reducible show Kit.rTupS _ _ _ _); first | (refine Kit.w_tuple (by walk_at "sqL") ?_; intro _ _ _ _ _) | refine Kit.w_tupleT (by walk_at "sqT") ?_)
  | ((with_reducible show Kit.rIsNo _ _ _ _); first | with_reducible refine Kit.w_isNN ?_ | with_reducible refine Kit.w_isNI ?_ | with_reducible refine Kit.w_isNB ?_ | with_reducible refine Kit.w_isNR ?_)
  | ((with_reducible show Kit.rNotNo _ _ _ _); first | with_reducible refine Kit.w_notNN ?_ | with_reducible refine Kit.w_notNI ?_ | with_reducible refine Kit.w_notNB ?_ | with_reducible refine Kit.w_notNR ?_)
  | with_reducible refine Kit.m_gsub ?_
  | ((with_reducible show L2.rSetL _ (V.int _) _ _ _); refine Kit.w_setL (by walk_at "hp") (by first | exact rfl | exact Evl.ixN_nat (by omega)) (by first | (simp only [List.set_cons_succ, List.set_cons_zero]; exact rfl) | exact rfl) ?_; intro _ _ _)
  | ((with_reducible show L2.rIsi _ _ _ _); first | refine Kit.w_isiInt (b := true) (by decide +kernel) ?_ | refine Kit.w_isiInt (b := false) (by decide +kernel) ?_ | refine Kit.w_isiNon (b := true) (by decide +kernel) ?_ | refine Kit.w_isiNon (b := false) (by decide +kernel) ?_ | refine Kit.w_isiBl (b := true) (by decide +kernel) ?_ | refine Kit.w_isiBl (b := false) (by decide +kernel) ?_ | refine Kit.w_isiStr (b := true) (by decide +kernel) ?_ | refine Kit.w_isiStr (b := false) (by decide +kernel) ?_ | refine Kit.w_isiTup (b := true) (by walk_at "sqT") (by decide +kernel) ?_ | refine Kit.w_isiTup (b := false) (by walk_at "sqT") (by decide +kernel) ?_ | refine Kit.w_isiLst (b := true) (by walk_at "sqL") (by decide +kernel) ?_ | refine Kit.w_isiLst (b := false) (by walk_at "sqL") (by decide +kernel) ?_)
  | with_reducible refine Kit.w_dget ?_
  | ((with_reducible refine Kit.w_disp ?_); intro _ _ _ _ _)
  | with_reducible refine Kit.w_pp ?_
  | with_reducible refine Kit.w_pn ?_
  | with_reducible refine Kit.w_rng1 ?_
  | with_reducible refine Kit.w_rng2 ?_
  | with_reducible refine Kit.w_itl ?_
  | with_reducible refine Kit.w_itt ?_
  | ((with_reducible refine Kit.i_B ?_ ?_) <;> intro _))
local macro_rules | `(tactic| walk_at "wp") => `(tactic| ((walk_at "wp1"); repeat' (walk_at "wp1")))

/-! ### the mathematics -/
inductive Sg where | add | sub | mul | div | mod | eq | ne | lt | le | gt | ge
def Sg.str : Sg → Str
  | .add => "+" | .sub => "-" | .mul => "*" | .div => "/" | .mod => "mod" | .eq => "==" | .ne => "!=" | .lt => "<" | .le => "<=" | .gt => ">" | .ge => ">="
section
variable {P : Program} {w : World} {K : PySem.W.Frag} {mg : Str → Option Value} {base : Heap}
def sp_divided : Sp := fun vs H Q _ => ∃ (s : Str) (a b : Int), vs = [.str s, .int a, .int b] ∧ (s = "/" ∨ s = "mod") ∧ 0 ≤ b ∧ b < 65536 ∧ ∀ H', Evl.Ex H H' → Q (if b = 0 then .non else if s = "/" then .int (a / b) else .int (a % b)) H'
theorem ok_divided (T : Txt K mg) : FnOk P w K mg base CX0 1 T.f_divided.f T.f_divided.fd ["sign", "a", "b"] (sp_divided) := by
  refine T.f_divided.F.ok sc_divided (fun vs H Q E h => ?_) (fun cdv A outer s H vs Q E hr h => ?_)
  · obtain ⟨s, a, b, rfl, hs, h0, h1, q⟩ := h
    rfl
  obtain ⟨s, a, b, rfl, hs, h0, h1, q⟩ := h
  have nd := sc_divided.nd
  refine Kit.ok_body (σ := [some _, some _, some _]) ((pss_cons (ps_if (pt_cmpR op_eq (pv 2) pe_int (nomark _))
    (pss_one (ps_ret pe_non))
    pss_nil)
    (pss_one (ps_ret (pe_ifExp (pt_cmpR op_eq (pv 0) pe_str (nomark _)) (pe_op op_fdivW (pv 1) (pv 2)) (pe_op op_mod (pv 1) (pv 2))))))) rfl ?_
  rcases hs with rfl | rfl <;> walk_at "wp"
  all_goals rename_i hb
  · rw [if_pos hb] at q
    exact q _ (Evl.Ex.refl _)
  · rw [if_neg hb, if_pos rfl] at q
    exact q _ (Evl.Ex.refl _)
  · rw [if_pos hb] at q
    exact q _ (Evl.Ex.refl _)
  · rw [if_neg hb, if_neg (by decide +kernel)] at q
    exact q _ (Evl.Ex.refl _)
def sp_wrapped : Sp := fun vs H Q _ => ∃ (s : Str) (a b : Int), vs = [.str s, .int a, .int b] ∧ (s = "+" ∨ s = "-" ∨ s = "*") ∧ 0 ≤ a ∧ a < 65536 ∧ 0 ≤ b ∧ b < 65536 ∧ ∀ H', Evl.Ex H H' → Q (.int ((if s = "+" then a + b else if s = "-" then a - b else a * b) % 65536)) H'
theorem ok_wrapped (T : Txt K mg) : FnOk P w K mg base CX0 1 T.f_wrapped.f T.f_wrapped.fd ["sign", "a", "b"] (sp_wrapped) := by
  refine T.f_wrapped.F.ok sc_wrapped (fun vs H Q E h => ?_) (fun cdv A outer s H vs Q E hr h => ?_)
  · obtain ⟨s, a, b, rfl, hs, ha0, ha1, h0, h1, q⟩ := h
    rfl
  obtain ⟨s, a, b, rfl, hs, ha0, ha1, h0, h1, q⟩ := h
  have nd := sc_wrapped.nd
  refine Kit.ok_body (σ := [some _, some _, some _, none]) ((pss_cons (ps_if (pt_cmpR op_eq (pv 0) pe_str (nomark _))
    (pss_one (ps_set (i := 3) nd rfl (Or.inl rfl) (pe_op op_add (pv 1) (pv 2))))
    (pss_one (ps_if (pt_cmpR op_eq (pv 0) pe_str (nomark _))
    (pss_one (ps_set (i := 3) nd rfl (Or.inl rfl) (pe_op op_sub (pv 1) (pv 2))))
    (pss_one (ps_set (i := 3) nd rfl (Or.inl rfl) (pe_op op_mul (pv 1) (pv 2)))))))
    (pss_one (ps_ret (pe_op op_mod (pv 3) (pe_op op_add (pe_glob (v := .int 65535) rfl T.g_MOST_WORD ⟨_, rfl⟩) pe_int)))))) rfl ?_
  rcases hs with rfl | rfl | rfl <;> walk_at "wp"
  · rw [if_pos rfl] at q
    exact q _ (Evl.Ex.refl _)
  · rw [if_neg (by decide +kernel), if_pos rfl] at q
    exact q _ (Evl.Ex.refl _)
  · rw [if_neg (by decide +kernel), if_neg (by decide +kernel)] at q
    exact q _ (Evl.Ex.refl _)
def cmpB : Sg → Int → Int → Bool
  | .eq, a, b => decide (a = b)
  | .ne, a, b => !decide (a = b)
  | .lt, a, b => decide (a < b)
  | .le, a, b => decide (a ≤ b)
  | .gt, a, b => decide (b < a)
  | .ge, a, b => decide (b ≤ a)
  | _, _, _ => false
def Sg.isCmp : Sg → Bool
  | .eq | .ne | .lt | .le | .gt | .ge => true
  | _ => false
def sp_holds : Sp := fun vs H Q _ => ∃ (g : Sg) (a b : Int), vs = [.str g.str, .int a, .int b] ∧ g.isCmp = true ∧ ∀ H', Evl.Ex H H' → Q (.bl (cmpB g a b)) H'
theorem ok_holds (T : Txt K mg) : FnOk P w K mg base CX0 1 T.f_holds.f T.f_holds.fd ["sign", "a", "b"] (sp_holds) := by
  refine T.f_holds.F.ok sc_holds (fun vs H Q E h => ?_) (fun cdv A outer s H vs Q E hr h => ?_)
  · obtain ⟨g, a, b, rfl, hs, q⟩ := h
    rfl
  obtain ⟨g, a, b, rfl, hs, q⟩ := h
  have nd := sc_holds.nd
  refine Kit.ok_body (σ := [some _, some _, some _]) ((pss_cons (ps_if (pt_cmpR op_eq (pv 0) pe_str (nomark _))
    (pss_one (ps_ret (pe_cmpR op_eq (pv 1) (pv 2) (nomark _))))
    pss_nil)
    (pss_cons (ps_if (pt_cmpR op_eq (pv 0) pe_str (nomark _))
    (pss_one (ps_ret (pe_cmpR op_ne (pv 1) (pv 2) (nomark _))))
    pss_nil)
    (pss_cons (ps_if (pt_cmpR op_eq (pv 0) pe_str (nomark _))
    (pss_one (ps_ret (pe_cmpR op_lt (pv 1) (pv 2) (nomark _))))
    pss_nil)
    (pss_cons (ps_if (pt_cmpR op_eq (pv 0) pe_str (nomark _))
    (pss_one (ps_ret (pe_cmpR op_le (pv 1) (pv 2) (nomark _))))
    pss_nil)
    (pss_cons (ps_if (pt_cmpR op_eq (pv 0) pe_str (nomark _))
    (pss_one (ps_ret (pe_cmpR op_gt (pv 1) (pv 2) (nomark _))))
    pss_nil)
    (pss_one (ps_ret (pe_cmpR op_ge (pv 1) (pv 2) (nomark _)))))))))) rfl ?_
  have q := q _ (Evl.Ex.refl _)
  cases g <;> first | (cases hs; done) | skip
  all_goals dsimp only [Sg.str]
  all_goals walk_at "wp"
  all_goals exact q
def opV : Sg → Int → Int → V
  | .add, a, b => .int ((a + b) % 65536)
  | .sub, a, b => .int ((a - b) % 65536)
  | .mul, a, b => .int ((a * b) % 65536)
  | .div, a, b => if b = 0 then .non else .int (a / b)
  | .mod, a, b => if b = 0 then .non else .int (a % b)
  | g, a, b => if cmpB g a b = true then .int 1 else .int 0
theorem use_divided {s : Str} {a b : Int} {H : Hp} {Q : VK} {E : XK} (hs : s = "/" ∨ s = "mod") (h0 : 0 ≤ b) (h1 : b < 65536) (k : ∀ H', Evl.Ex H H' → Q (if b = 0 then .non else if s = "/" then .int (a / b) else .int (a % b)) H') : sp_divided [.str s, .int a, .int b] H Q E := ⟨s, a, b, rfl, hs, h0, h1, k⟩
theorem use_wrapped {s : Str} {a b : Int} {H : Hp} {Q : VK} {E : XK} (hs : s = "+" ∨ s = "-" ∨ s = "*") (ha0 : 0 ≤ a) (ha1 : a < 65536) (h0 : 0 ≤ b) (h1 : b < 65536) (k : ∀ H', Evl.Ex H H' → Q (.int ((if s = "+" then a + b else if s = "-" then a - b else a * b) % 65536)) H') : sp_wrapped [.str s, .int a, .int b] H Q E := ⟨s, a, b, rfl, hs, ha0, ha1, h0, h1, k⟩
theorem opV_cmp {g : Sg} {a b : Int} (hg : g.isCmp = true) : opV g a b = if cmpB g a b = true then .int 1 else .int 0 := by cases g <;> first | rfl | cases hg
def sp_op : Sp := fun vs H Q _ => ∃ (g : Sg) (a b : Int), vs = [.str g.str, .int a, .int b] ∧ 0 ≤ a ∧ a < 65536 ∧ 0 ≤ b ∧ b < 65536 ∧ ∀ H', Evl.Ex H H' → Q (opV g a b) H'
local macro_rules | `(tactic| walk_at "wp1") => `(tactic| ((with_reducible refine use_divided (by first | exact .inl rfl | exact .inr rfl) (by assumption) (by assumption) ?_); intro _ _))
local macro_rules | `(tactic| walk_at "wp1") => `(tactic| ((with_reducible refine use_wrapped (by first | exact .inl rfl | exact .inr (.inl rfl) | exact .inr (.inr rfl)) (by assumption) (by assumption) (by assumption) (by assumption) ?_); intro _ _))
theorem ex_done {Q : VK} {v u : V} {H H' : Hp} (q : ∀ H', Evl.Ex H H' → Q v H') (e : Evl.Ex H H') (h : v = u) : Q u H' := h ▸ q H' e
theorem use_holds {g : Sg} {a b : Int} {H : Hp} {Q : VK} {E : XK} (s : Str) (hs : g.str = s) (hg : g.isCmp = true) (k : ∀ H', Evl.Ex H H' → Q (.bl (cmpB g a b)) H') : sp_holds [.str s, .int a, .int b] H Q E := ⟨g, a, b, by rw [hs], hg, k⟩
theorem ok_op (T : Txt K mg) : FnOk P w K mg base CX0 2 T.f_op.f T.f_op.fd ["sign", "a", "b"] (sp_op) := by
  have G_divided := ok_divided (P := P) (w := w) (base := base) T
  have G_holds := ok_holds (P := P) (w := w) (base := base) T
  have G_wrapped := ok_wrapped (P := P) (w := w) (base := base) T
  refine T.f_op.F.ok sc_op (fun vs H Q E h => ?_) (fun cdv A outer s H vs Q E hr h => ?_)
  · obtain ⟨g, a, b, rfl, ha0, ha1, h0, h1, q⟩ := h
    rfl
  obtain ⟨g, a, b, rfl, ha0, ha1, h0, h1, q⟩ := h
  have nd := sc_op.nd
  have hr1 : Room 1 _ := hr.mono (by decide)
  refine Kit.ok_body (σ := [some _, some _, some _]) ((pss_cons (ps_if (pt_cmpR op_in_seq (pv 0) (pe_tup (pa_cons pe_str (pa_cons pe_str pa_nil))) (by rfl))
    (pss_one (ps_ret (pe_call G_divided hr1 (by rfl) T.f_divided.g T.f_divided.F.kp T.f_divided.b .nil pass0 (pa_cons (pv 0) (pa_cons (pv 1) (pa_cons (pv 2) pa_nil))))))
    pss_nil)
    (pss_cons (ps_if (pt_cmpR op_in_seq (pv 0) (pe_tup (pa_cons pe_str (pa_cons pe_str (pa_cons pe_str pa_nil)))) (by rfl))
    (pss_one (ps_ret (pe_call G_wrapped hr1 (by rfl) T.f_wrapped.g T.f_wrapped.F.kp T.f_wrapped.b .nil pass0 (pa_cons (pv 0) (pa_cons (pv 1) (pa_cons (pv 2) pa_nil))))))
    pss_nil)
    (pss_one (ps_ret (pe_ifExp (pt_val (pe_call G_holds hr1 (by rfl) T.f_holds.g T.f_holds.F.kp T.f_holds.b .nil pass0 (pa_cons (pv 0) (pa_cons (pv 1) (pa_cons (pv 2) pa_nil))))) pe_int pe_int)))))) rfl ?_
  try dsimp only [L2.cxOf, L2.Cx.nox]
  cases g
  all_goals dsimp only [Sg.str]
  all_goals walk_at "wp"
  all_goals try exact ex_done q (by walk_at "ex") rfl
  · refine use_holds (g := .eq) _ rfl rfl fun H' e => ?_
    walk_at "wp" <;> (rename_i hc; exact ex_done q (by walk_at "ex") (by rw [opV_cmp rfl, hc]; rfl))
  · refine use_holds (g := .ne) _ rfl rfl fun H' e => ?_
    walk_at "wp" <;> (rename_i hc; exact ex_done q (by walk_at "ex") (by rw [opV_cmp rfl, hc]; rfl))
  · refine use_holds (g := .lt) _ rfl rfl fun H' e => ?_
    walk_at "wp" <;> (rename_i hc; exact ex_done q (by walk_at "ex") (by rw [opV_cmp rfl, hc]; rfl))
  · refine use_holds (g := .le) _ rfl rfl fun H' e => ?_
    walk_at "wp" <;> (rename_i hc; exact ex_done q (by walk_at "ex") (by rw [opV_cmp rfl, hc]; rfl))
  · refine use_holds (g := .gt) _ rfl rfl fun H' e => ?_
    walk_at "wp" <;> (rename_i hc; exact ex_done q (by walk_at "ex") (by rw [opV_cmp rfl, hc]; rfl))
  · refine use_holds (g := .ge) _ rfl rfl fun H' e => ?_
    walk_at "wp" <;> (rename_i hc; exact ex_done q (by walk_at "ex") (by rw [opV_cmp rfl, hc]; rfl))
/-! ### the law's own reckoning -/
def sp_law_sum : Sp := fun vs H Q _ => ∃ (a b : Int), vs = [.int a, .int b] ∧ 0 ≤ a ∧ a < 65536 ∧ 0 ≤ b ∧ b < 65536 ∧ ∀ H', Evl.Ex H H' → Q (.int ((a + b) % 65536)) H'
theorem use_sum {a b : Int} {H : Hp} {Q : VK} {E : XK} (h1 : 0 ≤ a ∧ a < 65536) (h2 : 0 ≤ b ∧ b < 65536) (k : ∀ H', Evl.Ex H H' → Q (.int ((a + b) % 65536)) H') : sp_law_sum [.int a, .int b] H Q E := ⟨a, b, rfl, h1.1, h1.2, h2.1, h2.2, k⟩
theorem ok_law_sum (T : Txt K mg) : FnOk P w K mg base CX0 1 T.f_law_sum.f T.f_law_sum.fd ["a", "b"] (sp_law_sum) := by
  refine T.f_law_sum.F.ok sc_law_sum (fun vs H Q E h => ?_) (fun cdv A outer s H vs Q E hr h => ?_)
  · obtain ⟨a, b, rfl, ha0, ha1, h0, h1, q⟩ := h
    rfl
  obtain ⟨a, b, rfl, ha0, ha1, h0, h1, q⟩ := h
  have nd := sc_law_sum.nd
  refine Kit.ok_body (σ := [some _, some _, none]) ((pss_cons (ps_set (i := 2) nd rfl (Or.inl rfl) (pe_op op_add (pv 0) (pv 1)))
    (pss_cons (ps_if (pt_cmpR op_gt (pv 2) pe_int (nomark _))
    (pss_one (ps_set (i := 2) nd rfl (Or.inl rfl) (pe_op op_sub (pv 2) pe_int)))
    pss_nil)
    (pss_one (ps_ret (pv 2)))))) rfl ?_
  walk_at "wp"
  · exact ex_done q (by walk_at "ex") (by rename_i h; exact congrArg V.int (by omega))
  · exact ex_done q (by walk_at "ex") (by rename_i h; exact congrArg V.int (by omega))
local macro_rules | `(tactic| walk_at "wp1") => `(tactic| ((with_reducible refine use_sum ⟨by omega, by omega⟩ ⟨by omega, by omega⟩ ?_); intro _ _))
theorem prod_turn {t p r t' p' ab : Int} (k : t' = (t + (if r % 2 = 1 then p else 0)) % 65536) (hp : p' = (p + p) % 65536) (h : ∃ q : Int, t + p * r + 65536 * q = ab) : ∃ q : Int, t' + p' * (r / 2) + 65536 * q = ab := by
  obtain ⟨q, h⟩ := h
  have e1 : p + p - p' = 65536 * ((p + p) / 65536) := by omega
  have e2 : p' = p + p - 65536 * ((p + p) / 65536) := by omega
  have er : p * r = p * (r / 2) + p * (r / 2) + p * (r % 2) := by
    have z : r = r / 2 + r / 2 + r % 2 := by omega
    have z2 : p * r = p * (r / 2 + r / 2 + r % 2) := by rw [← z]
    rw [z2, Int.mul_add, Int.mul_add]
  have e3 : p' * (r / 2) = p * (r / 2) + p * (r / 2) - 65536 * (((p + p) / 65536) * (r / 2)) := by
    rw [e2, Int.sub_mul, Int.add_mul, Int.mul_assoc]
  have hm : r % 2 = 0 ∨ r % 2 = 1 := by omega
  generalize hz : p * (r / 2) = z at *
  generalize hy : ((p + p) / 65536) * (r / 2) = y at *
  rcases hm with hm | hm
  · rw [hm, Int.mul_zero] at er
    rw [hm, if_neg (by decide)] at k
    exact ⟨q + y + (t + 0) / 65536, by omega⟩
  · rw [hm, Int.mul_one] at er
    rw [hm, if_pos rfl] at k
    exact ⟨q + y + (t + p) / 65536, by omega⟩
def sp_law_product : Sp := fun vs H Q _ => ∃ (a b : Int), vs = [.int a, .int b] ∧ 0 ≤ a ∧ a < 65536 ∧ 0 ≤ b ∧ b < 65536 ∧ ∀ H', Evl.Ex H H' → Q (.int ((a * b) % 65536)) H'
theorem use_product {a b : Int} {H : Hp} {Q : VK} {E : XK} (h1 : 0 ≤ a ∧ a < 65536) (h2 : 0 ≤ b ∧ b < 65536) (k : ∀ H', Evl.Ex H H' → Q (.int ((a * b) % 65536)) H') : sp_law_product [.int a, .int b] H Q E := ⟨a, b, rfl, h1.1, h1.2, h2.1, h2.2, k⟩
def PInv (a b : Int) (H0 : Hp) (i : Nat) (σ : L2.St) (H : Hp) : Prop := ∃ (t p r : Int) (y : Option V), σ = [some (.int a), some (.int b), some (.int t), some (.int p), some (.int r), y] ∧ Evl.Ex H0 H ∧ 0 ≤ t ∧ t < 65536 ∧ 0 ≤ p ∧ p < 65536 ∧ 0 ≤ r ∧ r < 2 ^ (16 - i) ∧ ∃ q : Int, t + p * r + 65536 * q = a * b
theorem half_lt {r : Int} {i : Nat} (hi : i < 16) (h : r < 2 ^ (16 - i)) : r / 2 < 2 ^ (16 - (i + 1)) := by
  have e : 16 - i = (16 - (i + 1)) + 1 := by omega
  rw [e, Int.pow_succ] at h
  omega
theorem ok_law_product (T : Txt K mg) : FnOk P w K mg base CX0 2 T.f_law_product.f T.f_law_product.fd ["a", "b"] (sp_law_product) := by
  have G_law_sum := ok_law_sum (P := P) (w := w) (base := base) T
  refine T.f_law_product.F.ok sc_law_product (fun vs H Q E h => ?_) (fun cdv A outer s H vs Q E hr h => ?_)
  · obtain ⟨a, b, rfl, ha0, ha1, h0, h1, q⟩ := h
    rfl
  obtain ⟨a, b, rfl, ha0, ha1, h0, h1, q⟩ := h
  have nd := sc_law_product.nd
  have hr1 : Room 1 _ := hr.mono (by decide)
  refine Kit.ok_body (σ := [some _, some _, none, none, none, none]) ((pss_cons (ps_set (i := 2) nd rfl (Or.inl rfl) pe_int)
    (pss_cons (ps_set (i := 3) nd rfl (Or.inl rfl) (pv 0))
    (pss_cons (ps_set (i := 4) nd rfl (Or.inl rfl) (pv 1))
    (pss_cons (ps_for PassesOwn.never rfl (pi_range1 (by rfl) T.z_range (pa_cons pe_int pa_nil)) (pg_name (i := 5) nd rfl (Or.inl rfl))
    (pss_cons (ps_if (pt_cmpR op_eq (pe_op op_mod (pe_callTy Kit.k_int (by rfl) T.z_int (by decide +kernel) (pa_cons (pv 4) pa_nil)) pe_int) pe_int (nomark _))
    (pss_one (ps_set (i := 2) nd rfl (Or.inl rfl) (pe_call G_law_sum hr1 (by rfl) T.f_law_sum.g T.f_law_sum.F.kp T.f_law_sum.b .nil pass0 (pa_cons (pv 2) (pa_cons (pv 3) pa_nil)))))
    pss_nil)
    (pss_cons (ps_set (i := 3) nd rfl (Or.inl rfl) (pe_call G_law_sum hr1 (by rfl) T.f_law_sum.g T.f_law_sum.F.kp T.f_law_sum.b .nil pass0 (pa_cons (pv 3) (pa_cons (pv 3) pa_nil))))
    (pss_one (ps_set (i := 4) nd rfl (Or.inl rfl) (pe_op op_fdiv (pv 4) pe_int))))))
    (pss_one (ps_ret (pv 2)))))))) rfl ?_
  try dsimp only [L2.cxOf, L2.Cx.nox]
  walk_at "wp"
  refine Kit.f_rng1 (by decide) (by decide) (PInv a b H) ⟨0, a, b, none, rfl, Evl.Ex.refl _, by decide, by decide, ha0, ha1, h0, (by show b < 65536; exact h1), 0, by omega⟩ ?_ ?_
  · rintro i σ' H' hi ⟨t, p, r, y, rfl, e, t0, t1, p0, p1, r0, r1, hq⟩
    have hi : i < 16 := by omega
    walk_at "wp"
    · rename_i hc _ _ _ _
      exact ⟨_, _, _, _, rfl, by walk_at "ex", by omega, by omega, by omega, by omega, by omega, half_lt hi r1, prod_turn (by rw [if_pos hc]) rfl hq⟩
    · rename_i hc _ _
      exact ⟨_, _, _, _, rfl, by walk_at "ex", by omega, by omega, by omega, by omega, by omega, half_lt hi r1, prod_turn (by rw [if_neg hc]; omega) rfl hq⟩
  · rintro σ' H' ⟨t, p, r, y, rfl, e, t0, t1, p0, p1, r0, r1, z, hq⟩
    walk_at "wp"
    have hr : r = 0 := by
      have : r < 1 := r1
      omega
    subst hr
    exact ex_done q e (congrArg V.int (by rw [Int.mul_zero] at hq; omega))
local macro_rules | `(tactic| walk_at "wp1") => `(tactic| ((with_reducible refine use_product ⟨by omega, by omega⟩ ⟨by omega, by omega⟩ ?_); intro _ _))
/-- powers of two, from the greatest -/
def pows : List Int := [32768, 16384, 8192, 4096, 2048, 1024, 512, 256, 128, 64, 32, 16, 8, 4, 2, 1]
def DInv (K : PySem.W.Frag) (a b : Int) (pl : Addr) (H0 : Hp) (i : Nat) (σ : L2.St) (H : Hp) : Prop := ∃ (r q : Int) (y : Option V), σ = [some (.int r), some (.int b), some (.int q), y] ∧ Evl.Ex H0 H ∧ a = b * q + r ∧ 0 ≤ r ∧ r < b * 2 ^ (16 - i) ∧ 0 ≤ q
theorem div_turn {a b r q p : Int} {m : Nat} (hp : p = 2 ^ m) (hr : r < b * 2 ^ (m + 1)) (h0 : 0 ≤ r) (ha : a = b * q + r) :
    (b * p ≤ r → a = b * (q + p) + (r - b * p) ∧ 0 ≤ r - b * p ∧ r - b * p < b * 2 ^ m) ∧ (¬ b * p ≤ r → r < b * 2 ^ m) := by
  subst hp
  rw [Int.pow_succ, ← Int.mul_assoc] at hr
  rw [Int.mul_add]
  generalize b * 2 ^ m = z at *
  generalize b * q = y at *
  omega
theorem pow_at {i : Nat} {x : V} (h : (pows.map V.int)[i]? = some x) : i < 16 ∧ x = .int (2 ^ (15 - i)) := by
  have hi : i < 16 := (List.getElem?_eq_some_iff.mp h).1
  refine ⟨hi, ?_⟩
  have hc : i = 0 ∨ i = 1 ∨ i = 2 ∨ i = 3 ∨ i = 4 ∨ i = 5 ∨ i = 6 ∨ i = 7 ∨ i = 8 ∨ i = 9 ∨ i = 10 ∨ i = 11 ∨ i = 12 ∨ i = 13 ∨ i = 14 ∨ i = 15 := by omega
  rcases hc with rfl | rfl | rfl | rfl | rfl | rfl | rfl | rfl | rfl | rfl | rfl | rfl | rfl | rfl | rfl | rfl <;> (injection h with h; rw [← h]; rfl)
def sp_law_divided : Sp := fun vs H Q _ => ∃ (a b : Int), vs = [.int a, .int b] ∧ 0 ≤ a ∧ a < 65536 ∧ 0 < b ∧ b < 65536 ∧ ∀ p H', H p = none → Evl.Ex H H' → H' p = some (.tup [.int (a / b), .int (a % b)]) → Q (.ref p) H'
theorem ok_law_divided (T : Txt K mg) : FnOk P w K mg base CX0 1 T.f_law_divided.f T.f_law_divided.fd ["a", "b"] (sp_law_divided) := by
  refine T.f_law_divided.F.ok sc_law_divided (fun vs H Q E h => ?_) (fun cdv A outer s H vs Q E hr h => ?_)
  · obtain ⟨a, b, rfl, ha0, ha1, h0, h1, q⟩ := h
    rfl
  obtain ⟨a, b, rfl, ha0, ha1, h0, h1, q⟩ := h
  have nd := sc_law_divided.nd
  refine Kit.ok_body (σ := [some _, some _, none, none]) ((pss_cons (ps_set (i := 2) nd rfl (Or.inl rfl) pe_int)
    (pss_cons (ps_for PassesOwn.never rfl (pi_list (pe_lst (pa_cons pe_int (pa_cons pe_int (pa_cons pe_int (pa_cons pe_int (pa_cons pe_int (pa_cons pe_int (pa_cons pe_int (pa_cons pe_int (pa_cons pe_int (pa_cons pe_int (pa_cons pe_int (pa_cons pe_int (pa_cons pe_int (pa_cons pe_int (pa_cons pe_int (pa_cons pe_int pa_nil)))))))))))))))))) (pg_name (i := 3) nd rfl (Or.inl rfl))
    (pss_one (ps_if (pt_cmpR op_le (pe_op op_mul (pv 1) (pv 3)) (pv 0) (nomark _))
    (pss_cons (ps_set (i := 0) nd rfl (Or.inl rfl) (pe_op op_sub (pv 0) (pe_op op_mul (pv 1) (pv 3))))
    (pss_one (ps_set (i := 2) nd rfl (Or.inl rfl) (pe_op op_add (pv 2) (pv 3)))))
    pss_nil)))
    (pss_one (ps_ret (pe_tup (pa_cons (pv 2) (pa_cons (pv 0) pa_nil)))))))) rfl ?_
  try dsimp only [L2.cxOf, L2.Cx.nox]
  walk_at "wp"
  rename_i pl H1 n1 e1 f1
  refine Kit.f_list (xs := pows.map V.int) (Evl.sq_of f1) (DInv K a b pl H1) ⟨a, 0, none, rfl, Evl.Ex.refl _, by omega, ha0, (by show a < b * 65536; omega), by omega⟩ ?_ ?_ ?_
  · rintro i σ' H' _ ⟨r, q, y, rfl, e, _⟩
    exact Evl.sq_of (e _ _ f1)
  · rintro i x σ' H' hx ⟨r, z, y, rfl, e, ea, r0, r1, z0⟩
    obtain ⟨hi, rfl⟩ := pow_at hx
    have ei : 16 - i = (15 - i) + 1 := by omega
    have hd := div_turn (m := 15 - i) (p := 2 ^ (15 - i)) rfl (by rw [← ei]; exact r1) r0 ea
    have ei2 : 16 - (i + 1) = 15 - i := by omega
    have hp : (0 : Int) ≤ 2 ^ (15 - i) := Int.le_of_lt (Int.pow_pos (by decide))
    show Kit.Sm _ _ _ _ _ _ _
    walk_at "wp"
    · rename_i hc
      have hd := hd.1 hc
      exact ⟨_, _, _, rfl, e, hd.1, hd.2.1, by rw [ei2]; exact hd.2.2, by omega⟩
    · rename_i hc
      have hd := hd.2 hc
      exact ⟨_, _, _, rfl, e, ea, r0, by rw [ei2]; exact hd, by omega⟩
  · rintro σ' H' ⟨r, z, y, rfl, e, ea, r0, r1, z0⟩
    have r1 : r < b * 1 := r1
    have hq : a / b = z ∧ a % b = r := (Int.ediv_emod_unique h0).mpr ⟨by rw [ea, Int.add_comm], r0, by omega⟩
    walk_at "wp"
    rename_i p H2 n2 e2 f2
    rw [← hq.1, ← hq.2] at f2
    exact q p H2 (Evl.fresh_back (by walk_at "ex") n2) (by walk_at "ex") f2

/-! ### draws: any value in its bounds -/
def BagAt (H : Hp) (p : Addr) : Prop := ∃ r c k : Int, 0 ≤ r ∧ H p = some (.lst [.int r, .int c, .int k])
def sp_law_bag (K : PySem.W.Frag) : Sp := fun vs H Q _ => ∃ (a : Addr) (ns : List Int) (k : Int), vs = [.ref a, .int k] ∧ SqL K H a (ns.map V.int) ∧ 0 ≤ k ∧ ∀ p H', H p = none → Evl.Ex H H' → BagAt H' p → Q (.ref p) H'
theorem big_nat : (0 : Int) ≤ 10 ^ (18 : Int).toNat := by decide
theorem ok_law_bag (T : Txt K mg) : FnOk P w K mg base CX0 1 T.f_law_bag.f T.f_law_bag.fd ["script", "k"] (sp_law_bag K) := by
  refine T.f_law_bag.F.ok sc_law_bag (fun vs H Q E h => ?_) (fun cdv A outer s H vs Q E hr h => ?_)
  · obtain ⟨a, ns, k, rfl, hS, hk, q⟩ := h
    rfl
  obtain ⟨a, ns, k, rfl, hS, hk, q⟩ := h
  have nd := sc_law_bag.nd
  refine Kit.ok_body (σ := [some _, some _, none]) ((pss_cons (ps_set (i := 2) nd rfl (Or.inl rfl) pe_int)
    (pss_cons (ps_if (pt_cmpR op_lt (pv 1) (pe_callB Kit.k_len (by rfl) T.z_len (by decide +kernel) (pa_cons (pv 0) pa_nil)) (nomark _))
    (pss_one (ps_set (i := 2) nd rfl (Or.inl rfl) (pe_callTy Kit.k_int (by rfl) T.z_int (by decide +kernel) (pa_cons (pe_ix ix_list (pv 0) (pv 1) (fun _ _ => rfl)) pa_nil))))
    pss_nil)
    (pss_cons (ps_if (pt_cmpR op_ge (pv 2) (pe_op op_pow pe_int pe_int) (nomark _))
    (pss_one (ps_ret (pe_lst (pa_cons (pv 2) (pa_cons (pv 2) (pa_cons (pv 1) pa_nil))))))
    pss_nil)
    (pss_one (ps_ret (pe_lst (pa_cons pe_int (pa_cons (pv 2) (pa_cons (pv 1) pa_nil)))))))))) rfl ?_
  try dsimp only [L2.cxOf, L2.Cx.nox]
  walk_at "wp"
  · rename_i hc
    obtain ⟨c, hc⟩ := Kit.int_at hk hc
    refine Kit.w_ixL hS hc ?_
    walk_at "wp"
    · rename_i h _ _ _ _ _
      exact q _ _ (by assumption) (by assumption) ⟨_, _, _, (show 0 ≤ c by have := big_nat; omega), by assumption⟩
    · exact q _ _ (by assumption) (by assumption) ⟨_, _, _, Int.le_refl 0, by assumption⟩
  · exact q _ _ (by assumption) (by assumption) ⟨_, _, _, Int.le_refl 0, by assumption⟩
  · exact q _ _ (by assumption) (by assumption) ⟨_, _, _, Int.le_refl 0, by assumption⟩
def sp_law_draw : Sp := fun vs H Q _ => ∃ (p : Addr) (m : Int), vs = [.ref p, .int m] ∧ BagAt H p ∧ 0 < m ∧ m < 2 ^ 250 ∧ ∀ v H', 0 ≤ v → v < m → Kit.ExBut p H H' → BagAt H' p → Q (.int v) H'
theorem use_draw {p : Addr} {m : Int} {H : Hp} {Q : VK} {E : XK} (b : BagAt H p) (h0 : 0 < m) (h1 : m < 2 ^ 250) (k : ∀ v H', 0 ≤ v → v < m → Kit.ExBut p H H' → BagAt H' p → Q (.int v) H') : sp_law_draw [.ref p, .int m] H Q E := ⟨p, m, rfl, b, h0, h1, k⟩
theorem BagAt.ex {p : Addr} {H H' : Hp} (e : Evl.Ex H H') (b : BagAt H p) : BagAt H' p := let ⟨r, c, k, h0, h⟩ := b; ⟨r, c, k, h0, e _ _ h⟩
local macro_rules | `(tactic| walk_at "bag") => `(tactic| first | with_reducible assumption | exact BagAt.ex (by with_reducible assumption) (by walk_at "bag"))
theorem div_nn {r m : Int} (h : 0 ≤ r) (hm : 0 < m) : 0 ≤ r / m := Int.ediv_nonneg h (Int.le_of_lt hm)
theorem ok_law_draw (T : Txt K mg) : FnOk P w K mg base CX0 1 T.f_law_draw.f T.f_law_draw.fd ["bag", "many"] (sp_law_draw) := by
  refine T.f_law_draw.F.ok sc_law_draw (fun vs H Q E h => ?_) (fun cdv A outer s H vs Q E hr h => ?_)
  · obtain ⟨p, m, rfl, ⟨r, c, k, hr0, hp⟩, hm0, hm1, q⟩ := h
    rfl
  obtain ⟨p, m, rfl, ⟨r, c, k, hr0, hp⟩, hm0, hm1, q⟩ := h
  have nd := sc_law_draw.nd
  refine Kit.ok_body (σ := [some _, some _, none, none]) ((pss_cons (ps_if (pt_cmpR op_eq (pe_ix ix_list (pv 0) pe_int (fun _ _ => rfl)) pe_int (nomark _))
    (pss_cons (ps_set (i := 2) nd rfl (Or.inl rfl) (pe_op op_mod (pe_callTy Kit.k_int (by rfl) T.z_int (by decide +kernel) (pa_cons (pe_op op_add (pe_op op_add (pe_op op_mul (pe_ix ix_list (pv 0) pe_int (fun _ _ => rfl)) pe_int) (pe_op op_mul (pe_ix ix_list (pv 0) pe_int (fun _ _ => rfl)) pe_int)) pe_int) pa_nil)) pe_int))
    (pss_cons (ps_asg (pe_op op_add (pe_op op_mul (pv 2) pe_int) (pe_op op_mod (pe_callTy Kit.k_int (by rfl) T.z_int (by decide +kernel) (pa_cons (pe_op op_add (pe_op op_mul (pv 2) (pv 2)) (pe_op op_mul (pe_ix ix_list (pv 0) pe_int (fun _ _ => rfl)) pe_int)) pa_nil)) pe_int)) (pg_sub (pv 0) pe_int set_list))
    (pss_one (ps_asg (pv 2) (pg_sub (pv 0) pe_int set_list)))))
    pss_nil)
    (pss_cons (ps_set (i := 3) nd rfl (Or.inl rfl) (pe_ix ix_list (pv 0) pe_int (fun _ _ => rfl)))
    (pss_cons (ps_asg (pe_op op_fdivW (pv 3) (pv 1)) (pg_sub (pv 0) pe_int set_list))
    (pss_one (ps_ret (pe_op op_mod (pe_callTy Kit.k_int (by rfl) T.z_int (by decide +kernel) (pa_cons (pv 3) pa_nil)) (pv 1)))))))) rfl ?_
  try dsimp only [L2.cxOf, L2.Cx.nox]
  walk_at "wp"
  · refine q _ _ (Int.emod_nonneg _ (by omega)) (Int.emod_lt_of_pos _ hm0) (by walk_at "but") ⟨_, _, _, div_nn ?_ hm0, by assumption⟩
    omega
  · exact q _ _ (Int.emod_nonneg _ (by omega)) (Int.emod_lt_of_pos _ hm0) (by walk_at "but") ⟨_, _, _, div_nn hr0 hm0, by assumption⟩
local macro_rules | `(tactic| walk_at "wp1") => `(tactic| ((with_reducible show sp_law_draw _ _ _ _); refine use_draw (by walk_at "bag") (by decide) (by decide) ?_; intro _ _ _ _ _ _))
def IsWord (v : Int) : Prop := 0 ≤ v ∧ v < 65536
def sp_law_word : Sp := fun vs H Q _ => ∃ (p : Addr) (o : Int), vs = [.ref p, .int o] ∧ BagAt H p ∧ IsWord o ∧ ∀ v H', IsWord v → Kit.ExBut p H H' → BagAt H' p → Q (.int v) H'
theorem bag_ne {H : Hp} {p a : Addr} (b : BagAt H p) (h : H a = none) : p ≠ a := by
  obtain ⟨_, _, _, _, hb⟩ := b
  exact ne_of_none hb h
theorem eight {v : Int} (h0 : 0 ≤ v) (h1 : v < 8) : ∃ x, IsWord x ∧ atI [V.int 0, V.int 1, V.int 2, V.int 65535, V.int 65534, V.int 32768, V.int 255, V.int 256] v = some (.int x) := by
  have hc : v = 0 ∨ v = 1 ∨ v = 2 ∨ v = 3 ∨ v = 4 ∨ v = 5 ∨ v = 6 ∨ v = 7 := by omega
  rcases hc with rfl | rfl | rfl | rfl | rfl | rfl | rfl | rfl <;> exact ⟨_, ⟨by decide, by decide⟩, rfl⟩
theorem use_word {p : Addr} {o : Int} {H : Hp} {Q : VK} {E : XK} (b : BagAt H p) (h0 : IsWord o) (k : ∀ v H', IsWord v → Kit.ExBut p H H' → BagAt H' p → Q (.int v) H') : sp_law_word [.ref p, .int o] H Q E := ⟨p, o, rfl, b, h0, k⟩
theorem ok_law_word (T : Txt K mg) : FnOk P w K mg base CX0 2 T.f_law_word.f T.f_law_word.fd ["bag", "other"] (sp_law_word) := by
  have G_law_draw := ok_law_draw (P := P) (w := w) (base := base) T
  refine T.f_law_word.F.ok sc_law_word (fun vs H Q E h => ?_) (fun cdv A outer s H vs Q E hr h => ?_)
  · obtain ⟨p, o, rfl, hb, ho, q⟩ := h
    rfl
  obtain ⟨p, o, rfl, hb, ho, q⟩ := h
  have nd := sc_law_word.nd
  have hr1 : Room 1 _ := hr.mono (by decide)
  refine Kit.ok_body (σ := [some _, some _, none]) ((pss_cons (ps_set (i := 2) nd rfl (Or.inl rfl) (pe_call G_law_draw hr1 (by rfl) T.f_law_draw.g T.f_law_draw.F.kp T.f_law_draw.b .nil pass0 (pa_cons (pv 0) (pa_cons pe_int pa_nil))))
    (pss_cons (ps_if (pt_cmpR op_lt (pv 2) pe_int (nomark _))
    (pss_one (ps_ret (pe_call G_law_draw hr1 (by rfl) T.f_law_draw.g T.f_law_draw.F.kp T.f_law_draw.b .nil pass0 (pa_cons (pv 0) (pa_cons pe_int pa_nil)))))
    pss_nil)
    (pss_cons (ps_if (pt_cmpR op_eq (pv 2) pe_int (nomark _))
    (pss_one (ps_ret (pv 1)))
    pss_nil)
    (pss_one (ps_ret (pe_ifExp (pt_cmpR op_lt (pv 2) pe_int (nomark _)) (pe_ix ix_list (pe_lst (pa_cons pe_int (pa_cons pe_int (pa_cons pe_int (pa_cons pe_int (pa_cons pe_int (pa_cons pe_int (pa_cons pe_int (pa_cons pe_int pa_nil))))))))) (pe_call G_law_draw hr1 (by rfl) T.f_law_draw.g T.f_law_draw.F.kp T.f_law_draw.b .nil pass0 (pa_cons (pv 0) (pa_cons pe_int pa_nil))) (fun _ _ => rfl)) (pe_call G_law_draw hr1 (by rfl) T.f_law_draw.g T.f_law_draw.F.kp T.f_law_draw.b .nil pass0 (pa_cons (pv 0) (pa_cons pe_int pa_nil)))))))))) rfl ?_
  try dsimp only [L2.cxOf, L2.Cx.nox]
  walk_at "wp"
  · exact q _ _ ⟨by omega, by omega⟩ (by walk_at "but") (by assumption)
  · exact q _ _ ho (by walk_at "but") (by assumption)
  · rename_i pl H2 n2 e2 f2 v H3 v0 v1 b3 g3
    rename_i H1 _ _ _ g1 _ _ _
    obtain ⟨x, hx, ex⟩ := eight v0 v1
    exact Kit.w_ixL (Evl.sq_of (b3 _ _ (bag_ne g1 n2).symm f2)) ex (q _ _ hx (by walk_at "but") g3)
  · exact q _ _ ⟨by omega, by omega⟩ (by walk_at "but") (by assumption)
local macro_rules | `(tactic| walk_at "wp1") => `(tactic| ((with_reducible show sp_law_word _ _ _ _); refine use_word (by walk_at "bag") (by first | with_reducible assumption | exact ⟨by decide, by decide⟩) ?_; intro _ _ _ _ _))
/-! ### what is due -/
def sp_law_due : Sp := fun vs H Q _ => ∃ (g : Sg) (a b : Int), vs = [.str g.str, .int a, .int b] ∧ IsWord a ∧ IsWord b ∧ ∀ H', Evl.Ex H H' → Q (opV g a b) H'
theorem use_law_divided {a b : Int} {H : Hp} {Q : VK} {E : XK} (h1 : 0 ≤ a ∧ a < 65536) (h2 : 0 < b ∧ b < 65536) (k : ∀ p H', H p = none → Evl.Ex H H' → H' p = some (.tup [.int (a / b), .int (a % b)]) → Q (.ref p) H') : sp_law_divided [.int a, .int b] H Q E := ⟨a, b, rfl, h1.1, h1.2, h2.1, h2.2, k⟩
local macro_rules | `(tactic| walk_at "wp1") => `(tactic| ((with_reducible show sp_law_divided _ _ _ _); refine use_law_divided ⟨by omega, by omega⟩ ⟨by omega, by omega⟩ ?_; intro _ _ _ _ _))
theorem int_bool {k : Bool} : V.int (if k = true then 1 else 0) = (if k = true then V.int 1 else V.int 0) := by cases k <;> rfl
theorem mod_sub {a b : Int} : ((a + (65535 - b)) % 65536 + 1) % 65536 = (a - b) % 65536 := by omega
theorem bl_not {p q : Prop} [Decidable p] [Decidable q] (h : p ↔ ¬ q) : (!decide p) = decide q := by
  by_cases hq : q
  · rw [decide_eq_true hq, decide_eq_false (fun z => h.mp z hq)]; rfl
  · rw [decide_eq_false hq, decide_eq_true (h.mpr hq)]; rfl
theorem bl_iff {p q : Prop} [Decidable p] [Decidable q] (h : p ↔ q) : decide p = decide q := by
  by_cases hq : q
  · rw [decide_eq_true hq, decide_eq_true (h.mpr hq)]
  · rw [decide_eq_false hq, decide_eq_false (fun z => hq (h.mp z))]
theorem cmp_done {Q : VK} {g : Sg} {a b : Int} {k : Bool} {H H' : Hp} (q : ∀ H', Evl.Ex H H' → Q (opV g a b) H') (e : Evl.Ex H H') (hg : g.isCmp = true) (h : k = cmpB g a b) : Q (.int (if k = true then 1 else 0)) H' := by
  have z := q H' e
  rw [opV_cmp hg, ← h, ← int_bool] at z
  exact z
theorem ok_law_due (T : Txt K mg) : FnOk P w K mg base CX0 3 T.f_law_due.f T.f_law_due.fd ["sign", "a", "b"] (sp_law_due) := by
  have G_law_divided := ok_law_divided (P := P) (w := w) (base := base) T
  have G_law_product := ok_law_product (P := P) (w := w) (base := base) T
  have G_law_sum := ok_law_sum (P := P) (w := w) (base := base) T
  refine T.f_law_due.F.ok sc_law_due (fun vs H Q E h => ?_) (fun cdv A outer s H vs Q E hr h => ?_)
  · obtain ⟨g, a, b, rfl, ⟨ha0, ha1⟩, ⟨h0, h1⟩, q⟩ := h
    rfl
  obtain ⟨g, a, b, rfl, ⟨ha0, ha1⟩, ⟨h0, h1⟩, q⟩ := h
  have nd := sc_law_due.nd
  have hu := hu_of hr
  have hr1 : Room 1 _ := hr.mono (by decide)
  have hr2 : Room 2 _ := hr.mono (by decide)
  refine Kit.ok_body (σ := [some _, some _, some _, none]) ((pss_cons (ps_if (pt_cmpR op_in_seq (pv 0) (pe_lst (pa_cons pe_str (pa_cons pe_str pa_nil))) (by rfl))
    (pss_cons (ps_if (pt_cmpR op_eq (pv 2) pe_int (nomark _))
    (pss_one (ps_ret pe_non))
    pss_nil)
    (pss_one (ps_ret (pe_ix ix_tup (pe_call G_law_divided hr1 (by rfl) T.f_law_divided.g T.f_law_divided.F.kp T.f_law_divided.b .nil pass0 (pa_cons (pv 1) (pa_cons (pv 2) pa_nil))) (pe_callTy Kit.k_int (by rfl) T.z_int (by decide +kernel) (pa_cons (pe_cmpR op_eq (pv 0) pe_str (nomark _)) pa_nil)) (fun _ _ => rfl)))))
    pss_nil)
    (pss_cons (ps_if (pt_cmpR op_eq (pv 0) pe_str (nomark _))
    (pss_one (ps_ret (pe_call G_law_sum hr1 (by rfl) T.f_law_sum.g T.f_law_sum.F.kp T.f_law_sum.b .nil pass0 (pa_cons (pv 1) (pa_cons (pv 2) pa_nil)))))
    pss_nil)
    (pss_cons (ps_if (pt_cmpR op_eq (pv 0) pe_str (nomark _))
    (pss_one (ps_ret (pe_call G_law_sum hr1 (by rfl) T.f_law_sum.g T.f_law_sum.F.kp T.f_law_sum.b .nil pass0 (pa_cons (pe_call G_law_sum hr1 (by rfl) T.f_law_sum.g T.f_law_sum.F.kp T.f_law_sum.b .nil pass0 (pa_cons (pv 1) (pa_cons (pe_op op_sub pe_int (pv 2)) pa_nil))) (pa_cons pe_int pa_nil)))))
    pss_nil)
    (pss_cons (ps_if (pt_cmpR op_eq (pv 0) pe_str (nomark _))
    (pss_one (ps_ret (pe_call G_law_product hr2 (by rfl) T.f_law_product.g T.f_law_product.F.kp T.f_law_product.b .nil pass0 (pa_cons (pv 1) (pa_cons (pv 2) pa_nil)))))
    pss_nil)
    (pss_cons (ps_set (i := 3) nd rfl (Or.inl rfl) (pe_disp (pps_cons pe_str (pe_cmpR op_eq (pv 1) (pv 2) (nomark _)) (pps_cons pe_str (pe_cmpR op_ne (pv 1) (pv 2) (nomark _)) (pps_cons pe_str (pe_cmpR op_lt (pv 1) (pv 2) (nomark _)) (pps_cons pe_str (pe_not (pe_cmpR op_lt (pv 2) (pv 1) (nomark _))) (pps_cons pe_str (pe_cmpR op_lt (pv 2) (pv 1) (nomark _)) (pps_cons pe_str (pe_not (pe_cmpR op_lt (pv 1) (pv 2) (nomark _))) pps_nil)))))) (by rfl) (by rfl) (fun z => by cases z) (by decide)))
    (pss_one (ps_ret (pe_callTy Kit.k_int (by rfl) T.z_int (by decide +kernel) (pa_cons (pe_dget hu (pv 3) (pv 0) (fun _ _ => rfl)) pa_nil)))))))))) rfl ?_
  try dsimp only [L2.cxOf, L2.Cx.nox]
  cases g
  all_goals dsimp only [Sg.str]
  all_goals walk_at "wp"
  all_goals try exact ex_done q (by walk_at "ex") rfl
  · exact ex_done q (by walk_at "ex") (congrArg V.int mod_sub.symm)
  · rename_i h; exact ex_done q (by walk_at "ex") (if_pos h)
  · rename_i h _ _ _ _ _; exact ex_done q (by walk_at "ex") (if_neg h)
  · rename_i h; exact ex_done q (by walk_at "ex") (if_pos h)
  · rename_i h _ _ _ _ _; exact ex_done q (by walk_at "ex") (if_neg h)
  all_goals
    rename_i p H1 n1 e1 f1
    refine ⟨f1, [(Sum.inr "==", .bl _), (Sum.inr "!=", .bl _), (Sum.inr "<", .bl _), (Sum.inr "<=", .bl _), (Sum.inr ">", .bl _), (Sum.inr ">=", .bl _)], rfl, Nat.le_of_ble_eq_true rfl, ?_⟩
    walk_at "wp"
  · refine ⟨_, .bl _, rfl, DGet.k (k := Sum.inr "==") upd_same, ?_⟩
    walk_at "wp"
    exact cmp_done q (Evl.Ex.mut (by walk_at "ex") (Evl.fresh_back (by walk_at "ex") n1)) rfl rfl
  · refine ⟨_, .bl _, rfl, DGet.k (k := Sum.inr "!=") upd_same, ?_⟩
    walk_at "wp"
    exact cmp_done q (Evl.Ex.mut (by walk_at "ex") (Evl.fresh_back (by walk_at "ex") n1)) rfl rfl
  · refine ⟨_, .bl _, rfl, DGet.k (k := Sum.inr "<") upd_same, ?_⟩
    walk_at "wp"
    exact cmp_done q (Evl.Ex.mut (by walk_at "ex") (Evl.fresh_back (by walk_at "ex") n1)) rfl rfl
  · refine ⟨_, .bl _, rfl, DGet.k (k := Sum.inr "<=") upd_same, ?_⟩
    walk_at "wp"
    exact cmp_done q (Evl.Ex.mut (by walk_at "ex") (Evl.fresh_back (by walk_at "ex") n1)) rfl (bl_not (by omega))
  · refine ⟨_, .bl _, rfl, DGet.k (k := Sum.inr ">") upd_same, ?_⟩
    walk_at "wp"
    exact cmp_done q (Evl.Ex.mut (by walk_at "ex") (Evl.fresh_back (by walk_at "ex") n1)) rfl rfl
  · refine ⟨_, .bl _, rfl, DGet.k (k := Sum.inr ">=") upd_same, ?_⟩
    walk_at "wp"
    exact cmp_done q (Evl.Ex.mut (by walk_at "ex") (Evl.fresh_back (by walk_at "ex") n1)) rfl (bl_not (by omega))
theorem use_due {g : Sg} {a b : Int} {H : Hp} {Q : VK} {E : XK} (h1 : IsWord a) (h2 : IsWord b) (k : ∀ H', Evl.Ex H H' → Q (opV g a b) H') : sp_law_due [.str g.str, .int a, .int b] H Q E := ⟨g, a, b, rfl, h1, h2, k⟩
theorem use_op {g : Sg} {a b : Int} {H : Hp} {Q : VK} {E : XK} (h1 : IsWord a) (h2 : IsWord b) (k : ∀ H', Evl.Ex H H' → Q (opV g a b) H') : sp_op [.str g.str, .int a, .int b] H Q E := ⟨g, a, b, rfl, h1.1, h1.2, h2.1, h2.2, k⟩
theorem use_bag {a : Addr} {ns : List Int} {k : Int} {H : Hp} {Q : VK} {E : XK} (h : SqL K H a (ns.map V.int)) (h0 : 0 ≤ k) (q : ∀ p H', H p = none → Evl.Ex H H' → BagAt H' p → Q (.ref p) H') : sp_law_bag K [.ref a, .int k] H Q E := ⟨a, ns, k, rfl, h, h0, q⟩
local macro_rules | `(tactic| walk_at "wp1") => `(tactic| first
  | ((with_reducible show sp_law_due _ _ _ _); refine use_due (by assumption) (by assumption) ?_; intro _ _)
  | ((with_reducible show sp_op _ _ _ _); refine use_op (by assumption) (by assumption) ?_; intro _ _)
  | ((with_reducible show sp_law_bag _ _ _ _ _); refine use_bag (by walk_at "sqL") (by omega) ?_; intro _ _ _ _ _))
def signsV : List V := [.str "+", .str "-", .str "*", .str "/", .str "mod", .str "==", .str "!=", .str "<", .str "<=", .str ">", .str ">="]
theorem sign_at {v : Int} (h0 : 0 ≤ v) (h1 : v < 11) : ∃ g : Sg, atI signsV v = some (.str g.str) := by
  have hc : v = 0 ∨ v = 1 ∨ v = 2 ∨ v = 3 ∨ v = 4 ∨ v = 5 ∨ v = 6 ∨ v = 7 ∨ v = 8 ∨ v = 9 ∨ v = 10 := by omega
  rcases hc with rfl | rfl | rfl | rfl | rfl | rfl | rfl | rfl | rfl | rfl | rfl
  · exact ⟨.add, rfl⟩
  · exact ⟨.sub, rfl⟩
  · exact ⟨.mul, rfl⟩
  · exact ⟨.div, rfl⟩
  · exact ⟨.mod, rfl⟩
  · exact ⟨.eq, rfl⟩
  · exact ⟨.ne, rfl⟩
  · exact ⟨.lt, rfl⟩
  · exact ⟨.le, rfl⟩
  · exact ⟨.gt, rfl⟩
  · exact ⟨.ge, rfl⟩
theorem opV_cases (g : Sg) (a b : Int) : opV g a b = .non ∨ ∃ n, opV g a b = .int n := by
  by_cases hg : g.isCmp = true
  · rw [opV_cmp hg]
    by_cases h : cmpB g a b = true
    · rw [if_pos h]; exact .inr ⟨_, rfl⟩
    · rw [if_neg h]; exact .inr ⟨_, rfl⟩
  · cases g <;> first | exact .inr ⟨_, rfl⟩ | exact (hg rfl).elim | (by_cases h : b = 0 <;> first | exact .inl (if_pos h) | exact .inr ⟨_, if_neg h⟩)
theorem rng_ok {n : Nat} : (0 : Int) ≤ (if (if (n : Int) < 24 then (n : Int) else 24) > 1 then (if (n : Int) < 24 then (n : Int) else 24) else 1) ∧ (if (if (n : Int) < 24 then (n : Int) else 24) > 1 then (if (n : Int) < 24 then (n : Int) else 24) else 1) ≤ 100000 := by
  by_cases h : (n : Int) < 24
  · rw [if_pos h]; by_cases h2 : (n : Int) > 1
    · rw [if_pos h2]; omega
    · rw [if_neg h2]; omega
  · rw [if_neg h]; decide
def sp_law (K : PySem.W.Frag) : Sp := fun vs H Q _ => ∃ (a : Addr) (ns : List Int), vs = [.ref a] ∧ SqL K H a (ns.map V.int) ∧ ns.length ≤ 63 ∧ ∀ H', Q (.bl true) H'
def LInv (a sl : Addr) (H0 : Hp) (_ : Nat) (σ : L2.St) (H : Hp) : Prop := ∃ y2 y3 y4 y5 y6 y7 y8, σ = [some (.ref a), some (.ref sl), y2, y3, y4, y5, y6, y7, y8] ∧ Evl.Ex H0 H
theorem ok_law (T : Txt K mg) : FnOk P w K mg base CX0 4 T.f_law.f T.f_law.fd ["script"] (sp_law K) := by
  have G_law_bag := ok_law_bag (P := P) (w := w) (base := base) T
  have G_law_draw := ok_law_draw (P := P) (w := w) (base := base) T
  have G_law_due := ok_law_due (P := P) (w := w) (base := base) T
  have G_law_word := ok_law_word (P := P) (w := w) (base := base) T
  have G_op := ok_op (P := P) (w := w) (base := base) T
  refine T.f_law.F.ok sc_law (fun vs H Q E h => ?_) (fun cdv A outer s H vs Q E hr h => ?_)
  · obtain ⟨a, ns, rfl, hS, hl, q⟩ := h
    rfl
  obtain ⟨a, ns, rfl, hS, hl, q⟩ := h
  have nd := sc_law.nd
  have hr1 : Room 1 _ := hr.mono (by decide)
  have hr2 : Room 2 _ := hr.mono (by decide)
  have hr3 : Room 3 _ := hr.mono (by decide)
  refine Kit.ok_body (σ := [some _, none, none, none, none, none, none, none, none]) ((pss_cons (ps_set (i := 1) nd rfl (Or.inl rfl) (pe_lst (pa_cons pe_str (pa_cons pe_str (pa_cons pe_str (pa_cons pe_str (pa_cons pe_str (pa_cons pe_str (pa_cons pe_str (pa_cons pe_str (pa_cons pe_str (pa_cons pe_str (pa_cons pe_str pa_nil)))))))))))))
    (pss_cons (ps_if (PW.pt (pw_or (pt_not (pt_val (pe_callB call_isi (by rfl) T.z_isinstance (by decide +kernel) (pa_cons (pe_glob (v := .ref T.a_SIGNS) rfl T.g_SIGNS rfl) (pa_cons (pe_bltn (v := .ty "tuple") (by rfl) T.z_tuple (by decide +kernel) rfl) pa_nil))))) (pw_or1 (pt_cmpR (op_neD hr.units) (pe_callTy Kit.k_list (by rfl) T.z_list (by decide +kernel) (pa_cons (pe_glob (v := .ref T.a_SIGNS) rfl T.g_SIGNS rfl) pa_nil)) (pv 1) (nomark _)))))
    (pss_one (ps_ret pe_bl))
    pss_nil)
    (pss_cons (ps_for PassesOwn.never rfl (pi_range1 (by rfl) T.z_range (pa_cons (pe_callB (Kit.k_max rfl) (by rfl) T.z_max (by decide +kernel) (pa_cons pe_int (pa_cons (pe_callB (Kit.k_min rfl) (by rfl) T.z_min (by decide +kernel) (pa_cons pe_int (pa_cons (pe_callB Kit.k_len (by rfl) T.z_len (by decide +kernel) (pa_cons (pv 0) pa_nil)) pa_nil))) pa_nil))) pa_nil)) (pg_name (i := 2) nd rfl (Or.inl rfl))
    (pss_cons (ps_set (i := 3) nd rfl (Or.inl rfl) (pe_call G_law_bag hr1 (by rfl) T.f_law_bag.g T.f_law_bag.F.kp T.f_law_bag.b .nil pass0 (pa_cons (pv 0) (pa_cons (pv 2) pa_nil))))
    (pss_cons (ps_set (i := 4) nd rfl (Or.inl rfl) (pe_ix ix_list (pv 1) (pe_call G_law_draw hr1 (by rfl) T.f_law_draw.g T.f_law_draw.F.kp T.f_law_draw.b .nil pass0 (pa_cons (pv 3) (pa_cons pe_int pa_nil))) (fun _ _ => rfl)))
    (pss_cons (ps_set (i := 5) nd rfl (Or.inl rfl) (pe_call G_law_word hr2 (by rfl) T.f_law_word.g T.f_law_word.F.kp T.f_law_word.b .nil pass0 (pa_cons (pv 3) (pa_cons pe_int pa_nil))))
    (pss_cons (ps_set (i := 6) nd rfl (Or.inl rfl) (pe_call G_law_word hr2 (by rfl) T.f_law_word.g T.f_law_word.F.kp T.f_law_word.b .nil pass0 (pa_cons (pv 3) (pa_cons (pv 5) pa_nil))))
    (pss_cons (ps_set (i := 7) nd rfl (Or.inl rfl) (pe_call G_law_due hr3 (by rfl) T.f_law_due.g T.f_law_due.F.kp T.f_law_due.b .nil pass0 (pa_cons (pv 4) (pa_cons (pv 5) (pa_cons (pv 6) pa_nil)))))
    (pss_cons (ps_set (i := 8) nd rfl (Or.inl rfl) (pe_call G_op hr2 (by rfl) T.f_op.g T.f_op.F.kp T.f_op.b .nil pass0 (pa_cons (pv 4) (pa_cons (pv 5) (pa_cons (pv 6) pa_nil)))))
    (pss_one (ps_if (pt_cmpR Kit.k_isN (pv 7) pe_non (nomark _))
    (pss_one (ps_if (pt_cmpR Kit.k_notN (pv 8) pe_non (nomark _))
    (pss_one (ps_ret pe_bl))
    pss_nil))
    (pss_one (ps_if (PW.pt (pw_or (pt_not (pt_val (pe_callB call_isi (by rfl) T.z_isinstance (by decide +kernel) (pa_cons (pv 8) (pa_cons (pe_bltn (v := .ty "int") (by rfl) T.z_int (by decide +kernel) rfl) pa_nil))))) (pw_or (pt_val (pe_callB call_isi (by rfl) T.z_isinstance (by decide +kernel) (pa_cons (pv 8) (pa_cons (pe_bltn (v := .ty "bool") (by rfl) T.z_bool (by decide +kernel) rfl) pa_nil)))) (pw_or1 (pt_cmpR op_ne (pv 8) (pv 7) (nomark _))))))
    (pss_one (ps_ret pe_bl))
    pss_nil)))))))))))
    (pss_one (ps_ret pe_bl)))))) rfl ?_
  try dsimp only [L2.cxOf, L2.Cx.nox]
  walk_at "wp"
  rename_i sl H1 n1 e1 f1
  refine Kit.w_isiTup (b := true) (T.w_SIGNS.sq _) (by decide +kernel) ?_
  walk_at "wp"
  refine Kit.w_list (.inr (T.w_SIGNS.sq _)) fun p2 H2 n2 e2 f2 => ?_
  walk_at "wp"
  refine Kit.w_neD (Kit.dp_lst (Evl.sq_of f2) rfl) (Kit.dp_lst (Evl.sq_of (e2 _ _ f1)) rfl) (by decide +kernel) (by decide +kernel) ?_
  rw [SeqAt.eqv_refl _ (by decide +kernel)]
  walk_at "wp"
  have hS2 : SqL K H2 a (ns.map V.int) := by walk_at "sqL"
  have f2 := e2 _ _ f1
  refine Kit.f_rng1 rng_ok.1 rng_ok.2 (LInv a sl H2) ⟨_, _, _, _, _, _, _, rfl, Evl.Ex.refl _⟩ ?_ ?_
  · rintro i σ' H3 hi ⟨y2, y3, y4, y5, y6, y7, y8, rfl, e3⟩
    walk_at "wp"
    rename_i p H4 n4 e4 g4 v H5 v0 v1 m5 g5
    obtain ⟨g, hg⟩ := sign_at v0 v1
    have np : sl ≠ p := ne_of_none (e3 _ _ f2) n4
    refine Kit.w_ixL (Evl.sq_of (m5 _ _ np (e4 _ _ (e3 _ _ f2)))) hg ?_
    walk_at "wp"
    rename_i x H6 wx m6 g6 y H7 wy m7 g7 H8 e8 H9 e9
    have e : Evl.Ex H2 H9 := by
      have e := Kit.ex_but m5 n4 e4
      have e := Kit.ex_but m7 n4 (Kit.ex_but m6 n4 e)
      exact ((e3.trans e).trans e8).trans e9
    rcases opV_cases g x y with h | ⟨n, h⟩
    all_goals rw [h]
    all_goals walk_at "wp"
    · exact ⟨_, _, _, _, _, _, _, rfl, e⟩
    · exact ⟨_, _, _, _, _, _, _, rfl, e⟩
    · rename_i h; exact absurd rfl h
  · rintro σ' H3 ⟨y2, y3, y4, y5, y6, y7, y8, rfl, e3⟩
    walk_at "wp"
    exact q _
end
theorem sp_law_of {K : PySem.W.Frag} {H : Hp} {a : Addr} {ns : List Int} (hl : ns.length ≤ 63) (hS : SqL K H a (ns.map V.int)) : sp_law K [.ref a] H (fun v _ => v = .bl true) fun _ _ _ => False := ⟨a, ns, rfl, hS, hl, fun _ => rfl⟩
theorem all_mk {l : PySem.W.OpenLaw} {w : World} {K : PySem.W.Frag} {h : Heap} {mg : Str → Option Value} {fa : Addr} (X : K.In h) (G : h.Ns mainGlobals mg) (hfa : mg "law" = some (.ref fa))
    {od0 an0 : Option Addr} {sl0 : Array (Option Value)} {oc0 kV0 dc0 pm0 cd0 ct0 : Value} {f0 : Addr}
    {od1 an1 : Option Addr} {sl1 : Array (Option Value)} {oc1 kV1 dc1 pm1 cd1 ct1 : Value} {f1 : Addr}
    {od2 an2 : Option Addr} {sl2 : Array (Option Value)} {oc2 kV2 dc2 pm2 cd2 ct2 : Value} {f2 : Addr}
    {od3 an3 : Option Addr} {sl3 : Array (Option Value)} {oc3 kV3 dc3 pm3 cd3 ct3 : Value} {f3 : Addr}
    {od4 an4 : Option Addr} {sl4 : Array (Option Value)} {oc4 kV4 dc4 pm4 cd4 ct4 : Value} {f4 : Addr}
    {od5 an5 : Option Addr} {sl5 : Array (Option Value)} {oc5 kV5 dc5 pm5 cd5 ct5 : Value} {f5 : Addr}
    {od6 an6 : Option Addr} {sl6 : Array (Option Value)} {oc6 kV6 dc6 pm6 cd6 ct6 : Value} {f6 : Addr}
    {od7 an7 : Option Addr} {sl7 : Array (Option Value)} {oc7 kV7 dc7 pm7 cd7 ct7 : Value} {f7 : Addr}
    {od8 an8 : Option Addr} {sl8 : Array (Option Value)} {oc8 kV8 dc8 pm8 cd8 ct8 : Value} {f8 : Addr}
    {od9 an9 : Option Addr} {sl9 : Array (Option Value)} {oc9 kV9 dc9 pm9 cd9 ct9 : Value} {f9 : Addr}
    {od10 an10 : Option Addr} {sl10 : Array (Option Value)} {oc10 kV10 dc10 pm10 cd10 ct10 : Value} {f10 : Addr}
    {od11 an11 : Option Addr} {sl11 : Array (Option Value)} {oc11 kV11 dc11 pm11 cd11 ct11 : Value} {f11 : Addr}
    {t_MOST_WORD : Tok}
    {a_SIGNS : Addr} {o_SIGNS : Obj}
    (a0 : PySem.W.nsIn K mainGlobals "op" = some (some (.ref f0)))
    (l0 : K.lookup f0 = some ⟨oc0, od0, .func (PySem.W.fnOf "op" "op" (defArgs s_op) (defBody s_op) (defScope s_op) .none kV0 dc0 pm0 an0 cd0 ct0), sl0⟩)
    (c0 : PySem.W.codeIn K cd0 "op" = true)
    (k0 : PySem.W.keepIn K (.ref f0) = true)
    (a1 : PySem.W.nsIn K mainGlobals "divided" = some (some (.ref f1)))
    (l1 : K.lookup f1 = some ⟨oc1, od1, .func (PySem.W.fnOf "divided" "divided" (defArgs s_divided) (defBody s_divided) (defScope s_divided) .none kV1 dc1 pm1 an1 cd1 ct1), sl1⟩)
    (c1 : PySem.W.codeIn K cd1 "divided" = true)
    (k1 : PySem.W.keepIn K (.ref f1) = true)
    (a2 : PySem.W.nsIn K mainGlobals "wrapped" = some (some (.ref f2)))
    (l2 : K.lookup f2 = some ⟨oc2, od2, .func (PySem.W.fnOf "wrapped" "wrapped" (defArgs s_wrapped) (defBody s_wrapped) (defScope s_wrapped) .none kV2 dc2 pm2 an2 cd2 ct2), sl2⟩)
    (c2 : PySem.W.codeIn K cd2 "wrapped" = true)
    (k2 : PySem.W.keepIn K (.ref f2) = true)
    (a3 : PySem.W.nsIn K mainGlobals "holds" = some (some (.ref f3)))
    (l3 : K.lookup f3 = some ⟨oc3, od3, .func (PySem.W.fnOf "holds" "holds" (defArgs s_holds) (defBody s_holds) (defScope s_holds) .none kV3 dc3 pm3 an3 cd3 ct3), sl3⟩)
    (c3 : PySem.W.codeIn K cd3 "holds" = true)
    (k3 : PySem.W.keepIn K (.ref f3) = true)
    (a4 : PySem.W.nsIn K mainGlobals "_law_bag" = some (some (.ref f4)))
    (l4 : K.lookup f4 = some ⟨oc4, od4, .func (PySem.W.fnOf "_law_bag" "_law_bag" (defArgs s_law_bag) (defBody s_law_bag) (defScope s_law_bag) .none kV4 dc4 pm4 an4 cd4 ct4), sl4⟩)
    (c4 : PySem.W.codeIn K cd4 "_law_bag" = true)
    (k4 : PySem.W.keepIn K (.ref f4) = true)
    (a5 : PySem.W.nsIn K mainGlobals "_law_draw" = some (some (.ref f5)))
    (l5 : K.lookup f5 = some ⟨oc5, od5, .func (PySem.W.fnOf "_law_draw" "_law_draw" (defArgs s_law_draw) (defBody s_law_draw) (defScope s_law_draw) .none kV5 dc5 pm5 an5 cd5 ct5), sl5⟩)
    (c5 : PySem.W.codeIn K cd5 "_law_draw" = true)
    (k5 : PySem.W.keepIn K (.ref f5) = true)
    (a6 : PySem.W.nsIn K mainGlobals "_law_word" = some (some (.ref f6)))
    (l6 : K.lookup f6 = some ⟨oc6, od6, .func (PySem.W.fnOf "_law_word" "_law_word" (defArgs s_law_word) (defBody s_law_word) (defScope s_law_word) .none kV6 dc6 pm6 an6 cd6 ct6), sl6⟩)
    (c6 : PySem.W.codeIn K cd6 "_law_word" = true)
    (k6 : PySem.W.keepIn K (.ref f6) = true)
    (a7 : PySem.W.nsIn K mainGlobals "_law_sum" = some (some (.ref f7)))
    (l7 : K.lookup f7 = some ⟨oc7, od7, .func (PySem.W.fnOf "_law_sum" "_law_sum" (defArgs s_law_sum) (defBody s_law_sum) (defScope s_law_sum) .none kV7 dc7 pm7 an7 cd7 ct7), sl7⟩)
    (c7 : PySem.W.codeIn K cd7 "_law_sum" = true)
    (k7 : PySem.W.keepIn K (.ref f7) = true)
    (a8 : PySem.W.nsIn K mainGlobals "_law_product" = some (some (.ref f8)))
    (l8 : K.lookup f8 = some ⟨oc8, od8, .func (PySem.W.fnOf "_law_product" "_law_product" (defArgs s_law_product) (defBody s_law_product) (defScope s_law_product) .none kV8 dc8 pm8 an8 cd8 ct8), sl8⟩)
    (c8 : PySem.W.codeIn K cd8 "_law_product" = true)
    (k8 : PySem.W.keepIn K (.ref f8) = true)
    (a9 : PySem.W.nsIn K mainGlobals "_law_divided" = some (some (.ref f9)))
    (l9 : K.lookup f9 = some ⟨oc9, od9, .func (PySem.W.fnOf "_law_divided" "_law_divided" (defArgs s_law_divided) (defBody s_law_divided) (defScope s_law_divided) .none kV9 dc9 pm9 an9 cd9 ct9), sl9⟩)
    (c9 : PySem.W.codeIn K cd9 "_law_divided" = true)
    (k9 : PySem.W.keepIn K (.ref f9) = true)
    (a10 : PySem.W.nsIn K mainGlobals "_law_due" = some (some (.ref f10)))
    (l10 : K.lookup f10 = some ⟨oc10, od10, .func (PySem.W.fnOf "_law_due" "_law_due" (defArgs s_law_due) (defBody s_law_due) (defScope s_law_due) .none kV10 dc10 pm10 an10 cd10 ct10), sl10⟩)
    (c10 : PySem.W.codeIn K cd10 "_law_due" = true)
    (k10 : PySem.W.keepIn K (.ref f10) = true)
    (a11 : PySem.W.nsIn K mainGlobals "law" = some (some (.ref f11)))
    (l11 : K.lookup f11 = some ⟨oc11, od11, .func (PySem.W.fnOf "law" "law" (defArgs s_law) (defBody s_law) (defScope s_law) .none kV11 dc11 pm11 an11 cd11 ct11), sl11⟩)
    (c11 : PySem.W.codeIn K cd11 "law" = true)
    (k11 : PySem.W.keepIn K (.ref f11) = true)
    (g_MOST_WORD : PySem.W.nsIn K mainGlobals "MOST_WORD" = some (some (.int 65535 t_MOST_WORD)))
    (g_SIGNS : PySem.W.nsIn K mainGlobals "SIGNS" = some (some (.ref a_SIGNS)))
    (w_SIGNS : K.lookup a_SIGNS = some o_SIGNS)
    (v_SIGNS : Kit.tupB o_SIGNS [.str "+", .str "-", .str "*", .str "/", .str "mod", .str "==", .str "!=", .str "<", .str "<=", .str ">", .str ">="] = true)
    (z_bool : PySem.W.nsIn K mainGlobals "bool" = some none)
    (z_int : PySem.W.nsIn K mainGlobals "int" = some none)
    (z_isinstance : PySem.W.nsIn K mainGlobals "isinstance" = some none)
    (z_len : PySem.W.nsIn K mainGlobals "len" = some none)
    (z_list : PySem.W.nsIn K mainGlobals "list" = some none)
    (z_max : PySem.W.nsIn K mainGlobals "max" = some none)
    (z_min : PySem.W.nsIn K mainGlobals "min" = some none)
    (z_range : PySem.W.nsIn K mainGlobals "range" = some none)
    (z_tuple : PySem.W.nsIn K mainGlobals "tuple" = some none)
    : ∃ fd : FuncData, (∀ (s : Shared) (v : Value), BindsTo s fd ⟨[v], []⟩ [("script", v)]) ∧ ∀ base : Heap, K.In base → base.Ns mainGlobals mg → FnOk l.prog w K mg base CX0 4 fa fd ["script"] (sp_law K) := by
  have e := hfa.symm.trans (PySem.W.mg_of X G a11)
  have e2 : f11 = fa := by
    injection e with e
    injection e with e
    exact e.symm
  subst e2
  have F0 := fun_mk (st := s_op) l0 c0 k0
  have b0 := F0.binds (ps := ["sign", "a", "b"]) fun _ _ _ _ _ _ us hl => match us, hl with | [_, _, _], _ => rfl
  have F1 := fun_mk (st := s_divided) l1 c1 k1
  have b1 := F1.binds (ps := ["sign", "a", "b"]) fun _ _ _ _ _ _ us hl => match us, hl with | [_, _, _], _ => rfl
  have F2 := fun_mk (st := s_wrapped) l2 c2 k2
  have b2 := F2.binds (ps := ["sign", "a", "b"]) fun _ _ _ _ _ _ us hl => match us, hl with | [_, _, _], _ => rfl
  have F3 := fun_mk (st := s_holds) l3 c3 k3
  have b3 := F3.binds (ps := ["sign", "a", "b"]) fun _ _ _ _ _ _ us hl => match us, hl with | [_, _, _], _ => rfl
  have F4 := fun_mk (st := s_law_bag) l4 c4 k4
  have b4 := F4.binds (ps := ["script", "k"]) fun _ _ _ _ _ _ us hl => match us, hl with | [_, _], _ => rfl
  have F5 := fun_mk (st := s_law_draw) l5 c5 k5
  have b5 := F5.binds (ps := ["bag", "many"]) fun _ _ _ _ _ _ us hl => match us, hl with | [_, _], _ => rfl
  have F6 := fun_mk (st := s_law_word) l6 c6 k6
  have b6 := F6.binds (ps := ["bag", "other"]) fun _ _ _ _ _ _ us hl => match us, hl with | [_, _], _ => rfl
  have F7 := fun_mk (st := s_law_sum) l7 c7 k7
  have b7 := F7.binds (ps := ["a", "b"]) fun _ _ _ _ _ _ us hl => match us, hl with | [_, _], _ => rfl
  have F8 := fun_mk (st := s_law_product) l8 c8 k8
  have b8 := F8.binds (ps := ["a", "b"]) fun _ _ _ _ _ _ us hl => match us, hl with | [_, _], _ => rfl
  have F9 := fun_mk (st := s_law_divided) l9 c9 k9
  have b9 := F9.binds (ps := ["a", "b"]) fun _ _ _ _ _ _ us hl => match us, hl with | [_, _], _ => rfl
  have F10 := fun_mk (st := s_law_due) l10 c10 k10
  have b10 := F10.binds (ps := ["sign", "a", "b"]) fun _ _ _ _ _ _ us hl => match us, hl with | [_, _, _], _ => rfl
  have F11 := fun_mk (st := s_law) l11 c11 k11
  have b11 := F11.binds (ps := ["script"]) fun _ _ _ _ _ _ us hl => match us, hl with | [_], _ => rfl
  let T : Txt K mg := {
    f_op := ⟨⟨f0, _, F0, b0⟩, PySem.W.mg_of X G a0⟩
    f_divided := ⟨⟨f1, _, F1, b1⟩, PySem.W.mg_of X G a1⟩
    f_wrapped := ⟨⟨f2, _, F2, b2⟩, PySem.W.mg_of X G a2⟩
    f_holds := ⟨⟨f3, _, F3, b3⟩, PySem.W.mg_of X G a3⟩
    f_law_bag := ⟨⟨f4, _, F4, b4⟩, PySem.W.mg_of X G a4⟩
    f_law_draw := ⟨⟨f5, _, F5, b5⟩, PySem.W.mg_of X G a5⟩
    f_law_word := ⟨⟨f6, _, F6, b6⟩, PySem.W.mg_of X G a6⟩
    f_law_sum := ⟨⟨f7, _, F7, b7⟩, PySem.W.mg_of X G a7⟩
    f_law_product := ⟨⟨f8, _, F8, b8⟩, PySem.W.mg_of X G a8⟩
    f_law_divided := ⟨⟨f9, _, F9, b9⟩, PySem.W.mg_of X G a9⟩
    f_law_due := ⟨⟨f10, _, F10, b10⟩, PySem.W.mg_of X G a10⟩
    f_law := ⟨⟨f11, _, F11, b11⟩, PySem.W.mg_of X G a11⟩
    t_MOST_WORD := t_MOST_WORD
    g_MOST_WORD := PySem.W.mg_of X G g_MOST_WORD
    a_SIGNS := a_SIGNS
    g_SIGNS := PySem.W.mg_of X G g_SIGNS
    w_SIGNS := Kit.ktup_of w_SIGNS v_SIGNS
    z_bool := PySem.W.mg_none_of X G z_bool
    z_int := PySem.W.mg_none_of X G z_int
    z_isinstance := PySem.W.mg_none_of X G z_isinstance
    z_len := PySem.W.mg_none_of X G z_len
    z_list := PySem.W.mg_none_of X G z_list
    z_max := PySem.W.mg_none_of X G z_max
    z_min := PySem.W.mg_none_of X G z_min
    z_range := PySem.W.mg_none_of X G z_range
    z_tuple := PySem.W.mg_none_of X G z_tuple }
  exact ⟨PySem.W.fnOf "law" "law" (defArgs s_law) (defBody s_law) (defScope s_law) .none kV11 dc11 pm11 an11 cd11 ct11, fun s v => .of_eq rfl, fun base _ _ => ok_law T⟩
end My
open PySem PySem.W PyProof.Rows
set_option maxHeartbeats 0 in
theorem PySem.Challenge.cw_onestepcourt_k27_words_holds : PySem.Challenge.rw_onestepcourt_k27_words.Holds := by
  w_on; o_law; k_head; (case hw => w_witness2)
  k_fill
  refine L2.walk_of (l := PySem.Challenge.rw_onestepcourt_k27_words) (n := 63) (k := 4) (x := "script") (CX := fun _ => L2.CX0) (sp := fun w => My.sp_law _) rfl (by decide) rfl ⟨rfl, by decide, by decide⟩ (fun w h Y => PySem.W.kIn_of Y) ?F (fun _ _ a ns hl _ hS => My.sp_law_of hl hS) (fun _ _ _ _ _ h => h)
  case F =>
    intro w mg fa h KX G hmg
    refine' My.all_mk KX G hmg ?a0 ?l0 ?c0 ?k0 ?a1 ?l1 ?c1 ?k1 ?a2 ?l2 ?c2 ?k2 ?a3 ?l3 ?c3 ?k3 ?a4 ?l4 ?c4 ?k4 ?a5 ?l5 ?c5 ?k5 ?a6 ?l6 ?c6 ?k6 ?a7 ?l7 ?c7 ?k7 ?a8 ?l8 ?c8 ?k8 ?a9 ?l9 ?c9 ?k9 ?a10 ?l10 ?c10 ?k10 ?a11 ?l11 ?c11 ?k11 ?g_MOST_WORD ?g_SIGNS ?w_SIGNS ?v_SIGNS ?z_bool ?z_int ?z_isinstance ?z_len ?z_list ?z_max ?z_min ?z_range ?z_tuple
    (case a0 => k_is)
    (case l0 => k_is)
    (case c0 => k_is)
    (case k0 => k_is)
    (case a1 => k_is)
    (case l1 => k_is)
    (case c1 => k_is)
    (case k1 => k_is)
    (case a2 => k_is)
    (case l2 => k_is)
    (case c2 => k_is)
    (case k2 => k_is)
    (case a3 => k_is)
    (case l3 => k_is)
    (case c3 => k_is)
    (case k3 => k_is)
    (case a4 => k_is)
    (case l4 => k_is)
    (case c4 => k_is)
    (case k4 => k_is)
    (case a5 => k_is)
    (case l5 => k_is)
    (case c5 => k_is)
    (case k5 => k_is)
    (case a6 => k_is)
    (case l6 => k_is)
    (case c6 => k_is)
    (case k6 => k_is)
    (case a7 => k_is)
    (case l7 => k_is)
    (case c7 => k_is)
    (case k7 => k_is)
    (case a8 => k_is)
    (case l8 => k_is)
    (case c8 => k_is)
    (case k8 => k_is)
    (case a9 => k_is)
    (case l9 => k_is)
    (case c9 => k_is)
    (case k9 => k_is)
    (case a10 => k_is)
    (case l10 => k_is)
    (case c10 => k_is)
    (case k10 => k_is)
    (case a11 => k_is)
    (case l11 => k_is)
    (case c11 => k_is)
    (case k11 => k_is)
    (case g_MOST_WORD => k_is)
    (case g_SIGNS => k_is)
    (case w_SIGNS => k_is)
    (case v_SIGNS => first | rfl | with_unfolding_all rfl | kernel_rfl)
    (case z_bool => k_is)
    (case z_int => k_is)
    (case z_isinstance => k_is)
    (case z_len => k_is)
    (case z_list => k_is)
    (case z_max => k_is)
    (case z_min => k_is)
    (case z_range => k_is)
    (case z_tuple => k_is)


