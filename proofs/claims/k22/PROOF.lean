import PyProof.Rows.All
import Wide.All
import OpenK.AllK
import Wide.FinOn
import HandS.ForMost
import HandS.Wide
import HandS.Evl
import HandS.IsInst
import HandS.TupAny
import HandS.TupMul
import HandS.TupLe
import HandS.Dict
import HandS.Conv
import HandS.SetKeys
import HandS.TupLen
import KE.KDictKeyed
import HandS.Deep
import HandS.Style
import HandS.ForExc
import HandS.TryMany
import HandS.TryOnly
import PySem.Challenge.RW_onestepcourt_k22_values_that_are_no_open
import HandS.Strs
import HandS.Zip
set_option Elab.async false
set_option linter.all false
set_option maxRecDepth 100000
namespace Kit
open PySem PySem.Spec PyProof.Rows L2 Evl
abbrev St := L2.St
/-! ### facts of the text -/
structure GFn (K : PySem.W.Frag) (x qual : Str) (st : Stmt) (ps : List Str) where
  f : Addr
  fd : FuncData
  F : Fun K x qual st f fd
  b : Binds K fd ps []
structure GFn' (K : PySem.W.Frag) (mg : Str → Option Value) (x qual : Str) (st : Stmt) (ps : List Str) extends GFn K x qual st ps where
  g : mg x = some (.ref f)
structure GCl (K : PySem.W.Frag) (mg : Str → Option Value) (x : Str) (fI : Addr) where
  C : Addr
  cl : Cls K C
  M : Mk K C fI
  g : mg x = some (.ref C)
/-- an attribute read; a method's receiver; a new instance; an attribute stored -/
def FldOf (K : PySem.W.Frag) (f : Str) (x : V) (H : Hp) (Q : VK) : Prop := ∃ a C dx fs v, x = .ref a ∧ H a = some (.ins C dx fs) ∧ Cls K C ∧ NoAttr K C f ∧ fs.lookup f = some v ∧ Q v H
def InsOf (C : Addr) (m : Str) (x : V) (H : Hp) (R : Prop) : Prop := ∃ a dx fs, x = .ref a ∧ H a = some (.ins C dx fs) ∧ fs.lookup m = none ∧ R
def MakeOf (C : Addr) (sp : Sp) (E : XK) (vs : List V) (H : Hp) (Q : VK) : Prop := ∀ x dx, H x = none → H dx = none → dx ≠ x → sp (.ref x :: vs) (upd (upd H dx (.own x)) x (.ins C dx [])) (fun v H2 => v = .non ∧ Q (.ref x) H2) E
def PutOf (K : PySem.W.Frag) (f : Str) (y x : V) (H : Hp) (R : Hp → Prop) : Prop := ∃ a C dx fs, x = .ref a ∧ H a = some (.ins C dx fs) ∧ Cls K C ∧ NoAttr K C f ∧ fs.length < 1000 ∧ R (upd H a (.ins C dx (putF f y fs)))
/-- a new object of so many items -/
def Alloc (n : Nat) (o : HO) (H : Hp) (Q : VK) : Prop := n ≤ sizeLine ∧ ∀ p, H p = none → Q (.ref p) (upd H p o)
/-! ### a statement with its four ways out -/
def Sm (t : TS) (nx : St → Hp → Prop) (rt : VK) (bk ct : St → Hp → Prop) (σ : St) (H : Hp) : Prop := t ⟨nx, rt, bk, ct⟩ σ H
section
variable {σ : St} {H H1 H2 : Hp} {Q : VK} {R : Bool → Hp → Prop} {A : List V → Hp → Prop} {i n : Nat} {v x y : V} {ta tb te tv : TE} {tl tr : TA} {b : Bool} {K : PySem.W.Frag} {a C dx p : Addr} {fs : List (Str × V)} {f : Str} {t u c : TT}
theorem w_var (h : σ[i]? = some (some v)) (q : Q v H) : tVar i σ H Q := ⟨v, h, q⟩
theorem w_c (q : Q v H) : tC v σ H Q := q
theorem w_op {r : R2} (h : ta σ H fun x H1 => tb σ H1 fun y H2 => r x y H2 Q) : tOp r ta tb σ H Q := h
theorem w_un {r : V → Hp → VK → Prop} (h : ta σ H fun x H1 => r x H1 Q) : tUn r ta σ H Q := h
theorem w_cb {r : List V → Hp → VK → Prop} (h : tl σ H fun vs H1 => r vs H1 Q) : tCB r tl σ H Q := h
theorem w_nil (q : A [] H) : tNil σ H A := q
theorem w_cons (h : te σ H fun x H1 => tr σ H1 fun xs H2 => A (x :: xs) H2) : tCons te tr σ H A := h
theorem w_tup (h : tl σ H fun xs H1 => Alloc xs.length (.tup xs) H1 Q) : tTup tl σ H Q := h
theorem w_lst (h : tl σ H fun xs H1 => Alloc xs.length (.lst xs) H1 Q) : tLst tl σ H Q := h
theorem w_call {sp : Sp} {dvs : List V} {E : XK} (h : tl σ H fun vs H1 => sp (vs ++ dvs) H1 Q E) : tCall sp dvs E tl σ H Q := h
theorem w_test (h : te σ H fun x H' => ∃ k, x = .bl k ∧ R k H') : tTest te σ H R := h
theorem w_B (h : te σ H fun x H' => ∃ k, x = .bl k ∧ R k H') : tB te σ H R := h
theorem w_and (h : t σ H fun c H1 => if c = true then u σ H1 R else R false H1) : tAnd t u σ H R := h
theorem w_or (h : t σ H fun c H1 => if c = true then R true H1 else u σ H1 R) : tOr t u σ H R := h
theorem w_not (h : t σ H fun c H1 => R (!c) H1) : tNot t σ H R := h
theorem w_andV (h : ta σ H fun x H1 => ∃ c, x = .bl c ∧ if c = true then tb σ H1 Q else Q (.bl false) H1) : tAndV ta tb σ H Q := h
theorem w_orV (h : ta σ H fun x H1 => ∃ c, x = .bl c ∧ if c = true then Q (.bl true) H1 else tb σ H1 Q) : tOrV ta tb σ H Q := h
theorem w_notV (h : ta σ H fun x H1 => ∃ c, x = .bl c ∧ Q (.bl (!c)) H1) : tNotV ta σ H Q := h
theorem w_ifE (h : t σ H fun c H1 => if c = true then ta σ H1 Q else tb σ H1 Q) : tIf t ta tb σ H Q := h
theorem w_fld (h : ta σ H fun x H1 => FldOf K f x H1 Q) : tFld K ta f σ H Q := h
theorem w_rd {v : V} (h : H a = some (.ins C dx fs)) (cl : Cls K C) (n : NoAttr K C f) (l : fs.lookup f = some v) (q : Q v H) : FldOf K f (.ref a) H Q := ⟨a, C, dx, fs, v, rfl, h, cl, n, l, q⟩
theorem w_meth {m : Str} {sp : Sp} {E : XK} (h : ta σ H fun x H1 => InsOf C m x H1 (tl σ H1 fun vs H2 => sp (x :: vs) H2 Q E)) : tMeth C m sp [] E ta tl σ H Q := by
  have e : tMeth C m sp [] E ta tl σ H Q = (ta σ H fun x H1 => InsOf C m x H1 (tl σ H1 fun vs H2 => sp (x :: vs) H2 Q E)) := by unfold tMeth InsOf; simp only [List.append_nil]
  rw [e]; exact h
theorem w_ins {m : Str} {R : Prop} (h : H a = some (.ins C dx fs)) (l : fs.lookup m = none) (r : R) : InsOf C m (.ref a) H R := ⟨a, dx, fs, rfl, h, l, r⟩
theorem w_make {sp : Sp} {E : XK} (h : tl σ H fun vs H1 => MakeOf C sp E vs H1 Q) : tMake C sp [] E tl σ H Q := by
  have e : tMake C sp [] E tl σ H Q = (tl σ H fun vs H1 => MakeOf C sp E vs H1 Q) := by unfold tMake MakeOf; simp only [List.append_nil]
  rw [e]; exact h
theorem w_made {sp : Sp} {E : XK} {vs : List V} (h : ∀ x dx H2, H x = none → Ex H H2 → H2 x = some (.ins C dx []) → sp (.ref x :: vs) H2 (fun v H3 => v = .non ∧ Q (.ref x) H3) E) : MakeOf C sp E vs H Q :=
  fun x dx hx hd hn => h x dx _ hx (fun b o hb => by rw [upd_ne (ne_of_none hb hx), upd_ne (ne_of_none hb hd)]; exact hb) upd_same
theorem w_bl {k : Bool} (q : R k H) : ∃ k', V.bl k = .bl k' ∧ R k' H := ⟨k, rfl, q⟩
theorem w_blE {k : Bool} {P : Bool → Prop} (q : P k) : ∃ k', V.bl k = .bl k' ∧ P k' := ⟨k, rfl, q⟩
/-- operators -/
theorem w_I0 {g : Int → Int → V} {i j : Int} (q : Q (g i j) H) : rI0 g (.int i) (.int j) H Q := ⟨i, j, rfl, rfl, q⟩
theorem w_I {C : Int → Int → Prop} {g : Int → Int → V} {i j : Int} (hc : C i j) (q : Q (g i j) H) : rI C g (.int i) (.int j) H Q := ⟨i, j, rfl, rfl, hc, q⟩
theorem w_U {g : Int → V} {i : Int} (q : Q (g i) H) : rU g (.int i) H Q := ⟨i, rfl, q⟩
theorem w_eqI {i j : Int} (q : Q (.bl (decide (i = j))) H) : rEq (.int i) (.int j) H Q := ⟨rfl, by
  have e : decide (V.int i = V.int j) = decide (i = j) := by
    by_cases h : i = j
    · subst h; rw [decide_eq_true rfl, decide_eq_true rfl]
    · rw [decide_eq_false h, decide_eq_false (fun z => h (V.int.inj z))]
  rw [e]; exact q⟩
theorem w_neI {i j : Int} (q : Q (.bl (!decide (i = j))) H) : rNe (.int i) (.int j) H Q := ⟨rfl, by
  have e : decide (V.int i = V.int j) = decide (i = j) := by
    by_cases h : i = j
    · subst h; rw [decide_eq_true rfl, decide_eq_true rfl]
    · rw [decide_eq_false h, decide_eq_false (fun z => h (V.int.inj z))]
  rw [e]; exact q⟩
theorem w_eqB {i j : Bool} (q : Q (.bl (i == j)) H) : rEq (.bl i) (.bl j) H Q := ⟨rfl, by rw [dec_bl]; exact q⟩
theorem w_neB {i j : Bool} (q : Q (.bl (!(i == j))) H) : rNe (.bl i) (.bl j) H Q := ⟨rfl, by rw [dec_bl]; exact q⟩
theorem w_eqS {i : Str} (q : Q (.bl true) H) : rEq (.str i) (.str i) H Q := ⟨rfl, by rw [decide_eq_true rfl]; exact q⟩
theorem w_eqSF {i j : Str} (h : decide (i = j) = false) (q : Q (.bl false) H) : rEq (.str i) (.str j) H Q := ⟨rfl, by
  rw [decide_eq_false (fun z => of_decide_eq_false h (V.str.inj z))]; exact q⟩
theorem w_eqSd {i j : Str} (q : Q (.bl (decide (i = j))) H) : rEq (.str i) (.str j) H Q := ⟨rfl, by
  have e : decide (V.str i = V.str j) = decide (i = j) := by
    by_cases h : i = j
    · subst h; rw [decide_eq_true rfl, decide_eq_true rfl]
    · rw [decide_eq_false h, decide_eq_false (fun z => h (V.str.inj z))]
  rw [e]; exact q⟩
theorem w_neS {i : Str} (q : Q (.bl false) H) : rNe (.str i) (.str i) H Q := ⟨rfl, by rw [decide_eq_true rfl]; exact q⟩
theorem w_isN (q : Q (.bl (decide (x = .non))) H) : (fun (x y : V) (H : Hp) (Q : VK) => y = .non ∧ Q (.bl (decide (x = .non))) H) x .non H Q := ⟨rfl, q⟩
theorem w_ixL {p : Addr} {xs : List V} {i : Int} (h : SqL K H p xs) (ha : atI xs i = some v) (q : Q v H) : rIxL K (.ref p) (.int i) H Q := ⟨p, xs, i, v, rfl, rfl, h, ha, q⟩
theorem w_ixT {p : Addr} {xs : List V} {i : Int} (h : SqT K H p xs) (ha : atI xs i = some v) (q : Q v H) : rIxT K (.ref p) (.int i) H Q := ⟨p, xs, i, v, rfl, rfl, h, ha, q⟩
theorem w_inL {neg : Bool} {p : Addr} {xs : List V} (h : SqL K H p xs) (hx : flatV x = true) (ha : xs.all flatV = true) (q : Q (.bl (if neg then !inV x xs else inV x xs)) H) : rIn K neg x (.ref p) H Q := ⟨p, xs, rfl, Or.inl h, hx, ha, q⟩
theorem w_inT {neg : Bool} {p : Addr} {xs : List V} (h : SqT K H p xs) (hx : flatV x = true) (ha : xs.all flatV = true) (q : Q (.bl (if neg then !inV x xs else inV x xs)) H) : rIn K neg x (.ref p) H Q := ⟨p, xs, rfl, Or.inr h, hx, ha, q⟩
theorem w_call0 {sp : Sp} {E : XK} (h : tl σ H fun vs H1 => sp vs H1 Q E) : tCall sp [] E tl σ H Q := by
  have e : tCall sp [] E tl σ H Q = (tl σ H fun vs H1 => sp vs H1 Q E) := by unfold tCall; simp only [List.append_nil]
  rw [e]; exact h
theorem w_inLt {p : Addr} {xs : List V} (h : SqL K H p xs ∨ SqT K H p xs) (hb : (flatV x && xs.all flatV && inV x xs) = true) (q : Q (.bl true) H) : rIn K false x (.ref p) H Q := by
  simp only [Bool.and_eq_true] at hb
  exact ⟨p, xs, rfl, h, hb.1.1, hb.1.2, by rw [hb.2]; exact q⟩
theorem w_inLf {p : Addr} {xs : List V} (h : SqL K H p xs ∨ SqT K H p xs) (hb : (flatV x && xs.all flatV && !inV x xs) = true) (q : Q (.bl false) H) : rIn K false x (.ref p) H Q := by
  simp only [Bool.and_eq_true, Bool.not_eq_true'] at hb
  exact ⟨p, xs, rfl, h, hb.1.1, hb.1.2, by rw [hb.2]; exact q⟩
/-- built-ins by names -/
def rInt : List V → Hp → VK → Prop := fun xs H Q => (∃ i, xs = [.int i] ∧ Q (.int i) H) ∨ ∃ k, xs = [.bl k] ∧ Q (.int (if k then 1 else 0)) H
def rMax : List V → Hp → VK → Prop := fun xs H Q => ∃ i j, xs = [.int i, .int j] ∧ Q (.int (if j > i then j else i)) H
def rMin : List V → Hp → VK → Prop := fun xs H Q => ∃ i j, xs = [.int i, .int j] ∧ Q (.int (if j < i then j else i)) H
def rAbs : List V → Hp → VK → Prop := fun xs H Q => ∃ i, xs = [.int i] ∧ Q (.int (if i < 0 then -i else i)) H
def rTupS (K : PySem.W.Frag) : List V → Hp → VK → Prop := fun xs H Q => ∃ p ys, xs = [.ref p] ∧ ((SqL K H p ys ∧ ∀ l, H l = none → Q (.ref l) (upd H l (.tup ys))) ∨ (SqT K H p ys ∧ Q (.ref p) H))
theorem k_int {X : Cx} : CallR X (.type "int") rInt := call_int1
theorem k_max {X : Cx} (hc : X.calm = true) : CallR X (.builtin "max") rMax := call_max2 hc
theorem k_min {X : Cx} (hc : X.calm = true) : CallR X (.builtin "min") rMin := call_min2 hc
theorem k_abs {X : Cx} : CallR X (.builtin "abs") rAbs := call_abs
theorem k_len {X : Cx} : CallR X (.builtin "len") (rLenS X.K) := call_len_seq
theorem k_list {X : Cx} : CallR X (.type "list") (rListS X.K) := call_list_of
theorem k_tuple {X : Cx} : CallR X (.type "tuple") (rTupS X.K) := call_tuple_of
theorem w_int {i : Int} (q : Q (.int i) H) : rInt [.int i] H Q := .inl ⟨i, rfl, q⟩
theorem w_intB {k : Bool} (q : Q (.int (if k = true then 1 else 0)) H) : rInt [.bl k] H Q := .inr ⟨k, rfl, q⟩
theorem w_max {i j : Int} (q : Q (.int (if j > i then j else i)) H) : rMax [.int i, .int j] H Q := ⟨i, j, rfl, q⟩
theorem w_min {i j : Int} (q : Q (.int (if j < i then j else i)) H) : rMin [.int i, .int j] H Q := ⟨i, j, rfl, q⟩
theorem w_abs {i : Int} (q : Q (.int (if i < 0 then -i else i)) H) : rAbs [.int i] H Q := ⟨i, rfl, q⟩
theorem w_len {p : Addr} {xs : List V} (h : SqL K H p xs ∨ SqT K H p xs) (q : Q (.int (xs.length : Int)) H) : rLenS K [.ref p] H Q := ⟨p, xs, rfl, h, q⟩
theorem w_list {p : Addr} {xs : List V} (h : SqL K H p xs ∨ SqT K H p xs) (q : ∀ l H2, H l = none → Ex H H2 → H2 l = some (.lst xs) → Q (.ref l) H2) : rListS K [.ref p] H Q := ⟨p, xs, rfl, h, fun l hl => q l _ hl (Ex.new hl) upd_same⟩
theorem w_tuple {p : Addr} {xs : List V} (h : SqL K H p xs) (q : ∀ l H2, H l = none → Ex H H2 → H2 l = some (.tup xs) → Q (.ref l) H2) : rTupS K [.ref p] H Q := ⟨p, xs, rfl, .inl ⟨h, fun l hl => q l _ hl (Ex.new hl) upd_same⟩⟩
theorem w_tupleT {p : Addr} {xs : List V} (h : SqT K H p xs) (q : Q (.ref p) H) : rTupS K [.ref p] H Q := ⟨p, xs, rfl, .inr ⟨h, q⟩⟩
def rIsNo : R2 := fun x y H Q => y = .non ∧ Q (.bl (decide (x = .non))) H
def rNotNo : R2 := fun x y H Q => y = .non ∧ Q (.bl (!decide (x = .non))) H
theorem k_isN {X : Cx} : OpR X (compareOp .Is) rIsNo := op_isN
theorem k_notN {X : Cx} : OpR X (compareOp .IsNot) rNotNo := op_notN
theorem w_isNN (q : Q (.bl true) H) : rIsNo .non .non H Q := ⟨rfl, q⟩
theorem w_isNI {i : Int} (q : Q (.bl false) H) : rIsNo (.int i) .non H Q := ⟨rfl, q⟩
theorem w_isNB {i : Bool} (q : Q (.bl false) H) : rIsNo (.bl i) .non H Q := ⟨rfl, q⟩
theorem w_isNR {i : Addr} (q : Q (.bl false) H) : rIsNo (.ref i) .non H Q := ⟨rfl, q⟩
theorem w_notNN (q : Q (.bl false) H) : rNotNo .non .non H Q := ⟨rfl, q⟩
theorem w_notNI {i : Int} (q : Q (.bl true) H) : rNotNo (.int i) .non H Q := ⟨rfl, q⟩
theorem w_notNB {i : Bool} (q : Q (.bl true) H) : rNotNo (.bl i) .non H Q := ⟨rfl, q⟩
theorem w_notNR {i : Addr} (q : Q (.bl true) H) : rNotNo (.ref i) .non H Q := ⟨rfl, q⟩
theorem w_dget {td ty : TE} (h : td σ H fun x H1 => ty σ H1 fun y H2 => ∃ a v, x = .ref a ∧ DGet H2 a y (some v) ∧ Q v H2) : tDGet td ty σ H Q := h
theorem w_disp {trs : List (TE × TE)} (h : ∀ p H1, H p = none → Ex H H1 → H1 p = some (.dK []) → tPairs trs σ H1 fun ps H2 => H2 p = some (.dK []) ∧ ∃ kvs : List (Key × V), ps = kvs.map (fun kv => (kV kv.1, kv.2)) ∧ kvs.length ≤ 15 ∧ Q (.ref p) (upd H2 p (.dK (mergeK [] kvs)))) : tDisp trs σ H Q :=
  fun p hp => h p _ hp (Ex.new hp) upd_same
theorem w_pp {tk tv : TE} {r : List (TE × TE)} {B : List (V × V) → Hp → Prop} (h : tk σ H fun x H1 => tv σ H1 fun y H2 => tPairs r σ H2 fun ps H3 => B ((x, y) :: ps) H3) : tPairs ((tk, tv) :: r) σ H B := h
theorem w_pn {B : List (V × V) → Hp → Prop} (h : B [] H) : tPairs [] σ H B := h
theorem w_bm {T : String} {r : V → List V → Hp → VK → Prop} {to : TE} (h : to σ H fun x H1 => tyV K T x H1 ∧ tl σ H1 fun xs H2 => r x xs H2 Q) : tBM K T r to tl σ H Q := h
theorem w_bm0 {T : String} {r : V → List V → Hp → VK → Prop} {to : TE} (h : to σ H fun x H1 => tyV K T x H1 ∧ r x [] H1 Q) : tBM0 K T r to σ H Q := h
theorem w_tyL {p : Addr} {xs : List V} {W : Prop} (h : SqL K H p xs) (r : W) : tyV K "list" (.ref p) H ∧ W := ⟨Or.inl ⟨rfl, _, h⟩, r⟩
theorem w_app {l : Addr} {xs : List V} {y : V} (h : H l = some (.lst xs)) (hz : xs.length < 100000) (q : ∀ H2, (∀ b o, b ≠ l → H b = some o → H2 b = some o) → H2 l = some (.lst (xs ++ [y])) → Q .non H2) : rAppend (.ref l) [y] H Q :=
  ⟨l, xs, y, rfl, rfl, h, sz_lt hz, q _ (fun b o n hb => by rw [upd_ne n]; exact hb) upd_same⟩
theorem w_sl {r : V → Option Int → Option Int → Hp → VK → Prop} {to th : TO} (h : te σ H fun x H1 => to σ H1 fun l H2 => th σ H2 fun u H3 => r x l u H3 Q) : tSl r te to th σ H Q := h
theorem w_po {W : Option Int → Hp → Prop} (h : W none H) : tNoPart σ H W := h
def PartOf (W : Option Int → Hp → Prop) (x : V) (H : Hp) : Prop := ∃ i, x = .int i ∧ W (some i) H
theorem w_ps {W : Option Int → Hp → Prop} (h : te σ H fun x H1 => PartOf W x H1) : tPart te σ H W := h
theorem w_pi {W : Option Int → Hp → Prop} {i : Int} (h : W (some i) H) : PartOf W (.int i) H := ⟨i, rfl, h⟩
theorem w_slL {a : Addr} {xs : List V} {lo hi : Option Int} (h : SqL K H a xs) (q : ∀ p H2, H p = none → Ex H H2 → H2 p = some (.lst (cutV xs lo hi)) → Q (.ref p) H2) : rSlL K (.ref a) lo hi H Q := ⟨a, xs, rfl, h, fun p hp => q p _ hp (Ex.new hp) upd_same⟩
theorem cut_whole {xs : List V} {lo hi : Option Int} (h : HT.sIx xs.length 0 lo = 0 ∧ HT.sIx xs.length xs.length hi = xs.length) : cutV xs lo hi = xs := by
  unfold cutV
  rw [h.1, h.2]
  simp
theorem w_slT {a : Addr} {xs : List V} {lo hi : Option Int} (h : SqT K H a xs) (q : ∀ p H2, Ex H H2 → SqT K H2 p (cutV xs lo hi) → Q (.ref p) H2) : rSlA K (.ref a) lo hi H Q :=
  ⟨a, xs, rfl, h, fun e => q a H (Ex.refl H) (by rw [cut_whole e]; exact h), fun _ p hp => q p _ (Ex.new hp) (st_of upd_same)⟩
theorem w_catT {a b : Addr} {xs ys : List V} (h : SqT K H a xs) (h2 : SqT K H b ys) (hl : xs.length + ys.length ≤ 100000) (q : ∀ p H2, Ex H H2 → SqT K H2 p (xs ++ ys) → Q (.ref p) H2) : rCatA K (.ref a) (.ref b) H Q :=
  ⟨a, b, xs, ys, rfl, rfl, h, h2, sz_of hl, fun e => q b H (Ex.refl H) (by rw [e]; exact h2), fun _ e => q a H (Ex.refl H) (by rw [e, List.append_nil]; exact h), fun _ _ p hp => q p _ (Ex.new hp) (st_of upd_same)⟩
theorem w_catL {a b : Addr} {xs ys : List V} (h : H a = some (.lst xs)) (h2 : H b = some (.lst ys)) (hl : xs.length + ys.length ≤ 100000) (q : ∀ p H2, H p = none → Ex H H2 → H2 p = some (.lst (xs ++ ys)) → Q (.ref p) H2) : rCat (.ref a) (.ref b) H Q :=
  ⟨a, b, xs, ys, rfl, rfl, h, h2, sz_of hl, fun p hp => q p _ hp (Ex.new hp) upd_same⟩
theorem w_isi {x : V} {n : String} {t : String} {b : Bool} (ty : TyX K H x (.type t)) (e : kitB t n = some b) (q : Q (.bl b) H) : rIsi K [x, .ty n] H Q := ⟨x, .ty n, .type t, .type n, b, rfl, ClsV.ty n, ty, kit_ty e, q⟩
theorem w_isiInt {i : Int} {n : String} {b : Bool} (e : kitB "int" n = some b) (q : Q (.bl b) H) : rIsi K [.int i, .ty n] H Q := w_isi (.base (.int i)) e q
theorem w_isiNon {n : String} {b : Bool} (e : kitB "NoneType" n = some b) (q : Q (.bl b) H) : rIsi K [.non, .ty n] H Q := w_isi (.base .non) e q
theorem w_isiBl {i : Bool} {n : String} {b : Bool} (e : kitB "bool" n = some b) (q : Q (.bl b) H) : rIsi K [.bl i, .ty n] H Q := w_isi (.base (.bl i)) e q
theorem w_isiStr {i : Str} {n : String} {b : Bool} (e : kitB "str" n = some b) (q : Q (.bl b) H) : rIsi K [.str i, .ty n] H Q := w_isi (.base (.str i)) e q
theorem w_isiTup {p : Addr} {xs : List V} {n : String} {b : Bool} (h : SqT K H p xs) (e : kitB "tuple" n = some b) (q : Q (.bl b) H) : rIsi K [.ref p, .ty n] H Q := by
  rcases h with (h | ⟨o, h⟩) | ⟨o, _, _, h, c, _⟩
  · exact w_isi (.base (.tup h)) e q
  · exact w_isi (.fTuple h) e q
  · exact w_isi (.kTuple h c) e q
theorem w_isiLst {p : Addr} {xs : List V} {n : String} {b : Bool} (h : SqL K H p xs) (e : kitB "list" n = some b) (q : Q (.bl b) H) : rIsi K [.ref p, .ty n] H Q := by
  rcases h with (h | ⟨o, h⟩) | ⟨o, _, _, h, c, _⟩
  · exact w_isi (.base (.lst h)) e q
  · exact w_isi (.base (.frz h)) e q
  · exact w_isi (.kList h c) e q
theorem w_isiDK {p : Addr} {xs : List (Key × V)} {n : String} {b : Bool} (h : H p = some (.dK xs)) (e : kitB "dict" n = some b) (q : Q (.bl b) H) : rIsi K [.ref p, .ty n] H Q := w_isi (.base (.dK h)) e q
theorem w_neD {d e : PyData} (hx : Dp K H x d) (hy : Dp K H y e) (sd : SeqAt.shaped d = true) (se : SeqAt.shaped e = true) (q : Q (.bl (!PyData.eqv d e)) H) : rNeD K x y H Q := ⟨d, e, hx, hy, sd, se, q⟩
theorem w_eqD {d e : PyData} (hx : Dp K H x d) (hy : Dp K H y e) (sd : SeqAt.shaped d = true) (se : SeqAt.shaped e = true) (q : Q (.bl (PyData.eqv d e)) H) : rEqD K x y H Q := ⟨d, e, hx, hy, sd, se, q⟩
/-- a flat value as data -/
def flatD : V → PyData
  | .bl b => .bool b
  | .int i => .int i
  | .str x => .str x
  | _ => .none
def isFl : V → Bool
  | .non | .bl _ | .int _ | .str _ => true
  | _ => false
theorem dp_flat {v : V} (h : isFl v = true) : Dp K H v (flatD v) := by
  cases v <;> first | exact .non | exact .bl _ | exact .int _ | exact .str _ | cases h
theorem dp_flats : ∀ {vs : List V}, vs.all isFl = true → DpAll K H vs (vs.map flatD)
  | [], _ => .nil
  | v :: vs, h => by
    rw [List.all_cons, Bool.and_eq_true] at h
    exact .cons (dp_flat h.1) (dp_flats h.2)
theorem dp_lst {p : Addr} {vs : List V} (h : SqL K H p vs) (f : vs.all isFl = true) : Dp K H (.ref p) (.list (vs.map flatD)) := .lst h (dp_flats f)
theorem dp_tup {p : Addr} {vs : List V} (h : SqT K H p vs) (f : vs.all isFl = true) : Dp K H (.ref p) (.tuple (vs.map flatD)) := .tup h (dp_flats f)
theorem int_at {ns : List Int} {k : Int} (h0 : 0 ≤ k) (h : k < ((ns.map V.int).length : Int)) : ∃ c, atI (ns.map V.int) k = some (.int c) := by
  obtain ⟨j, rfl⟩ := Int.eq_ofNat_of_zero_le h0
  have hj : j < ns.length := by rw [List.length_map] at h; omega
  refine ⟨ns[j], atI_nat (j := j) ?_⟩
  rw [List.getElem?_map, List.getElem?_eq_getElem hj]
  rfl
/-- a new object -/
theorem w_new {m : Nat} {o : HO} (hm : m ≤ 100000) (k : ∀ p H2, H p = none → Ex H H2 → H2 p = some o → Q (.ref p) H2) : Alloc m o H Q :=
  ⟨sz_of hm, fun p hp => k p _ hp (Ex.new hp) upd_same⟩
/-- ifs over a known bool -/
theorem i_T {A B : Prop} (h : A) : if true = true then A else B := iteT h
theorem i_F {A B : Prop} (h : B) : if false = true then A else B := iteF h
theorem i_N {A B : Prop} {k : Bool} (h : if k = true then B else A) : if (!k) = true then A else B := by
  cases k
  · exact iteT (by rw [if_neg Bool.false_ne_true] at h; exact h)
  · exact iteF (by rw [if_pos rfl] at h; exact h)
theorem i_D {A B c : Prop} [Decidable c] (h1 : c → A) (h2 : ¬ c → B) : if decide c = true then A else B := by
  by_cases h : c
  · rw [decide_eq_true h]; exact iteT (h1 h)
  · rw [decide_eq_false h]; exact iteF (h2 h)
theorem i_R {A B : Prop} {α : Type} {x : α} [Decidable (x = x)] (h : A) : if decide (x = x) = true then A else B := by rw [decide_eq_true rfl]; exact iteT h
theorem i_DT {A B c : Prop} [Decidable c] (h : c) (h1 : A) : if decide c = true then A else B := by rw [decide_eq_true h]; exact iteT h1
theorem i_DF {A B c : Prop} [Decidable c] (h : ¬ c) (h1 : B) : if decide c = true then A else B := by rw [decide_eq_false h]; exact iteF h1
theorem i_B {A B : Prop} {k : Bool} (h1 : k = true → A) (h2 : k = false → B) : if k = true then A else B := by
  cases k
  · exact iteF (h2 rfl)
  · exact iteT (h1 rfl)
end
section
variable {σ : St} {H : Hp} {nx bk ct : St → Hp → Prop} {rt : VK} {t u : TS} {c : TT} {te : TE} {i : Nat} {K : PySem.W.Frag}
theorem m_norm {σ' : St} (e : σ = σ') (h : Sm t nx rt bk ct σ' H) : Sm t nx rt bk ct σ H := by rw [e]; exact h
theorem m_seq (h : Sm t (fun σ H => Sm u nx rt bk ct σ H) rt bk ct σ H) : Sm (tSeq t u) nx rt bk ct σ H := h
theorem m_cut (M : St → Hp → Prop) (h : Sm t M rt bk ct σ H) (k : ∀ σ H, M σ H → Sm u nx rt bk ct σ H) : Sm (tCut t u) nx rt bk ct σ H := ⟨M, h, k⟩
theorem m_asg (h : te σ H fun v H1 => nx (σ.set i (some v)) H1) : Sm (tAsg te (gName i)) nx rt bk ct σ H := h
theorem m_asgG {g : TG} (h : te σ H fun v H1 => g v σ H1 nx) : Sm (tAsg te g) nx rt bk ct σ H := h
theorem m_ret (h : te σ H rt) : Sm (tRet te) nx rt bk ct σ H := h
theorem m_retN (h : rt .non H) : Sm tRetN nx rt bk ct σ H := h
theorem m_drop (h : te σ H fun _ H1 => nx σ H1) : Sm (tDrop te) nx rt bk ct σ H := h
theorem m_next (h : nx σ H) : Sm tNext nx rt bk ct σ H := h
theorem m_brk (h : bk σ H) : Sm tBreak nx rt bk ct σ H := h
theorem m_cont (h : ct σ H) : Sm tCont nx rt bk ct σ H := h
theorem m_if (h : c σ H fun b H1 => if b = true then Sm t nx rt bk ct σ H1 else Sm u nx rt bk ct σ H1) : Sm (tIfS c t u) nx rt bk ct σ H := h
theorem m_fld {ta tv : TE} {f : Str} (h : tv σ H fun y H1 => ta σ H1 fun x H2 => PutOf K f y x H2 (nx σ)) : Sm (sFld K ta tv f) nx rt bk ct σ H := h
theorem m_aug {ti : TIp} {v : V} (hx : σ[i]? = some (some v)) (h : te σ H fun y H1 => ti v y H1 fun z H2 => nx (σ.set i (some z)) H2) : Sm (tAug i te ti) nx rt bk ct σ H := ⟨v, hx, h⟩
/-- o[i] = e over a list that stands in H by itself -/
theorem m_setL {p : Addr} {xs : List V} {k : Int} {j : Nat} {v : V} {Q : Hp → Prop} (h : H p = some (.lst xs)) (hj : ixN xs.length k = some j) (q : Q (upd H p (.lst (xs.set j v)))) : rSetL (.ref p) (.int k) v H Q := ⟨p, xs, k, j, rfl, rfl, h, hj, q⟩
theorem m_gsub {to ti : TE} {ts : TSet} {v : V} {Q : St → Hp → Prop} (h : to σ H fun o H1 => ti σ H1 fun i H2 => ts o i v H2 fun H3 => Q σ H3) : gSub to ti ts v σ H Q := h
/-- a loop over what J walks -/
def Fj (J : It) (g : TG) (t : TS) (nx : St → Hp → Prop) (rt : VK) (σ : St) (H : Hp) : Prop := ∃ W : Nat → Nat → St → Hp → Prop, (∃ m, W 0 m σ H) ∧ ∀ i m σ H, W i m σ H →
  (J.stop i H ∧ nx σ H) ∨ (J.go i H ∧ ∃ N : St → Hp → Prop, (∀ σ' H', N σ' H' → ∃ m', m' < m ∧ W (i + 1) m' σ' H') ∧ ∀ x H', J.yld i H x H' → g x σ H' fun σ2 H2 => t { nx := N, rt := rt, ct := N, bk := nx } σ2 H2)
theorem m_for {wi : TI} {g : TG} (h : wi σ H fun J H1 => Fj J g t nx rt σ H1) : Sm (tFor wi g t) nx rt bk ct σ H := h
theorem w_rng1 {tl : TA} {R : It → Hp → Prop} (h : tl σ H fun vs H1 => ∃ j : Int, vs = [.int j] ∧ -(2 ^ 62) ≤ j ∧ j < 2 ^ 62 ∧ R (Itr 0 j.toNat) H1) : iRng1 tl σ H R := h
theorem w_rng2 {tl : TA} {R : It → Hp → Prop} (h : tl σ H fun vs H1 => ∃ i j : Int, vs = [.int i, .int j] ∧ (-(2 ^ 62) ≤ i ∧ i < 2 ^ 62 ∧ -(2 ^ 62) ≤ j ∧ j < 2 ^ 62) ∧ R (Itr i (j - i).toNat) H1) : iRng2 tl σ H R := h
theorem w_itl {te : TE} {R : It → Hp → Prop} (h : te σ H fun x H1 => ∃ a, x = .ref a ∧ (∃ xs, SqL K H1 a xs) ∧ R (Itl K a) H1) : iList K te σ H R := h
theorem w_itt {te : TE} {R : It → Hp → Prop} (h : te σ H fun x H1 => ∃ a, x = .ref a ∧ (∃ xs, SqT K H1 a xs) ∧ R (Itt K a) H1) : iTup K te σ H R := h
theorem f_rng1 {j : Nat} {n : Int} (h0 : 0 ≤ n) (h1 : n ≤ 100000) (Pv : Nat → St → Hp → Prop) (p0 : Pv 0 σ H)
    (hs : ∀ (i : Nat) σ' H', (i : Int) < n → Pv i σ' H' → Sm t (Pv (i + 1)) rt nx (Pv (i + 1)) (σ'.set j (some (.int (i : Int)))) H') (hd : ∀ σ' H', Pv n.toNat σ' H' → nx σ' H') :
    ∃ k : Int, [V.int n] = [.int k] ∧ -(2 ^ 62) ≤ k ∧ k < 2 ^ 62 ∧ Fj (Itr 0 k.toNat) (gName j) t nx rt σ H := by
  refine ⟨n, rfl, by omega, by omega, for_range (D := ⟨nx, rt, nx, nx⟩) (lo := 0) (n := n.toNat) Pv p0 (fun i σ' H' hi p => ?_) hd⟩
  have e0 : (0 : Int) + (i : Int) = (i : Int) := Int.zero_add _
  show t { nx := Pv (i + 1), rt := rt, ct := Pv (i + 1), bk := nx } (σ'.set j (some (.int ((0 : Int) + (i : Int))))) H'
  rw [e0]
  exact hs i σ' H' (by omega) p
theorem f_rng2 {j : Nat} {lo n : Int} (h0 : -100000 ≤ lo ∧ lo ≤ 100000 ∧ -100000 ≤ n ∧ n ≤ 100000) (Pv : Nat → St → Hp → Prop) (p0 : Pv 0 σ H)
    (hs : ∀ (i : Nat) σ' H', lo + (i : Int) < n → Pv i σ' H' → Sm t (Pv (i + 1)) rt nx (Pv (i + 1)) (σ'.set j (some (.int (lo + (i : Int))))) H') (hd : ∀ σ' H', Pv (n - lo).toNat σ' H' → nx σ' H') :
    ∃ i k : Int, [V.int lo, V.int n] = [.int i, .int k] ∧ (-(2 ^ 62) ≤ i ∧ i < 2 ^ 62 ∧ -(2 ^ 62) ≤ k ∧ k < 2 ^ 62) ∧ Fj (Itr i (k - i).toNat) (gName j) t nx rt σ H :=
  ⟨lo, n, rfl, ⟨by omega, by omega, by omega, by omega⟩, for_range (D := ⟨nx, rt, nx, nx⟩) (lo := lo) (n := (n - lo).toNat) Pv p0 (fun i σ' H' hi p => hs i σ' H' (by omega) p) hd⟩
theorem f_list {g : TG} {a : Addr} {xs : List V} (hx : SqL K H a xs) (Pv : Nat → St → Hp → Prop) (p0 : Pv 0 σ H) (hl : ∀ i σ' H', i ≤ xs.length → Pv i σ' H' → SqL K H' a xs)
    (hs : ∀ i x σ' H', xs[i]? = some x → Pv i σ' H' → g x σ' H' fun σ2 H2 => Sm t (Pv (i + 1)) rt nx (Pv (i + 1)) σ2 H2) (hd : ∀ σ' H', Pv xs.length σ' H' → nx σ' H') :
    ∃ b, V.ref a = .ref b ∧ (∃ ys, SqL K H b ys) ∧ Fj (Itl K b) g t nx rt σ H := ⟨a, rfl, ⟨xs, hx⟩, for_list (D := ⟨nx, rt, nx, nx⟩) Pv p0 hl hs hd⟩
theorem f_tup {g : TG} {a : Addr} {xs : List V} (hx : SqT K H a xs) (Pv : Nat → St → Hp → Prop) (p0 : Pv 0 σ H) (hl : ∀ i σ' H', i ≤ xs.length → Pv i σ' H' → SqT K H' a xs)
    (hs : ∀ i x σ' H', xs[i]? = some x → Pv i σ' H' → g x σ' H' fun σ2 H2 => Sm t (Pv (i + 1)) rt nx (Pv (i + 1)) σ2 H2) (hd : ∀ σ' H', Pv xs.length σ' H' → nx σ' H') :
    ∃ b, V.ref a = .ref b ∧ (∃ ys, SqT K H b ys) ∧ Fj (Itt K b) g t nx rt σ H := ⟨a, rfl, ⟨xs, hx⟩, for_tup (D := ⟨nx, rt, nx, nx⟩) Pv p0 hl hs hd⟩
/-- a turn of a while -/
def Turn (W : Nat → St → Hp → Prop) (m : Nat) (t : TS) (nx : St → Hp → Prop) (rt : VK) (σ : St) (H : Hp) : Prop := ∃ N : St → Hp → Prop, (∀ σ' H', N σ' H' → ∃ m', m' < m ∧ W m' σ' H') ∧ t ⟨N, rt, nx, N⟩ σ H
theorem turn_go {W : Nat → St → Hp → Prop} {m : Nat} (h : Sm t (fun σ' H' => ∃ m', m' < m ∧ W m' σ' H') rt nx (fun σ' H' => ∃ m', m' < m ∧ W m' σ' H') σ H) : Turn W m t nx rt σ H := ⟨_, fun _ _ h => h, h⟩
theorem m_whileT (W : Nat → St → Hp → Prop) (m0 : Nat) (h0 : W m0 σ H) (hs : ∀ m σ' H', W m σ' H' → c σ' H' fun b H1 => if b = true then Turn W m t nx rt σ' H1 else nx σ' H1) : Sm (tWhile c t) nx rt bk ct σ H := ⟨W, ⟨m0, h0⟩, hs⟩
theorem m_while (W : Nat → St → Hp → Prop) (m0 : Nat) (h0 : W m0 σ H)
    (hs : ∀ m σ' H', W m σ' H' → c σ' H' fun b H1 => if b = true then Sm t (fun σ2 H2 => ∃ m', m' < m ∧ W m' σ2 H2) rt nx (fun σ2 H2 => ∃ m', m' < m ∧ W m' σ2 H2) σ' H1 else nx σ' H1)
    (mono : ∀ σ H (A B : Bool → Hp → Prop), (∀ b H, A b H → B b H) → c σ H A → c σ H B) : Sm (tWhile c t) nx rt bk ct σ H := by
  refine ⟨W, ⟨m0, h0⟩, fun m σ' H' hw => mono _ _ _ _ (fun b H1 h => ?_) (hs m σ' H' hw)⟩
  cases b
  · exact iteF (by rw [if_neg Bool.false_ne_true] at h; exact h)
  · refine iteT ⟨fun σ2 H2 => ∃ m', m' < m ∧ W m' σ2 H2, fun _ _ n => n, ?_⟩
    rw [if_pos rfl] at h
    exact h
end
theorem divW {i j : Int} (h : 0 < j) (hb : j < 2 ^ 250) : CDivW i j := wide_div (b := 250) h (by omega) (by decide) (by decide)
/-- a written tuple of texts and ints -/
def KTup (K : PySem.W.Frag) (a : Addr) (xs : List V) : Prop := ∃ (o : Obj) (its : Array Value) (n : Nat), K.lookup a = some o ∧ o.cls = .type "tuple" ∧ o.data = .seq its n ∧ its.size ≤ sizeLine ∧ Vals xs its.toList
def relB : V → Value → Bool
  | .int i, .int j _ => i == j
  | .str x, .str y _ => x == y
  | _, _ => false
def relsB : List V → List Value → Bool
  | [], [] => true
  | x :: xs, u :: us => relB x u && relsB xs us
  | _, _ => false
def tupB (o : Obj) (xs : List V) : Bool := (match o.cls with | .type t => t == "tuple" | _ => false) && match o.data with | .seq its _ => decide (its.size ≤ sizeLine) && relsB xs its.toList | _ => false
theorem relB_of : ∀ {x : V} {u : Value}, relB x u = true → RelV x u
  | .int i, .int j t, h => by
    have e : i = j := eq_of_beq h
    exact ⟨t, by rw [e]⟩
  | .str i, .str j t, h => by
    have e : i = j := eq_of_beq h
    exact ⟨t, by rw [e]⟩
theorem relsB_of : ∀ {xs : List V} {us : List Value}, relsB xs us = true → Vals xs us
  | [], [], _ => .nil
  | x :: xs, u :: us, h => by
    unfold relsB at h
    rw [Bool.and_eq_true] at h
    exact .cons (relB_of h.1) (relsB_of h.2)
theorem ktup_of {K : PySem.W.Frag} {a : Addr} {o : Obj} {xs : List V} (h : K.lookup a = some o) (t : tupB o xs = true) : KTup K a xs := by
  unfold tupB at t
  rw [Bool.and_eq_true] at t
  obtain ⟨t1, t2⟩ := t
  obtain ⟨cls, dd, data, sl⟩ := o
  cases data with
  | seq its n =>
    simp only [Bool.and_eq_true, decide_eq_true_eq] at t2
    cases cls with
    | type c =>
      have e : c = "tuple" := eq_of_beq t1
      subst e
      exact ⟨_, its, n, h, rfl, rfl, t2.1, relsB_of t2.2⟩
    | _ => cases t1
  | _ => cases t2
theorem KTup.sq {K : PySem.W.Frag} {a : Addr} {xs : List V} (h : KTup K a xs) (H : Hp) : SqT K H a xs := Or.inr h
theorem ok_body {X : Cx} {body : List Stmt} {t : TS} {Q : VK} {σ σ0 : St} {H : Hp} (h : PSs X body t) (e : σ0 = σ) (q : Sm t (fun _ H' => Q .non H') Q (fun _ _ => False) (fun _ _ => False) σ H) :
    ∃ t : TS, PSs X body t ∧ t { nx := fun _ H' => Q .non H', rt := Q } σ0 H := ⟨t, h, by subst e; exact q⟩
/-- all but one object as it was -/
def ExBut (p : Addr) (H H' : Hp) : Prop := ∀ b o, b ≠ p → H b = some o → H' b = some o
theorem ExBut.ex {p : Addr} {H0 H H' : Hp} (e : Ex H0 H) (h : H0 p = none) (m : ExBut p H H') : Ex H0 H' := fun b o hb => m b o (ne_of_none hb h) (e b o hb)
theorem ExBut.refl (p : Addr) (H : Hp) : ExBut p H H := fun _ _ _ h => h
theorem ExBut.trans {p : Addr} {H H1 H2 : Hp} (a : ExBut p H H1) (b : ExBut p H1 H2) : ExBut p H H2 := fun c o n h => b c o n (a c o n h)
theorem ExBut.of {p : Addr} {H H' : Hp} (e : Ex H H') : ExBut p H H' := fun b o _ h => e b o h
theorem ExBut.upd {p : Addr} {H H' : Hp} {o : HO} (e : ExBut p H H') : ExBut p H (upd H' p o) := fun b u n h => by rw [upd_ne n]; exact e b u n h
theorem ex_snoc {H H1 H2 : Hp} (b : Ex H1 H2) (a : Ex H H1) : Ex H H2 := a.trans b
theorem but_snoc {p : Addr} {H H1 H2 : Hp} (b : ExBut p H1 H2) (a : ExBut p H H1) : ExBut p H H2 := a.trans b
theorem but_snocE {p : Addr} {H H1 H2 : Hp} (b : Ex H1 H2) (a : ExBut p H H1) : ExBut p H H2 := a.trans (.of b)
theorem w_put {K : PySem.W.Frag} {H : Hp} {a C dx : Addr} {fs fs' : List (Str × V)} {f : Str} {y : V} {R : Hp → Prop} (h : H a = some (.ins C dx fs)) (cl : Cls K C) (n : NoAttr K C f) (hl : fs.length < 1000) (e : putF f y fs = fs') (q : ∀ H2, ExBut a H H2 → H2 a = some (.ins C dx fs') → R H2) : PutOf K f y (.ref a) H R :=
  ⟨a, C, dx, fs, rfl, h, cl, n, hl, q _ (ExBut.upd (ExBut.refl a H)) (by rw [e]; exact upd_same)⟩
theorem ex_but {p : Addr} {H0 H H' : Hp} (m : ExBut p H H') (h : H0 p = none) (e : Ex H0 H) : Ex H0 H' := ExBut.ex e h m
theorem but_get {p a : Addr} {H H' : Hp} {o : HO} (m : ExBut p H H') (n : a ≠ p) (h : H a = some o) : H' a = some o := m a o n h
theorem w_setL {p : Addr} {xs ys : List V} {k : Int} {j : Nat} {v : V} {H : Hp} {Q : Hp → Prop} (h : H p = some (.lst xs)) (hj : ixN xs.length k = some j) (e : xs.set j v = ys) (q : ∀ H2, ExBut p H H2 → H2 p = some (.lst ys) → Q H2) : rSetL (.ref p) (.int k) v H Q :=
  ⟨p, xs, k, j, rfl, rfl, h, hj, q _ (ExBut.upd (ExBut.refl p H)) (by rw [e]; exact upd_same)⟩
theorem ex_get {H1 H2 : Hp} {a : Addr} {o : HO} (e : Ex H1 H2) (h : H1 a = some o) : H2 a = some o := e a o h
theorem small {n m : Nat} (h : n ≤ m) (hm : m ≤ 1000) : n ≤ 1000 := Nat.le_trans h hm
end Kit

namespace Kit
open PySem PySem.Spec PyProof.Rows L2 Evl
/-! ### the walk by words: "wp" goes as far as it can, "wp1" one step; "hp": what stands at an address; "sq": a list, a tuple is there; "side": a side condition -/
end Kit

namespace Kit
open PySem PySem.Spec PyProof.Rows L2 Evl
/-! ### comprehensions -/
def Lcj (J : It) (g : TG) (tt : TT) (te : TE) (vs : List Nat) (σ : St) (H1 : Hp) (Q : VK) : Prop := ∀ D, H1 D = none → ∃ W : Nat → Nat → Hp → Prop, (∃ m, W 0 m (upd H1 D (.lst []))) ∧ ∀ i m H, W i m H →
  (J.stop i H ∧ Q (.ref D) H) ∨ (J.go i H ∧ ∃ Nx : Hp → Prop, (∀ H', Nx H' → ∃ m', m' < m ∧ W (i + 1) m' H') ∧ ∀ x H', J.yld i H x H' → g x (wipe σ vs) H' fun σ2 H2 => wipe σ2 vs = wipe σ vs ∧ tt σ2 H2 fun b H3 =>
    if b = true then te σ2 H3 fun y H4 => ∃ acc, H4 D = some (.lst acc) ∧ acc.length < sizeLine ∧ Nx (upd H4 D (.lst (acc ++ [y]))) else Nx H3)
section
variable {σ : St} {H : Hp} {Q : VK} {j : Nat} {vs : List Nat} {te : TE} {tt : TT} {K : PySem.W.Frag}
theorem w_lc {wi : TI} {g : TG} {tt : TT} (h : wi σ H fun J H1 => Lcj J g tt te vs σ H1 Q) : tLc wi g tt te vs σ H Q := h
theorem w_rng3 {tl : TA} {R : It → Hp → Prop} (h : tl σ H fun vs H1 => ∃ (i j c : Int) (n : Nat), vs = [.int i, .int j, .int c] ∧ RgC i j c n ∧ R (Itc i c n) H1) : iRng3 tl σ H R := h
/-- what J walks, while S stands -/
structure Walks (J : It) (n : Nat) (x : Nat → V) (S : Hp → Prop) : Prop where
  stop : ∀ H, S H → J.stop n H
  go : ∀ i H, S H → i < n → J.go i H
  yld : ∀ i H y H', S H → i < n → J.yld i H y H' → H' = H ∧ y = x i
theorem walks_rng {lo : Int} {n : Nat} : Walks (Itr lo n) n (fun i => .int (lo + i)) (fun _ => True) := ⟨fun _ _ => Nat.le_refl n, fun _ _ _ h => h, fun _ _ _ _ _ _ h => h⟩
theorem walks_rngC {lo c : Int} {n : Nat} : Walks (Itc lo c n) n (fun i => .int (lo + (i : Nat) * c)) (fun _ => True) := ⟨fun _ _ => Nat.le_refl n, fun _ _ _ h => h, fun _ _ _ _ _ _ h => h⟩
theorem walks_list {a : Addr} {xs : List V} : Walks (Itl K a) xs.length (fun i => (xs[i]?).getD .non) (fun H => SqL K H a xs) := by
  refine ⟨fun H h => ⟨xs, h, Nat.le_refl _⟩, fun i H h hi => ⟨xs, xs[i], h, List.getElem?_eq_getElem hi⟩, fun i H y H' h hi hy => ⟨hy.1, ?_⟩⟩
  rw [hy.2 xs h]
  rfl
theorem walks_tup {a : Addr} {xs : List V} : Walks (Itt K a) xs.length (fun i => (xs[i]?).getD .non) (fun H => SqT K H a xs) := by
  refine ⟨fun H h => ⟨xs, h, Nat.le_refl _⟩, fun i H h hi => ⟨xs, xs[i], h, List.getElem?_eq_getElem hi⟩, fun i H y H' h hi hy => ⟨hy.1, ?_⟩⟩
  rw [hy.2 xs h]
  rfl
/-- any turn's word: Iv by the new list's address, the turn, what it holds -/
theorem l_any {J : It} {n : Nat} {x : Nat → V} {S : Hp → Prop} (w : Walks J n x S) (hn : n ≤ 40000) (hw : ∀ v, wipe ((wipe σ vs).set j (some v)) vs = wipe σ vs)
    (Iv : Addr → Nat → List V → Hp → Prop) (hS : ∀ D i acc H', Iv D i acc H' → S H') (h0 : ∀ D, H D = none → Iv D 0 [] (upd H D (.lst [])))
    (he : ∀ D i acc H', H D = none → i < n → acc.length ≤ i → H' D = some (.lst acc) → Iv D i acc H' → ∀ R : Bool → Hp → Prop, (∀ H2, H2 D = some (.lst acc) → Iv D (i + 1) acc H2 → R false H2) →
      (∀ H2, (∀ R2 : VK, (∀ y H3, H3 D = some (.lst acc) → Iv D (i + 1) (acc ++ [y]) (upd H3 D (.lst (acc ++ [y]))) → R2 y H3) → te ((wipe σ vs).set j (some (x i))) H2 R2) → R true H2) → tt ((wipe σ vs).set j (some (x i))) H' R)
    (q : ∀ D acc H2, H D = none → acc.length ≤ n → H2 D = some (.lst acc) → Iv D n acc H2 → Q (.ref D) H2) : Lcj J (gName j) tt te vs σ H Q := by
  intro D hD
  refine ⟨fun i m H' => i ≤ n ∧ m = n - i ∧ ∃ acc, acc.length ≤ i ∧ H' D = some (.lst acc) ∧ Iv D i acc H', ⟨n, Nat.zero_le _, by omega, [], Nat.le_refl 0, upd_same, h0 D hD⟩, fun i m H' ⟨hi, hm, acc, ha, hd, iv⟩ => ?_⟩
  by_cases hlt : i < n
  · refine .inr ⟨w.go i H' (hS _ _ _ _ iv) hlt, fun H'' => ∃ acc, acc.length ≤ i + 1 ∧ H'' D = some (.lst acc) ∧ Iv D (i + 1) acc H'', fun H'' h => ⟨n - (i + 1), by omega, by omega, rfl, h⟩, fun y H'' hy => ?_⟩
    obtain ⟨rfl, rfl⟩ := w.yld i H' y H'' (hS _ _ _ _ iv) hlt hy
    refine ⟨hw _, ?_⟩
    refine he D i acc H'' hD hlt ha hd iv _ (fun H2 h2 iv2 => ?_) fun H2 h => ?_
    · exact iteF ⟨acc, by omega, h2, iv2⟩
    · refine iteT (h _ fun v H3 h3 iv3 => ?_)
      exact ⟨acc, h3, sz_lt (by omega), acc ++ [v], by rw [List.length_append]; exact Nat.succ_le_succ ha, upd_same, iv3⟩
  · have e : i = n := by omega
    subst e
    exact .inl ⟨w.stop H' (hS _ _ _ _ iv), q D acc H' hD ha hd iv⟩
/-- items that only make new objects, no test: Pe says what the i-th is -/
theorem l_grow {J : It} {n : Nat} {x : Nat → V} {S : Hp → Prop} (w : Walks J n x S) (hn : n ≤ 40000) (hw : ∀ v, wipe ((wipe σ vs).set j (some v)) vs = wipe σ vs)
    (s0 : S H) (sm : ∀ H1 H2, Ex H1 H2 → S H1 → S H2) (Pe : Addr → Nat → V → Hp → Prop) (pm : ∀ D i v H1 H2, ExBut D H1 H2 → Pe D i v H1 → Pe D i v H2)
    (he : ∀ D i acc H', H D = none → i < n → Ex H H' → H' D = some (.lst acc) → ∀ R : VK, (∀ v H2, Ex H' H2 → Pe D i v H2 → R v H2) → te ((wipe σ vs).set j (some (x i))) H' R)
    (q : ∀ D ys H2, H D = none → Ex H H2 → H2 D = some (.lst ys) → ys.length = n → (∀ i y, ys[i]? = some y → Pe D i y H2) → Q (.ref D) H2) : Lcj J (gName j) tYes te vs σ H Q := by
  refine l_any w hn hw (fun D i acc H' => H D = none ∧ Ex H H' ∧ acc.length = i ∧ ∀ k y, acc[k]? = some y → Pe D k y H') (fun D i acc H' h => sm _ _ h.2.1 s0) (fun D hD => ⟨hD, Ex.new hD, rfl, fun k y h => by simp at h⟩) ?_ ?_
  · intro D i acc H' hD hi ha hd ⟨_, e, hl, hp⟩ R r1 r2
    refine r2 H' fun R2 r => ?_
    refine he D i acc H' hD hi e hd R2 fun v H2 e2 pv => ?_
    have m1 : ExBut D H' (upd H2 D (.lst (acc ++ [v]))) := ExBut.upd (.of e2)
    have m2 : ExBut D H2 (upd H2 D (.lst (acc ++ [v]))) := ExBut.upd (.refl D H2)
    refine r v H2 (e2 D _ hd) ⟨hD, ExBut.ex e hD m1, by rw [List.length_append, hl]; rfl, fun k y hk => ?_⟩
    by_cases h : k < acc.length
    · rw [List.getElem?_append_left h] at hk
      exact pm D k y _ _ m1 (hp k y hk)
    · have hlen : k < (acc ++ [v]).length := (List.getElem?_eq_some_iff.mp hk).1
      rw [List.length_append] at hlen
      have e : k = acc.length := by simp at hlen; omega
      rw [e, List.getElem?_concat_length] at hk
      cases hk
      rw [e, hl]
      exact pm D i v _ _ m2 pv
  · intro D acc H2 hD _ hd ⟨_, e, hl, hp⟩
    exact q D acc H2 hD e hd hl hp
theorem eq_map {ys : List V} {n : Nat} {v : Nat → V} (hl : ys.length = n) (h : ∀ i y, ys[i]? = some y → y = v i) : ys = (List.range n).map v := by
  apply List.ext_getElem?
  intro i
  by_cases hi : i < n
  · rw [List.getElem?_map, List.getElem?_range hi, List.getElem?_eq_getElem (by omega)]
    exact congrArg some (h i _ (List.getElem?_eq_getElem (by omega)))
  · rw [List.getElem?_eq_none (by omega), List.getElem?_eq_none (by rw [List.length_map, List.length_range]; omega)]
/-- items that are told: the i-th is v i -/
theorem l_val {J : It} {n : Nat} {x : Nat → V} {S : Hp → Prop} (w : Walks J n x S) (hn : n ≤ 40000) (hw : ∀ v, wipe ((wipe σ vs).set j (some v)) vs = wipe σ vs)
    (s0 : S H) (sm : ∀ H1 H2, Ex H1 H2 → S H1 → S H2) (v : Nat → V)
    (he : ∀ i H', i < n → Ex H H' → ∀ R : VK, (∀ H2, Ex H' H2 → R (v i) H2) → te ((wipe σ vs).set j (some (x i))) H' R)
    (q : ∀ p H2, H p = none → Ex H H2 → H2 p = some (.lst ((List.range n).map v)) → Q (.ref p) H2) : Lcj J (gName j) tYes te vs σ H Q :=
  l_grow w hn hw s0 sm (fun _ i y _ => y = v i) (fun _ _ _ _ _ _ h => h) (fun D i acc H' hD hi e hd R r => he i H' hi e R fun H2 e2 => r _ H2 e2 rfl)
    fun D ys H2 hD e hd hl hp => q D H2 hD e (by rw [hd, eq_map hl hp])
/-- over range(n) -/
theorem l_rng1 {n : Int} (h0 : 0 ≤ n) (hn : n ≤ 40000) (hw : ∀ v, wipe ((wipe σ vs).set j (some v)) vs = wipe σ vs) (v : Nat → V)
    (he : ∀ (i : Nat) H', (i : Int) < n → Ex H H' → ∀ R : VK, (∀ H2, Ex H' H2 → R (v i) H2) → te ((wipe σ vs).set j (some (.int (i : Int)))) H' R)
    (q : ∀ p H2, H p = none → Ex H H2 → H2 p = some (.lst ((List.range n.toNat).map v)) → Q (.ref p) H2) :
    ∃ k : Int, [V.int n] = [.int k] ∧ -(2 ^ 62) ≤ k ∧ k < 2 ^ 62 ∧ Lcj (Itr 0 k.toNat) (gName j) tYes te vs σ H Q :=
  ⟨n, rfl, by omega, by omega, l_val walks_rng (by omega) hw trivial (fun _ _ _ h => h) v (fun i H' hi e R r => by
    have e0 : (0 : Int) + (i : Int) = (i : Int) := Int.zero_add _
    show te ((wipe σ vs).set j (some (.int (0 + (i : Int))))) H' R
    rw [e0]
    exact he i H' (by omega) e R r) q⟩
/-- over range(0, n, 2) -/
theorem l_rng2 {n : Int} {m : Nat} (h0 : n = 2 * m) (hn : m ≤ 40000) (hw : ∀ v, wipe ((wipe σ vs).set j (some v)) vs = wipe σ vs) (v : Nat → V)
    (he : ∀ (i : Nat) H', i < m → Ex H H' → ∀ R : VK, (∀ H2, Ex H' H2 → R (v i) H2) → te ((wipe σ vs).set j (some (.int (2 * (i : Int))))) H' R)
    (q : ∀ p H2, H p = none → Ex H H2 → H2 p = some (.lst ((List.range m).map v)) → Q (.ref p) H2) :
    ∃ (a b c : Int) (k : Nat), [V.int 0, V.int n, V.int 2] = [.int a, .int b, .int c] ∧ RgC a b c k ∧ Lcj (Itc a c k) (gName j) tYes te vs σ H Q := by
  have hr : RgC 0 n 2 m := by
    refine ⟨by decide, by decide, ?_, ?_⟩
    · subst h0
      unfold Builtin.Range.small Builtin.Range.rangeSize
      rw [if_pos (show (2 : Int) > 0 by decide), if_pos (show (2 : Int) > 0 by decide)]
      have hf : ∀ x : Int, 0 ≤ x → x ≤ 100000 → Builtin.Range.rangeFitsLong x = true := fun x h1 h2 => by
        unfold Builtin.Range.rangeFitsLong
        simp only [Bool.and_eq_true, decide_eq_true_eq]
        omega
      have h3 : (0 : Int) ≤ (if (0 : Int) < 2 * (m : Int) then (2 * (m : Int) - 0 - 1) / 2 + 1 else 0) ∧ (if (0 : Int) < 2 * (m : Int) then (2 * (m : Int) - 0 - 1) / 2 + 1 else 0) ≤ 100000 := by split <;> omega
      rw [hf 0 (by omega) (by omega), hf (2 * (m : Int)) (by omega) (by omega), hf 2 (by omega) (by omega), hf _ h3.1 h3.2, hf (2 * (m : Int) + (2 - 1)) (by omega) (by omega)]
      simp
    · subst h0
      unfold Builtin.Range.rangeSize
      split <;> omega
  refine ⟨0, n, 2, m, rfl, hr, l_val walks_rngC hn hw trivial (fun _ _ _ h => h) v (fun i H' hi e R r => ?_) q⟩
  have e0 : (0 : Int) + (i : Int) * 2 = 2 * (i : Int) := by omega
  show te ((wipe σ vs).set j (some (.int (0 + (i : Int) * 2)))) H' R
  rw [e0]
  exact he i H' hi e R r
/-- over a list -/
theorem l_list {a : Addr} {xs : List V} (hx : SqL K H a xs) (hn : xs.length ≤ 40000) (hw : ∀ v, wipe ((wipe σ vs).set j (some v)) vs = wipe σ vs) (v : Nat → V)
    (he : ∀ (i : Nat) x H', xs[i]? = some x → Ex H H' → ∀ R : VK, (∀ H2, Ex H' H2 → R (v i) H2) → te ((wipe σ vs).set j (some x)) H' R)
    (q : ∀ p H2, H p = none → Ex H H2 → H2 p = some (.lst ((List.range xs.length).map v)) → Q (.ref p) H2) :
    ∃ b, V.ref a = .ref b ∧ (∃ ys, SqL K H b ys) ∧ Lcj (Itl K b) (gName j) tYes te vs σ H Q :=
  ⟨a, rfl, ⟨xs, hx⟩, l_val walks_list hn hw hx (fun _ _ e h => ex_l e h) v (fun i H' hi e R r => by
    have z : xs[i]? = some xs[i] := List.getElem?_eq_getElem hi
    show te ((wipe σ vs).set j (some ((xs[i]?).getD .non))) H' R
    rw [z]
    exact he i xs[i] H' z e R r) q⟩
theorem l_tup {a : Addr} {xs : List V} (hx : SqT K H a xs) (hn : xs.length ≤ 40000) (hw : ∀ v, wipe ((wipe σ vs).set j (some v)) vs = wipe σ vs) (v : Nat → V)
    (he : ∀ (i : Nat) x H', xs[i]? = some x → Ex H H' → ∀ R : VK, (∀ H2, Ex H' H2 → R (v i) H2) → te ((wipe σ vs).set j (some x)) H' R)
    (q : ∀ p H2, H p = none → Ex H H2 → H2 p = some (.lst ((List.range xs.length).map v)) → Q (.ref p) H2) :
    ∃ b, V.ref a = .ref b ∧ (∃ ys, SqT K H b ys) ∧ Lcj (Itt K b) (gName j) tYes te vs σ H Q :=
  ⟨a, rfl, ⟨xs, hx⟩, l_val walks_tup hn hw hx (fun _ _ e h => ex_t e h) v (fun i H' hi e R r => by
    have z : xs[i]? = some xs[i] := List.getElem?_eq_getElem hi
    show te ((wipe σ vs).set j (some ((xs[i]?).getD .non))) H' R
    rw [z]
    exact he i xs[i] H' z e R r) q⟩
end
end Kit

namespace Kit
open PySem PySem.Spec PyProof.Rows L2 Evl
/-! ### the rules that speak of the written part, with it named -/
section
variable (K : PySem.W.Frag) {X : Cx}
theorem ixL (h : X.K = K := by rfl) : IxR X (rIxL K) := h ▸ ix_list
theorem ixT (h : X.K = K := by rfl) : IxR X (rIxT K) := h ▸ ix_tup
theorem kLen (h : X.K = K := by rfl) : CallR X (.builtin "len") (rLenS K) := h ▸ call_len_seq
theorem kList (h : X.K = K := by rfl) : CallR X (.type "list") (rListS K) := h ▸ call_list_of
theorem kTuple (h : X.K = K := by rfl) : CallR X (.type "tuple") (rTupS K) := h ▸ call_tuple_of
theorem kIn (h : X.K = K := by rfl) : OpR X (compareOp .In) (rIn K false) := h ▸ op_in_seq
theorem kNotIn (h : X.K = K := by rfl) : OpR X (compareOp .NotIn) (rIn K true) := h ▸ op_notIn_seq
theorem kEqD (hu : X.A.units + 64 < cLine) (h : X.K = K := by rfl) : OpR X (compareOp .Eq) (rEqD K) := h ▸ op_eqD hu
theorem kNeD (hu : X.A.units + 64 < cLine) (h : X.K = K := by rfl) : OpR X (compareOp .NotEq) (rNeD K) := h ▸ op_neD hu
theorem kCat (h : X.K = K := by rfl) : OpR X (binaryOp .Add) (rCatA K) := h ▸ op_catA
theorem kRepT (h : X.K = K := by rfl) : OpR X (binaryOp .Mult) (rRepT K) := h ▸ op_repT
theorem kSlL (h : X.K = K := by rfl) : SlR X (rSlL K) := h ▸ sl_list
theorem kSlT (h : X.K = K := by rfl) : SlR X (rSlA K) := h ▸ sl_tupA
theorem kIsi (h : X.K = K := by rfl) : CallR X (.builtin "isinstance") (rIsi K) := h ▸ call_isi
theorem kFld {e : Expr} {ta : TE} {f : Str} {pos : Pos} (he : PE X e ta) (hb : attributeBase e f X.env (eval e X.env) = eval e X.env) (h : X.K = K := by rfl) : PE X (.Attribute e f pos) (tFld K ta f) := h ▸ pe_fld he hb
theorem kSet {o value : Expr} {ta tv : TE} {f : Str} {pos pos' : Pos} (ha : PE X o ta) (hv : PE X value tv) (hs : swapsWith value (some (.Attribute o f pos')) pos.line X.env = pure false) (h : X.K = K := by rfl) : PS X (.Assign [.Attribute o f pos'] value pos) (sFld K ta tv f) := h ▸ ps_fld ha hv hs
theorem kpList {tg l : Expr} {tl : TE} (hl : PE X l tl) (h : X.K = K := by rfl) : PI X tg l (iList K tl) := h ▸ pi_list hl
theorem kpTup {tg l : Expr} {tl : TE} (hl : PE X l tl) (h : X.K = K := by rfl) : PI X tg l (iTup K tl) := h ▸ pi_tup hl
theorem kgTup {es : List Expr} {k : Nat} {t : TGs} {n : Nat} {pos : Pos} (hc : X.calm = true) (hg : PGs X es t) (hn : (assignEach es X.env).length = n := by rfl) (hst : (assignEach es X.env).findIdx? (·.1) = none := by rfl) (h : X.K = K := by rfl) : PG X (.Tuple es k pos) (gTup K n t) := h ▸ pg_tup hc hg hn hst
end
end Kit

namespace Kit
open PySem PySem.Spec PyProof.Rows L2 Evl
/-! ### == of data -/
def isFlN : V → Bool
  | .non | .bl _ | .int _ => true
  | _ => false
theorem fln_fl : ∀ {vs : List V}, vs.all isFlN = true → vs.all isFl = true
  | [], _ => rfl
  | v :: vs, h => by
    rw [List.all_cons, Bool.and_eq_true] at h ⊢
    refine ⟨?_, fln_fl h.2⟩
    cases v <;> first | rfl | cases h.1
theorem flats_ok : ∀ {vs : List V}, vs.all isFlN = true → PyData.canLayAll0 (vs.map flatD) = true ∧ PyData.depthAll (vs.map flatD) = 0
  | [], _ => ⟨rfl, rfl⟩
  | v :: vs, h => by
    rw [List.all_cons, Bool.and_eq_true] at h
    obtain ⟨h1, h2⟩ := flats_ok h.2
    have h3 : (flatD v).canLay0 = true ∧ PyData.depth (flatD v) = 0 := by
      cases v <;> first | (cases h.1; done) | exact ⟨by simp [flatD, PyData.canLay0], by simp [flatD, PyData.depth]⟩
    rw [List.map_cons, PyData.canLayAll0, PyData.depthAll, h1, h2, h3.1, h3.2]
    exact ⟨rfl, rfl⟩
theorem shaped_tup {vs : List V} (h : vs.all isFlN = true) : SeqAt.shaped (.tuple (vs.map flatD)) = true := by
  obtain ⟨h1, h2⟩ := flats_ok h
  unfold SeqAt.shaped
  rw [PyData.canLay0, PyData.depth, h1, h2]
  rfl
theorem shaped_lst {vs : List V} (h : vs.all isFlN = true) : SeqAt.shaped (.list (vs.map flatD)) = true := by
  obtain ⟨h1, h2⟩ := flats_ok h
  unfold SeqAt.shaped
  rw [PyData.canLay0, PyData.depth, h1, h2]
  rfl
theorem ints_fln : ∀ r : List Int, (r.map V.int).all isFlN = true
  | [] => rfl
  | _ :: r => by
    rw [List.map_cons, List.all_cons, ints_fln r]
    rfl
theorem eqvAll_ints : ∀ r s : List Int, PyData.eqvAll ((r.map V.int).map flatD) ((s.map V.int).map flatD) = decide (r = s)
  | [], [] => by simp [PyData.eqvAll]
  | [], _ :: _ => by simp [PyData.eqvAll]
  | _ :: _, [] => by simp [PyData.eqvAll]
  | x :: r, y :: s => by
    show PyData.eqvAll (.int x :: (r.map V.int).map flatD) (.int y :: (s.map V.int).map flatD) = _
    rw [PyData.eqvAll, eqvAll_ints r s]
    by_cases h : x = y
    · subst h
      simp [PyData.eqv]
    · simp [PyData.eqv, h]
section
variable {H : Hp} {Q : VK} {K : PySem.W.Frag} {a b : Addr} {r s : List Int}
theorem w_neTT (h1 : SqT K H a (r.map V.int)) (h2 : SqT K H b (s.map V.int)) (q : Q (.bl (!decide (r = s))) H) : rNeD K (.ref a) (.ref b) H Q :=
  w_neD (dp_tup h1 (fln_fl (ints_fln r))) (dp_tup h2 (fln_fl (ints_fln s))) (shaped_tup (ints_fln r)) (shaped_tup (ints_fln s)) (by rw [PyData.eqv, eqvAll_ints]; exact q)
theorem w_eqTT (h1 : SqT K H a (r.map V.int)) (h2 : SqT K H b (s.map V.int)) (q : Q (.bl (decide (r = s))) H) : rEqD K (.ref a) (.ref b) H Q :=
  w_eqD (dp_tup h1 (fln_fl (ints_fln r))) (dp_tup h2 (fln_fl (ints_fln s))) (shaped_tup (ints_fln r)) (shaped_tup (ints_fln s)) (by rw [PyData.eqv, eqvAll_ints]; exact q)
theorem w_neLL (h1 : SqL K H a (r.map V.int)) (h2 : SqL K H b (s.map V.int)) (q : Q (.bl (!decide (r = s))) H) : rNeD K (.ref a) (.ref b) H Q :=
  w_neD (dp_lst h1 (fln_fl (ints_fln r))) (dp_lst h2 (fln_fl (ints_fln s))) (shaped_lst (ints_fln r)) (shaped_lst (ints_fln s)) (by rw [PyData.eqv, eqvAll_ints]; exact q)
theorem w_eqLL (h1 : SqL K H a (r.map V.int)) (h2 : SqL K H b (s.map V.int)) (q : Q (.bl (decide (r = s))) H) : rEqD K (.ref a) (.ref b) H Q :=
  w_eqD (dp_lst h1 (fln_fl (ints_fln r))) (dp_lst h2 (fln_fl (ints_fln s))) (shaped_lst (ints_fln r)) (shaped_lst (ints_fln s)) (by rw [PyData.eqv, eqvAll_ints]; exact q)
end
end Kit
namespace Kit
open PySem PySem.Spec PyProof.Rows L2 Evl
/-! ### steps of the walk that ask nothing: found by the goal's head -/
class Step (G : Prop) (G' : outParam Prop) : Prop where
  go : G' → G
theorem step {G G' : Prop} [h : Step G G'] (x : G') : G := h.go x
class GetN (l : St) (i : Nat) (v : outParam V) : Prop where
  eq : l[i]? = some (some v)
class SetN (l : St) (i : Nat) (f : outParam (V → St)) : Prop where
  eq : ∀ v, l.set i (some v) = f v
section
variable {l : St} {a : Option V} {v : V} {n : Nat} {f : V → St}
instance : GetN (some v :: l) 0 v := ⟨rfl⟩
instance [h : GetN l n v] : GetN (a :: l) (n + 1) v := ⟨h.eq⟩
instance : SetN (a :: l) 0 (fun v => some v :: l) := ⟨fun _ => rfl⟩
instance [h : SetN l n f] : SetN (a :: l) (n + 1) (fun v => a :: f v) := ⟨fun v => congrArg (a :: ·) (h.eq v)⟩
end
section
variable {σ : St} {H H1 H2 : Hp} {Q : VK} {R : Bool → Hp → Prop} {A : List V → Hp → Prop} {i n : Nat} {v x y : V} {ta tb te tv : TE} {tl tr : TA} {b : Bool} {K : PySem.W.Frag} {C dx p : Addr} {fs : List (Str × V)} {f : Str} {t u c : TT}
instance [h : GetN σ i v] : Step (tVar i σ H Q) (Q v H) := ⟨fun q => w_var h.eq q⟩
instance : Step (tC v σ H Q) (Q v H) := ⟨w_c⟩
instance {r : R2} : Step (tOp r ta tb σ H Q) (ta σ H fun x H1 => tb σ H1 fun y H2 => r x y H2 Q) := ⟨w_op⟩
instance {r : V → Hp → VK → Prop} : Step (tUn r ta σ H Q) (ta σ H fun x H1 => r x H1 Q) := ⟨w_un⟩
instance {r : List V → Hp → VK → Prop} : Step (tCB r tl σ H Q) (tl σ H fun vs H1 => r vs H1 Q) := ⟨w_cb⟩
instance : Step (tNil σ H A) (A [] H) := ⟨w_nil⟩
instance : Step (tCons te tr σ H A) (te σ H fun x H1 => tr σ H1 fun xs H2 => A (x :: xs) H2) := ⟨w_cons⟩
instance : Step (tTup tl σ H Q) (tl σ H fun xs H1 => Alloc xs.length (.tup xs) H1 Q) := ⟨w_tup⟩
instance : Step (tLst tl σ H Q) (tl σ H fun xs H1 => Alloc xs.length (.lst xs) H1 Q) := ⟨w_lst⟩
instance {sp : Sp} {E : XK} : Step (tCall sp [] E tl σ H Q) (tl σ H fun vs H1 => sp vs H1 Q E) := ⟨w_call0⟩
instance : Step (tTest te σ H R) (te σ H fun x H' => ∃ k, x = .bl k ∧ R k H') := ⟨w_test⟩
instance : Step (tB te σ H R) (te σ H fun x H' => ∃ k, x = .bl k ∧ R k H') := ⟨w_B⟩
instance : Step (tAnd t u σ H R) (t σ H fun c H1 => if c = true then u σ H1 R else R false H1) := ⟨w_and⟩
instance : Step (tOr t u σ H R) (t σ H fun c H1 => if c = true then R true H1 else u σ H1 R) := ⟨w_or⟩
instance : Step (tNot t σ H R) (t σ H fun c H1 => R (!c) H1) := ⟨w_not⟩
instance : Step (tAndV ta tb σ H Q) (ta σ H fun x H1 => ∃ c, x = .bl c ∧ if c = true then tb σ H1 Q else Q (.bl false) H1) := ⟨w_andV⟩
instance : Step (tOrV ta tb σ H Q) (ta σ H fun x H1 => ∃ c, x = .bl c ∧ if c = true then Q (.bl true) H1 else tb σ H1 Q) := ⟨w_orV⟩
instance : Step (tNotV ta σ H Q) (ta σ H fun x H1 => ∃ c, x = .bl c ∧ Q (.bl (!c)) H1) := ⟨w_notV⟩
instance : Step (tIf t ta tb σ H Q) (t σ H fun c H1 => if c = true then ta σ H1 Q else tb σ H1 Q) := ⟨w_ifE⟩
instance : Step (tFld K ta f σ H Q) (ta σ H fun x H1 => FldOf K f x H1 Q) := ⟨w_fld⟩
instance {m : Str} {sp : Sp} {E : XK} : Step (tMeth C m sp [] E ta tl σ H Q) (ta σ H fun x H1 => InsOf C m x H1 (tl σ H1 fun vs H2 => sp (x :: vs) H2 Q E)) := ⟨w_meth⟩
instance {sp : Sp} {E : XK} : Step (tMake C sp [] E tl σ H Q) (tl σ H fun vs H1 => MakeOf C sp E vs H1 Q) := ⟨w_make⟩
instance {k : Bool} {P : Bool → Prop} : Step (∃ k', V.bl k = V.bl k' ∧ P k') (P k) := ⟨w_blE⟩
instance {g : Int → Int → V} {i j : Int} : Step (rI0 g (.int i) (.int j) H Q) (Q (g i j) H) := ⟨w_I0⟩
instance {g : Int → V} {i : Int} : Step (rU g (.int i) H Q) (Q (g i) H) := ⟨w_U⟩
instance {i j : Int} : Step (rEq (.int i) (.int j) H Q) (Q (.bl (decide (i = j))) H) := ⟨w_eqI⟩
instance {i j : Int} : Step (rNe (.int i) (.int j) H Q) (Q (.bl (!decide (i = j))) H) := ⟨w_neI⟩
instance {i j : Bool} : Step (rEq (.bl i) (.bl j) H Q) (Q (.bl (i == j)) H) := ⟨w_eqB⟩
instance {i : Int} : Step (rInt [.int i] H Q) (Q (.int i) H) := ⟨w_int⟩
instance {i j : Int} : Step (rMax [.int i, .int j] H Q) (Q (.int (if j > i then j else i)) H) := ⟨w_max⟩
instance {i j : Int} : Step (rMin [.int i, .int j] H Q) (Q (.int (if j < i then j else i)) H) := ⟨w_min⟩
instance {i : Int} : Step (rAbs [.int i] H Q) (Q (.int (if i < 0 then -i else i)) H) := ⟨w_abs⟩
instance : Step (rIsNo .non .non H Q) (Q (.bl true) H) := ⟨w_isNN⟩
instance {i : Int} : Step (rIsNo (.int i) .non H Q) (Q (.bl false) H) := ⟨w_isNI⟩
instance {i : Bool} : Step (rIsNo (.bl i) .non H Q) (Q (.bl false) H) := ⟨w_isNB⟩
instance {i : Addr} : Step (rIsNo (.ref i) .non H Q) (Q (.bl false) H) := ⟨w_isNR⟩
instance : Step (rNotNo .non .non H Q) (Q (.bl false) H) := ⟨w_notNN⟩
instance {i : Int} : Step (rNotNo (.int i) .non H Q) (Q (.bl true) H) := ⟨w_notNI⟩
instance {i : Bool} : Step (rNotNo (.bl i) .non H Q) (Q (.bl true) H) := ⟨w_notNB⟩
instance {i : Addr} : Step (rNotNo (.ref i) .non H Q) (Q (.bl true) H) := ⟨w_notNR⟩
instance {T : String} {r : V → List V → Hp → VK → Prop} {to : TE} : Step (tBM K T r to tl σ H Q) (to σ H fun x H1 => tyV K T x H1 ∧ tl σ H1 fun xs H2 => r x xs H2 Q) := ⟨w_bm⟩
instance {T : String} {r : V → List V → Hp → VK → Prop} {to : TE} : Step (tBM0 K T r to σ H Q) (to σ H fun x H1 => tyV K T x H1 ∧ r x [] H1 Q) := ⟨w_bm0⟩
instance {r : V → Option Int → Option Int → Hp → VK → Prop} {to th : TO} : Step (L2.tSl r te to th σ H Q) (te σ H fun x H1 => to σ H1 fun l H2 => th σ H2 fun u H3 => r x l u H3 Q) := ⟨w_sl⟩
instance {W : Option Int → Hp → Prop} : Step (tNoPart σ H W) (W none H) := ⟨w_po⟩
instance {W : Option Int → Hp → Prop} : Step (tPart te σ H W) (te σ H fun x H1 => PartOf W x H1) := ⟨w_ps⟩
instance {W : Option Int → Hp → Prop} {i : Int} : Step (PartOf W (.int i) H) (W (some i) H) := ⟨w_pi⟩
instance {A B : Prop} : Step (if true = true then A else B) A := ⟨i_T⟩
instance {A B : Prop} : Step (if false = true then A else B) B := ⟨i_F⟩
instance {A B : Prop} {k : Bool} : Step (if (!k) = true then A else B) (if k = true then B else A) := ⟨i_N⟩
end
section
variable {σ : St} {H : Hp} {nx bk ct : St → Hp → Prop} {rt : VK} {t u : TS} {c : TT} {te : TE} {i : Nat} {K : PySem.W.Frag} {vs : List Nat} {Q : VK}
instance (priority := 2000) {l : St} {v : V} {f : V → St} [h : SetN l i f] : Step (Sm t nx rt bk ct (l.set i (some v)) H) (Sm t nx rt bk ct (f v) H) := ⟨fun q => by rw [h.eq]; exact q⟩
instance : Step (Sm (tSeq t u) nx rt bk ct σ H) (Sm t (fun σ H => Sm u nx rt bk ct σ H) rt bk ct σ H) := ⟨m_seq⟩
instance (priority := high) {f : V → St} [h : SetN σ i f] : Step (Sm (tAsg te (gName i)) nx rt bk ct σ H) (te σ H fun v H1 => nx (f v) H1) := ⟨fun q => m_asg (by simp only [h.eq]; exact q)⟩
instance (priority := low) {g : TG} : Step (Sm (tAsg te g) nx rt bk ct σ H) (te σ H fun v H1 => g v σ H1 nx) := ⟨m_asgG⟩
instance : Step (Sm (tRet te) nx rt bk ct σ H) (te σ H rt) := ⟨m_ret⟩
instance : Step (Sm tRetN nx rt bk ct σ H) (rt .non H) := ⟨m_retN⟩
instance : Step (Sm (tDrop te) nx rt bk ct σ H) (te σ H fun _ H1 => nx σ H1) := ⟨m_drop⟩
instance : Step (Sm tNext nx rt bk ct σ H) (nx σ H) := ⟨m_next⟩
instance : Step (Sm tBreak nx rt bk ct σ H) (bk σ H) := ⟨m_brk⟩
instance : Step (Sm tCont nx rt bk ct σ H) (ct σ H) := ⟨m_cont⟩
instance : Step (Sm (tIfS c t u) nx rt bk ct σ H) (c σ H fun b H1 => if b = true then Sm t nx rt bk ct σ H1 else Sm u nx rt bk ct σ H1) := ⟨m_if⟩
instance {ta tv : TE} {f : Str} : Step (Sm (sFld K ta tv f) nx rt bk ct σ H) (tv σ H fun y H1 => ta σ H1 fun x H2 => PutOf K f y x H2 (nx σ)) := ⟨m_fld⟩
instance {wi : TI} {g : TG} : Step (Sm (tFor wi g t) nx rt bk ct σ H) (wi σ H fun J H1 => Fj J g t nx rt σ H1) := ⟨m_for⟩
instance {tl : TA} {R : It → Hp → Prop} : Step (iRng1 tl σ H R) (tl σ H fun vs H1 => ∃ j : Int, vs = [.int j] ∧ -(2 ^ 62) ≤ j ∧ j < 2 ^ 62 ∧ R (Itr 0 j.toNat) H1) := ⟨w_rng1⟩
instance {tl : TA} {R : It → Hp → Prop} : Step (iRng2 tl σ H R) (tl σ H fun vs H1 => ∃ i j : Int, vs = [.int i, .int j] ∧ (-(2 ^ 62) ≤ i ∧ i < 2 ^ 62 ∧ -(2 ^ 62) ≤ j ∧ j < 2 ^ 62) ∧ R (Itr i (j - i).toNat) H1) := ⟨w_rng2⟩
instance {tl : TA} {R : It → Hp → Prop} : Step (iRng3 tl σ H R) (tl σ H fun vs H1 => ∃ (i j c : Int) (n : Nat), vs = [.int i, .int j, .int c] ∧ RgC i j c n ∧ R (Itc i c n) H1) := ⟨w_rng3⟩
instance {R : It → Hp → Prop} : Step (iList K te σ H R) (te σ H fun x H1 => ∃ a, x = .ref a ∧ (∃ xs, SqL K H1 a xs) ∧ R (Itl K a) H1) := ⟨w_itl⟩
instance {R : It → Hp → Prop} : Step (iTup K te σ H R) (te σ H fun x H1 => ∃ a, x = .ref a ∧ (∃ xs, SqT K H1 a xs) ∧ R (Itt K a) H1) := ⟨w_itt⟩
instance {wi : TI} {g : TG} {tt : TT} : Step (tLc wi g tt te vs σ H Q) (wi σ H fun J H1 => Lcj J g tt te vs σ H1 Q) := ⟨w_lc⟩
end
end Kit

set_option Elab.async false
set_option linter.all false
namespace KM
/-! ### rows, their levels, roots and paths, for any fold f -/
section
variable (f : Int → Int → Int)
def pairs : List Int → List Int
  | x :: y :: r => f x y :: pairs r
  | _ => []
def levs : Nat → List Int → List (List Int)
  | 0, r => [r]
  | k + 1, r => r :: levs k (pairs f r)
def rootM : Nat → List Int → Int
  | 0, r => r.headD 0
  | k + 1, r => rootM k (pairs f r)
def nb (p : Nat) : Nat := if p % 2 = 0 then p + 1 else p - 1
def pathM : Nat → List Int → Nat → List Int
  | 0, _, _ => []
  | k + 1, r, p => (r[nb p]?).getD 0 :: pathM k (pairs f r) (p / 2)
def rootBy : Nat → Int → List Int → Int
  | _, d, [] => d
  | p, d, x :: r => rootBy (p / 2) (if p % 2 = 0 then f d x else f x d) r
variable {f}
theorem pairs_len : ∀ (r : List Int) {n : Nat}, r.length = 2 * n → (pairs f r).length = n
  | [], 0, _ => rfl
  | [], n + 1, h => by simp at h
  | [_], n, h => by simp at h; omega
  | x :: y :: r, 0, h => by simp at h
  | x :: y :: r, n + 1, h => by
    have h2 : r.length = 2 * n := by simp at h; omega
    show (f x y :: pairs f r).length = n + 1
    rw [List.length_cons, pairs_len r h2]
theorem pairs_get : ∀ (r : List Int) {i : Nat} {x y : Int}, r[2 * i]? = some x → r[2 * i + 1]? = some y → (pairs f r)[i]? = some (f x y)
  | [], i, _, _, h, _ => by simp at h
  | [_], 0, _, _, _, h => by simp at h
  | [_], i + 1, _, _, h, _ => by
    rw [show 2 * (i + 1) = 2 * i + 1 + 1 by omega] at h
    simp at h
  | a :: b :: r, 0, x, y, h, h2 => by
    have e1 : a = x := by simpa using h
    have e2 : b = y := by simpa using h2
    subst e1 e2
    rfl
  | a :: b :: r, i + 1, x, y, h, h2 => by
    rw [show 2 * (i + 1) = 2 * i + 1 + 1 by omega] at h
    rw [show 2 * (i + 1) + 1 = 2 * i + 1 + 1 + 1 by omega] at h2
    exact pairs_get r (i := i) (by simpa using h) (by simpa using h2)
theorem pairs_append : ∀ (a b : List Int) {n : Nat}, a.length = 2 * n → pairs f (a ++ b) = pairs f a ++ pairs f b
  | [], b, _, _ => rfl
  | [_], _, n, h => by simp at h; omega
  | x :: y :: r, b, 0, h => by simp at h
  | x :: y :: r, b, n + 1, h => by
    have h2 : r.length = 2 * n := by simp at h; omega
    show f x y :: pairs f (r ++ b) = f x y :: pairs f r ++ pairs f b
    rw [pairs_append r b h2]
    rfl
theorem two_pow (k : Nat) : 2 ^ (k + 1) = 2 * 2 ^ k := by rw [Nat.pow_succ]; omega
theorem root_halves : ∀ (k : Nat) (a b : List Int), a.length = 2 ^ k → b.length = 2 ^ k → rootM f (k + 1) (a ++ b) = f (rootM f k a) (rootM f k b)
  | 0, a, b, ha, hb => by
    match a, b, ha, hb with
    | [x], [y], _, _ => rfl
  | k + 1, a, b, ha, hb => by
    rw [two_pow] at ha hb
    show rootM f (k + 1) (pairs f (a ++ b)) = f (rootM f k (pairs f a)) (rootM f k (pairs f b))
    rw [pairs_append a b ha]
    exact root_halves k _ _ (pairs_len a ha) (pairs_len b hb)
theorem path_left : ∀ (k : Nat) (a b : List Int) (p : Nat), a.length = 2 ^ k → b.length = 2 ^ k → p < 2 ^ k → pathM f (k + 1) (a ++ b) p = pathM f k a p ++ [rootM f k b]
  | 0, a, b, p, ha, hb, hp => by
    match a, b, ha, hb with
    | [x], [y], _, _ =>
      have e : p = 0 := by omega
      subst e
      rfl
  | k + 1, a, b, p, ha, hb, hp => by
    have hp2 : nb p < a.length := by
      rw [ha, two_pow]
      rw [two_pow] at hp
      unfold nb
      split <;> omega
    rw [two_pow] at ha hb hp
    show ((a ++ b)[nb p]?).getD 0 :: pathM f (k + 1) (pairs f (a ++ b)) (p / 2) = (a[nb p]?).getD 0 :: pathM f k (pairs f a) (p / 2) ++ [rootM f k (pairs f b)]
    rw [pairs_append a b ha, path_left k _ _ (p / 2) (pairs_len a ha) (pairs_len b hb) (by omega), List.getElem?_append_left hp2]
    rfl
theorem path_right : ∀ (k : Nat) (a b : List Int) (p : Nat), a.length = 2 ^ k → b.length = 2 ^ k → p < 2 ^ k → pathM f (k + 1) (a ++ b) (2 ^ k + p) = pathM f k b p ++ [rootM f k a]
  | 0, a, b, p, ha, hb, hp => by
    match a, b, ha, hb with
    | [x], [y], _, _ =>
      have e : p = 0 := by omega
      subst e
      rfl
  | k + 1, a, b, p, ha, hb, hp => by
    rw [two_pow] at ha hb hp ⊢
    have hn : nb (2 * 2 ^ k + p) = a.length + nb p := by
      rw [ha]
      unfold nb
      by_cases h : p % 2 = 0
      · rw [if_pos h, if_pos (by omega)]; omega
      · rw [if_neg h, if_neg (by omega)]; omega
    have hd : (2 * 2 ^ k + p) / 2 = 2 ^ k + p / 2 := by omega
    show ((a ++ b)[nb (2 * 2 ^ k + p)]?).getD 0 :: pathM f (k + 1) (pairs f (a ++ b)) ((2 * 2 ^ k + p) / 2) = (b[nb p]?).getD 0 :: pathM f k (pairs f b) (p / 2) ++ [rootM f k (pairs f a)]
    rw [pairs_append a b ha, hd, path_right k _ _ (p / 2) (pairs_len a ha) (pairs_len b hb) (by omega), hn, List.getElem?_append_right (Nat.le_add_right _ _), Nat.add_sub_cancel_left]
    rfl
theorem path_len : ∀ (k : Nat) (r : List Int) (p : Nat), (pathM f k r p).length = k
  | 0, _, _ => rfl
  | k + 1, r, p => by
    show (_ :: pathM f k _ _).length = _
    rw [List.length_cons, path_len k]
theorem levs_len : ∀ (k : Nat) (r : List Int), (levs f k r).length = k + 1
  | 0, _ => rfl
  | k + 1, r => by
    show (r :: levs f k (pairs f r)).length = _
    rw [List.length_cons, levs_len k]
/-- the root by its path -/
theorem rootBy_path : ∀ (k : Nat) (r : List Int) (p : Nat) (d : Int), r.length = 2 ^ k → r[p]? = some d → rootBy f p d (pathM f k r p) = rootM f k r
  | 0, r, p, d, hr, hd => by
    match r, hr with
    | [x], _ =>
      cases p with
      | zero =>
        have e : x = d := by simpa using hd
        subst e
        rfl
      | succ p => simp at hd
  | k + 1, r, p, d, hr, hd => by
    rw [two_pow] at hr
    have hp : p < 2 * 2 ^ k := by
      have := (List.getElem?_eq_some_iff.mp hd).1
      omega
    have hl : (pairs f r).length = 2 ^ k := pairs_len r hr
    show rootBy f (p / 2) (if p % 2 = 0 then f d ((r[nb p]?).getD 0) else f ((r[nb p]?).getD 0) d) (pathM f k (pairs f r) (p / 2)) = rootM f k (pairs f r)
    refine rootBy_path k _ (p / 2) _ hl ?_
    by_cases h : p % 2 = 0
    · have e : nb p = p + 1 := by unfold nb; rw [if_pos h]
      have hq : p + 1 < r.length := by omega
      rw [if_pos h, e, List.getElem?_eq_getElem hq]
      refine pairs_get r (i := p / 2) ?_ ?_
      · rw [show 2 * (p / 2) = p by omega]; exact hd
      · rw [show 2 * (p / 2) + 1 = p + 1 by omega, List.getElem?_eq_getElem hq]; rfl
    · have e : nb p = p - 1 := by unfold nb; rw [if_neg h]
      have hq : p - 1 < r.length := by omega
      rw [if_neg h, e, List.getElem?_eq_getElem hq]
      refine pairs_get r (i := p / 2) ?_ ?_
      · rw [show 2 * (p / 2) = p - 1 by omega, List.getElem?_eq_getElem hq]; rfl
      · rw [show 2 * (p / 2) + 1 = p by omega]; exact hd
end
end KM

set_option Elab.async false
set_option linter.all false
set_option maxRecDepth 100000
set_option maxHeartbeats 4000000
/-! A book's dicts: keys (kind, text), a text being a number or a tuple of numbers. -/
namespace Kit
open PySem PySem.Spec PyProof.Rows L2 Evl
inductive TK where
  | num (i : Int)
  | nums (is : List Int)
deriving DecidableEq
def TK.nk : TK → NestedKey
  | .num i => .num i
  | .nums is => .tup (is.map .num)
/-- the value x is the text t -/
def TVal (H : Hp) : TK → V → Prop
  | .num i, x => x = .int i
  | .nums is, x => ∃ a, x = .ref a ∧ H a = some (.tup (is.map V.int))
abbrev BK := Str × TK
def bk (k : BK) : NestedKey := .tup [.text k.1, k.2.nk]
def KeyAt (H : Hp) (k : BK) (b : Addr) : Prop := ∃ x, H b = some (.tup [.str k.1, x]) ∧ TVal H k.2 x
theorem nums_inj : ∀ {a b : List Int}, a.map NestedKey.num = b.map NestedKey.num → a = b
  | [], [], _ => rfl
  | [], _ :: _, e => by simp at e
  | _ :: _, [], e => by simp at e
  | x :: a, y :: b, e => by
    simp only [List.map_cons, List.cons.injEq, NestedKey.num.injEq] at e
    rw [e.1, nums_inj e.2]
theorem nk_inj {a b : TK} (e : a.nk = b.nk) : a = b := by
  cases a <;> cases b <;> simp only [TK.nk, NestedKey.num.injEq, NestedKey.tup.injEq, reduceCtorEq] at e
  · rw [e]
  · rw [nums_inj e]
theorem bk_inj {a b : BK} (e : bk a = bk b) : a = b := by
  obtain ⟨a1, a2⟩ := a
  obtain ⟨b1, b2⟩ := b
  simp only [bk, NestedKey.tup.injEq, List.cons.injEq, NestedKey.text.injEq, and_true] at e
  rw [e.1, nk_inj e.2]
theorem depth_nums : ∀ is : List Int, NestedKey.depthAll (is.map .num) = 0
  | [] => rfl
  | _ :: is => by rw [List.map_cons, NestedKey.depthAll, depth_nums is]; rfl
theorem bk_depth (k : BK) : (bk k).depth ≤ 8 := by
  obtain ⟨x, t⟩ := k
  cases t <;> simp [bk, TK.nk, NestedKey.depth, NestedKey.depthAll, depth_nums]
theorem nums_all {h : Heap} : ∀ {is : List Int} {us : List Value}, Vals (is.map V.int) us → NestedAll h (is.map .num) us
  | [], _, r => by cases r; exact .nil
  | i :: is, _, r => by
    rw [List.map_cons] at r
    cases r with
    | cons a t =>
      obtain ⟨z, rfl⟩ := (show ∃ z, _ = Value.int i z from a)
      exact .cons (.int i z) (nums_all t)
section
variable {P : Program} {w : World} {H H' : Hp} {h : Heap} {a b : Addr} {k : BK} {t : TK} {x : V} {u : Value}
theorem tval_is (ok : HOk P w H h) (r : RelV x u) (e : TVal H t x) : NestedIs h t.nk u := by
  cases t with
  | num i =>
    obtain rfl := e
    obtain ⟨z, rfl⟩ := (show ∃ z, u = Value.int i z from r)
    exact .int i z
  | nums is =>
    obtain ⟨c, rfl, e⟩ := e
    obtain rfl := (show u = Value.ref c from r)
    obtain ⟨_, its, rs, o, h1, h2, n, h3⟩ := (show ObjOk P w H h c (.tup _) from ok c _ e)
    exact .tup h1 h2 h3 (by rw [List.toList_toArray]; exact nums_all rs)
theorem key_is (ok : HOk P w H h) (e : KeyAt H k b) : (nestedKind P w).is h (bk k) b := by
  obtain ⟨x, e, t⟩ := e
  obtain ⟨_, its, rs, o, h1, h2, n, h3⟩ := (show ObjOk P w H h b (.tup _) from ok b _ e)
  refine ⟨.tup h1 h2 h3 ?_, bk_depth k⟩
  rw [List.toList_toArray]
  cases rs with
  | cons r1 r2 =>
    cases r2 with
    | cons r2 r3 =>
      cases r3
      obtain ⟨z, rfl⟩ := (show ∃ z, _ = Value.str k.1 z from r1)
      exact .cons (.text _ z) (.cons (tval_is ok r2 t) .nil)
theorem TVal.mono (m : ∀ c xs, H c = some (.tup xs) → H' c = some (.tup xs)) (e : TVal H t x) : TVal H' t x := by
  cases t with
  | num i => exact e
  | nums is => exact let ⟨c, e1, e2⟩ := e; ⟨c, e1, m _ _ e2⟩
theorem KeyAt.mono (m : ∀ c xs, H c = some (.tup xs) → H' c = some (.tup xs)) (e : KeyAt H k b) : KeyAt H' k b := let ⟨x, e1, e2⟩ := e; ⟨x, m _ _ e1, e2.mono m⟩
end
/-- the entries that stand in the dict, and what is told of them -/
def ERel (H : Hp) (p : BK × V) (q : NestedKey × Addr × Value) : Prop := q.1 = bk p.1 ∧ KeyAt H p.1 q.2.1 ∧ RelV p.2 q.2.2
abbrev Ents (H : Hp) := Paired (ERel H)
def bkPhi (P : Program) (w : World) (a : Addr) (xs : List (NestedKey × Addr × Value)) (h : Heap) : Prop :=
  xs.length ≤ sizeLine ∧ (a == sysModules) = false ∧ ∃ o es ep, h.get? a = some o ∧ o.ExactDict ∧ o.data = .dict es ep ∧ es.toList = xs.map (entryOfKey (nestedKind P w)) ∧ (xs.map (·.1)).Nodup
def bkO (P : Program) (w : World) (a : Addr) (xs : List (NestedKey × Addr × Value)) : HO := .ext (bkPhi P w a xs)
/-- at a: a book's dict -/
def BkAt (P : Program) (w : World) (H : Hp) (a : Addr) (kvs : List (BK × V)) : Prop := (kvs = [] ∧ H a = some (.dK [])) ∨ ∃ xs, H a = some (bkO P w a xs) ∧ Ents H kvs xs
section
variable {P : Program} {w : World} {H H' : Hp} {h : Heap} {a b : Addr} {k : BK} {kvs : List (BK × V)} {xs : List (NestedKey × Addr × Value)} {y : V} {u : Value}
theorem Ents.mono (m : ∀ c zs, H c = some (.tup zs) → H' c = some (.tup zs)) (r : Ents H kvs xs) : Ents H' kvs xs := Paired.mapP r fun _ _ z => ⟨z.1, z.2.1.mono m, z.2.2⟩
theorem BkAt.mono (e : BkAt P w H a kvs) (ha : ∀ o, H a = some o → H' a = some o) (m : ∀ c zs, H c = some (.tup zs) → H' c = some (.tup zs)) : BkAt P w H' a kvs := by
  rcases e with ⟨e1, e2⟩ | ⟨xs, e1, e2⟩
  · exact .inl ⟨e1, ha _ e2⟩
  · exact .inr ⟨xs, ha _ e1, Ents.mono m e2⟩
theorem BkAt.ex (e : BkAt P w H a kvs) (x : Ex H H') : BkAt P w H' a kvs := e.mono (fun o => x _ o) fun c zs => x c _
theorem Ents.find (r : Ents H kvs xs) (k : BK) : RelO (valV kvs k) ((atKey xs (bk k)).map (·.2)) := by
  induction r with
  | nil => exact True.intro
  | @cons p q ps qs z t ih =>
    obtain ⟨z1, _, z3⟩ := z
    by_cases e : p.1 = k
    · rw [valV_pos e, show atKey (q :: qs) (bk k) = some q.2 from by simp [atKey, List.find?_cons, z1, e]]
      exact z3
    · have e' : ¬ q.1 = bk k := fun c => e (bk_inj (z1.symm.trans c))
      rw [valV_neg e, show atKey (q :: qs) (bk k) = atKey qs (bk k) from by simp [atKey, List.find?_cons, e']]
      exact ih
theorem Ents.store (r : Ents H kvs xs) (hb : KeyAt H k b) (ry : RelV y u) : Ents H (putK kvs k y) (storedH xs (bk k) b u) := by
  have same : (kvs.any fun kv => decide (kv.1 = k)) = (atKey xs (bk k)).isSome := by rw [valV_any, (r.find k).isSome_eq, Option.isSome_map]
  unfold putK storedH
  rw [same]
  cases (atKey xs (bk k)).isSome with
  | false => exact Paired.snoc r ⟨rfl, hb, ry⟩
  | true =>
    show Ents H (kvs.map _) (xs.map _)
    clear same
    induction r with
    | nil => exact .nil
    | @cons p q ps qs z t ih =>
      refine .cons ?_ ih
      obtain ⟨z1, z2, z3⟩ := z
      unfold putAt
      show ERel H (if p.1 = k then (p.1, y) else p) _
      by_cases e : p.1 = k
      · rw [if_pos e, if_pos (z1.trans (congrArg bk e))]
        exact ⟨z1, z2, ry⟩
      · rw [if_neg e, if_neg fun c => e (bk_inj (z1.symm.trans c))]
        exact ⟨z1, z2, z3⟩
theorem ents_is (ok : HOk P w H h) : ∀ {kvs : List (BK × V)} {xs : List (NestedKey × Addr × Value)}, Ents H kvs xs → ∀ x ∈ xs, (nestedKind P w).is h x.1 x.2.1
  | _, _, .nil => fun _ m => nomatch m
  | _, _, .cons z t => fun x m => by
    rcases List.mem_cons.mp m with rfl | m
    · rw [z.1]
      exact key_is ok z.2.1
    · exact ents_is ok t x m
theorem bk_of (ok : HOk P w H h) (e : BkAt P w H a kvs) : kvs.length ≤ sizeLine ∧ (a == sysModules) = false ∧ ∃ xs, Ents H kvs xs ∧ h.DictOfH (nestedKind P w) a xs := by
  rcases e with ⟨rfl, e⟩ | ⟨xs, e, r⟩
  · obtain ⟨z, hd, vs, rel, o, es, ep, h1, h2, h3, _, h5, _⟩ := dk_of ok e
    cases rel
    refine ⟨z, hd, [], .nil, o, es, ep, h1, h2, h3, ?_, fun _ m => (nomatch m), List.nodup_nil⟩
    cases hes : es.toList with
    | nil => rfl
    | cons _ _ => rw [hes] at h5; cases h5
  · obtain ⟨z, hd, o, es, ep, h1, h2, h3, h4, h5⟩ := (show ObjOk P w H h a (.ext (bkPhi P w a xs)) from ok a _ e).1
    exact ⟨by rw [Paired.length r]; exact z, hd, xs, r, o, es, ep, h1, h2, h3, h4, ents_is ok r, h5⟩
theorem bk_mut (e : BkAt P w H a kvs) : Mut (H a) := by
  rcases e with ⟨_, e⟩ | ⟨_, e, _⟩ <;> (rw [e]; exact True.intro)
theorem bk_no (e : BkAt P w H a kvs) {c : Addr} {zs : List V} (hc : H c = some (.tup zs)) : c ≠ a := by
  rintro rfl
  rcases e with ⟨_, e⟩ | ⟨_, e, _⟩ <;> (rw [hc] at e; cases e)
theorem bk_new (z : xs.length ≤ sizeLine) (hd : (a == sysModules) = false) (dd : h.DictOfH (nestedKind P w) a xs) : ObjOk P w H h a (bkO P w a xs) := by
  obtain ⟨o, es, ep, h1, h2, h3, h4, _, h5⟩ := dd
  exact ⟨⟨z, hd, o, es, ep, h1, h2, h3, h4, h5⟩, ⟨o, h1⟩, fun g1 g2 q m => let ⟨q1, q2, o', es', ep', p1, p2⟩ := q; ⟨q1, q2, o', es', ep', m _ p1, p2⟩⟩
theorem bk_put (e : BkAt P w H a kvs) (r : Ents H kvs xs) (hb : KeyAt H k b) (ry : RelV y u) : BkAt P w (upd H a (bkO P w a (storedH xs (bk k) b u))) a (putK kvs k y) :=
  .inr ⟨_, upd_same, Ents.mono (fun c zs hc => by rw [upd_ne (bk_no e hc)]; exact hc) (r.store hb ry)⟩
theorem storedH_len {κ : Type} [DecidableEq κ] (xs : List (κ × Addr × Value)) (q : κ) (b : Addr) (u : Value) : (storedH xs q b u).length ≤ xs.length + 1 := by
  unfold storedH
  split <;> simp
theorem room8 {A : Around} (hu : A.units + 64 < cLine) : (nestedKind P w).room A.in1 := by
  show A.units + 1 + 8 < cLine
  omega
end
section
variable {X : Cx} {pins : List (Addr × Obj)} {σ : St} {H : Hp} {s : Shared} {a b : Addr} {y : V} {r : Value} {k : BK} {kvs : List (BK × V)} {A : Around} {E : Value → Shared → Prop}
theorem bk_write {h' : Heap} {t' : Nat} {xs : List (NestedKey × Addr × Value)} {u : Value} (I : Inv X pins σ H s) (e : BkAt X.prog X.w H a kvs) (hs : Heap.SameBut a s.heap h') (hd : (a == sysModules) = false) (hl : xs.length < sizeLine)
    (dd : h'.DictOfH (nestedKind X.prog X.w) a (storedH xs (bk k) b u)) : Inv X pins σ (upd H a (bkO X.prog X.w a (storedH xs (bk k) b u))) { s with heap := h', toks := t' } := by
  have there : ∃ q, h'.get? a = some q := let ⟨q, _, _, hq, _⟩ := dd; ⟨q, hq⟩
  exact d_write I (bk_mut e) hs there (bk_new (Nat.le_trans (storedH_len ..) hl) hd dd)
theorem bk_setItem {Q : Unit → Shared → Prop} (hu : A.units + 64 < cLine) (I : Inv X pins σ H s) (e : BkAt X.prog X.w H a kvs) (hb : KeyAt H k b) (hl : kvs.length < sizeLine) (ry : RelV y r)
    (q : ∀ H' s', ExBut a H H' → BkAt X.prog X.w H' a (putK kvs k y) → Inv X pins σ H' s' → Q () s') : wpAny (model X.prog X.w) A (setItem (.ref a) (.ref b) r) Q E s := by
  obtain ⟨z, hd, xs, rel, dd⟩ := bk_of I.hok e
  have hx : xs.length < sizeLine := by rw [← Paired.length rel]; exact hl
  exact wpAny_setItem_heap (hsz := Nat.le_of_lt hx) (room8 hu) (key_is I.hok hb) dd fun h' dd' hs => q _ _ (ExBut.upd (ExBut.refl a H)) (bk_put e rel hb ry) (bk_write I e hs hd hx dd')
theorem bk_setd {Q : Value → Shared → Prop} (hu : A.units + 64 < cLine) (I : Inv X pins σ H s) (e : BkAt X.prog X.w H a kvs) (hb : KeyAt H k b) (hl : kvs.length < sizeLine) (ry : RelV y r)
    (q1 : ∀ v, valV kvs k = some v → ∀ v' s', RelV v v' → Inv X pins σ H s' → Q v' s')
    (q2 : valV kvs k = none → ∀ H' s', ExBut a H H' → BkAt X.prog X.w H' a (putK kvs k y) → Inv X pins σ H' s' → Q r s') : wpAny (model X.prog X.w) A (call (.builtin "dict.setdefault") [.ref a, .ref b, r]) Q E s := by
  obtain ⟨z, hd, xs, rel, dd⟩ := bk_of I.hok e
  have hx : xs.length < sizeLine := by rw [← Paired.length rel]; exact hl
  have f := rel.find k
  refine call_setdefault_heap (hsz := Nat.le_of_lt hx) (room8 hu) (key_is I.hok hb) hd dd (fun p hp => ?_) fun hn h' dd' hs => ?_
  · rw [hp] at f
    cases hv : valV kvs k with
    | none => rw [hv] at f; exact (show False from f).elim
    | some v => rw [hv] at f; exact q1 v hv _ _ f (I.tok _)
  · rw [hn] at f
    cases hv : valV kvs k with
    | some v => rw [hv] at f; exact (show False from f).elim
    | none => exact q2 hv _ _ (ExBut.upd (ExBut.refl a H)) (bk_put e rel hb ry) (bk_write I e hs hd hx dd')
end
/-! ### the rules -/
def BkIn (P : Program) (w : World) (x : V) (H : Hp) (R : Addr → Prop) : Prop := ∃ a, x = .ref a ∧ (∃ kvs, BkAt P w H a kvs) ∧ R a
def BkPut (P : Program) (w : World) (a : Addr) (y v : V) (H : Hp) (W : Hp → Prop) : Prop := ∃ kvs k b, BkAt P w H a kvs ∧ y = .ref b ∧ KeyAt H k b ∧ kvs.length < sizeLine ∧ ∀ H', ExBut a H H' → BkAt P w H' a (putK kvs k v) → W H'
def BkSetd (P : Program) (w : World) (a : Addr) (y v : V) (H : Hp) (Q : VK) : Prop := ∃ kvs k b, BkAt P w H a kvs ∧ y = .ref b ∧ KeyAt H k b ∧ kvs.length < sizeLine ∧ (∀ u, valV kvs k = some u → Q u H) ∧ (valV kvs k = none → ∀ H', ExBut a H H' → BkAt P w H' a (putK kvs k v) → Q v H')
def sBkPut (P : Program) (w : World) (td ty tv : TE) : TS := fun D σ H => tv σ H fun v H1 => td σ H1 fun x H2 => ty σ H2 fun y H3 => ∃ a, x = .ref a ∧ BkPut P w a y v H3 (D.nx σ)
def tBkSetd (P : Program) (w : World) (td ty tx : TE) : TE := fun σ H Q => td σ H fun x H1 => BkIn P w x H1 fun a => ty σ H1 fun y H2 => tx σ H2 fun z H3 => BkSetd P w a y z H3 Q
def rLenB (P : Program) (w : World) : List V → Hp → VK → Prop := fun xs H Q => ∃ p kvs, xs = [.ref p] ∧ BkAt P w H p kvs ∧ Q (.int (kvs.length : Int)) H
section
variable {X : Cx} {o i f value : Expr} {td ty tv tx : TE} {pos pos' : Pos}
theorem bkPut' (hu : X.A.units + 64 < cLine) (ho : PE X o td) (hi : PE X i ty) (hv : PE X value tv) (hs : swapsWith value (some (.Subscript o i pos')) pos.line X.env = pure false) : PS X (.Assign [.Subscript o i pos'] value pos) (sBkPut X.prog X.w td ty tv) := by
  constructor
  intro pins s σ H D I h
  refine wpAny_Assign_Subscript ?_ hs
  refine thn (hv.run pins s σ H _ I h) fun r s1 z1 => ?_
  obtain ⟨v, H1, I1, rv, z1⟩ := z1
  refine thn (ho.run pins s1 σ H1 _ I1 z1) fun u s2 z2 => ?_
  obtain ⟨x, H2, I2, rx, z2⟩ := z2
  refine thn (hi.run pins s2 σ H2 _ I2 z2) fun iv s3 z3 => ?_
  obtain ⟨y, H3, I3, ry, a, rfl, kvs, k, b, e, rfl, hb, hl, q⟩ := z3
  obtain rfl := (show u = Value.ref a from rx)
  obtain rfl := (show iv = Value.ref b from ry)
  exact bk_setItem hu I3 e hb hl rv fun H4 s4 m e4 I4 => ⟨σ, H4, I4, q H4 m e4⟩
theorem bkSetd' {apos cpos : Pos} (hu : X.A.units + 64 < cLine) (ho : PE X o td) (hi : PE X i ty) (hf : PE X f tx) (m : M2 X o "setdefault" apos i f cpos) : PE X (.Call (.Attribute o "setdefault" apos) [i, f] [] cpos) (tBkSetd X.prog X.w td ty tx) := by
  constructor
  intro pins s σ H Q I h
  refine wpAny_Call_method m.base m.few m.line PySem.F.plainAttrs_dict PySem.F.slot_dict_setdefault PySem.F.type_dict_setdefault ?_
  refine thn (ho.run pins s σ H _ I h) fun u s1 z1 => ?_
  obtain ⟨x, H1, I1, rx, a, rfl, ⟨kv1, e1⟩, z1⟩ := z1
  obtain rfl := (show u = Value.ref a from rx)
  obtain ⟨_, _, xs, _, dd⟩ := bk_of I1.hok e1
  refine ⟨dd.typeIs, fun c hc => ?_, ?_⟩
  · cases hc
    obtain ⟨ob, _, _, g1, g2, _⟩ := dd
    exact ⟨ob, g1, g2.2.1⟩
  · rw [m.trees]
    refine Calls.callWith_builtin rfl (Calls.evalArgs_plain (Calls.spliced_cons ?_))
    refine thn (hi.run pins s1 σ H1 _ I1 z1) fun iv s2 z2 => ?_
    obtain ⟨y, H2, I2, ry, z2⟩ := z2
    refine Calls.spliced_cons (thn (hf.run pins s2 σ H2 _ I2 z2) fun fv s3 z3 => ?_)
    obtain ⟨z, H3, I3, rz, kvs, k, b, e, rfl, hb, hl, q1, q2⟩ := z3
    obtain rfl := (show iv = Value.ref b from ry)
    exact Calls.spliced_nil (bk_setd hu I3 e hb hl rz (fun v hv v' s4 r4 I4 => ⟨v, H3, I4, r4, q1 v hv⟩) fun hn H4 s4 m4 e4 I4 => ⟨z, H4, I4, rz, q2 hn H4 m4 e4⟩)
theorem bkLen' : CallR X (.builtin "len") (rLenB X.prog X.w) := by
  intro pins s σ H xs us Q I r h
  obtain ⟨p, kvs, rfl, e, q⟩ := h
  obtain ⟨u, rfl, rx⟩ := vals1 r
  obtain rfl := (show u = Value.ref p from rx)
  obtain ⟨z, hd, ys, rel, dd⟩ := bk_of I.hok e
  have hl := Paired.length rel
  rw [hl] at z q
  exact call_len_dictH hd dd (by rw [sizeLine_eq] at z; omega) ⟨.int ys.length, H, I.tok _, ⟨_, rfl⟩, q⟩
variable (P : Program) (w : World)
theorem bkPut (hu : X.A.units + 64 < cLine) (ho : PE X o td) (hi : PE X i ty) (hv : PE X value tv) (hs : swapsWith value (some (.Subscript o i pos')) pos.line X.env = pure false) (h1 : X.prog = P := by rfl) (h2 : X.w = w := by rfl) :
    PS X (.Assign [.Subscript o i pos'] value pos) (sBkPut P w td ty tv) := h1 ▸ h2 ▸ bkPut' hu ho hi hv hs
theorem bkSetd {apos cpos : Pos} (hu : X.A.units + 64 < cLine) (ho : PE X o td) (hi : PE X i ty) (hf : PE X f tx) (m : M2 X o "setdefault" apos i f cpos) (h1 : X.prog = P := by rfl) (h2 : X.w = w := by rfl) :
    PE X (.Call (.Attribute o "setdefault" apos) [i, f] [] cpos) (tBkSetd P w td ty tx) := h1 ▸ h2 ▸ bkSetd' hu ho hi hf m
theorem bkLen (h1 : X.prog = P := by rfl) (h2 : X.w = w := by rfl) : CallR X (.builtin "len") (rLenB P w) := h1 ▸ h2 ▸ bkLen'
end
end Kit

namespace Kit
open PySem PySem.Spec PyProof.Rows L2 Evl
/-! ### == of texts, rows of texts -/
def TK.data : TK → PyData
  | .num i => .int i
  | .nums is => .tuple ((is.map V.int).map flatD)
section
variable {H H' : Hp} {K : PySem.W.Frag} {t t' : TK} {x y : V} {Q : VK}
theorem TVal.dp (e : TVal H t x) : Dp K H x t.data := by
  cases t with
  | num i => exact (show x = V.int i from e) ▸ Dp.int i
  | nums is => exact let ⟨a, e1, e2⟩ := e; e1 ▸ dp_tup (st_of e2) (fln_fl (ints_fln is))
theorem TK.lay (t : TK) : t.data.canLay0 = true ∧ PyData.depth t.data ≤ 1 := by
  cases t with
  | num i => exact ⟨rfl, Nat.zero_le _⟩
  | nums is =>
    obtain ⟨h1, h2⟩ := flats_ok (ints_fln is)
    exact ⟨h1, by show PyData.depthAll _ + 1 ≤ 1; rw [h2]; exact Nat.le_refl 1⟩
theorem TK.shaped (t : TK) : SeqAt.shaped t.data = true := by
  unfold SeqAt.shaped
  rw [t.lay.1, decide_eq_true (Nat.le_trans t.lay.2 (by decide))]
  rfl
theorem TK.eqv (t t' : TK) : PyData.eqv t.data t'.data = decide (t = t') := by
  cases t <;> cases t'
  · rename_i i j
    by_cases h : i = j
    · subst h; simp [TK.data, PyData.eqv]
    · simp [TK.data, PyData.eqv, h]
  · simp [TK.data, PyData.eqv]
  · simp [TK.data, PyData.eqv]
  · rename_i a b
    show PyData.eqvAll _ _ = _
    rw [eqvAll_ints]
    by_cases h : a = b
    · subst h; simp
    · simp [h]
theorem w_neTV (h1 : TVal H t x) (h2 : TVal H t' y) (q : Q (.bl (!decide (t = t'))) H) : rNeD K x y H Q := w_neD h1.dp h2.dp t.shaped t'.shaped (by rw [TK.eqv]; exact q)
theorem w_eqTV (h1 : TVal H t x) (h2 : TVal H t' y) (q : Q (.bl (decide (t = t'))) H) : rEqD K x y H Q := w_eqD h1.dp h2.dp t.shaped t'.shaped (by rw [TK.eqv]; exact q)
end
abbrev Rw := Str × TK × Int
def Rw.data (r : Rw) : PyData := .tuple [.str r.1, r.2.1.data, .int r.2.2]
/-- the value v is the row r -/
def RowAt (H : Hp) (r : Rw) (v : V) : Prop := ∃ a x, v = .ref a ∧ H a = some (.tup [.str r.1, x, .int r.2.2]) ∧ TVal H r.2.1 x
section
variable {H H' : Hp} {K : PySem.W.Frag} {r r' : Rw} {v x y : V} {Q : VK} {rs : List Rw} {vs : List V}
theorem RowAt.mono (m : ∀ c xs, H c = some (.tup xs) → H' c = some (.tup xs)) (e : RowAt H r v) : RowAt H' r v := let ⟨a, x, e1, e2, e3⟩ := e; ⟨a, x, e1, m _ _ e2, e3.mono m⟩
theorem RowAt.dp (e : RowAt H r v) : Dp K H v r.data := by
  obtain ⟨a, x, rfl, e, t⟩ := e
  exact .tup (st_of e) (.cons (.str _) (.cons t.dp (.cons (.int _) .nil)))
theorem rows_dp (h : Paired (RowAt H) rs vs) : DpAll K H vs (rs.map Rw.data) := by
  induction h with
  | nil => exact .nil
  | cons a _ ih => exact .cons a.dp ih
theorem Rw.lay (ok : PyData.strOk r.1 = true) : r.data.canLay0 = true ∧ PyData.depth r.data ≤ 2 := by
  have l := r.2.1.lay
  refine ⟨?_, ?_⟩
  · simp [Rw.data, PyData.canLay0, PyData.canLayAll0, ok, l.1]
  · have l2 := l.2
    simp only [Rw.data, PyData.depth, PyData.depthAll]
    omega
theorem Rw.shaped (ok : PyData.strOk r.1 = true) : SeqAt.shaped r.data = true := by
  have l := Rw.lay ok
  unfold SeqAt.shaped
  rw [l.1, decide_eq_true (Nat.le_trans l.2 (by decide))]
  rfl
theorem rows_lay : ∀ {rs : List Rw}, (∀ r ∈ rs, PyData.strOk r.1 = true) → PyData.canLayAll0 (rs.map Rw.data) = true ∧ PyData.depthAll (rs.map Rw.data) ≤ 2
  | [], _ => ⟨rfl, Nat.zero_le _⟩
  | r :: rs, ok => by
    have l := Rw.lay (ok r (List.mem_cons_self ..))
    have m := rows_lay fun r h => ok r (List.mem_cons_of_mem _ h)
    rw [List.map_cons, PyData.canLayAll0, PyData.depthAll, l.1, m.1]
    exact ⟨rfl, Nat.max_le.mpr ⟨l.2, m.2⟩⟩
theorem rows_shaped (ok : ∀ r ∈ rs, PyData.strOk r.1 = true) : SeqAt.shaped (.list (rs.map Rw.data)) = true := by
  have l := rows_lay ok
  unfold SeqAt.shaped
  rw [show (PyData.list (rs.map Rw.data)).canLay0 = true from l.1, show PyData.depth (PyData.list (rs.map Rw.data)) = PyData.depthAll (rs.map Rw.data) + 1 from rfl, decide_eq_true (Nat.le_trans (Nat.succ_le_succ l.2) (by decide))]
  rfl
theorem Rw.eqv (r r' : Rw) : PyData.eqv r.data r'.data = decide (r = r') := by
  obtain ⟨k, t, d⟩ := r
  obtain ⟨k', t', d'⟩ := r'
  simp only [Rw.data, PyData.eqv, PyData.eqvAll, TK.eqv, Bool.and_true]
  rw [Bool.eq_iff_iff]
  simp [Prod.ext_iff]
theorem w_notInRows {p : Addr} (hv : RowAt H r v) (hp : SqL K H p vs) (hr : Paired (RowAt H) rs vs) (ok1 : PyData.strOk r.1 = true) (ok : ∀ r ∈ rs, PyData.strOk r.1 = true) (q : Q (.bl (!decide (r ∈ rs))) H) : rNotInD K v (.ref p) H Q := by
  refine ⟨r.data, rs.map Rw.data, hv.dp, .lst hp (rows_dp hr), Rw.shaped ok1, rows_shaped ok, ?_⟩
  have e : ((rs.map Rw.data).any fun z => PyData.eqv z r.data) = decide (r ∈ rs) := by
    rw [List.any_map, Bool.eq_iff_iff, List.any_eq_true, decide_eq_true_iff]
    constructor
    · rintro ⟨z, hz, e⟩
      rw [Function.comp_apply, Rw.eqv, decide_eq_true_iff] at e
      exact e ▸ hz
    · exact fun h => ⟨r, h, by rw [Function.comp_apply, Rw.eqv, decide_eq_true rfl]⟩
  rw [e]
  exact q
end
section
variable (K : PySem.W.Frag) {X : Cx}
theorem kNotInD (hu : X.A.units + 65 < cLine) (h : X.K = K := by rfl) : OpR X (compareOp .NotIn) (rNotInD K) := h ▸ op_notInD hu
end
theorem units65 {k : Nat} {A : Around} (hr : Room k A) : A.units + 65 < cLine := by have := hr.un; omega
theorem w_dnew {σ : St} {H : Hp} {Q : VK} (q : ∀ p H2, H p = none → Ex H H2 → H2 p = some (.dK []) → Q (.ref p) H2) : tDNewK σ H Q := fun p hp => q p _ hp (Ex.new hp) upd_same
theorem m_bkPut {P : Program} {w : World} {td ty tv : TE} {nx : St → Hp → Prop} {rt : VK} {bk ct : St → Hp → Prop} {σ : St} {H : Hp} (h : tv σ H fun v H1 => td σ H1 fun x H2 => ty σ H2 fun y H3 => ∃ a, x = .ref a ∧ BkPut P w a y v H3 (nx σ)) :
    Sm (sBkPut P w td ty tv) nx rt bk ct σ H := h
theorem w_bkSetd {P : Program} {w : World} {td ty tx : TE} {σ : St} {H : Hp} {Q : VK} (h : td σ H fun x H1 => BkIn P w x H1 fun a => ty σ H1 fun y H2 => tx σ H2 fun z H3 => BkSetd P w a y z H3 Q) : tBkSetd P w td ty tx σ H Q := h
/-! ### what a call on a book keeps: all but the book and dicts -/
def mutB : HO → Bool
  | .dK _ | .dT _ | .ext _ => true
  | _ => false
def KeepB (p : Addr) (H H' : Hp) : Prop := ∀ b o, b ≠ p → H b = some o → mutB o = false → H' b = some o
section
variable {p d : Addr} {H H1 H2 : Hp} {P : Program} {w : World} {K : PySem.W.Frag} {xs : List V}
theorem KeepB.of (e : Ex H H1) : KeepB p H H1 := fun b o _ h _ => e b o h
theorem KeepB.but (e : ExBut p H H1) : KeepB p H H1 := fun b o n h _ => e b o n h
theorem KeepB.trans (a : KeepB p H H1) (b : KeepB p H1 H2) : KeepB p H H2 := fun c o n h m => b c o n (a c o n h m) m
theorem bk_is {kvs : List (BK × V)} (e : BkAt P w H d kvs) : ∃ o, H d = some o ∧ mutB o = true := by
  rcases e with ⟨_, e⟩ | ⟨_, e, _⟩ <;> exact ⟨_, e, rfl⟩
theorem KeepB.dict {kvs : List (BK × V)} (e : BkAt P w H d kvs) (m : ExBut d H H1) : KeepB p H H1 := fun b o _ h z => by
  refine m b o ?_ h
  rintro rfl
  obtain ⟨o', e1, e2⟩ := bk_is e
  rw [h] at e1
  cases e1
  rw [z] at e2
  cases e2
theorem KeepB.tup {C dx : Addr} {fs : List (Str × V)} (k : KeepB p H H1) (hp : H p = some (.ins C dx fs)) (c : Addr) (zs : List V) (h : H c = some (.tup zs)) : H1 c = some (.tup zs) :=
  k c _ (by rintro rfl; rw [hp] at h; cases h) h rfl
theorem KeepB.lst {C dx : Addr} {fs : List (Str × V)} (k : KeepB p H H1) (hp : H p = some (.ins C dx fs)) (c : Addr) (zs : List V) (h : H c = some (.lst zs)) : H1 c = some (.lst zs) :=
  k c _ (by rintro rfl; rw [hp] at h; cases h) h rfl
theorem KeepB.sqL {C dx : Addr} {fs : List (Str × V)} (k : KeepB p H H1) (hp : H p = some (.ins C dx fs)) {c : Addr} (h : SqL K H c xs) : SqL K H1 c xs := by
  rcases h with (h | ⟨o, h⟩) | h
  · exact .inl (.inl (k.lst hp c _ h))
  · exact .inl (.inr ⟨o, k c _ (by rintro rfl; rw [hp] at h; cases h) h rfl⟩)
  · exact .inr h
end
end Kit

namespace Kit
open PySem PySem.Spec PyProof.Rows L2 Evl
theorem paired_get {α β : Type} {F : α → β → Prop} {l : List α} {m : List β} (h : Paired F l m) : ∀ {i : Nat} {v : β}, m[i]? = some v → ∃ r, l[i]? = some r ∧ F r v := by
  induction h with
  | nil => intro i v h; simp at h
  | cons a t ih =>
    intro i v h
    cases i with
    | zero =>
      rw [List.getElem?_cons_zero] at h
      exact ⟨_, rfl, Option.some.inj h ▸ a⟩
    | succ i =>
      rw [List.getElem?_cons_succ] at h
      exact ih h
/-- [x for x in xs if ..], the test leaving the heap -/
theorem l_filter {K : PySem.W.Frag} {a : Addr} {xs : List V} {vs : List Nat} {σ : St} {j : Nat} {tt : TT} {te : TE} {H : Hp} {Q : VK} (hx : SqL K H a xs) (hn : xs.length ≤ 40000) (hw : ∀ v, wipe ((wipe σ vs).set j (some v)) vs = wipe σ vs) (b : Nat → Bool)
    (ht : ∀ i x H', xs[i]? = some x → Ex H H' → ∀ R : Bool → Hp → Prop, R (b i) H' → tt ((wipe σ vs).set j (some x)) H' R) (he : ∀ x H' (R : VK), R x H' → te ((wipe σ vs).set j (some x)) H' R)
    (q : ∀ p H2 ys, H p = none → Ex H H2 → H2 p = some (.lst ys) → (∀ y ∈ ys, ∃ i, xs[i]? = some y ∧ b i = true) → (ys = [] → ∀ i, i < xs.length → b i = false) → ys.length ≤ xs.length → Q (.ref p) H2) :
    ∃ c, V.ref a = .ref c ∧ (∃ ys, SqL K H c ys) ∧ Lcj (Itl K c) (gName j) tt te vs σ H Q := by
  refine ⟨a, rfl, ⟨xs, hx⟩, l_any walks_list hn hw (fun D i acc H' => H D = none ∧ Ex H H' ∧ (∀ y ∈ acc, ∃ k, xs[k]? = some y ∧ b k = true) ∧ (acc = [] → ∀ k, k < i → b k = false)) (fun D i acc H' h => ex_l h.2.1 hx) (fun D hD => ⟨hD, Ex.new hD, fun y h => (nomatch h), fun _ k h => (nomatch h)⟩) ?_ ?_⟩
  · intro D i acc H' hD hi ha hd ⟨_, e, h1, h2⟩ R r1 r2
    have z : xs[i]? = some xs[i] := List.getElem?_eq_getElem hi
    show tt ((wipe σ vs).set j (some ((xs[i]?).getD .non))) H' R
    rw [z]
    refine ht i xs[i] H' z e R ?_
    cases hb : b i with
    | false =>
      refine r1 H' hd ⟨hD, e, h1, fun hz k hk => ?_⟩
      by_cases h : k < i
      · exact h2 hz k h
      · rw [show k = i from by omega]; exact hb
    | true =>
      refine r2 H' fun R2 r => ?_
      show te ((wipe σ vs).set j (some ((xs[i]?).getD .non))) H' R2
      rw [z]
      refine he xs[i] H' R2 (r xs[i] H' hd ⟨hD, ExBut.ex e hD (ExBut.upd (ExBut.refl D H')), fun y hy => ?_, fun hz => by simp at hz⟩)
      rcases List.mem_append.mp hy with hy | hy
      · exact h1 y hy
      · rw [List.mem_singleton.mp hy]
        exact ⟨i, z, hb⟩
  · intro D acc H2 hD hl hd ⟨_, e, h1, h2⟩
    exact q D H2 acc hD e hd h1 h2 hl
end Kit

namespace Kit
open PySem PySem.Spec PyProof.Rows L2 Evl
/-- a statement, then the rest, with what stands between them said -/
theorem m_cutN {a b : TS} {nx bk ct : St → Hp → Prop} {rt : VK} {σ : St} {H : Hp} (M : St → Hp → Prop) (k : ∀ N : St → Hp → Prop, (∀ σ H, M σ H → N σ H) → Sm a N rt bk ct σ H) (h : ∀ σ H, M σ H → Sm b nx rt bk ct σ H) : Sm (tSeq a b) nx rt bk ct σ H := k _ h
end Kit

namespace Kit
open PySem PySem.Spec PyProof.Rows L2 Evl
section
variable {σ : St} {H : Hp} {Q : VK} {ta tb tc : TE} {r r' : R2} {a b : Bool}
theorem w_chain (h : ta σ H fun x H1 => tb σ H1 fun y H2 => r x y H2 fun z H3 => ∃ k, z = .bl k ∧ (if k = true then tc σ H3 fun w' H4 => r' y w' H4 Q else Q (.bl false) H3)) : tChain r r' ta tb tc σ H Q := h
theorem w_isB (q : Q (.bl (decide (a = b))) H) : rIsB (.bl a) (.bl b) H Q := ⟨a, b, rfl, rfl, q⟩
theorem w_notB (q : Q (.bl (!decide (a = b))) H) : rNotB (.bl a) (.bl b) H Q := ⟨a, b, rfl, rfl, q⟩
end
theorem foldl_take {α β : Type} {f : β → α → β} {l : List α} {i : Nat} {x : α} {b : β} (h : l[i]? = some x) : (l.take (i + 1)).foldl f b = f ((l.take i).foldl f b) x := by
  rw [List.take_succ, h, List.foldl_append]
  rfl
end Kit

set_option Elab.async false
set_option linter.all false
set_option maxRecDepth 100000
set_option maxHeartbeats 4000000
/-! errors of the program's own, without an __init__, two below ValueError -/
namespace Kit
open PySem PySem.Spec PyProof.Rows L2 Evl
structure ExT (K : PySem.W.Frag) (mg : Str → Option Value) (x : Str) where
  C : Addr
  g : mg x = some (.ref C)
  x : PySem.W.excIn K C [.type "ValueError", .type "Exception", .type "BaseException", .type "object"] "ValueError.__new__" = true
  k : PySem.W.keepIn K (.ref C) = true
  b : PySem.W.subIn K (.ref C) (.type "BaseException") = some true
  t : PySem.W.typeIn K (.ref C) = some (.type "type")
  e : PySem.W.exmOne K (.ref C) (.ref C) = some true
/-- a class names its own errors -/
theorem exm_own {K : PySem.W.Frag} {S : Addr} (hB : PySem.W.subIn K (.ref S) (.type "BaseException") = some true) (hC : PySem.W.isClsIn K S = true) (hT : PySem.W.typeIn K (.ref S) = some (.type "type")) (hS : PySem.W.subIn K (.ref S) (.ref S) = some true) : PySem.W.exmOne K (.ref S) (.ref S) = some true := by
  have hC' : (PySem.W.clsIn K S).isSome = true := hC
  unfold PySem.W.exmOne PySem.W.kitCls
  simp [hB, hC', hT, hS]
theorem ext_mk {K : PySem.W.Frag} {mg : Str → Option Value} {x : Str} {C : Addr} (g : mg x = some (.ref C)) (hx : PySem.W.excIn K C [.type "ValueError", .type "Exception", .type "BaseException", .type "object"] "ValueError.__new__" = true) (k : PySem.W.keepIn K (.ref C) = true)
    (hB : PySem.W.subIn K (.ref C) (.type "BaseException") = some true) (hT : PySem.W.typeIn K (.ref C) = some (.type "type")) (hC : PySem.W.isClsIn K C = true) (hS : PySem.W.subIn K (.ref C) (.ref C) = some true) : ∃ T : ExT K mg x, T.C = C := ⟨⟨C, g, hx, k, hB, hT, exm_own hB hC hT hS⟩, rfl⟩
def tRs (E : XK) (cls : Value) : TS := fun _ _ H => E cls none H
section
variable {X : Cx} {x : Str} {p pos pos2 : Pos}
/-- x() -/
theorem pmk_own0 {mg : Str → Option Value} {K : PySem.W.Frag} (T : ExT K mg x) (hK : X.K = K) (hm : X.mg = mg) (hg : Gl X x) (hdb : (x == ("__debug__" : Str)) = false := by decide) : PMk X (.Call (.Name x p) [] [] pos) (fun _ H Q => Q (.ref T.C) none H) := by
  subst hK
  subst hm
  intro pins s σ H Q I h
  refine wpAny_Call_Name_kw (ld_glob I hg T.g ?_ hdb)
  refine PySem.W.callWith_K0 I.kIn T.k ?_
  obtain ⟨bm, N, nm, qn, bs, hdct, sn, sub, ab, col, dd, k0, k1, k2, k3, k5, mN, hC, hN, hni, tail⟩ := exc_obj I.kIn T.x
  refine wpAny_call_exc_subT PySem.F.excBase_ValueError tail hC hN hni (fun h' e hm => ?_) (Nat.zero_le _)
  exact mk_of I hm (raises_own T.b T.t) h (I.hok.gone hm.new)
/-- raise x() -/
theorem ps_raise0 {E : XK} {mg : Str → Option Value} {K : PySem.W.Frag} (hc : X.calm = true) (tk : Takes X (fun cls d _ H => E cls d H)) (T : ExT K mg x) (hK : X.K = K) (hm : X.mg = mg) (hg : Gl X x) (hdb : (x == ("__debug__" : Str)) = false := by decide) :
    PS X (.Raise (some (.Call (.Name x p) [] [] pos)) none pos2) (tRs E (.ref T.C)) := ps_raise hc tk (pmk_own0 T hK hm hg hdb)
end
theorem m_raise {E : XK} {cls : Value} {nx bk ct : L2.St → Hp → Prop} {rt : VK} {σ : L2.St} {H : Hp} (h : E cls none H) : Sm (tRs E cls) nx rt bk ct σ H := h
instance {E : XK} {cls : Value} {nx bk ct : L2.St → Hp → Prop} {rt : VK} {σ : L2.St} {H : Hp} : Step (Sm (tRs E cls) nx rt bk ct σ H) (E cls none H) := ⟨m_raise⟩
/-- try: a call; except x: return True -/
def tRefused (K : PySem.W.Frag) (C : Addr) (sp : Sp) (tl : TA) : TS := fun D σ H => tDrop (tCallS sp (WE (wOnly K (.ref C) (fun _ _ _ => tRet (tC (.bl true))) (fun _ _ _ _ => False) D)) tl) D σ H
theorem m_refused {K : PySem.W.Frag} {C : Addr} {sp : Sp} {tl : TA} {nx bk ct : L2.St → Hp → Prop} {rt : VK} {σ : L2.St} {H : Hp}
    (h : tl σ H fun vs H1 => sp vs H1 (fun _ H2 => nx σ H2) (WE (wOnly K (.ref C) (fun _ _ _ => tRet (tC (.bl true))) (fun _ _ _ _ => False) ⟨nx, rt, bk, ct⟩) σ)) : Sm (tRefused K C sp tl) nx rt bk ct σ H := h
theorem w_caught {K : PySem.W.Frag} {C : Addr} {D : Ends} {σ : L2.St} {H : Hp} {d : Option Addr} (e : PySem.W.exmOne K (.ref C) (.ref C) = some true) (q : D.rt (.bl true) H) : WE (wOnly K (.ref C) (fun _ _ _ => tRet (tC (.bl true))) (fun _ _ _ _ => False) D) σ (.ref C) d H :=
  ⟨true, e, fun _ _ _ => q, fun z => Bool.noConfusion z⟩
end Kit

set_option Elab.async false
set_option linter.all false
set_option maxRecDepth 100000
set_option maxHeartbeats 4000000
namespace My
open PySem PySem.Spec PyProof.Rows L2
/-! ### the walk: "wp" goes as far as it can, "wp1" one step; "hp": what stands at an address; "ex": a heap grown; "sqL", "sqT": a list, a tuple to be read; "side": a side condition; "ix": an item -/
local macro_rules | `(tactic| walk_at "hp") => `(tactic| first | with_reducible assumption | exact Kit.ex_get (by with_reducible assumption) (by walk_at "hp") | fail)
local macro_rules | `(tactic| walk_at "ex") => `(tactic| first | with_reducible assumption | with_reducible exact Evl.Ex.refl _ | exact Kit.ex_snoc (by with_reducible assumption) (by walk_at "ex") | exact Kit.ex_but (by with_reducible assumption) (by with_reducible assumption) (by walk_at "ex") | fail)
local macro_rules | `(tactic| walk_at "but") => `(tactic| first | with_reducible assumption | with_reducible exact Kit.ExBut.refl _ _ | exact Kit.but_snoc (by with_reducible assumption) (by walk_at "but") | exact Kit.but_snocE (by with_reducible assumption) (by walk_at "but") | fail)
local macro_rules | `(tactic| walk_at "sqL") => `(tactic| first | with_reducible assumption | exact Evl.sq_of (by with_reducible assumption) | exact Evl.ex_l (by with_reducible assumption) (by walk_at "sqL") | fail)
local macro_rules | `(tactic| walk_at "sqT") => `(tactic| first | with_reducible assumption | exact Evl.st_of (by with_reducible assumption) | exact Evl.ex_t (by with_reducible assumption) (by walk_at "sqT") | fail)
local macro_rules | `(tactic| walk_at "sq2") => `(tactic| first | with_reducible assumption | exact Or.inr (Evl.st_of (by with_reducible assumption)) | exact Or.inl (Evl.sq_of (by with_reducible assumption)) | exact Or.inl (by walk_at "sqL") | exact Or.inr (by walk_at "sqT") | fail)
local macro_rules | `(tactic| walk_at "len") => `(tactic| (first | assumption | omega | fail))
local macro_rules | `(tactic| walk_at "len2") => `(tactic| first | exact Nat.le_of_ble_eq_true rfl | omega | (simp; omega) | fail)
local macro_rules | `(tactic| walk_at "side") => `(tactic| first | (with_reducible exact trivial) | (show (0 : Int) < _; omega) | (show (0 : Int) < _; decide) | (show L2.CDiv _ _; exact ⟨by omega, by omega⟩) | (show L2.CMul _ _; exact .inr ⟨by omega, by omega⟩) | (show L2.CMul _ _; exact .inl ⟨by omega, by omega⟩) | (show L2.CDivW _ _; exact Kit.divW (by omega) (by omega)) | (show L2.CDivW _ _; exact Kit.divW (by decide) (by decide)) | (show L2.CPow _ _; exact ⟨by decide, by decide, by decide⟩) | fail)
local macro_rules | `(tactic| walk_at "ix") => `(tactic| first | exact L2.atI_nat (j := 0) rfl | exact L2.atI_nat (j := 1) rfl | exact L2.atI_nat (j := 2) rfl | exact L2.atI_nat (j := 3) rfl | exact L2.atI_nat (j := 4) rfl | exact L2.atI_nat (j := 5) rfl | assumption | fail)
local macro_rules | `(tactic| walk_at "norm") => `(tactic| ((with_reducible show Kit.Sm _ _ _ _ _ (List.set _ _ _) _); refine Kit.m_norm (by simp only [List.set_cons_succ, List.set_cons_zero]; exact rfl) ?_))
local macro_rules | `(tactic| walk_at "wpA") => `(tactic| first
  | with_reducible refine Kit.i_R ?_
  | ((with_reducible refine Kit.i_D ?_ ?_) <;> intro _)
  | ((with_reducible show L2.rI _ _ _ _ _ _); refine Kit.w_I (by walk_at "side") ?_)
  | ((with_reducible show Kit.Alloc _ _ _ _); refine Kit.w_new (by first | exact Nat.le_of_ble_eq_true rfl | walk_at "len") ?_; intro _ _ _ _ _)
  | ((with_reducible show L2.rIxL _ _ (V.int _) _ _); refine Kit.w_ixL (by walk_at "sqL") (by walk_at "ix") ?_)
  | ((with_reducible show L2.rIxT _ _ (V.int _) _ _); refine Kit.w_ixT (by walk_at "sqT") (by walk_at "ix") ?_)
  | ((with_reducible show L2.rIn _ false _ _ _ _); first | refine Kit.w_inLt (by walk_at "sq2") (by decide +kernel) ?_ | refine Kit.w_inLf (by walk_at "sq2") (by decide +kernel) ?_)
  | ((with_reducible show L2.rEq (V.str _) _ _ _); first | with_reducible refine Kit.w_eqS ?_ | refine Kit.w_eqSF (by decide +kernel) ?_)
  | fail)
local macro_rules | `(tactic| walk_at "wpB") => `(tactic| first
  | ((with_reducible show L2.rSlL _ _ _ _ _ _); refine Kit.w_slL (by walk_at "sqL") ?_; intro _ _ _ _ _)
  | ((with_reducible show L2.rSlA _ _ _ _ _ _); refine Kit.w_slT (by walk_at "sqT") ?_; intro _ _ _ _)
  | ((with_reducible show L2.rCatA _ _ _ _ _); refine Kit.w_catT (by walk_at "sqT") (by walk_at "sqT") (by walk_at "len2") ?_; intro _ _ _ _)
  | ((with_reducible show L2.rCat _ _ _ _); refine Kit.w_catL (by walk_at "hp") (by walk_at "hp") (by walk_at "len2") ?_; intro _ _ _ _ _)
  | ((with_reducible show L2.tyV _ "list" _ _ ∧ _); refine Kit.w_tyL (by walk_at "sqL") ?_)
  | ((with_reducible refine Kit.w_made ?_); intro _ _ _ _ _ _)
  | ((with_reducible show Evl.rLenS _ _ _ _); refine Kit.w_len (by walk_at "sq2") ?_)
  | ((with_reducible show Evl.rListS _ _ _ _); refine Kit.w_list (by walk_at "sq2") ?_; intro _ _ _ _ _)
  | ((with_reducible show Kit.rTupS _ _ _ _); first | (refine Kit.w_tuple (by walk_at "sqL") ?_; intro _ _ _ _ _) | refine Kit.w_tupleT (by walk_at "sqT") ?_)
  | ((with_reducible show L2.rSetL _ (V.int _) _ _ _); refine Kit.w_setL (by walk_at "hp") (by first | exact rfl | exact Evl.ixN_nat (by omega)) (by first | (simp only [List.set_cons_succ, List.set_cons_zero]; exact rfl) | exact rfl) ?_; intro _ _ _)
  | ((with_reducible show L2.rNeD _ _ _ _ _); first | refine Kit.w_neTT (by walk_at "sqT") (by walk_at "sqT") ?_ | refine Kit.w_neLL (by walk_at "sqL") (by walk_at "sqL") ?_)
  | ((with_reducible show L2.rEqD _ _ _ _ _); first | refine Kit.w_eqTT (by walk_at "sqT") (by walk_at "sqT") ?_ | refine Kit.w_eqLL (by walk_at "sqL") (by walk_at "sqL") ?_)
  | fail)
local macro_rules | `(tactic| walk_at "wpC") => `(tactic| first
  | with_reducible refine Kit.w_intB ?_
  | ((with_reducible show L2.rIsi _ _ _ _); first | refine Kit.w_isiInt (b := true) (by decide +kernel) ?_ | refine Kit.w_isiInt (b := false) (by decide +kernel) ?_ | refine Kit.w_isiNon (b := true) (by decide +kernel) ?_ | refine Kit.w_isiNon (b := false) (by decide +kernel) ?_ | refine Kit.w_isiBl (b := true) (by decide +kernel) ?_ | refine Kit.w_isiBl (b := false) (by decide +kernel) ?_ | refine Kit.w_isiStr (b := true) (by decide +kernel) ?_ | refine Kit.w_isiStr (b := false) (by decide +kernel) ?_ | refine Kit.w_isiTup (b := true) (by walk_at "sqT") (by decide +kernel) ?_ | refine Kit.w_isiTup (b := false) (by walk_at "sqT") (by decide +kernel) ?_ | refine Kit.w_isiLst (b := true) (by walk_at "sqL") (by decide +kernel) ?_ | refine Kit.w_isiLst (b := false) (by walk_at "sqL") (by decide +kernel) ?_)
  | with_reducible refine Kit.m_gsub ?_
  | with_reducible refine Kit.w_dget ?_
  | ((with_reducible refine Kit.w_disp ?_); intro _ _ _ _ _)
  | with_reducible refine Kit.w_pp ?_
  | with_reducible refine Kit.w_pn ?_
  | fail)
local macro_rules | `(tactic| walk_at "wpS") => `(tactic| first
  | ((with_reducible show L2.tVar _ _ _ _); refine Kit.w_var rfl ?_)
  | with_reducible refine Kit.w_op ?_
  | with_reducible refine Kit.w_c ?_
  | with_reducible refine Kit.w_cons ?_
  | with_reducible refine Kit.w_nil ?_
  | ((with_reducible show Kit.Sm _ _ _ _ _ _ _); first
      | ((with_reducible show Kit.Sm _ _ _ _ _ (List.set _ _ _) _); refine Kit.m_norm (by simp only [List.set_cons_succ, List.set_cons_zero]; exact rfl) ?_)
      | with_reducible refine Kit.m_seq ?_
      | with_reducible refine Kit.m_asg ?_
      | with_reducible refine Kit.m_if ?_
      | with_reducible refine Kit.m_ret ?_
      | with_reducible refine Kit.m_next ?_
      | with_reducible refine Kit.m_asgG ?_
      | with_reducible refine Kit.m_drop ?_
      | with_reducible refine Kit.m_fld ?_
      | with_reducible refine Kit.m_for ?_
      | with_reducible refine Kit.m_retN ?_
      | with_reducible refine Kit.m_cont ?_
      | with_reducible refine Kit.m_brk ?_)
  | with_reducible refine Kit.w_test ?_
  | with_reducible refine Kit.w_bl ?_
  | with_reducible refine Kit.w_blE ?_
  | with_reducible refine Kit.w_I0 ?_
  | with_reducible refine Kit.w_eqI ?_
  | with_reducible refine Kit.i_T ?_
  | with_reducible refine Kit.i_F ?_
  | with_reducible refine Kit.i_N ?_
  | with_reducible refine Kit.w_cb ?_
  | with_reducible refine Kit.w_call0 ?_
  | with_reducible refine Kit.w_tup ?_
  | with_reducible refine Kit.w_lst ?_
  | with_reducible refine Kit.w_int ?_
  | with_reducible refine Kit.w_not ?_
  | with_reducible refine Kit.w_and ?_
  | with_reducible refine Kit.w_or ?_
  | with_reducible refine Kit.w_B ?_
  | with_reducible refine Kit.w_ifE ?_
  | with_reducible refine Kit.w_fld ?_
  | with_reducible refine Kit.w_meth ?_
  | with_reducible refine Kit.w_sl ?_
  | with_reducible refine Kit.w_po ?_
  | with_reducible refine Kit.w_ps ?_
  | with_reducible refine Kit.w_pi ?_
  | with_reducible refine Kit.w_bm ?_
  | with_reducible refine Kit.w_bm0 ?_
  | with_reducible refine Kit.w_make ?_
  | with_reducible refine Kit.w_neI ?_
  | with_reducible refine Kit.w_un ?_
  | with_reducible refine Kit.w_U ?_
  | with_reducible refine Kit.w_andV ?_
  | with_reducible refine Kit.w_orV ?_
  | with_reducible refine Kit.w_notV ?_
  | with_reducible refine Kit.w_eqB ?_
  | with_reducible refine Kit.w_max ?_
  | with_reducible refine Kit.w_min ?_
  | with_reducible refine Kit.w_abs ?_
  | ((with_reducible show Kit.rIsNo _ _ _ _); first | with_reducible refine Kit.w_isNN ?_ | with_reducible refine Kit.w_isNI ?_ | with_reducible refine Kit.w_isNB ?_ | with_reducible refine Kit.w_isNR ?_)
  | ((with_reducible show Kit.rNotNo _ _ _ _); first | with_reducible refine Kit.w_notNN ?_ | with_reducible refine Kit.w_notNI ?_ | with_reducible refine Kit.w_notNB ?_ | with_reducible refine Kit.w_notNR ?_)
  | with_reducible refine Kit.w_rng1 ?_
  | with_reducible refine Kit.w_rng2 ?_
  | with_reducible refine Kit.w_rng3 ?_
  | with_reducible refine Kit.w_lc ?_
  | with_reducible refine Kit.w_itl ?_
  | with_reducible refine Kit.w_itt ?_
  | fail)
local macro_rules | `(tactic| walk_at "wpZ") => `(tactic| first
  | ((with_reducible refine Kit.i_B ?_ ?_) <;> intro _)
  | fail)
local macro_rules | `(tactic| walk_at "wp1") => `(tactic| first | walk_at "wpA" | walk_at "wpB" | walk_at "wpC" | walk_at "wpZ" | walk_at "wpS")
local macro_rules | `(tactic| walk_at "wp") => `(tactic| repeat' (first | with_reducible refine Kit.step ?_ | walk_at "wp1"))

/-! ### the text by places -/
def topS (i : Nat) : Stmt := PySem.Challenge.pw_onestepcourt_k22_values_that_are_no_open.main.body.getD i (.Pass ⟨0, 0, 0, 0⟩)
abbrev s_is_integer : Stmt := topS 5
abbrev N_is_integer : List Str := ["value", "least", "greatest"]
theorem sc_is_integer : FnScope N_is_integer ["value", "least", "greatest"] (defScope s_is_integer) := ⟨rfl, rfl, rfl, by decide +kernel, rfl, by decide +kernel, by decide +kernel⟩
abbrev s_is_word : Stmt := topS 6
abbrev N_is_word : List Str := ["value"]
theorem sc_is_word : FnScope N_is_word ["value"] (defScope s_is_word) := ⟨rfl, rfl, rfl, by decide +kernel, rfl, by decide +kernel, by decide +kernel⟩
abbrev s_Digests___init : Stmt := inClass (topS 7) 0
abbrev N_Digests___init : List Str := ["self", "bits", "book"]
theorem sc_Digests___init : FnScope N_Digests___init ["self", "bits", "book"] (defScope s_Digests___init) := ⟨rfl, rfl, rfl, by decide +kernel, rfl, by decide +kernel, by decide +kernel⟩
abbrev s_Digests_leaf : Stmt := inClass (topS 7) 1
abbrev N_Digests_leaf : List Str := ["self", "word"]
theorem sc_Digests_leaf : FnScope N_Digests_leaf ["self", "word"] (defScope s_Digests_leaf) := ⟨rfl, rfl, rfl, by decide +kernel, rfl, by decide +kernel, by decide +kernel⟩
abbrev s_Digests_fold : Stmt := inClass (topS 7) 2
abbrev N_Digests_fold : List Str := ["self", "left", "right", "mixed", "digest"]
theorem sc_Digests_fold : FnScope N_Digests_fold ["self", "left", "right"] (defScope s_Digests_fold) := ⟨rfl, rfl, rfl, by decide +kernel, rfl, by decide +kernel, by decide +kernel⟩
abbrev s_Digests_state : Stmt := inClass (topS 7) 3
abbrev N_Digests_state : List Str := ["self", "numbers", "digest", "number"]
theorem sc_Digests_state : FnScope N_Digests_state ["self", "numbers"] (defScope s_Digests_state) := ⟨rfl, rfl, rfl, by decide +kernel, rfl, by decide +kernel, by decide +kernel⟩
abbrev s_Digests_is_digest : Stmt := inClass (topS 7) 5
abbrev N_Digests_is_digest : List Str := ["self", "value"]
theorem sc_Digests_is_digest : FnScope N_Digests_is_digest ["self", "value"] (defScope s_Digests_is_digest) := ⟨rfl, rfl, rfl, by decide +kernel, rfl, by decide +kernel, by decide +kernel⟩
abbrev s_Digests__noted : Stmt := inClass (topS 7) 7
abbrev N_Digests__noted : List Str := ["self", "kind", "text", "digest"]
theorem sc_Digests__noted : FnScope N_Digests__noted ["self", "kind", "text", "digest"] (defScope s_Digests__noted) := ⟨rfl, rfl, rfl, by decide +kernel, rfl, by decide +kernel, by decide +kernel⟩
abbrev s_root_by : Stmt := topS 13
abbrev N_root_by : List Str := ["digests", "place", "digest", "path", "root", "item"]
theorem sc_root_by : FnScope N_root_by ["digests", "place", "digest", "path"] (defScope s_root_by) := ⟨rfl, rfl, rfl, by decide +kernel, rfl, by decide +kernel, by decide +kernel⟩
abbrev s_levels_of : Stmt := topS 14
abbrev N_levels_of : List Str := ["digests", "row", "levels", "below", "k"]
theorem sc_levels_of : FnScope N_levels_of ["digests", "row"] (defScope s_levels_of) := ⟨rfl, rfl, rfl, by decide +kernel, rfl, by decide +kernel, by decide +kernel⟩
abbrev s_path_in : Stmt := topS 15
abbrev N_path_in : List Str := ["levels", "place", "path", "level", "neighbour"]
theorem sc_path_in : FnScope N_path_in ["levels", "place"] (defScope s_path_in) := ⟨rfl, rfl, rfl, by decide +kernel, rfl, by decide +kernel, by decide +kernel⟩
abbrev s_Memory___init : Stmt := inClass (topS 16) 0
abbrev N_Memory___init : List Str := ["self", "digests", "words", "word"]
theorem sc_Memory___init : FnScope N_Memory___init ["self", "digests", "words"] (defScope s_Memory___init) := ⟨rfl, rfl, rfl, by decide +kernel, rfl, by decide +kernel, by decide +kernel⟩
abbrev s_Memory_word : Stmt := inClass (topS 16) 1
abbrev N_Memory_word : List Str := ["self", "place"]
theorem sc_Memory_word : FnScope N_Memory_word ["self", "place"] (defScope s_Memory_word) := ⟨rfl, rfl, rfl, by decide +kernel, rfl, by decide +kernel, by decide +kernel⟩
abbrev s_Memory_change : Stmt := inClass (topS 16) 2
abbrev N_Memory_change : List Str := ["self", "place", "word", "at", "height", "below"]
theorem sc_Memory_change : FnScope N_Memory_change ["self", "place", "word"] (defScope s_Memory_change) := ⟨rfl, rfl, rfl, by decide +kernel, rfl, by decide +kernel, by decide +kernel⟩
abbrev s_Memory_words : Stmt := inClass (topS 16) 3
abbrev N_Memory_words : List Str := ["self"]
theorem sc_Memory_words : FnScope N_Memory_words ["self"] (defScope s_Memory_words) := ⟨rfl, rfl, rfl, by decide +kernel, rfl, by decide +kernel, by decide +kernel⟩
abbrev s_Memory_root : Stmt := inClass (topS 16) 4
abbrev N_Memory_root : List Str := ["self"]
theorem sc_Memory_root : FnScope N_Memory_root ["self"] (defScope s_Memory_root) := ⟨rfl, rfl, rfl, by decide +kernel, rfl, by decide +kernel, by decide +kernel⟩
abbrev s_Memory_path : Stmt := inClass (topS 16) 5
abbrev N_Memory_path : List Str := ["self", "place"]
theorem sc_Memory_path : FnScope N_Memory_path ["self", "place"] (defScope s_Memory_path) := ⟨rfl, rfl, rfl, by decide +kernel, rfl, by decide +kernel, by decide +kernel⟩
abbrev s_op : Stmt := topS 19
abbrev N_op : List Str := ["sign", "a", "b"]
theorem sc_op : FnScope N_op ["sign", "a", "b"] (defScope s_op) := ⟨rfl, rfl, rfl, by decide +kernel, rfl, by decide +kernel, by decide +kernel⟩
abbrev s_divided : Stmt := topS 20
abbrev N_divided : List Str := ["sign", "a", "b"]
theorem sc_divided : FnScope N_divided ["sign", "a", "b"] (defScope s_divided) := ⟨rfl, rfl, rfl, by decide +kernel, rfl, by decide +kernel, by decide +kernel⟩
abbrev s_wrapped : Stmt := topS 21
abbrev N_wrapped : List Str := ["sign", "a", "b", "result"]
theorem sc_wrapped : FnScope N_wrapped ["sign", "a", "b"] (defScope s_wrapped) := ⟨rfl, rfl, rfl, by decide +kernel, rfl, by decide +kernel, by decide +kernel⟩
abbrev s_holds : Stmt := topS 22
abbrev N_holds : List Str := ["sign", "a", "b"]
theorem sc_holds : FnScope N_holds ["sign", "a", "b"] (defScope s_holds) := ⟨rfl, rfl, rfl, by decide +kernel, rfl, by decide +kernel, by decide +kernel⟩
abbrev s_out_behind : Stmt := topS 26
abbrev N_out_behind : List Str := ["digests", "out", "word"]
theorem sc_out_behind : FnScope N_out_behind ["digests", "out", "word"] (defScope s_out_behind) := ⟨rfl, rfl, rfl, by decide +kernel, rfl, by decide +kernel, by decide +kernel⟩
abbrev s_name_of : Stmt := topS 27
abbrev N_name_of : List Str := ["word", "number"]
theorem sc_name_of : FnScope N_name_of ["word"] (defScope s_name_of) := ⟨rfl, rfl, rfl, by decide +kernel, rfl, by decide +kernel, by decide +kernel⟩
abbrev s_behind : Stmt := topS 28
abbrev N_behind : List Str := ["place"]
theorem sc_behind : FnScope N_behind ["place"] (defScope s_behind) := ⟨rfl, rfl, rfl, by decide +kernel, rfl, by decide +kernel, by decide +kernel⟩
abbrev s_data_of : Stmt := topS 29
abbrev N_data_of : List Str := ["registers", "word", "name", "place", "place_by_x"]
theorem sc_data_of : FnScope N_data_of ["registers", "word"] (defScope s_data_of) := ⟨rfl, rfl, rfl, by decide +kernel, rfl, by decide +kernel, by decide +kernel⟩
abbrev s_done_by : Stmt := topS 30
abbrev N_done_by : List Str := ["digests", "registers", "word", "data", "pc", "acc", "x", "mark", "out", "count", "name", "halt", "pc_then", "acc_then", "x_then"]
theorem sc_done_by : FnScope N_done_by ["digests", "registers", "word", "data"] (defScope s_done_by) := ⟨rfl, rfl, rfl, by decide +kernel, rfl, by decide +kernel, by decide +kernel⟩
abbrev s_halt_by : Stmt := topS 31
abbrev N_halt_by : List Str := ["name", "registers", "word", "data", "pc", "acc", "x", "mark", "out", "count"]
theorem sc_halt_by : FnScope N_halt_by ["name", "registers", "word", "data"] (defScope s_halt_by) := ⟨rfl, rfl, rfl, by decide +kernel, rfl, by decide +kernel, by decide +kernel⟩
abbrev s_pc_by : Stmt := topS 32
abbrev N_pc_by : List Str := ["name", "registers", "word", "data", "pc", "acc", "place"]
theorem sc_pc_by : FnScope N_pc_by ["name", "registers", "word", "data"] (defScope s_pc_by) := ⟨rfl, rfl, rfl, by decide +kernel, rfl, by decide +kernel, by decide +kernel⟩
abbrev s_acc_by : Stmt := topS 33
abbrev N_acc_by : List Str := ["name", "registers", "word", "data", "acc"]
theorem sc_acc_by : FnScope N_acc_by ["name", "registers", "word", "data"] (defScope s_acc_by) := ⟨rfl, rfl, rfl, by decide +kernel, rfl, by decide +kernel, by decide +kernel⟩
abbrev s_x_by : Stmt := topS 34
abbrev N_x_by : List Str := ["name", "registers", "data"]
theorem sc_x_by : FnScope N_x_by ["name", "registers", "data"] (defScope s_x_by) := ⟨rfl, rfl, rfl, by decide +kernel, rfl, by decide +kernel, by decide +kernel⟩
abbrev s_changed_by : Stmt := topS 35
abbrev N_changed_by : List Str := ["name", "registers"]
theorem sc_changed_by : FnScope N_changed_by ["name", "registers"] (defScope s_changed_by) := ⟨rfl, rfl, rfl, by decide +kernel, rfl, by decide +kernel, by decide +kernel⟩
abbrev s_Machine___init : Stmt := inClass (topS 36) 0
abbrev N_Machine___init : List Str := ["self", "digests", "registers", "words"]
theorem sc_Machine___init : FnScope N_Machine___init ["self", "digests", "registers", "words"] (defScope s_Machine___init) := ⟨rfl, rfl, rfl, by decide +kernel, rfl, by decide +kernel, by decide +kernel⟩
abbrev s_Machine_registers : Stmt := inClass (topS 36) 1
abbrev N_Machine_registers : List Str := ["self"]
theorem sc_Machine_registers : FnScope N_Machine_registers ["self"] (defScope s_Machine_registers) := ⟨rfl, rfl, rfl, by decide +kernel, rfl, by decide +kernel, by decide +kernel⟩
abbrev s_Machine_words : Stmt := inClass (topS 36) 2
abbrev N_Machine_words : List Str := ["self"]
theorem sc_Machine_words : FnScope N_Machine_words ["self"] (defScope s_Machine_words) := ⟨rfl, rfl, rfl, by decide +kernel, rfl, by decide +kernel, by decide +kernel⟩
abbrev s_Machine_word : Stmt := inClass (topS 36) 3
abbrev N_Machine_word : List Str := ["self", "place"]
theorem sc_Machine_word : FnScope N_Machine_word ["self", "place"] (defScope s_Machine_word) := ⟨rfl, rfl, rfl, by decide +kernel, rfl, by decide +kernel, by decide +kernel⟩
abbrev s_Machine_path : Stmt := inClass (topS 36) 4
abbrev N_Machine_path : List Str := ["self", "place"]
theorem sc_Machine_path : FnScope N_Machine_path ["self", "place"] (defScope s_Machine_path) := ⟨rfl, rfl, rfl, by decide +kernel, rfl, by decide +kernel, by decide +kernel⟩
abbrev s_Machine_root : Stmt := inClass (topS 36) 5
abbrev N_Machine_root : List Str := ["self"]
theorem sc_Machine_root : FnScope N_Machine_root ["self"] (defScope s_Machine_root) := ⟨rfl, rfl, rfl, by decide +kernel, rfl, by decide +kernel, by decide +kernel⟩
abbrev s_Machine_digest : Stmt := inClass (topS 36) 6
abbrev N_Machine_digest : List Str := ["self"]
theorem sc_Machine_digest : FnScope N_Machine_digest ["self"] (defScope s_Machine_digest) := ⟨rfl, rfl, rfl, by decide +kernel, rfl, by decide +kernel, by decide +kernel⟩
abbrev s_Machine_step : Stmt := inClass (topS 36) 7
abbrev N_Machine_step : List Str := ["self", "pc", "acc", "x", "mark", "out", "count", "word", "other", "data", "changed"]
theorem sc_Machine_step : FnScope N_Machine_step ["self"] (defScope s_Machine_step) := ⟨rfl, rfl, rfl, by decide +kernel, rfl, by decide +kernel, by decide +kernel⟩
abbrev s_Machine_told : Stmt := inClass (topS 36) 8
abbrev N_Machine_told : List Str := ["self"]
theorem sc_Machine_told : FnScope N_Machine_told ["self"] (defScope s_Machine_told) := ⟨rfl, rfl, rfl, by decide +kernel, rfl, by decide +kernel, by decide +kernel⟩
abbrev s_opened : Stmt := topS 38
abbrev N_opened : List Str := ["machine", "registers", "places", "parts", "place"]
theorem sc_opened : FnScope N_opened ["machine"] (defScope s_opened) := ⟨rfl, rfl, rfl, by decide +kernel, rfl, by decide +kernel, by decide +kernel⟩
abbrev s_places_of : Stmt := topS 39
abbrev N_places_of : List Str := ["registers", "word", "other"]
theorem sc_places_of : FnScope N_places_of ["registers", "word"] (defScope s_places_of) := ⟨rfl, rfl, rfl, by decide +kernel, rfl, by decide +kernel, by decide +kernel⟩
abbrev s_step_of : Stmt := topS 40
abbrev N_step_of : List Str := ["digests", "digest", "opening", "registers", "root", "parts"]
theorem sc_step_of : FnScope N_step_of ["digests", "digest", "opening"] (defScope s_step_of) := ⟨rfl, rfl, rfl, by decide +kernel, rfl, by decide +kernel, by decide +kernel⟩
abbrev s_step_by : Stmt := topS 41
abbrev N_step_by : List Str := ["digests", "registers", "root", "parts", "word", "places", "place", "part", "data", "path", "registers_then", "changed"]
theorem sc_step_by : FnScope N_step_by ["digests", "registers", "root", "parts"] (defScope s_step_by) := ⟨rfl, rfl, rfl, by decide +kernel, rfl, by decide +kernel, by decide +kernel⟩
abbrev s_root_with : Stmt := topS 42
abbrev N_root_with : List Str := ["digests", "place", "word", "path"]
theorem sc_root_with : FnScope N_root_with ["digests", "place", "word", "path"] (defScope s_root_with) := ⟨rfl, rfl, rfl, by decide +kernel, rfl, by decide +kernel, by decide +kernel⟩
abbrev s_is_opening : Stmt := topS 43
abbrev N_is_opening : List Str := ["digests", "value", "registers", "root", "parts", "part"]
theorem sc_is_opening : FnScope N_is_opening ["digests", "value"] (defScope s_is_opening) := ⟨rfl, rfl, rfl, by decide +kernel, rfl, by decide +kernel, by decide +kernel⟩
abbrev s_is_part : Stmt := topS 44
abbrev N_is_part : List Str := ["digests", "value", "word", "path", "item"]
theorem sc_is_part : FnScope N_is_part ["digests", "value"] (defScope s_is_part) := ⟨rfl, rfl, rfl, by decide +kernel, rfl, by decide +kernel, by decide +kernel⟩
abbrev s_are_registers : Stmt := topS 45
abbrev N_are_registers : List Str := ["digests", "value", "pc", "acc", "x", "mark", "out", "count"]
theorem sc_are_registers : FnScope N_are_registers ["digests", "value"] (defScope s_are_registers) := ⟨rfl, rfl, rfl, by decide +kernel, rfl, by decide +kernel, by decide +kernel⟩
abbrev s_law_bag : Stmt := topS 47
abbrev N_law_bag : List Str := ["script"]
theorem sc_law_bag : FnScope N_law_bag ["script"] (defScope s_law_bag) := ⟨rfl, rfl, rfl, by decide +kernel, rfl, by decide +kernel, by decide +kernel⟩
abbrev s_law_draw : Stmt := topS 48
abbrev N_law_draw : List Str := ["bag", "many", "cell", "cells", "seed", "rest"]
theorem sc_law_draw : FnScope N_law_draw ["bag", "many"] (defScope s_law_draw) := ⟨rfl, rfl, rfl, by decide +kernel, rfl, by decide +kernel, by decide +kernel⟩
abbrev s_law_word : Stmt := topS 49
abbrev N_law_word : List Str := ["bag", "pick"]
theorem sc_law_word : FnScope N_law_word ["bag"] (defScope s_law_word) := ⟨rfl, rfl, rfl, by decide +kernel, rfl, by decide +kernel, by decide +kernel⟩
abbrev s_law_words : Stmt := topS 50
abbrev N_law_words : List Str := ["bag", "size", "row", "k"]
theorem sc_law_words : FnScope N_law_words ["bag"] (defScope s_law_words) := ⟨rfl, rfl, rfl, by decide +kernel, rfl, by decide +kernel, by decide +kernel⟩
abbrev s_law_start : Stmt := topS 51
abbrev N_law_start : List Str := ["bag", "m", "small", "pc", "count", "out", "mark"]
theorem sc_law_start : FnScope N_law_start ["bag", "m"] (defScope s_law_start) := ⟨rfl, rfl, rfl, by decide +kernel, rfl, by decide +kernel, by decide +kernel⟩
abbrev s_law_put : Stmt := topS 53
abbrev N_law_put : List Str := ["row", "place", "value"]
theorem sc_law_put : FnScope N_law_put ["row", "place", "value"] (defScope s_law_put) := ⟨rfl, rfl, rfl, by decide +kernel, rfl, by decide +kernel, by decide +kernel⟩
abbrev s_law_bad_number : Stmt := topS 54
abbrev N_law_bad_number : List Str := ["bag", "most"]
theorem sc_law_bad_number : FnScope N_law_bad_number ["bag", "most"] (defScope s_law_bad_number) := ⟨rfl, rfl, rfl, by decide +kernel, rfl, by decide +kernel, by decide +kernel⟩
abbrev s_law_odd_row : Stmt := topS 55
abbrev N_law_odd_row : List Str := ["bag", "row", "pick", "place"]
theorem sc_law_odd_row : FnScope N_law_odd_row ["bag", "row"] (defScope s_law_odd_row) := ⟨rfl, rfl, rfl, by decide +kernel, rfl, by decide +kernel, by decide +kernel⟩
abbrev s_law_odd_registers : Stmt := topS 56
abbrev N_law_odd_registers : List Str := ["bag", "m", "registers", "place"]
theorem sc_law_odd_registers : FnScope N_law_odd_registers ["bag", "m", "registers"] (defScope s_law_odd_registers) := ⟨rfl, rfl, rfl, by decide +kernel, rfl, by decide +kernel, by decide +kernel⟩
abbrev s_law_odd_part : Stmt := topS 57
abbrev N_law_odd_part : List Str := ["bag", "m", "part", "pick"]
theorem sc_law_odd_part : FnScope N_law_odd_part ["bag", "m", "part"] (defScope s_law_odd_part) := ⟨rfl, rfl, rfl, by decide +kernel, rfl, by decide +kernel, by decide +kernel⟩
abbrev s_law_odd : Stmt := topS 58
abbrev N_law_odd : List Str := ["bag", "m", "opening", "registers", "root", "parts", "pick", "place"]
theorem sc_law_odd : FnScope N_law_odd ["bag", "m", "opening"] (defScope s_law_odd) := ⟨rfl, rfl, rfl, by decide +kernel, rfl, by decide +kernel, by decide +kernel⟩
abbrev s_law_refused : Stmt := topS 59
abbrev N_law_refused : List Str := ["digests", "digest", "value"]
theorem sc_law_refused : FnScope N_law_refused ["digests", "digest", "value"] (defScope s_law_refused) := ⟨rfl, rfl, rfl, by decide +kernel, rfl, by decide +kernel, by decide +kernel⟩
abbrev s_law : Stmt := topS 60
abbrev N_law : List Str := ["script", "bag", "bits", "m", "digests", "machine", "turn", "opening", "digest"]
theorem sc_law : FnScope N_law ["script"] (defScope s_law) := ⟨rfl, rfl, rfl, by decide +kernel, rfl, by decide +kernel, by decide +kernel⟩
/-! ### what the top has written -/
structure Txt (K : PySem.W.Frag) (mg : Str → Option Value) where
  f_is_integer : Kit.GFn' K mg "is_integer" "is_integer" s_is_integer ["value", "least", "greatest"]
  f_is_word : Kit.GFn' K mg "is_word" "is_word" s_is_word ["value"]
  f_Digests___init : Kit.GFn K "__init__" "Digests.__init__" s_Digests___init ["self", "bits", "book"]
  f_Digests_leaf : Kit.GFn K "leaf" "Digests.leaf" s_Digests_leaf ["self", "word"]
  f_Digests_fold : Kit.GFn K "fold" "Digests.fold" s_Digests_fold ["self", "left", "right"]
  f_Digests_state : Kit.GFn K "state" "Digests.state" s_Digests_state ["self", "numbers"]
  f_Digests_is_digest : Kit.GFn K "is_digest" "Digests.is_digest" s_Digests_is_digest ["self", "value"]
  f_Digests__noted : Kit.GFn K "_noted" "Digests._noted" s_Digests__noted ["self", "kind", "text", "digest"]
  f_root_by : Kit.GFn' K mg "root_by" "root_by" s_root_by ["digests", "place", "digest", "path"]
  f_levels_of : Kit.GFn' K mg "levels_of" "levels_of" s_levels_of ["digests", "row"]
  f_path_in : Kit.GFn' K mg "path_in" "path_in" s_path_in ["levels", "place"]
  f_Memory___init : Kit.GFn K "__init__" "Memory.__init__" s_Memory___init ["self", "digests", "words"]
  f_Memory_word : Kit.GFn K "word" "Memory.word" s_Memory_word ["self", "place"]
  f_Memory_change : Kit.GFn K "change" "Memory.change" s_Memory_change ["self", "place", "word"]
  f_Memory_words : Kit.GFn K "words" "Memory.words" s_Memory_words ["self"]
  f_Memory_root : Kit.GFn K "root" "Memory.root" s_Memory_root ["self"]
  f_Memory_path : Kit.GFn K "path" "Memory.path" s_Memory_path ["self", "place"]
  f_op : Kit.GFn' K mg "op" "op" s_op ["sign", "a", "b"]
  f_divided : Kit.GFn' K mg "divided" "divided" s_divided ["sign", "a", "b"]
  f_wrapped : Kit.GFn' K mg "wrapped" "wrapped" s_wrapped ["sign", "a", "b"]
  f_holds : Kit.GFn' K mg "holds" "holds" s_holds ["sign", "a", "b"]
  f_out_behind : Kit.GFn' K mg "out_behind" "out_behind" s_out_behind ["digests", "out", "word"]
  f_name_of : Kit.GFn' K mg "name_of" "name_of" s_name_of ["word"]
  f_behind : Kit.GFn' K mg "behind" "behind" s_behind ["place"]
  f_data_of : Kit.GFn' K mg "data_of" "data_of" s_data_of ["registers", "word"]
  f_done_by : Kit.GFn' K mg "done_by" "done_by" s_done_by ["digests", "registers", "word", "data"]
  f_halt_by : Kit.GFn' K mg "halt_by" "halt_by" s_halt_by ["name", "registers", "word", "data"]
  f_pc_by : Kit.GFn' K mg "pc_by" "pc_by" s_pc_by ["name", "registers", "word", "data"]
  f_acc_by : Kit.GFn' K mg "acc_by" "acc_by" s_acc_by ["name", "registers", "word", "data"]
  f_x_by : Kit.GFn' K mg "x_by" "x_by" s_x_by ["name", "registers", "data"]
  f_changed_by : Kit.GFn' K mg "changed_by" "changed_by" s_changed_by ["name", "registers"]
  f_Machine___init : Kit.GFn K "__init__" "Machine.__init__" s_Machine___init ["self", "digests", "registers", "words"]
  f_Machine_registers : Kit.GFn K "registers" "Machine.registers" s_Machine_registers ["self"]
  f_Machine_words : Kit.GFn K "words" "Machine.words" s_Machine_words ["self"]
  f_Machine_word : Kit.GFn K "word" "Machine.word" s_Machine_word ["self", "place"]
  f_Machine_path : Kit.GFn K "path" "Machine.path" s_Machine_path ["self", "place"]
  f_Machine_root : Kit.GFn K "root" "Machine.root" s_Machine_root ["self"]
  f_Machine_digest : Kit.GFn K "digest" "Machine.digest" s_Machine_digest ["self"]
  f_Machine_step : Kit.GFn K "step" "Machine.step" s_Machine_step ["self"]
  f_Machine_told : Kit.GFn K "told" "Machine.told" s_Machine_told ["self"]
  f_opened : Kit.GFn' K mg "opened" "opened" s_opened ["machine"]
  f_places_of : Kit.GFn' K mg "places_of" "places_of" s_places_of ["registers", "word"]
  f_step_of : Kit.GFn' K mg "step_of" "step_of" s_step_of ["digests", "digest", "opening"]
  f_step_by : Kit.GFn' K mg "step_by" "step_by" s_step_by ["digests", "registers", "root", "parts"]
  f_root_with : Kit.GFn' K mg "root_with" "root_with" s_root_with ["digests", "place", "word", "path"]
  f_is_opening : Kit.GFn' K mg "is_opening" "is_opening" s_is_opening ["digests", "value"]
  f_is_part : Kit.GFn' K mg "is_part" "is_part" s_is_part ["digests", "value"]
  f_are_registers : Kit.GFn' K mg "are_registers" "are_registers" s_are_registers ["digests", "value"]
  f_law_bag : Kit.GFn' K mg "_law_bag" "_law_bag" s_law_bag ["script"]
  f_law_draw : Kit.GFn' K mg "_law_draw" "_law_draw" s_law_draw ["bag", "many"]
  f_law_word : Kit.GFn' K mg "_law_word" "_law_word" s_law_word ["bag"]
  f_law_words : Kit.GFn' K mg "_law_words" "_law_words" s_law_words ["bag"]
  f_law_start : Kit.GFn' K mg "_law_start" "_law_start" s_law_start ["bag", "m"]
  f_law_put : Kit.GFn' K mg "_law_put" "_law_put" s_law_put ["row", "place", "value"]
  f_law_bad_number : Kit.GFn' K mg "_law_bad_number" "_law_bad_number" s_law_bad_number ["bag", "most"]
  f_law_odd_row : Kit.GFn' K mg "_law_odd_row" "_law_odd_row" s_law_odd_row ["bag", "row"]
  f_law_odd_registers : Kit.GFn' K mg "_law_odd_registers" "_law_odd_registers" s_law_odd_registers ["bag", "m", "registers"]
  f_law_odd_part : Kit.GFn' K mg "_law_odd_part" "_law_odd_part" s_law_odd_part ["bag", "m", "part"]
  f_law_odd : Kit.GFn' K mg "_law_odd" "_law_odd" s_law_odd ["bag", "m", "opening"]
  f_law_refused : Kit.GFn' K mg "_law_refused" "_law_refused" s_law_refused ["digests", "digest", "value"]
  f_law : Kit.GFn' K mg "law" "law" s_law ["script"]
  c_Digests : Kit.GCl K mg "Digests" f_Digests___init.f
  m_Digests_leaf : Meth K c_Digests.C "leaf" f_Digests_leaf.f
  m_Digests_fold : Meth K c_Digests.C "fold" f_Digests_fold.f
  m_Digests_state : Meth K c_Digests.C "state" f_Digests_state.f
  m_Digests_is_digest : Meth K c_Digests.C "is_digest" f_Digests_is_digest.f
  m_Digests__noted : Meth K c_Digests.C "_noted" f_Digests__noted.f
  n_Digests_bits : NoAttr K c_Digests.C "_bits"
  n_Digests_book : NoAttr K c_Digests.C "_book"
  n_Digests_modulus : NoAttr K c_Digests.C "_modulus"
  c_Memory : Kit.GCl K mg "Memory" f_Memory___init.f
  m_Memory_word : Meth K c_Memory.C "word" f_Memory_word.f
  m_Memory_change : Meth K c_Memory.C "change" f_Memory_change.f
  m_Memory_words : Meth K c_Memory.C "words" f_Memory_words.f
  m_Memory_root : Meth K c_Memory.C "root" f_Memory_root.f
  m_Memory_path : Meth K c_Memory.C "path" f_Memory_path.f
  n_Memory_digests : NoAttr K c_Memory.C "_digests"
  n_Memory_words : NoAttr K c_Memory.C "_words"
  n_Memory_levels : NoAttr K c_Memory.C "_levels"
  c_Machine : Kit.GCl K mg "Machine" f_Machine___init.f
  m_Machine_registers : Meth K c_Machine.C "registers" f_Machine_registers.f
  m_Machine_words : Meth K c_Machine.C "words" f_Machine_words.f
  m_Machine_word : Meth K c_Machine.C "word" f_Machine_word.f
  m_Machine_path : Meth K c_Machine.C "path" f_Machine_path.f
  m_Machine_root : Meth K c_Machine.C "root" f_Machine_root.f
  m_Machine_digest : Meth K c_Machine.C "digest" f_Machine_digest.f
  m_Machine_step : Meth K c_Machine.C "step" f_Machine_step.f
  m_Machine_told : Meth K c_Machine.C "told" f_Machine_told.f
  n_Machine_digests : NoAttr K c_Machine.C "_digests"
  n_Machine_registers : NoAttr K c_Machine.C "_registers"
  n_Machine_memory : NoAttr K c_Machine.C "_memory"
  n_Machine_told : NoAttr K c_Machine.C "_told"
  e_BadOpening : Kit.ExT K mg "BadOpening"
  t_DEPTH : Tok
  g_DEPTH : mg "DEPTH" = some (.int 8 t_DEPTH)
  a_MARKS : Addr
  g_MARKS : mg "MARKS" = some (.ref a_MARKS)
  w_MARKS : Kit.KTup K a_MARKS [.str "long", .str "done", .str "divided", .str "place", .str "input", .str "full", .str "bad"]
  t_MOST_TOLD : Tok
  g_MOST_TOLD : mg "MOST_TOLD" = some (.int 16 t_MOST_TOLD)
  t_MOST_WORD : Tok
  g_MOST_WORD : mg "MOST_WORD" = some (.int 65535 t_MOST_WORD)
  a_NAMES : Addr
  g_NAMES : mg "NAMES" = some (.ref a_NAMES)
  w_NAMES : Kit.KTup K a_NAMES [.str "bad", .str "halt", .str "lit", .str "load", .str "store", .str "loadx", .str "storex", .str "tox", .str "index", .str "bound", .str "within", .str "not", .str "+", .str "-", .str "*", .str "/", .str "mod", .str "==", .str "!=", .str "<", .str "<=", .str ">", .str ">=", .str "jump", .str "zero", .str "some", .str "call", .str "back", .str "tell"]
  t_PLACES : Tok
  g_PLACES : mg "PLACES" = some (.int 256 t_PLACES)
  a_SIGNS : Addr
  g_SIGNS : mg "SIGNS" = some (.ref a_SIGNS)
  w_SIGNS : Kit.KTup K a_SIGNS [.str "+", .str "-", .str "*", .str "/", .str "mod", .str "==", .str "!=", .str "<", .str "<=", .str ">", .str ">="]
  y_MARKS : ∃ o, K.lookup a_MARKS = some o ∧ o.cls = .type "tuple" ∧ o.dict = none
  z_all : mg "all" = none
  z_bool : mg "bool" = none
  z_int : mg "int" = none
  z_isinstance : mg "isinstance" = none
  z_len : mg "len" = none
  z_list : mg "list" = none
  z_range : mg "range" = none
  z_tuple : mg "tuple" = none
  z_zip : mg "zip" = none
def fl_Digests (v0 v1 v2 : V) : List (Str × V) := [("_bits", v0), ("_book", v1), ("_modulus", v2)]
section
variable {K : PySem.W.Frag} {mg : Str → Option Value} {H : Hp} {p C dx : Addr} {v0 v1 v2 : V} {Q : VK} {R : Prop}
theorem rd_Digests_bits (T : Txt K mg) (h : H p = some (.ins T.c_Digests.C dx (fl_Digests v0 v1 v2))) (q : Q v0 H) : Kit.FldOf K "_bits" (.ref p) H Q := Kit.w_rd h T.c_Digests.cl T.n_Digests_bits rfl q
theorem pt_Digests_bits (T : Txt K mg) {y : V} {W : Hp → Prop} (h : H p = some (.ins T.c_Digests.C dx (fl_Digests v0 v1 v2))) (q : ∀ H2, Kit.ExBut p H H2 → H2 p = some (.ins T.c_Digests.C dx (fl_Digests y v1 v2)) → W H2) : Kit.PutOf K "_bits" y (.ref p) H W := Kit.w_put h T.c_Digests.cl T.n_Digests_bits (Nat.lt_of_lt_of_le (Nat.lt_of_le_of_lt (Nat.le_refl 3) (by decide : 3 < 100)) (by decide)) rfl q
theorem in_Digests_bits (T : Txt K mg) {y : V} {W : Hp → Prop} (h : H p = some (.ins T.c_Digests.C dx [])) (q : ∀ H2, Kit.ExBut p H H2 → H2 p = some (.ins T.c_Digests.C dx ([("_bits", y)])) → W H2) : Kit.PutOf K "_bits" y (.ref p) H W := Kit.w_put h T.c_Digests.cl T.n_Digests_bits (Nat.lt_of_lt_of_le (Nat.lt_of_le_of_lt (Nat.le_refl 0) (by decide : 0 < 100)) (by decide)) rfl q
theorem rd_Digests_book (T : Txt K mg) (h : H p = some (.ins T.c_Digests.C dx (fl_Digests v0 v1 v2))) (q : Q v1 H) : Kit.FldOf K "_book" (.ref p) H Q := Kit.w_rd h T.c_Digests.cl T.n_Digests_book rfl q
theorem pt_Digests_book (T : Txt K mg) {y : V} {W : Hp → Prop} (h : H p = some (.ins T.c_Digests.C dx (fl_Digests v0 v1 v2))) (q : ∀ H2, Kit.ExBut p H H2 → H2 p = some (.ins T.c_Digests.C dx (fl_Digests v0 y v2)) → W H2) : Kit.PutOf K "_book" y (.ref p) H W := Kit.w_put h T.c_Digests.cl T.n_Digests_book (Nat.lt_of_lt_of_le (Nat.lt_of_le_of_lt (Nat.le_refl 3) (by decide : 3 < 100)) (by decide)) rfl q
theorem in_Digests_book (T : Txt K mg) {y : V} {W : Hp → Prop} (h : H p = some (.ins T.c_Digests.C dx [("_bits", v0)])) (q : ∀ H2, Kit.ExBut p H H2 → H2 p = some (.ins T.c_Digests.C dx ([("_bits", v0), ("_book", y)])) → W H2) : Kit.PutOf K "_book" y (.ref p) H W := Kit.w_put h T.c_Digests.cl T.n_Digests_book (Nat.lt_of_lt_of_le (Nat.lt_of_le_of_lt (Nat.le_refl 1) (by decide : 1 < 100)) (by decide)) rfl q
theorem rd_Digests_modulus (T : Txt K mg) (h : H p = some (.ins T.c_Digests.C dx (fl_Digests v0 v1 v2))) (q : Q v2 H) : Kit.FldOf K "_modulus" (.ref p) H Q := Kit.w_rd h T.c_Digests.cl T.n_Digests_modulus rfl q
theorem pt_Digests_modulus (T : Txt K mg) {y : V} {W : Hp → Prop} (h : H p = some (.ins T.c_Digests.C dx (fl_Digests v0 v1 v2))) (q : ∀ H2, Kit.ExBut p H H2 → H2 p = some (.ins T.c_Digests.C dx (fl_Digests v0 v1 y)) → W H2) : Kit.PutOf K "_modulus" y (.ref p) H W := Kit.w_put h T.c_Digests.cl T.n_Digests_modulus (Nat.lt_of_lt_of_le (Nat.lt_of_le_of_lt (Nat.le_refl 3) (by decide : 3 < 100)) (by decide)) rfl q
theorem in_Digests_modulus (T : Txt K mg) {y : V} {W : Hp → Prop} (h : H p = some (.ins T.c_Digests.C dx [("_bits", v0), ("_book", v1)])) (q : ∀ H2, Kit.ExBut p H H2 → H2 p = some (.ins T.c_Digests.C dx (fl_Digests v0 v1 y)) → W H2) : Kit.PutOf K "_modulus" y (.ref p) H W := Kit.w_put h T.c_Digests.cl T.n_Digests_modulus (Nat.lt_of_lt_of_le (Nat.lt_of_le_of_lt (Nat.le_refl 2) (by decide : 2 < 100)) (by decide)) rfl q
theorem me_Digests_leaf (h : H p = some (.ins C dx (fl_Digests v0 v1 v2))) (r : R) : Kit.InsOf C "leaf" (.ref p) H R := Kit.w_ins h rfl r
theorem me_Digests_fold (h : H p = some (.ins C dx (fl_Digests v0 v1 v2))) (r : R) : Kit.InsOf C "fold" (.ref p) H R := Kit.w_ins h rfl r
theorem me_Digests_state (h : H p = some (.ins C dx (fl_Digests v0 v1 v2))) (r : R) : Kit.InsOf C "state" (.ref p) H R := Kit.w_ins h rfl r
theorem me_Digests_is_digest (h : H p = some (.ins C dx (fl_Digests v0 v1 v2))) (r : R) : Kit.InsOf C "is_digest" (.ref p) H R := Kit.w_ins h rfl r
theorem me_Digests__noted (h : H p = some (.ins C dx (fl_Digests v0 v1 v2))) (r : R) : Kit.InsOf C "_noted" (.ref p) H R := Kit.w_ins h rfl r
end
def fl_Memory (v0 v1 v2 : V) : List (Str × V) := [("_digests", v0), ("_words", v1), ("_levels", v2)]
section
variable {K : PySem.W.Frag} {mg : Str → Option Value} {H : Hp} {p C dx : Addr} {v0 v1 v2 : V} {Q : VK} {R : Prop}
theorem rd_Memory_digests (T : Txt K mg) (h : H p = some (.ins T.c_Memory.C dx (fl_Memory v0 v1 v2))) (q : Q v0 H) : Kit.FldOf K "_digests" (.ref p) H Q := Kit.w_rd h T.c_Memory.cl T.n_Memory_digests rfl q
theorem pt_Memory_digests (T : Txt K mg) {y : V} {W : Hp → Prop} (h : H p = some (.ins T.c_Memory.C dx (fl_Memory v0 v1 v2))) (q : ∀ H2, Kit.ExBut p H H2 → H2 p = some (.ins T.c_Memory.C dx (fl_Memory y v1 v2)) → W H2) : Kit.PutOf K "_digests" y (.ref p) H W := Kit.w_put h T.c_Memory.cl T.n_Memory_digests (Nat.lt_of_lt_of_le (Nat.lt_of_le_of_lt (Nat.le_refl 3) (by decide : 3 < 100)) (by decide)) rfl q
theorem in_Memory_digests (T : Txt K mg) {y : V} {W : Hp → Prop} (h : H p = some (.ins T.c_Memory.C dx [])) (q : ∀ H2, Kit.ExBut p H H2 → H2 p = some (.ins T.c_Memory.C dx ([("_digests", y)])) → W H2) : Kit.PutOf K "_digests" y (.ref p) H W := Kit.w_put h T.c_Memory.cl T.n_Memory_digests (Nat.lt_of_lt_of_le (Nat.lt_of_le_of_lt (Nat.le_refl 0) (by decide : 0 < 100)) (by decide)) rfl q
theorem rd_Memory_words (T : Txt K mg) (h : H p = some (.ins T.c_Memory.C dx (fl_Memory v0 v1 v2))) (q : Q v1 H) : Kit.FldOf K "_words" (.ref p) H Q := Kit.w_rd h T.c_Memory.cl T.n_Memory_words rfl q
theorem pt_Memory_words (T : Txt K mg) {y : V} {W : Hp → Prop} (h : H p = some (.ins T.c_Memory.C dx (fl_Memory v0 v1 v2))) (q : ∀ H2, Kit.ExBut p H H2 → H2 p = some (.ins T.c_Memory.C dx (fl_Memory v0 y v2)) → W H2) : Kit.PutOf K "_words" y (.ref p) H W := Kit.w_put h T.c_Memory.cl T.n_Memory_words (Nat.lt_of_lt_of_le (Nat.lt_of_le_of_lt (Nat.le_refl 3) (by decide : 3 < 100)) (by decide)) rfl q
theorem in_Memory_words (T : Txt K mg) {y : V} {W : Hp → Prop} (h : H p = some (.ins T.c_Memory.C dx [("_digests", v0)])) (q : ∀ H2, Kit.ExBut p H H2 → H2 p = some (.ins T.c_Memory.C dx ([("_digests", v0), ("_words", y)])) → W H2) : Kit.PutOf K "_words" y (.ref p) H W := Kit.w_put h T.c_Memory.cl T.n_Memory_words (Nat.lt_of_lt_of_le (Nat.lt_of_le_of_lt (Nat.le_refl 1) (by decide : 1 < 100)) (by decide)) rfl q
theorem rd_Memory_levels (T : Txt K mg) (h : H p = some (.ins T.c_Memory.C dx (fl_Memory v0 v1 v2))) (q : Q v2 H) : Kit.FldOf K "_levels" (.ref p) H Q := Kit.w_rd h T.c_Memory.cl T.n_Memory_levels rfl q
theorem pt_Memory_levels (T : Txt K mg) {y : V} {W : Hp → Prop} (h : H p = some (.ins T.c_Memory.C dx (fl_Memory v0 v1 v2))) (q : ∀ H2, Kit.ExBut p H H2 → H2 p = some (.ins T.c_Memory.C dx (fl_Memory v0 v1 y)) → W H2) : Kit.PutOf K "_levels" y (.ref p) H W := Kit.w_put h T.c_Memory.cl T.n_Memory_levels (Nat.lt_of_lt_of_le (Nat.lt_of_le_of_lt (Nat.le_refl 3) (by decide : 3 < 100)) (by decide)) rfl q
theorem in_Memory_levels (T : Txt K mg) {y : V} {W : Hp → Prop} (h : H p = some (.ins T.c_Memory.C dx [("_digests", v0), ("_words", v1)])) (q : ∀ H2, Kit.ExBut p H H2 → H2 p = some (.ins T.c_Memory.C dx (fl_Memory v0 v1 y)) → W H2) : Kit.PutOf K "_levels" y (.ref p) H W := Kit.w_put h T.c_Memory.cl T.n_Memory_levels (Nat.lt_of_lt_of_le (Nat.lt_of_le_of_lt (Nat.le_refl 2) (by decide : 2 < 100)) (by decide)) rfl q
theorem me_Memory_word (h : H p = some (.ins C dx (fl_Memory v0 v1 v2))) (r : R) : Kit.InsOf C "word" (.ref p) H R := Kit.w_ins h rfl r
theorem me_Memory_change (h : H p = some (.ins C dx (fl_Memory v0 v1 v2))) (r : R) : Kit.InsOf C "change" (.ref p) H R := Kit.w_ins h rfl r
theorem me_Memory_words (h : H p = some (.ins C dx (fl_Memory v0 v1 v2))) (r : R) : Kit.InsOf C "words" (.ref p) H R := Kit.w_ins h rfl r
theorem me_Memory_root (h : H p = some (.ins C dx (fl_Memory v0 v1 v2))) (r : R) : Kit.InsOf C "root" (.ref p) H R := Kit.w_ins h rfl r
theorem me_Memory_path (h : H p = some (.ins C dx (fl_Memory v0 v1 v2))) (r : R) : Kit.InsOf C "path" (.ref p) H R := Kit.w_ins h rfl r
end
def fl_Machine (v0 v1 v2 v3 : V) : List (Str × V) := [("_digests", v0), ("_registers", v1), ("_memory", v2), ("_told", v3)]
section
variable {K : PySem.W.Frag} {mg : Str → Option Value} {H : Hp} {p C dx : Addr} {v0 v1 v2 v3 : V} {Q : VK} {R : Prop}
theorem rd_Machine_digests (T : Txt K mg) (h : H p = some (.ins T.c_Machine.C dx (fl_Machine v0 v1 v2 v3))) (q : Q v0 H) : Kit.FldOf K "_digests" (.ref p) H Q := Kit.w_rd h T.c_Machine.cl T.n_Machine_digests rfl q
theorem pt_Machine_digests (T : Txt K mg) {y : V} {W : Hp → Prop} (h : H p = some (.ins T.c_Machine.C dx (fl_Machine v0 v1 v2 v3))) (q : ∀ H2, Kit.ExBut p H H2 → H2 p = some (.ins T.c_Machine.C dx (fl_Machine y v1 v2 v3)) → W H2) : Kit.PutOf K "_digests" y (.ref p) H W := Kit.w_put h T.c_Machine.cl T.n_Machine_digests (Nat.lt_of_lt_of_le (Nat.lt_of_le_of_lt (Nat.le_refl 4) (by decide : 4 < 100)) (by decide)) rfl q
theorem in_Machine_digests (T : Txt K mg) {y : V} {W : Hp → Prop} (h : H p = some (.ins T.c_Machine.C dx [])) (q : ∀ H2, Kit.ExBut p H H2 → H2 p = some (.ins T.c_Machine.C dx ([("_digests", y)])) → W H2) : Kit.PutOf K "_digests" y (.ref p) H W := Kit.w_put h T.c_Machine.cl T.n_Machine_digests (Nat.lt_of_lt_of_le (Nat.lt_of_le_of_lt (Nat.le_refl 0) (by decide : 0 < 100)) (by decide)) rfl q
theorem rd_Machine_registers (T : Txt K mg) (h : H p = some (.ins T.c_Machine.C dx (fl_Machine v0 v1 v2 v3))) (q : Q v1 H) : Kit.FldOf K "_registers" (.ref p) H Q := Kit.w_rd h T.c_Machine.cl T.n_Machine_registers rfl q
theorem pt_Machine_registers (T : Txt K mg) {y : V} {W : Hp → Prop} (h : H p = some (.ins T.c_Machine.C dx (fl_Machine v0 v1 v2 v3))) (q : ∀ H2, Kit.ExBut p H H2 → H2 p = some (.ins T.c_Machine.C dx (fl_Machine v0 y v2 v3)) → W H2) : Kit.PutOf K "_registers" y (.ref p) H W := Kit.w_put h T.c_Machine.cl T.n_Machine_registers (Nat.lt_of_lt_of_le (Nat.lt_of_le_of_lt (Nat.le_refl 4) (by decide : 4 < 100)) (by decide)) rfl q
theorem in_Machine_registers (T : Txt K mg) {y : V} {W : Hp → Prop} (h : H p = some (.ins T.c_Machine.C dx [("_digests", v0)])) (q : ∀ H2, Kit.ExBut p H H2 → H2 p = some (.ins T.c_Machine.C dx ([("_digests", v0), ("_registers", y)])) → W H2) : Kit.PutOf K "_registers" y (.ref p) H W := Kit.w_put h T.c_Machine.cl T.n_Machine_registers (Nat.lt_of_lt_of_le (Nat.lt_of_le_of_lt (Nat.le_refl 1) (by decide : 1 < 100)) (by decide)) rfl q
theorem rd_Machine_memory (T : Txt K mg) (h : H p = some (.ins T.c_Machine.C dx (fl_Machine v0 v1 v2 v3))) (q : Q v2 H) : Kit.FldOf K "_memory" (.ref p) H Q := Kit.w_rd h T.c_Machine.cl T.n_Machine_memory rfl q
theorem pt_Machine_memory (T : Txt K mg) {y : V} {W : Hp → Prop} (h : H p = some (.ins T.c_Machine.C dx (fl_Machine v0 v1 v2 v3))) (q : ∀ H2, Kit.ExBut p H H2 → H2 p = some (.ins T.c_Machine.C dx (fl_Machine v0 v1 y v3)) → W H2) : Kit.PutOf K "_memory" y (.ref p) H W := Kit.w_put h T.c_Machine.cl T.n_Machine_memory (Nat.lt_of_lt_of_le (Nat.lt_of_le_of_lt (Nat.le_refl 4) (by decide : 4 < 100)) (by decide)) rfl q
theorem in_Machine_memory (T : Txt K mg) {y : V} {W : Hp → Prop} (h : H p = some (.ins T.c_Machine.C dx [("_digests", v0), ("_registers", v1)])) (q : ∀ H2, Kit.ExBut p H H2 → H2 p = some (.ins T.c_Machine.C dx ([("_digests", v0), ("_registers", v1), ("_memory", y)])) → W H2) : Kit.PutOf K "_memory" y (.ref p) H W := Kit.w_put h T.c_Machine.cl T.n_Machine_memory (Nat.lt_of_lt_of_le (Nat.lt_of_le_of_lt (Nat.le_refl 2) (by decide : 2 < 100)) (by decide)) rfl q
theorem rd_Machine_told (T : Txt K mg) (h : H p = some (.ins T.c_Machine.C dx (fl_Machine v0 v1 v2 v3))) (q : Q v3 H) : Kit.FldOf K "_told" (.ref p) H Q := Kit.w_rd h T.c_Machine.cl T.n_Machine_told rfl q
theorem pt_Machine_told (T : Txt K mg) {y : V} {W : Hp → Prop} (h : H p = some (.ins T.c_Machine.C dx (fl_Machine v0 v1 v2 v3))) (q : ∀ H2, Kit.ExBut p H H2 → H2 p = some (.ins T.c_Machine.C dx (fl_Machine v0 v1 v2 y)) → W H2) : Kit.PutOf K "_told" y (.ref p) H W := Kit.w_put h T.c_Machine.cl T.n_Machine_told (Nat.lt_of_lt_of_le (Nat.lt_of_le_of_lt (Nat.le_refl 4) (by decide : 4 < 100)) (by decide)) rfl q
theorem in_Machine_told (T : Txt K mg) {y : V} {W : Hp → Prop} (h : H p = some (.ins T.c_Machine.C dx [("_digests", v0), ("_registers", v1), ("_memory", v2)])) (q : ∀ H2, Kit.ExBut p H H2 → H2 p = some (.ins T.c_Machine.C dx (fl_Machine v0 v1 v2 y)) → W H2) : Kit.PutOf K "_told" y (.ref p) H W := Kit.w_put h T.c_Machine.cl T.n_Machine_told (Nat.lt_of_lt_of_le (Nat.lt_of_le_of_lt (Nat.le_refl 3) (by decide : 3 < 100)) (by decide)) rfl q
theorem me_Machine_registers (h : H p = some (.ins C dx (fl_Machine v0 v1 v2 v3))) (r : R) : Kit.InsOf C "registers" (.ref p) H R := Kit.w_ins h rfl r
theorem me_Machine_words (h : H p = some (.ins C dx (fl_Machine v0 v1 v2 v3))) (r : R) : Kit.InsOf C "words" (.ref p) H R := Kit.w_ins h rfl r
theorem me_Machine_word (h : H p = some (.ins C dx (fl_Machine v0 v1 v2 v3))) (r : R) : Kit.InsOf C "word" (.ref p) H R := Kit.w_ins h rfl r
theorem me_Machine_path (h : H p = some (.ins C dx (fl_Machine v0 v1 v2 v3))) (r : R) : Kit.InsOf C "path" (.ref p) H R := Kit.w_ins h rfl r
theorem me_Machine_root (h : H p = some (.ins C dx (fl_Machine v0 v1 v2 v3))) (r : R) : Kit.InsOf C "root" (.ref p) H R := Kit.w_ins h rfl r
theorem me_Machine_digest (h : H p = some (.ins C dx (fl_Machine v0 v1 v2 v3))) (r : R) : Kit.InsOf C "digest" (.ref p) H R := Kit.w_ins h rfl r
theorem me_Machine_step (h : H p = some (.ins C dx (fl_Machine v0 v1 v2 v3))) (r : R) : Kit.InsOf C "step" (.ref p) H R := Kit.w_ins h rfl r
theorem me_Machine_told (h : H p = some (.ins C dx (fl_Machine v0 v1 v2 v3))) (r : R) : Kit.InsOf C "told" (.ref p) H R := Kit.w_ins h rfl r
end
local macro_rules | `(tactic| walk_at "wp1") => `(tactic| ((with_reducible show Kit.FldOf _ _ _ _ _); first | with_reducible refine rd_Digests_bits _ (by walk_at "hp") ?_ | with_reducible refine rd_Digests_book _ (by walk_at "hp") ?_ | with_reducible refine rd_Digests_modulus _ (by walk_at "hp") ?_ | with_reducible refine rd_Memory_digests _ (by walk_at "hp") ?_ | with_reducible refine rd_Memory_words _ (by walk_at "hp") ?_ | with_reducible refine rd_Memory_levels _ (by walk_at "hp") ?_ | with_reducible refine rd_Machine_digests _ (by walk_at "hp") ?_ | with_reducible refine rd_Machine_registers _ (by walk_at "hp") ?_ | with_reducible refine rd_Machine_memory _ (by walk_at "hp") ?_ | with_reducible refine rd_Machine_told _ (by walk_at "hp") ?_))
local macro_rules | `(tactic| walk_at "wp1") => `(tactic| ((with_reducible show Kit.InsOf _ _ _ _ _); first | with_reducible refine me_Digests_leaf (by walk_at "hp") ?_ | with_reducible refine me_Digests_fold (by walk_at "hp") ?_ | with_reducible refine me_Digests_state (by walk_at "hp") ?_ | with_reducible refine me_Digests_is_digest (by walk_at "hp") ?_ | with_reducible refine me_Digests__noted (by walk_at "hp") ?_ | with_reducible refine me_Memory_word (by walk_at "hp") ?_ | with_reducible refine me_Memory_change (by walk_at "hp") ?_ | with_reducible refine me_Memory_words (by walk_at "hp") ?_ | with_reducible refine me_Memory_root (by walk_at "hp") ?_ | with_reducible refine me_Memory_path (by walk_at "hp") ?_ | with_reducible refine me_Machine_registers (by walk_at "hp") ?_ | with_reducible refine me_Machine_words (by walk_at "hp") ?_ | with_reducible refine me_Machine_word (by walk_at "hp") ?_ | with_reducible refine me_Machine_path (by walk_at "hp") ?_ | with_reducible refine me_Machine_root (by walk_at "hp") ?_ | with_reducible refine me_Machine_digest (by walk_at "hp") ?_ | with_reducible refine me_Machine_step (by walk_at "hp") ?_ | with_reducible refine me_Machine_told (by walk_at "hp") ?_))
local macro_rules | `(tactic| walk_at "wp1") => `(tactic| ((with_reducible show Kit.PutOf _ _ _ _ _ _); first | (with_reducible refine pt_Digests_bits _ (by walk_at "hp") ?_; intro _ _ _) | (with_reducible refine in_Digests_bits _ (by walk_at "hp") ?_; intro _ _ _) | (with_reducible refine pt_Digests_book _ (by walk_at "hp") ?_; intro _ _ _) | (with_reducible refine in_Digests_book _ (by walk_at "hp") ?_; intro _ _ _) | (with_reducible refine pt_Digests_modulus _ (by walk_at "hp") ?_; intro _ _ _) | (with_reducible refine in_Digests_modulus _ (by walk_at "hp") ?_; intro _ _ _) | (with_reducible refine pt_Memory_digests _ (by walk_at "hp") ?_; intro _ _ _) | (with_reducible refine in_Memory_digests _ (by walk_at "hp") ?_; intro _ _ _) | (with_reducible refine pt_Memory_words _ (by walk_at "hp") ?_; intro _ _ _) | (with_reducible refine in_Memory_words _ (by walk_at "hp") ?_; intro _ _ _) | (with_reducible refine pt_Memory_levels _ (by walk_at "hp") ?_; intro _ _ _) | (with_reducible refine in_Memory_levels _ (by walk_at "hp") ?_; intro _ _ _) | (with_reducible refine pt_Machine_digests _ (by walk_at "hp") ?_; intro _ _ _) | (with_reducible refine in_Machine_digests _ (by walk_at "hp") ?_; intro _ _ _) | (with_reducible refine pt_Machine_registers _ (by walk_at "hp") ?_; intro _ _ _) | (with_reducible refine in_Machine_registers _ (by walk_at "hp") ?_; intro _ _ _) | (with_reducible refine pt_Machine_memory _ (by walk_at "hp") ?_; intro _ _ _) | (with_reducible refine in_Machine_memory _ (by walk_at "hp") ?_; intro _ _ _) | (with_reducible refine pt_Machine_told _ (by walk_at "hp") ?_; intro _ _ _) | (with_reducible refine in_Machine_told _ (by walk_at "hp") ?_; intro _ _ _)))
theorem ex_done {Q : VK} {v u : V} {H H' : Hp} (q : ∀ H', Evl.Ex H H' → Q v H') (e : Evl.Ex H H') (h : v = u) : Q u H' := h ▸ q H' e
section
variable {P : Program} {w : World} {K : PySem.W.Frag} {mg : Str → Option Value} {base : Heap}

theorem kAll (K : PySem.W.Frag) {X : Cx} (hc : X.calm = true) (h : X.K = K := by rfl) : CallR X (.builtin "all") (rAll K) := h ▸ cr_all hc

/-! ### the mathematics -/
inductive Sg where | add | sub | mul | div | mod | eq | ne | lt | le | gt | ge
deriving DecidableEq
def Sg.str : Sg → Str
  | .add => "+" | .sub => "-" | .mul => "*" | .div => "/" | .mod => "mod" | .eq => "==" | .ne => "!=" | .lt => "<" | .le => "<=" | .gt => ">" | .ge => ">="
def sp_divided : Sp := fun vs H Q _ => ∃ (s : Str) (a b : Int), vs = [.str s, .int a, .int b] ∧ (s = "/" ∨ s = "mod") ∧ 0 ≤ b ∧ b < 65536 ∧ ∀ H', Evl.Ex H H' → Q (if b = 0 then .non else if s = "/" then .int (a / b) else .int (a % b)) H'
theorem ok_divided (T : Txt K mg) : FnOk P w K mg base CX0 1 T.f_divided.f T.f_divided.fd ["sign", "a", "b"] (sp_divided) := by
  refine T.f_divided.F.ok sc_divided (fun vs H Q E h => ?_) (fun cdv A outer s H vs Q E hr h => ?_)
  · obtain ⟨s, a, b, rfl, hs, h0, h1, q⟩ := h
    rfl
  obtain ⟨s, a, b, rfl, hs, h0, h1, q⟩ := h
  have nd := sc_divided.nd
  refine Kit.ok_body (σ := [some _, some _, some _]) ((pss_cons (ps_if (pt_cmpR op_eq (pv 2) pe_int (nomark _))
    (pss_one (ps_ret pe_non))
    pss_nil)
    (pss_one (ps_ret (pe_ifExp (pt_cmpR op_eq (pv 0) pe_str (nomark _)) (pe_op op_fdivW (pv 1) (pv 2)) (pe_op op_mod (pv 1) (pv 2))))))) rfl ?_
  rcases hs with rfl | rfl <;> walk_at "wp"
  all_goals rename_i hb
  · rw [if_pos hb] at q
    exact q _ (Evl.Ex.refl _)
  · rw [if_neg hb, if_pos rfl] at q
    exact q _ (Evl.Ex.refl _)
  · rw [if_pos hb] at q
    exact q _ (Evl.Ex.refl _)
  · rw [if_neg hb, if_neg (by decide +kernel)] at q
    exact q _ (Evl.Ex.refl _)
def sp_wrapped : Sp := fun vs H Q _ => ∃ (s : Str) (a b : Int), vs = [.str s, .int a, .int b] ∧ (s = "+" ∨ s = "-" ∨ s = "*") ∧ 0 ≤ a ∧ a < 65536 ∧ 0 ≤ b ∧ b < 65536 ∧ ∀ H', Evl.Ex H H' → Q (.int ((if s = "+" then a + b else if s = "-" then a - b else a * b) % 65536)) H'
theorem ok_wrapped (T : Txt K mg) : FnOk P w K mg base CX0 1 T.f_wrapped.f T.f_wrapped.fd ["sign", "a", "b"] (sp_wrapped) := by
  refine T.f_wrapped.F.ok sc_wrapped (fun vs H Q E h => ?_) (fun cdv A outer s H vs Q E hr h => ?_)
  · obtain ⟨s, a, b, rfl, hs, ha0, ha1, h0, h1, q⟩ := h
    rfl
  obtain ⟨s, a, b, rfl, hs, ha0, ha1, h0, h1, q⟩ := h
  have nd := sc_wrapped.nd
  refine Kit.ok_body (σ := [some _, some _, some _, none]) ((pss_cons (ps_if (pt_cmpR op_eq (pv 0) pe_str (nomark _))
    (pss_one (ps_set (i := 3) nd rfl (Or.inl rfl) (pe_op op_add (pv 1) (pv 2))))
    (pss_one (ps_if (pt_cmpR op_eq (pv 0) pe_str (nomark _))
    (pss_one (ps_set (i := 3) nd rfl (Or.inl rfl) (pe_op op_sub (pv 1) (pv 2))))
    (pss_one (ps_set (i := 3) nd rfl (Or.inl rfl) (pe_op op_mul (pv 1) (pv 2)))))))
    (pss_one (ps_ret (pe_op op_mod (pv 3) (pe_op op_add (pe_glob (v := .int 65535) rfl T.g_MOST_WORD ⟨_, rfl⟩) pe_int)))))) rfl ?_
  rcases hs with rfl | rfl | rfl <;> walk_at "wp"
  · rw [if_pos rfl] at q
    exact q _ (Evl.Ex.refl _)
  · rw [if_neg (by decide +kernel), if_pos rfl] at q
    exact q _ (Evl.Ex.refl _)
  · rw [if_neg (by decide +kernel), if_neg (by decide +kernel)] at q
    exact q _ (Evl.Ex.refl _)
def cmpB : Sg → Int → Int → Bool
  | .eq, a, b => decide (a = b)
  | .ne, a, b => !decide (a = b)
  | .lt, a, b => decide (a < b)
  | .le, a, b => decide (a ≤ b)
  | .gt, a, b => decide (b < a)
  | .ge, a, b => decide (b ≤ a)
  | _, _, _ => false
def Sg.isCmp : Sg → Bool
  | .eq | .ne | .lt | .le | .gt | .ge => true
  | _ => false
def sp_holds : Sp := fun vs H Q _ => ∃ (g : Sg) (a b : Int), vs = [.str g.str, .int a, .int b] ∧ g.isCmp = true ∧ ∀ H', Evl.Ex H H' → Q (.bl (cmpB g a b)) H'
theorem ok_holds (T : Txt K mg) : FnOk P w K mg base CX0 1 T.f_holds.f T.f_holds.fd ["sign", "a", "b"] (sp_holds) := by
  refine T.f_holds.F.ok sc_holds (fun vs H Q E h => ?_) (fun cdv A outer s H vs Q E hr h => ?_)
  · obtain ⟨g, a, b, rfl, hs, q⟩ := h
    rfl
  obtain ⟨g, a, b, rfl, hs, q⟩ := h
  have nd := sc_holds.nd
  refine Kit.ok_body (σ := [some _, some _, some _]) ((pss_cons (ps_if (pt_cmpR op_eq (pv 0) pe_str (nomark _))
    (pss_one (ps_ret (pe_cmpR op_eq (pv 1) (pv 2) (nomark _))))
    pss_nil)
    (pss_cons (ps_if (pt_cmpR op_eq (pv 0) pe_str (nomark _))
    (pss_one (ps_ret (pe_cmpR op_ne (pv 1) (pv 2) (nomark _))))
    pss_nil)
    (pss_cons (ps_if (pt_cmpR op_eq (pv 0) pe_str (nomark _))
    (pss_one (ps_ret (pe_cmpR op_lt (pv 1) (pv 2) (nomark _))))
    pss_nil)
    (pss_cons (ps_if (pt_cmpR op_eq (pv 0) pe_str (nomark _))
    (pss_one (ps_ret (pe_cmpR op_le (pv 1) (pv 2) (nomark _))))
    pss_nil)
    (pss_cons (ps_if (pt_cmpR op_eq (pv 0) pe_str (nomark _))
    (pss_one (ps_ret (pe_cmpR op_gt (pv 1) (pv 2) (nomark _))))
    pss_nil)
    (pss_one (ps_ret (pe_cmpR op_ge (pv 1) (pv 2) (nomark _)))))))))) rfl ?_
  have q := q _ (Evl.Ex.refl _)
  cases g <;> first | (cases hs; done) | skip
  all_goals dsimp only [Sg.str]
  all_goals walk_at "wp"
  all_goals exact q
def opV : Sg → Int → Int → V
  | .add, a, b => .int ((a + b) % 65536)
  | .sub, a, b => .int ((a - b) % 65536)
  | .mul, a, b => .int ((a * b) % 65536)
  | .div, a, b => if b = 0 then .non else .int (a / b)
  | .mod, a, b => if b = 0 then .non else .int (a % b)
  | g, a, b => if cmpB g a b = true then .int 1 else .int 0
theorem use_divided {s : Str} {a b : Int} {H : Hp} {Q : VK} {E : XK} (hs : s = "/" ∨ s = "mod") (h0 : 0 ≤ b) (h1 : b < 65536) (k : ∀ H', Evl.Ex H H' → Q (if b = 0 then .non else if s = "/" then .int (a / b) else .int (a % b)) H') : sp_divided [.str s, .int a, .int b] H Q E := ⟨s, a, b, rfl, hs, h0, h1, k⟩
theorem use_wrapped {s : Str} {a b : Int} {H : Hp} {Q : VK} {E : XK} (hs : s = "+" ∨ s = "-" ∨ s = "*") (ha0 : 0 ≤ a) (ha1 : a < 65536) (h0 : 0 ≤ b) (h1 : b < 65536) (k : ∀ H', Evl.Ex H H' → Q (.int ((if s = "+" then a + b else if s = "-" then a - b else a * b) % 65536)) H') : sp_wrapped [.str s, .int a, .int b] H Q E := ⟨s, a, b, rfl, hs, ha0, ha1, h0, h1, k⟩
theorem opV_cmp {g : Sg} {a b : Int} (hg : g.isCmp = true) : opV g a b = if cmpB g a b = true then .int 1 else .int 0 := by cases g <;> first | rfl | cases hg
def sp_op : Sp := fun vs H Q _ => ∃ (g : Sg) (a b : Int), vs = [.str g.str, .int a, .int b] ∧ 0 ≤ a ∧ a < 65536 ∧ 0 ≤ b ∧ b < 65536 ∧ ∀ H', Evl.Ex H H' → Q (opV g a b) H'
local macro_rules | `(tactic| walk_at "wp1") => `(tactic| ((with_reducible refine use_divided (by first | exact .inl rfl | exact .inr rfl) (by assumption) (by assumption) ?_); intro _ _))
local macro_rules | `(tactic| walk_at "wp1") => `(tactic| ((with_reducible refine use_wrapped (by first | exact .inl rfl | exact .inr (.inl rfl) | exact .inr (.inr rfl)) (by assumption) (by assumption) (by assumption) (by assumption) ?_); intro _ _))
theorem use_holds {g : Sg} {a b : Int} {H : Hp} {Q : VK} {E : XK} (s : Str) (hs : g.str = s) (hg : g.isCmp = true) (k : ∀ H', Evl.Ex H H' → Q (.bl (cmpB g a b)) H') : sp_holds [.str s, .int a, .int b] H Q E := ⟨g, a, b, by rw [hs], hg, k⟩
theorem ok_op (T : Txt K mg) : FnOk P w K mg base CX0 2 T.f_op.f T.f_op.fd ["sign", "a", "b"] (sp_op) := by
  have G_divided := ok_divided (P := P) (w := w) (base := base) T
  have G_holds := ok_holds (P := P) (w := w) (base := base) T
  have G_wrapped := ok_wrapped (P := P) (w := w) (base := base) T
  refine T.f_op.F.ok sc_op (fun vs H Q E h => ?_) (fun cdv A outer s H vs Q E hr h => ?_)
  · obtain ⟨g, a, b, rfl, ha0, ha1, h0, h1, q⟩ := h
    rfl
  obtain ⟨g, a, b, rfl, ha0, ha1, h0, h1, q⟩ := h
  have nd := sc_op.nd
  have hr1 : Room 1 _ := hr.mono (by decide)
  refine Kit.ok_body (σ := [some _, some _, some _]) ((pss_cons (ps_if (pt_cmpR (Kit.kIn K) (pv 0) (pe_tup (pa_cons pe_str (pa_cons pe_str pa_nil))) (by rfl))
    (pss_one (ps_ret (pe_call G_divided hr1 (by rfl) T.f_divided.g T.f_divided.F.kp T.f_divided.b .nil pass0 (pa_cons (pv 0) (pa_cons (pv 1) (pa_cons (pv 2) pa_nil))))))
    pss_nil)
    (pss_cons (ps_if (pt_cmpR (Kit.kIn K) (pv 0) (pe_tup (pa_cons pe_str (pa_cons pe_str (pa_cons pe_str pa_nil)))) (by rfl))
    (pss_one (ps_ret (pe_call G_wrapped hr1 (by rfl) T.f_wrapped.g T.f_wrapped.F.kp T.f_wrapped.b .nil pass0 (pa_cons (pv 0) (pa_cons (pv 1) (pa_cons (pv 2) pa_nil))))))
    pss_nil)
    (pss_one (ps_ret (pe_ifExp (pt_val (pe_call G_holds hr1 (by rfl) T.f_holds.g T.f_holds.F.kp T.f_holds.b .nil pass0 (pa_cons (pv 0) (pa_cons (pv 1) (pa_cons (pv 2) pa_nil))))) pe_int pe_int)))))) rfl ?_
  cases g
  all_goals dsimp only [Sg.str]
  all_goals walk_at "wp"
  all_goals try exact ex_done q (by walk_at "ex") rfl
  · refine use_holds (g := .eq) _ rfl rfl fun H' e => ?_
    walk_at "wp" <;> (rename_i hc; exact ex_done q (by walk_at "ex") (by rw [opV_cmp rfl, hc]; rfl))
  · refine use_holds (g := .ne) _ rfl rfl fun H' e => ?_
    walk_at "wp" <;> (rename_i hc; exact ex_done q (by walk_at "ex") (by rw [opV_cmp rfl, hc]; rfl))
  · refine use_holds (g := .lt) _ rfl rfl fun H' e => ?_
    walk_at "wp" <;> (rename_i hc; exact ex_done q (by walk_at "ex") (by rw [opV_cmp rfl, hc]; rfl))
  · refine use_holds (g := .le) _ rfl rfl fun H' e => ?_
    walk_at "wp" <;> (rename_i hc; exact ex_done q (by walk_at "ex") (by rw [opV_cmp rfl, hc]; rfl))
  · refine use_holds (g := .gt) _ rfl rfl fun H' e => ?_
    walk_at "wp" <;> (rename_i hc; exact ex_done q (by walk_at "ex") (by rw [opV_cmp rfl, hc]; rfl))
  · refine use_holds (g := .ge) _ rfl rfl fun H' e => ?_
    walk_at "wp" <;> (rename_i hc; exact ex_done q (by walk_at "ex") (by rw [opV_cmp rfl, hc]; rfl))
/-! ### the law's own reckoning -/

/-! ### the machine's names, by texts -/
def strL : List V → List Str := fun xs => xs.filterMap fun v => match v with
  | .str s => some s
  | _ => none
def isStr : V → Bool
  | .str _ => true
  | _ => false
theorem inV_strs {s : Str} : ∀ {xs : List V}, xs.all isStr = true → inV (.str s) xs = decide (s ∈ strL xs) ∧ xs.all flatV = true
  | [], _ => ⟨rfl, rfl⟩
  | v :: xs, h => by
    rw [List.all_cons, Bool.and_eq_true] at h
    obtain ⟨h1, h2⟩ := inV_strs (s := s) h.2
    cases v with
    | str t =>
      refine ⟨?_, by rw [List.all_cons, h2]; rfl⟩
      show (eqV (.str t) (.str s) || inV (.str s) xs) = decide (s ∈ t :: strL xs)
      rw [h1]
      show ((t == s) || decide (s ∈ strL xs)) = _
      rw [Bool.eq_iff_iff, Bool.or_eq_true, beq_iff_eq, decide_eq_true_iff, decide_eq_true_iff, List.mem_cons]
      exact ⟨fun h => h.imp Eq.symm id, fun h => h.imp Eq.symm id⟩
    | _ => cases h.1
theorem w_inS {K : PySem.W.Frag} {s : Str} {p : Addr} {xs : List V} {H : Hp} {Q : VK} (h : SqL K H p xs ∨ SqT K H p xs) (hs : xs.all isStr = true) (q : Q (.bl (decide (s ∈ strL xs))) H) : rIn K false (.str s) (.ref p) H Q := by
  obtain ⟨h1, h2⟩ := inV_strs (s := s) hs
  refine ⟨p, xs, rfl, h, rfl, h2, ?_⟩
  rw [if_neg Bool.false_ne_true, h1]
  exact q
theorem w_gtup {K : PySem.W.Frag} {a : Addr} {xs : List V} {n : Nat} {t : TGs} {σ : L2.St} {H : Hp} {Q : L2.St → Hp → Prop} (h : SqT K H a xs) (hl : xs.length = n) (q : t xs σ H Q) : gTup K n t (.ref a) σ H Q := ⟨a, xs, rfl, h, hl, q⟩
theorem w_gcons {t : TG} {u : TGs} {v : V} {r : List V} {σ : L2.St} {H : Hp} {Q : L2.St → Hp → Prop} (q : t v σ H fun σ' H' => u r σ' H' Q) : gCons t u (v :: r) σ H Q := ⟨v, r, rfl, q⟩
local macro_rules | `(tactic| walk_at "wp1") => `(tactic| first
  | ((with_reducible show L2.rEq (V.str _) _ _ _); refine Kit.w_eqSd ?_)
  | ((with_reducible show L2.rIn _ false (V.str _) _ _ _); refine w_inS (by walk_at "sq2") (by rfl) ?_)
  | ((with_reducible show L2.gTup _ _ _ _ _ _ _); refine w_gtup (by walk_at "sqT") (by rfl) ?_)
  | with_reducible refine w_gcons ?_)
def sgs : List Str := ["+", "-", "*", "/", "mod", "==", "!=", "<", "<=", ">", ">="]
def nms : List Str := ["bad", "halt", "lit", "load", "store", "loadx", "storex", "tox", "index", "bound", "within", "not", "+", "-", "*", "/", "mod", "==", "!=", "<", "<=", ">", ">=", "jump", "zero", "some", "call", "back", "tell"]
def nm (n : Int) : Str := nms.getD n.toNat "bad"
theorem nm_at {n : Int} (h0 : 0 ≤ n) (h1 : n < 29) : atI (nms.map V.str) n = some (.str (nm n)) := by
  obtain ⟨j, rfl⟩ := Int.eq_ofNat_of_zero_le h0
  refine L2.atI_nat (j := j) ?_
  have hj : j < nms.length := by show j < 29; omega
  rw [List.getElem?_map, List.getElem?_eq_getElem hj]
  unfold nm
  show some (V.str nms[j]) = some (V.str (nms.getD (Int.toNat (j : Int)) "bad"))
  rw [Int.toNat_natCast, List.getD_eq_getElem?_getD, List.getElem?_eq_getElem hj]
  rfl
theorem nm_bad {n : Int} (h1 : ¬ n < 29) : nm n = "bad" := by
  unfold nm
  rw [List.getD_eq_getElem?_getD, List.getElem?_eq_none (by show 29 ≤ _; omega)]
  rfl
def sp_name_of : Sp := fun vs H Q _ => ∃ word : Int, vs = [.int word] ∧ 0 ≤ word ∧ word < 65536 ∧ Q (.str (nm (word / 1024))) H
theorem ok_name_of (T : Txt K mg) : FnOk P w K mg base CX0 1 T.f_name_of.f T.f_name_of.fd ["word"] (sp_name_of) := by
  refine T.f_name_of.F.ok sc_name_of (fun vs H Q E h => ?_) (fun cdv A outer s H vs Q E hr h => ?_)
  · obtain ⟨word, rfl, h0, h1, q⟩ := h
    rfl
  obtain ⟨word, rfl, h0, h1, q⟩ := h
  have nd := sc_name_of.nd
  refine Kit.ok_body (σ := [some _, none]) ((pss_cons (ps_set (i := 1) nd rfl (Or.inl rfl) (pe_op op_fdiv (pv 0) pe_int))
    (pss_one (ps_ret (pe_ifExp (pt_cmpR op_lt (pv 1) (pe_callB (Kit.kLen K) (by rfl) T.z_len (by decide +kernel) (pa_cons (pe_glob (v := .ref T.a_NAMES) rfl T.g_NAMES rfl) pa_nil)) (nomark _)) (pe_ix (Kit.ixT K) (pe_glob (v := .ref T.a_NAMES) rfl T.g_NAMES rfl) (pv 1) (fun _ _ => rfl)) pe_str))))) rfl ?_
  walk_at "wp"
  refine Kit.w_len (.inr (T.w_NAMES.sq _)) ?_
  walk_at "wp"
  · rename_i h
    have h : word / 1024 < 29 := h
    exact Kit.w_ixT (xs := nms.map V.str) (T.w_NAMES.sq _) (nm_at (by omega) h) q
  · rename_i h
    have h : ¬ word / 1024 < 29 := h
    rw [nm_bad h] at q
    exact q
def sp_behind : Sp := fun vs H Q _ => ∃ p : Int, vs = [.int p] ∧ Q (.int ((p + 1) % 256)) H
theorem ok_behind (T : Txt K mg) : FnOk P w K mg base CX0 1 T.f_behind.f T.f_behind.fd ["place"] (sp_behind) := by
  refine T.f_behind.F.ok sc_behind (fun vs H Q E h => ?_) (fun cdv A outer s H vs Q E hr h => ?_)
  · obtain ⟨p, rfl, q⟩ := h
    rfl
  obtain ⟨p, rfl, q⟩ := h
  have nd := sc_behind.nd
  refine Kit.ok_body (σ := [some _]) ((pss_one (ps_ret (pe_op op_mod (pe_op op_add (pv 0) pe_int) (pe_glob (v := .int 256) rfl T.g_PLACES ⟨_, rfl⟩))))) rfl ?_
  walk_at "wp"
  exact q
local macro_rules | `(tactic| walk_at "wp1") => `(tactic| ((with_reducible show sp_behind _ _ _ _); refine ⟨_, rfl, ?_⟩))
/-- the place of the other word, and whether it is changed -/
def dataM (s : Str) (word x : Int) : Option (Int × Bool) :=
  if s ∈ (["load", "index", "within", "back"] : List Str) ∨ s ∈ sgs then some (word % 256, false)
  else if s = "loadx" then some ((word % 256 + x) % 256, false)
  else if s ∈ (["store", "call"] : List Str) then some (word % 256, true)
  else if s = "storex" then some ((word % 256 + x) % 256, true)
  else none
def VData (H : Hp) : Option (Int × Bool) → V → Prop
  | none, v => v = .non
  | some (p, b), v => ∃ t, v = .ref t ∧ H t = some (.tup [.int p, .bl b])
def regsV (pc acc x mark out count : Int) : List V := [.int pc, .int acc, .int x, .int mark, .int out, .int count]
def sp_data_of (K : PySem.W.Frag) : Sp := fun vs H Q _ => ∃ (r : Addr) (word pc acc x mark out count : Int), vs = [.ref r, .int word] ∧ SqT K H r [.int pc, .int acc, .int x, .int mark, .int out, .int count] ∧ 0 ≤ word ∧ word < 65536 ∧ ∀ v H', Evl.Ex H H' → VData H' (dataM (nm (word / 1024)) word x) v → Q v H'
theorem ok_data_of (T : Txt K mg) : FnOk P w K mg base CX0 2 T.f_data_of.f T.f_data_of.fd ["registers", "word"] (sp_data_of K) := by
  have G_name_of := ok_name_of (P := P) (w := w) (base := base) T
  refine T.f_data_of.F.ok sc_data_of (fun vs H Q E h => ?_) (fun cdv A outer s H vs Q E hr h => ?_)
  · obtain ⟨r, word, pc, acc, x, mark, out, count, rfl, hr6, h0, h1, q⟩ := h
    rfl
  obtain ⟨r, word, pc, acc, x, mark, out, count, rfl, hr6, h0, h1, q⟩ := h
  have nd := sc_data_of.nd
  have hr1 : Room 1 _ := hr.mono (by decide)
  refine Kit.ok_body (σ := [some _, some _, none, none, none]) ((pss_cons (ps_set (i := 2) nd rfl (Or.inl rfl) (pe_call G_name_of hr1 (by rfl) T.f_name_of.g T.f_name_of.F.kp T.f_name_of.b .nil pass0 (pa_cons (pv 1) pa_nil)))
    (pss_cons (ps_set (i := 3) nd rfl (Or.inl rfl) (pe_op op_mod (pv 1) (pe_glob (v := .int 256) rfl T.g_PLACES ⟨_, rfl⟩)))
    (pss_cons (ps_set (i := 4) nd rfl (Or.inl rfl) (pe_op op_mod (pe_op op_add (pv 3) (pe_ix (Kit.ixT K) (pv 0) pe_int (fun _ _ => rfl))) (pe_glob (v := .int 256) rfl T.g_PLACES ⟨_, rfl⟩)))
    (pss_cons (ps_if (PW.pt (pw_or (pt_cmpR (Kit.kIn K) (pv 2) (pe_tup (pa_cons pe_str (pa_cons pe_str (pa_cons pe_str (pa_cons pe_str pa_nil))))) (by rfl)) (pw_or1 (pt_cmpR (Kit.kIn K) (pv 2) (pe_glob (v := .ref T.a_SIGNS) rfl T.g_SIGNS rfl) (by rfl)))))
    (pss_one (ps_ret (pe_tup (pa_cons (pv 3) (pa_cons pe_bl pa_nil)))))
    pss_nil)
    (pss_cons (ps_if (pt_cmpR op_eq (pv 2) pe_str (nomark _))
    (pss_one (ps_ret (pe_tup (pa_cons (pv 4) (pa_cons pe_bl pa_nil)))))
    pss_nil)
    (pss_cons (ps_if (pt_cmpR (Kit.kIn K) (pv 2) (pe_tup (pa_cons pe_str (pa_cons pe_str pa_nil))) (by rfl))
    (pss_one (ps_ret (pe_tup (pa_cons (pv 3) (pa_cons pe_bl pa_nil)))))
    pss_nil)
    (pss_cons (ps_if (pt_cmpR op_eq (pv 2) pe_str (nomark _))
    (pss_one (ps_ret (pe_tup (pa_cons (pv 4) (pa_cons pe_bl pa_nil)))))
    pss_nil)
    (pss_one (ps_ret pe_non)))))))))) rfl ?_
  walk_at "wp"
  refine ⟨word, rfl, h0, h1, ?_⟩
  generalize nm (word / 1024) = s at *
  have go : ∀ (p : Int) (b : Bool) (t : Addr) (H' : Hp), dataM s word x = some (p, b) → Evl.Ex H H' → H' t = some (.tup [.int p, .bl b]) → Q (.ref t) H' := fun p b t H' e1 e2 e3 => q _ _ e2 (by rw [e1]; exact ⟨t, rfl, e3⟩)
  walk_at "wp"
  · refine go _ _ _ _ ?_ (by walk_at "ex") (by assumption)
    unfold dataM
    rw [if_pos (.inl ‹_›)]
  rename_i p1 H1 n1 e1 f1 hn1
  refine w_inS (.inr (T.w_SIGNS.sq _)) (by rfl) ?_
  walk_at "wp"
  · refine go _ _ _ _ ?_ (by walk_at "ex") (by assumption)
    unfold dataM
    rw [if_pos (.inr ‹_›)]
  all_goals (try (refine go _ _ _ _ ?_ (by walk_at "ex") (by assumption)))
  all_goals (try (refine q _ _ (by walk_at "ex") ?_; rw [show dataM s word x = none from ?_]; first | rfl | skip))
  all_goals
    unfold dataM
    rw [if_neg (fun z => z.elim (by assumption) (by assumption))]
  · rw [if_pos (by assumption)]
  · rw [if_neg (by assumption), if_pos (by assumption)]
  · rw [if_neg (by assumption), if_neg (by assumption), if_pos (by assumption)]
  · rw [if_neg (by assumption), if_neg (by assumption), if_neg (by assumption)]

def ParOf (i j : Nat) (vs : List V) (σ : L2.St) (H : Hp) (nx : L2.St → Hp → Prop) : Prop := ∃ v w, vs = [v, w] ∧ nx ((σ.set i (some v)).set j (some w)) H
theorem m_par {i j : Nat} {ta : TA} {nx bk ct : L2.St → Hp → Prop} {rt : VK} {σ : L2.St} {H : Hp} (h : ta σ H fun vs H1 => ParOf i j vs σ H1 nx) : Kit.Sm (tPar i j ta) nx rt bk ct σ H := h
theorem w_par {i j : Nat} {v u : V} {σ σ' : L2.St} {H : Hp} {nx : L2.St → Hp → Prop} (e : (σ.set i (some v)).set j (some u) = σ') (h : nx σ' H) : ParOf i j [v, u] σ H nx := ⟨v, u, rfl, by rw [e]; exact h⟩
theorem w_gname {i : Nat} {v : V} {σ σ' : L2.St} {H : Hp} {Q : L2.St → Hp → Prop} (e : σ.set i (some v) = σ') (h : Q σ' H) : gName i v σ H Q := by subst e; exact h
theorem w_gnil {σ : L2.St} {H : Hp} {Q : L2.St → Hp → Prop} (h : Q σ H) : gNil [] σ H Q := ⟨rfl, h⟩
local macro_rules | `(tactic| walk_at "wp1") => `(tactic| first
  | ((with_reducible show L2.gName _ _ _ _ _); refine w_gname (by simp only [List.set_cons_succ, List.set_cons_zero]; exact rfl) ?_)
  | with_reducible refine w_gnil ?_
  | with_reducible refine m_par ?_
  | ((with_reducible show ParOf _ _ _ _ _ _); refine w_par (by simp only [List.set_cons_succ, List.set_cons_zero]; exact rfl) ?_))
local macro_rules | `(tactic| walk_at "ex2") => `(tactic| first | with_reducible exact Evl.Ex.refl _ | (walk_at "ex"))
/-! ### the registers behind a step -/
def xM (s : Str) (acc x : Int) (data : V) : V := if s = "tox" then .int acc else if s = "index" then data else .int x
def sp_x_by (K : PySem.W.Frag) : Sp := fun vs H Q _ => ∃ (s : Str) (r : Addr) (pc acc x mark out count : Int) (data : V), vs = [.str s, .ref r, data] ∧ SqT K H r [.int pc, .int acc, .int x, .int mark, .int out, .int count] ∧ ∀ H', Evl.Ex H H' → Q (xM s acc x data) H'
theorem ok_x_by (T : Txt K mg) : FnOk P w K mg base CX0 1 T.f_x_by.f T.f_x_by.fd ["name", "registers", "data"] (sp_x_by K) := by
  refine T.f_x_by.F.ok sc_x_by (fun vs H Q E h => ?_) (fun cdv A outer s H vs Q E hr h => ?_)
  · obtain ⟨s, r, pc, acc, x, mark, out, count, data, rfl, hr6, q⟩ := h
    rfl
  obtain ⟨s, r, pc, acc, x, mark, out, count, data, rfl, hr6, q⟩ := h
  have nd := sc_x_by.nd
  refine Kit.ok_body (σ := [some _, some _, some _]) ((pss_cons (ps_if (pt_cmpR op_eq (pv 0) pe_str (nomark _))
    (pss_one (ps_ret (pe_ix (Kit.ixT K) (pv 1) pe_int (fun _ _ => rfl))))
    pss_nil)
    (pss_cons (ps_if (pt_cmpR op_eq (pv 0) pe_str (nomark _))
    (pss_one (ps_ret (pv 2)))
    pss_nil)
    (pss_one (ps_ret (pe_ix (Kit.ixT K) (pv 1) pe_int (fun _ _ => rfl))))))) rfl ?_
  walk_at "wp"
  all_goals (refine ex_done q (by walk_at "ex2") ?_; unfold xM)
  · rw [if_pos (by assumption)]
  · rw [if_neg (by assumption), if_pos (by assumption)]
  · rw [if_neg (by assumption), if_neg (by assumption)]
def chM (s : Str) (pc acc : Int) : V := if s ∈ (["store", "storex"] : List Str) then .int acc else if s = "call" then .int ((pc + 1) % 256) else .non
def sp_changed_by (K : PySem.W.Frag) : Sp := fun vs H Q _ => ∃ (s : Str) (r : Addr) (pc acc x mark out count : Int), vs = [.str s, .ref r] ∧ SqT K H r [.int pc, .int acc, .int x, .int mark, .int out, .int count] ∧ ∀ H', Evl.Ex H H' → Q (chM s pc acc) H'
theorem ok_changed_by (T : Txt K mg) : FnOk P w K mg base CX0 2 T.f_changed_by.f T.f_changed_by.fd ["name", "registers"] (sp_changed_by K) := by
  have G_behind := ok_behind (P := P) (w := w) (base := base) T
  refine T.f_changed_by.F.ok sc_changed_by (fun vs H Q E h => ?_) (fun cdv A outer s H vs Q E hr h => ?_)
  · obtain ⟨s, r, pc, acc, x, mark, out, count, rfl, hr6, q⟩ := h
    rfl
  obtain ⟨s, r, pc, acc, x, mark, out, count, rfl, hr6, q⟩ := h
  have nd := sc_changed_by.nd
  have hr1 : Room 1 _ := hr.mono (by decide)
  refine Kit.ok_body (σ := [some _, some _]) ((pss_cons (ps_if (pt_cmpR (Kit.kIn K) (pv 0) (pe_tup (pa_cons pe_str (pa_cons pe_str pa_nil))) (by rfl))
    (pss_one (ps_ret (pe_ix (Kit.ixT K) (pv 1) pe_int (fun _ _ => rfl))))
    pss_nil)
    (pss_cons (ps_if (pt_cmpR op_eq (pv 0) pe_str (nomark _))
    (pss_one (ps_ret (pe_call G_behind hr1 (by rfl) T.f_behind.g T.f_behind.F.kp T.f_behind.b .nil pass0 (pa_cons (pe_ix (Kit.ixT K) (pv 1) pe_int (fun _ _ => rfl)) pa_nil))))
    pss_nil)
    (pss_one (ps_ret pe_non))))) rfl ?_
  walk_at "wp"
  all_goals (refine ex_done q (by walk_at "ex2") ?_; unfold chM)
  · rw [if_pos (by assumption)]
  · rw [if_neg (by assumption), if_pos (by assumption)]
  · rw [if_neg (by assumption), if_neg (by assumption)]
def pcM (s : Str) (pc acc word d : Int) : Int :=
  if s = "jump" ∨ (s = "zero" ∧ acc = 0) ∨ (s = "some" ∧ ¬ acc = 0) then word % 256 else if s = "call" then (word % 256 + 1) % 256 else if s = "back" then d % 256 else (pc + 1) % 256
def sp_pc_by (K : PySem.W.Frag) : Sp := fun vs H Q _ => ∃ (s : Str) (r : Addr) (pc acc x mark out count word d : Int) (data : V), vs = [.str s, .ref r, .int word, data] ∧ SqT K H r [.int pc, .int acc, .int x, .int mark, .int out, .int count] ∧ (s = "back" → data = .int d) ∧ ∀ H', Evl.Ex H H' → Q (.int (pcM s pc acc word d)) H'
theorem ok_pc_by (T : Txt K mg) : FnOk P w K mg base CX0 2 T.f_pc_by.f T.f_pc_by.fd ["name", "registers", "word", "data"] (sp_pc_by K) := by
  have G_behind := ok_behind (P := P) (w := w) (base := base) T
  refine T.f_pc_by.F.ok sc_pc_by (fun vs H Q E h => ?_) (fun cdv A outer s H vs Q E hr h => ?_)
  · obtain ⟨s, r, pc, acc, x, mark, out, count, word, d, data, rfl, hr6, hd, q⟩ := h
    rfl
  obtain ⟨s, r, pc, acc, x, mark, out, count, word, d, data, rfl, hr6, hd, q⟩ := h
  have nd := sc_pc_by.nd
  have hr1 : Room 1 _ := hr.mono (by decide)
  refine Kit.ok_body (σ := [some _, some _, some _, some _, none, none, none]) ((pss_cons (ps_par (i := 4) (j := 5) rfl nd rfl rfl (by decide) rfl rfl (pa_cons (pe_ix (Kit.ixT K) (pv 1) pe_int (fun _ _ => rfl)) (pa_cons (pe_ix (Kit.ixT K) (pv 1) pe_int (fun _ _ => rfl)) pa_nil)) rfl)
    (pss_cons (ps_set (i := 6) nd rfl (Or.inl rfl) (pe_op op_mod (pv 2) (pe_glob (v := .int 256) rfl T.g_PLACES ⟨_, rfl⟩)))
    (pss_cons (ps_if (PW.pt (pw_or (pt_cmpR op_eq (pv 0) pe_str (nomark _)) (pw_or (PW.pt (pw_and (pt_cmpR op_eq (pv 0) pe_str (nomark _)) (pw_and1 (pt_cmpR op_eq (pv 5) pe_int (nomark _))))) (pw_or1 (PW.pt (pw_and (pt_cmpR op_eq (pv 0) pe_str (nomark _)) (pw_and1 (pt_cmpR op_ne (pv 5) pe_int (nomark _)))))))))
    (pss_one (ps_ret (pv 6)))
    pss_nil)
    (pss_cons (ps_if (pt_cmpR op_eq (pv 0) pe_str (nomark _))
    (pss_one (ps_ret (pe_call G_behind hr1 (by rfl) T.f_behind.g T.f_behind.F.kp T.f_behind.b .nil pass0 (pa_cons (pv 6) pa_nil))))
    pss_nil)
    (pss_cons (ps_if (pt_cmpR op_eq (pv 0) pe_str (nomark _))
    (pss_one (ps_ret (pe_op op_mod (pv 3) (pe_glob (v := .int 256) rfl T.g_PLACES ⟨_, rfl⟩))))
    pss_nil)
    (pss_one (ps_ret (pe_call G_behind hr1 (by rfl) T.f_behind.g T.f_behind.F.kp T.f_behind.b .nil pass0 (pa_cons (pv 4) pa_nil)))))))))) rfl ?_
  walk_at "wp"
  all_goals (try contradiction)
  all_goals (try (rw [hd (by assumption)]; walk_at "wp"))
  all_goals (refine ex_done q (by walk_at "ex2") ?_; unfold pcM)
  all_goals first
    | rw [if_pos (by first | exact .inl (by assumption) | exact .inr (.inl ⟨by assumption, by assumption⟩) | exact .inr (.inr ⟨by assumption, by assumption⟩))]
    | (rw [if_neg (by intro z; rcases z with z | ⟨z, z'⟩ | ⟨z, z'⟩ <;> contradiction)]; first | rw [if_pos (by assumption)] | (rw [if_neg (by assumption)]; first | rw [if_pos (by assumption)] | rw [if_neg (by assumption)]))
theorem opV_cases (g : Sg) (a b : Int) : opV g a b = .non ∨ ∃ n, opV g a b = .int n := by
  by_cases hg : g.isCmp = true
  · rw [opV_cmp hg]
    by_cases h : cmpB g a b = true
    · rw [if_pos h]; exact .inr ⟨_, rfl⟩
    · rw [if_neg h]; exact .inr ⟨_, rfl⟩
  · cases g <;> first | exact .inr ⟨_, rfl⟩ | exact (hg rfl).elim | (by_cases h : b = 0 <;> first | exact .inl (if_pos h) | exact .inr ⟨_, if_neg h⟩)
def sgOf (s : Str) : Sg := if s = "+" then .add else if s = "-" then .sub else if s = "*" then .mul else if s = "/" then .div else if s = "mod" then .mod else if s = "==" then .eq else if s = "!=" then .ne else if s = "<" then .lt else if s = "<=" then .le else if s = ">" then .gt else .ge
theorem sgOf_str : ∀ g : Sg, sgOf g.str = g := by intro g; cases g <;> decide +kernel
theorem sg_of {s : Str} (h : s ∈ sgs) : ∃ g : Sg, s = g.str := by
  simp only [sgs, List.mem_cons, List.not_mem_nil, or_false] at h
  rcases h with rfl | rfl | rfl | rfl | rfl | rfl | rfl | rfl | rfl | rfl | rfl
  · exact ⟨.add, rfl⟩
  · exact ⟨.sub, rfl⟩
  · exact ⟨.mul, rfl⟩
  · exact ⟨.div, rfl⟩
  · exact ⟨.mod, rfl⟩
  · exact ⟨.eq, rfl⟩
  · exact ⟨.ne, rfl⟩
  · exact ⟨.lt, rfl⟩
  · exact ⟨.le, rfl⟩
  · exact ⟨.gt, rfl⟩
  · exact ⟨.ge, rfl⟩
theorem use_op {s : Str} {a b : Int} {H : Hp} {Q : VK} {E : XK} (hs : s ∈ sgs) (h1 : 0 ≤ a ∧ a < 65536) (h2 : 0 ≤ b ∧ b < 65536) (k : ∀ H', Evl.Ex H H' → Q (opV (sgOf s) a b) H') : sp_op [.str s, .int a, .int b] H Q E := by
  obtain ⟨g, rfl⟩ := sg_of hs
  rw [sgOf_str] at k
  exact ⟨g, a, b, rfl, h1.1, h1.2, h2.1, h2.2, k⟩
def accM (s : Str) (acc word d : Int) (data : V) : V :=
  if s = "lit" then .int (word % 1024) else if s ∈ (["load", "loadx"] : List Str) then data else if s = "not" then (if acc = 0 then .int 1 else .int 0) else if s ∈ sgs then opV (sgOf s) acc d else .int acc
def sp_acc_by (K : PySem.W.Frag) : Sp := fun vs H Q _ => ∃ (s : Str) (r : Addr) (pc acc x mark out count word d : Int) (data : V), vs = [.str s, .ref r, .int word, data] ∧ SqT K H r [.int pc, .int acc, .int x, .int mark, .int out, .int count] ∧ 0 ≤ acc ∧ acc < 65536 ∧ (s ∈ sgs → data = .int d ∧ 0 ≤ d ∧ d < 65536) ∧ ∀ H', Evl.Ex H H' → Q (accM s acc word d data) H'
theorem ok_acc_by (T : Txt K mg) : FnOk P w K mg base CX0 3 T.f_acc_by.f T.f_acc_by.fd ["name", "registers", "word", "data"] (sp_acc_by K) := by
  have G_op := ok_op (P := P) (w := w) (base := base) T
  refine T.f_acc_by.F.ok sc_acc_by (fun vs H Q E h => ?_) (fun cdv A outer s H vs Q E hr h => ?_)
  · obtain ⟨s, r, pc, acc, x, mark, out, count, word, d, data, rfl, hr6, a0, a1, hd, q⟩ := h
    rfl
  obtain ⟨s, r, pc, acc, x, mark, out, count, word, d, data, rfl, hr6, a0, a1, hd, q⟩ := h
  have nd := sc_acc_by.nd
  have hr2 : Room 2 _ := hr.mono (by decide)
  refine Kit.ok_body (σ := [some _, some _, some _, some _, none]) ((pss_cons (ps_set (i := 4) nd rfl (Or.inl rfl) (pe_ix (Kit.ixT K) (pv 1) pe_int (fun _ _ => rfl)))
    (pss_cons (ps_if (pt_cmpR op_eq (pv 0) pe_str (nomark _))
    (pss_one (ps_ret (pe_op op_mod (pv 2) pe_int)))
    pss_nil)
    (pss_cons (ps_if (pt_cmpR (Kit.kIn K) (pv 0) (pe_tup (pa_cons pe_str (pa_cons pe_str pa_nil))) (by rfl))
    (pss_one (ps_ret (pv 3)))
    pss_nil)
    (pss_cons (ps_if (pt_cmpR op_eq (pv 0) pe_str (nomark _))
    (pss_one (ps_ret (pe_ifExp (pt_cmpR op_eq (pv 4) pe_int (nomark _)) pe_int pe_int)))
    pss_nil)
    (pss_cons (ps_if (pt_cmpR (Kit.kIn K) (pv 0) (pe_glob (v := .ref T.a_SIGNS) rfl T.g_SIGNS rfl) (by rfl))
    (pss_one (ps_ret (pe_call G_op hr2 (by rfl) T.f_op.g T.f_op.F.kp T.f_op.b .nil pass0 (pa_cons (pv 0) (pa_cons (pv 4) (pa_cons (pv 3) pa_nil))))))
    pss_nil)
    (pss_one (ps_ret (pv 4))))))))) rfl ?_
  walk_at "wp"
  · refine ex_done q (by walk_at "ex2") ?_
    unfold accM
    rw [if_pos (by assumption)]
  · refine ex_done q (by walk_at "ex2") ?_
    unfold accM
    rw [if_neg (by assumption), if_pos (by assumption)]
  · refine ex_done q (by walk_at "ex2") ?_
    unfold accM
    rw [if_neg (by assumption), if_neg (by assumption), if_pos (by assumption), if_pos (by assumption)]
  · refine ex_done q (by walk_at "ex2") ?_
    unfold accM
    rw [if_neg (by assumption), if_neg (by assumption), if_pos (by assumption), if_neg (by assumption)]
  · refine w_inS (.inr (T.w_SIGNS.sq _)) (by rfl) ?_
    walk_at "wp"
    · rename_i hs
      obtain ⟨rfl, d0, d1⟩ := hd hs
      refine use_op hs ⟨a0, a1⟩ ⟨d0, d1⟩ fun H2 e2 => ex_done q (by walk_at "ex2") ?_
      unfold accM
      rw [if_neg (by assumption), if_neg (by assumption), if_neg (by assumption), if_pos (by assumption)]
    · refine ex_done q (by walk_at "ex2") ?_
      unfold accM
      rw [if_neg (by assumption), if_neg (by assumption), if_neg (by assumption), if_neg (by assumption)]
def haltM (s : Str) (word acc x count d : Int) : V :=
  if s = "bad" then .str "bad" else if s = "halt" then .str "done" else if s = "bound" ∧ word % 1024 ≤ x then .str "place" else if s = "within" ∧ d ≤ x then .str "input"
  else if s ∈ sgs ∧ opV (sgOf s) acc d = .non then .str "divided" else if s = "tell" ∧ count = 16 then .str "full" else .non
def sp_halt_by (K : PySem.W.Frag) : Sp := fun vs H Q _ => ∃ (s : Str) (r : Addr) (pc acc x mark out count word d : Int) (data : V), vs = [.str s, .ref r, .int word, data] ∧ SqT K H r [.int pc, .int acc, .int x, .int mark, .int out, .int count] ∧ 0 ≤ acc ∧ acc < 65536 ∧ (s = "within" ∨ s ∈ sgs → data = .int d ∧ 0 ≤ d ∧ d < 65536) ∧ ∀ H', Evl.Ex H H' → Q (haltM s word acc x count d) H'
local macro_rules | `(tactic| walk_at "chain") => `(tactic| repeat (first
  | rw [if_pos (by first | assumption | exact ⟨by assumption, by assumption⟩)]
  | rw [if_neg (by first | assumption | (intro z; first | exact absurd z.1 (by assumption) | exact absurd z.2 (by assumption)))]))
theorem ok_halt_by (T : Txt K mg) : FnOk P w K mg base CX0 3 T.f_halt_by.f T.f_halt_by.fd ["name", "registers", "word", "data"] (sp_halt_by K) := by
  have G_op := ok_op (P := P) (w := w) (base := base) T
  refine T.f_halt_by.F.ok sc_halt_by (fun vs H Q E h => ?_) (fun cdv A outer s H vs Q E hr h => ?_)
  · obtain ⟨s, r, pc, acc, x, mark, out, count, word, d, data, rfl, hr6, a0, a1, hd, q⟩ := h
    rfl
  obtain ⟨s, r, pc, acc, x, mark, out, count, word, d, data, rfl, hr6, a0, a1, hd, q⟩ := h
  have nd := sc_halt_by.nd
  have hr2 : Room 2 _ := hr.mono (by decide)
  refine Kit.ok_body (σ := [some _, some _, some _, some _, none, none, none, none, none, none]) ((pss_cons (ps_asg (pv 1) (Kit.kgTup K rfl (pgs_cons (pg_name (i := 4) nd rfl (Or.inl rfl)) (pgs_cons (pg_name (i := 5) nd rfl (Or.inl rfl)) (pgs_cons (pg_name (i := 6) nd rfl (Or.inl rfl)) (pgs_cons (pg_name (i := 7) nd rfl (Or.inl rfl)) (pgs_cons (pg_name (i := 8) nd rfl (Or.inl rfl)) (pgs_cons (pg_name (i := 9) nd rfl (Or.inl rfl)) pgs_nil))))))))
    (pss_cons (ps_if (pt_cmpR op_eq (pv 0) pe_str (nomark _))
    (pss_one (ps_ret pe_str))
    pss_nil)
    (pss_cons (ps_if (pt_cmpR op_eq (pv 0) pe_str (nomark _))
    (pss_one (ps_ret pe_str))
    pss_nil)
    (pss_cons (ps_if (PW.pt (pw_and (pt_cmpR op_eq (pv 0) pe_str (nomark _)) (pw_and1 (pt_cmpR op_ge (pv 6) (pe_op op_mod (pv 2) pe_int) (nomark _)))))
    (pss_one (ps_ret pe_str))
    pss_nil)
    (pss_cons (ps_if (PW.pt (pw_and (pt_cmpR op_eq (pv 0) pe_str (nomark _)) (pw_and1 (pt_cmpR op_ge (pv 6) (pv 3) (nomark _)))))
    (pss_one (ps_ret pe_str))
    pss_nil)
    (pss_cons (ps_if (PW.pt (pw_and (pt_cmpR (Kit.kIn K) (pv 0) (pe_glob (v := .ref T.a_SIGNS) rfl T.g_SIGNS rfl) (by rfl)) (pw_and1 (pt_cmpR Kit.k_isN (pe_call G_op hr2 (by rfl) T.f_op.g T.f_op.F.kp T.f_op.b .nil pass0 (pa_cons (pv 0) (pa_cons (pv 5) (pa_cons (pv 3) pa_nil)))) pe_non (nomark _)))))
    (pss_one (ps_ret pe_str))
    pss_nil)
    (pss_cons (ps_if (PW.pt (pw_and (pt_cmpR op_eq (pv 0) pe_str (nomark _)) (pw_and1 (pt_cmpR op_eq (pv 9) (pe_glob (v := .int 16) rfl T.g_MOST_TOLD ⟨_, rfl⟩) (nomark _)))))
    (pss_one (ps_ret pe_str))
    pss_nil)
    (pss_one (ps_ret pe_non)))))))))) rfl ?_
  walk_at "wp"
  all_goals (try ((with_reducible show rI0 _ _ _ _ _); have hw : s = ("within" : Str) := (by assumption); have e := hd (.inl hw); obtain ⟨e, d0, d1⟩ := e; cases e; walk_at "wp"))
  all_goals (try (refine w_inS (.inr (T.w_SIGNS.sq _)) (by rfl) ?_; walk_at "wp"))
  all_goals (try ((with_reducible show sp_op _ _ _ _); rename_i hs; have e := hd (.inr hs); obtain ⟨e, d0, d1⟩ := e; cases e; refine use_op hs ⟨a0, a1⟩ ⟨d0, d1⟩ fun H2 e2 => ?_; rcases opV_cases (sgOf s) acc d with hN | ⟨nn, hM⟩))
  all_goals (try (rw [hN]; walk_at "wp"))
  all_goals (try (have hn : ¬ opV (sgOf s) acc d = .non := (by rw [hM]; exact fun z => nomatch z)); try (rw [hM]; walk_at "wp"))
  all_goals (refine ex_done q (by walk_at "ex2") ?_; unfold haltM; walk_at "chain")

/-! ### digests without a book -/
def leafI (m x : Int) : Int := (48271 * x + 11) % m
def foldI (m x y : Int) : Int := (y * y + 3 * x + 7 * y + 1 + (69621 * x + 16807 * y + 5) * (69621 * x + 16807 * y + 5)) % m
def stepI (m d n : Int) : Int := ((d + n) * (d + 48611) + 52774 * n + 19) % m
def stateI (m : Int) (ns : List Int) : Int := ns.foldl (stepI m) 3
def Dg (m x : Int) : Prop := 0 ≤ x ∧ x < m
inductive IsBits : Int → Prop where
  | b7 : IsBits 7 | b13 : IsBits 13 | b31 : IsBits 31 | b61 : IsBits 61
theorem IsBits.or {b : Int} (h : IsBits b) : b = 7 ∨ b = 13 ∨ b = 31 ∨ b = 61 := by cases h <;> simp
theorem IsBits.m {b : Int} (h : IsBits b) : 0 < 2 ^ b.toNat - (1 : Int) ∧ 2 ^ b.toNat - (1 : Int) < 2 ^ 62 := by cases h <;> decide
structure DigN (C : Addr) (H : Hp) (d : Addr) (m : Int) : Prop where
  at_ : ∃ dx b, H d = some (.ins C dx (fl_Digests b .non (.int m)))
  pos : 0 < m
  lt : m < 2 ^ 62
theorem DigN.ex {C d : Addr} {H H' : Hp} {m : Int} (e : Evl.Ex H H') (h : DigN C H d m) : DigN C H' d m := let ⟨⟨dx, b, h⟩, p, l⟩ := h; ⟨⟨dx, b, e _ _ h⟩, p, l⟩
theorem DigN.but {C d p : Addr} {H H' : Hp} {m : Int} (e : Kit.ExBut p H H') (n : d ≠ p) (h : DigN C H d m) : DigN C H' d m := let ⟨⟨dx, b, h⟩, p, l⟩ := h; ⟨⟨dx, b, e _ _ n h⟩, p, l⟩
local macro_rules | `(tactic| walk_at "dig") => `(tactic| first | with_reducible assumption | exact DigN.ex (by with_reducible assumption) (by walk_at "dig") | fail)
theorem DigN.ins {C d : Addr} {H : Hp} {m : Int} {x : Str} {R : Prop} (h : DigN C H d m) (l : ∀ b, (fl_Digests b .non (.int m)).lookup x = none) (r : R) : Kit.InsOf C x (.ref d) H R := let ⟨⟨_, b, h⟩, _, _⟩ := h; Kit.w_ins h (l b) r
local macro_rules | `(tactic| walk_at "wp1") => `(tactic| ((with_reducible show Kit.InsOf _ _ _ _ _); refine DigN.ins (by walk_at "dig") (fun _ => rfl) ?_))
theorem fold_dg {m x y : Int} (h : 0 < m) : Dg m (foldI m x y) := ⟨Int.emod_nonneg _ (by omega), Int.emod_lt_of_pos _ h⟩
theorem leaf_dg {m x : Int} (h : 0 < m) : Dg m (leafI m x) := ⟨Int.emod_nonneg _ (by omega), Int.emod_lt_of_pos _ h⟩
def sp_Digests_init (C : Addr) : Sp := fun vs H Q _ => ∃ (p dx : Addr) (b : Int) (bk : V), vs = [.ref p, .int b, bk] ∧ H p = some (.ins C dx []) ∧ 0 ≤ b ∧ b ≤ 61 ∧ ∀ H', Kit.ExBut p H H' → H' p = some (.ins C dx (fl_Digests (.int b) bk (.int (2 ^ b.toNat - 1)))) → Q .non H'
theorem ok_Digests___init (T : Txt K mg) : FnOk P w K mg base CX0 1 T.f_Digests___init.f T.f_Digests___init.fd ["self", "bits", "book"] (sp_Digests_init T.c_Digests.C) := by
  refine T.f_Digests___init.F.ok sc_Digests___init (fun vs H Q E h => ?_) (fun cdv A outer s H vs Q E hr h => ?_)
  · obtain ⟨p, dx, b, bk, rfl, hp, b0, b1, q⟩ := h
    rfl
  obtain ⟨p, dx, b, bk, rfl, hp, b0, b1, q⟩ := h
  have nd := sc_Digests___init.nd
  refine Kit.ok_body (σ := [some _, some _, some _]) ((pss_cons (Kit.kSet K (pv 0) (pv 1) rfl)
    (pss_cons (Kit.kSet K (pv 0) (pv 2) rfl)
    (pss_one (Kit.kSet K (pv 0) (pe_op op_sub (pe_op op_shl pe_int (pv 1)) pe_int) rfl))))) rfl ?_
  walk_at "wp"
  refine Kit.w_I (show CPow 1 b from ⟨b0, by omega, by decide⟩) ?_
  walk_at "wp"
  rename_i f
  refine q _ (by walk_at "but") ?_
  rw [Int.one_mul] at f
  exact f
theorem use_Digests {C : Addr} {b : Int} {H : Hp} {Q : VK} {E : XK} (hb : IsBits b) (k : ∀ p H', H p = none → Evl.Ex H H' → DigN C H' p (2 ^ b.toNat - 1) → Q (.ref p) H') : Kit.MakeOf C (sp_Digests_init C) E [.int b, .non] H Q := by
  have b0 := hb.or
  refine Kit.w_made fun x dx H2 hx e h => ?_
  refine ⟨x, dx, b, .non, rfl, h, by omega, by omega, fun H3 m h3 => ⟨rfl, k x H3 hx (Kit.ex_but m hx e) ⟨⟨dx, _, h3⟩, ?_, ?_⟩⟩⟩
  all_goals rcases b0 with rfl | rfl | rfl | rfl <;> decide
local macro_rules | `(tactic| walk_at "wp1") => `(tactic| ((with_reducible show Kit.MakeOf _ (sp_Digests_init _) _ [_, V.non] _ _); refine use_Digests (by assumption) ?_; intro _ _ _ _ _))
def sp_noted (C : Addr) : Sp := fun vs H Q _ => ∃ (p dx : Addr) (b m k t d : V), vs = [.ref p, k, t, d] ∧ H p = some (.ins C dx (fl_Digests b .non m)) ∧ ∀ H', Evl.Ex H H' → Q d H'
theorem ok_Digests__noted (T : Txt K mg) : FnOk P w K mg base CX0 1 T.f_Digests__noted.f T.f_Digests__noted.fd ["self", "kind", "text", "digest"] (sp_noted T.c_Digests.C) := by
  refine T.f_Digests__noted.F.ok sc_Digests__noted (fun vs H Q E h => ?_) (fun cdv A outer s H vs Q E hr h => ?_)
  · obtain ⟨p, dx, b, m, k, t, d, rfl, hp, q⟩ := h
    rfl
  obtain ⟨p, dx, b, m, k, t, d, rfl, hp, q⟩ := h
  have nd := sc_Digests__noted.nd
  refine Kit.ok_body (σ := [some _, some _, some _, some _]) ((pss_cons (ps_if (pt_cmpR Kit.k_notN (Kit.kFld K (pv 0) rfl) pe_non (nomark _))
    (pss_one ps_never)
    pss_nil)
    (pss_one (ps_ret (pv 3))))) rfl ?_
  walk_at "wp"
  exact q _ (by walk_at "ex")
theorem use_noted {C p dx : Addr} {b m k t d : V} {H : Hp} {Q : VK} {E : XK} (hp : H p = some (.ins C dx (fl_Digests b .non m))) (q : ∀ H', Evl.Ex H H' → Q d H') : sp_noted C [.ref p, k, t, d] H Q E := ⟨p, dx, b, m, k, t, d, rfl, hp, q⟩
local macro_rules | `(tactic| walk_at "wp1") => `(tactic| ((with_reducible show sp_noted _ _ _ _ _); refine use_noted (by walk_at "hp") ?_; intro _ _))
theorem mulW {i j : Int} (ha : i.natAbs < 2 ^ 100) (hb : j.natAbs < 2 ^ 100) : CMulW i j := wide_mul (a := 100) (b := 100) ha hb (by decide) (by decide) (by decide)

def sp_fold (C : Addr) : Sp := fun vs H Q _ => ∃ (p : Addr) (m x y : Int), vs = [.ref p, .int x, .int y] ∧ DigN C H p m ∧ Dg m x ∧ Dg m y ∧ ∀ H', Evl.Ex H H' → Q (.int (foldI m x y)) H'
theorem ok_Digests_fold (T : Txt K mg) : FnOk P w K mg base CX0 2 T.f_Digests_fold.f T.f_Digests_fold.fd ["self", "left", "right"] (sp_fold T.c_Digests.C) := by
  have G_Digests__noted := ok_Digests__noted (P := P) (w := w) (base := base) T
  refine T.f_Digests_fold.F.ok sc_Digests_fold (fun vs H Q E h => ?_) (fun cdv A outer s H vs Q E hr h => ?_)
  · obtain ⟨p, m, x, y, rfl, ⟨⟨dx, b, hp⟩, m0, m1⟩, ⟨x0, x1⟩, ⟨y0, y1⟩, q⟩ := h
    rfl
  obtain ⟨p, m, x, y, rfl, ⟨⟨dx, b, hp⟩, m0, m1⟩, ⟨x0, x1⟩, ⟨y0, y1⟩, q⟩ := h
  have nd := sc_Digests_fold.nd
  have hr1 : Room 1 _ := hr.mono (by decide)
  refine Kit.ok_body (σ := [some _, some _, some _, none, none]) ((pss_cons (ps_set (i := 3) nd rfl (Or.inl rfl) (pe_op op_add (pe_op op_add (pe_op op_mul pe_int (pv 1)) (pe_op op_mul pe_int (pv 2))) pe_int))
    (pss_cons (ps_set (i := 4) nd rfl (Or.inl rfl) (pe_op op_add (pe_op op_add (pe_op op_add (pe_op op_add (pe_op op_mul (pv 2) (pv 2)) (pe_op op_mul pe_int (pv 1))) (pe_op op_mul pe_int (pv 2))) pe_int) (pe_op op_mulW (pv 3) (pv 3))))
    (pss_one (ps_ret (pe_meth (pv 0) T.c_Digests.cl T.m_Digests__noted G_Digests__noted hr1 T.f_Digests__noted.b .nil pass0 (pa_cons pe_str (pa_cons (pe_tup (pa_cons (pv 1) (pa_cons (pv 2) pa_nil))) (pa_cons (pe_op op_mod (pv 4) (Kit.kFld K (pv 0) rfl)) pa_nil))))))))) rfl ?_
  try dsimp only [L2.cxOf, L2.Cx.nox]
  walk_at "wp"
  refine Kit.w_I (mulW (by omega) (by omega)) ?_
  walk_at "wp"
  exact ex_done q (by walk_at "ex") rfl
theorem use_fold {C p : Addr} {m x y : Int} {H : Hp} {Q : VK} {E : XK} (h : DigN C H p m) (hx : Dg m x) (hy : Dg m y) (q : ∀ H', Evl.Ex H H' → Q (.int (foldI m x y)) H') : sp_fold C [.ref p, .int x, .int y] H Q E := ⟨p, m, x, y, rfl, h, hx, hy, q⟩

def IsWord (v : Int) : Prop := 0 ≤ v ∧ v < 65536
def sp_leaf (C : Addr) : Sp := fun vs H Q _ => ∃ (p : Addr) (m x : Int), vs = [.ref p, .int x] ∧ DigN C H p m ∧ ∀ H', Evl.Ex H H' → Q (.int (leafI m x)) H'
theorem ok_Digests_leaf (T : Txt K mg) : FnOk P w K mg base CX0 2 T.f_Digests_leaf.f T.f_Digests_leaf.fd ["self", "word"] (sp_leaf T.c_Digests.C) := by
  have G_Digests__noted := ok_Digests__noted (P := P) (w := w) (base := base) T
  refine T.f_Digests_leaf.F.ok sc_Digests_leaf (fun vs H Q E h => ?_) (fun cdv A outer s H vs Q E hr h => ?_)
  · obtain ⟨p, m, x, rfl, ⟨⟨dx, b, hp⟩, m0, m1⟩, q⟩ := h
    rfl
  obtain ⟨p, m, x, rfl, ⟨⟨dx, b, hp⟩, m0, m1⟩, q⟩ := h
  have nd := sc_Digests_leaf.nd
  have hr1 : Room 1 _ := hr.mono (by decide)
  refine Kit.ok_body (σ := [some _, some _]) ((pss_one (ps_ret (pe_meth (pv 0) T.c_Digests.cl T.m_Digests__noted G_Digests__noted hr1 T.f_Digests__noted.b .nil pass0 (pa_cons pe_str (pa_cons (pv 1) (pa_cons (pe_op op_mod (pe_op op_add (pe_op op_mul pe_int (pv 1)) pe_int) (Kit.kFld K (pv 0) rfl)) pa_nil))))))) rfl ?_
  try dsimp only [L2.cxOf, L2.Cx.nox]
  walk_at "wp"
  exact ex_done q (by walk_at "ex") rfl
theorem use_leaf {C p : Addr} {m x : Int} {H : Hp} {Q : VK} {E : XK} (h : DigN C H p m) (q : ∀ H', Evl.Ex H H' → Q (.int (leafI m x)) H') : sp_leaf C [.ref p, .int x] H Q E := ⟨p, m, x, rfl, h, q⟩

def sp_out_behind (C : Addr) : Sp := fun vs H Q _ => ∃ (p : Addr) (m o x : Int), vs = [.ref p, .int o, .int x] ∧ DigN C H p m ∧ Dg m o ∧ ∀ H', Evl.Ex H H' → Q (.int (foldI m o (leafI m x))) H'
theorem ok_out_behind (T : Txt K mg) : FnOk P w K mg base CX0 3 T.f_out_behind.f T.f_out_behind.fd ["digests", "out", "word"] (sp_out_behind T.c_Digests.C) := by
  have G_Digests_fold := ok_Digests_fold (P := P) (w := w) (base := base) T
  have G_Digests_leaf := ok_Digests_leaf (P := P) (w := w) (base := base) T
  refine T.f_out_behind.F.ok sc_out_behind (fun vs H Q E h => ?_) (fun cdv A outer s H vs Q E hr h => ?_)
  · obtain ⟨p, m, o, x, rfl, hd, ho, q⟩ := h
    rfl
  obtain ⟨p, m, o, x, rfl, hd, ho, q⟩ := h
  have nd := sc_out_behind.nd
  have hr2 : Room 2 _ := hr.mono (by decide)
  refine Kit.ok_body (σ := [some _, some _, some _]) ((pss_one (ps_ret (pe_meth (pv 0) T.c_Digests.cl T.m_Digests_fold G_Digests_fold hr2 T.f_Digests_fold.b .nil pass0 (pa_cons (pv 1) (pa_cons (pe_meth (pv 0) T.c_Digests.cl T.m_Digests_leaf G_Digests_leaf hr2 T.f_Digests_leaf.b .nil pass0 (pa_cons (pv 2) pa_nil)) pa_nil)))))) rfl ?_
  try dsimp only [L2.cxOf, L2.Cx.nox]
  walk_at "wp"
  refine use_leaf hd fun H1 e1 => ?_
  walk_at "wp"
  exact use_fold (hd.ex e1) ho (leaf_dg hd.pos) fun H2 e2 => q H2 (e1.trans e2)
def rTupI (K : PySem.W.Frag) : V → List V → Hp → VK → Prop := fun x xs H Q => ∃ p, ∃ ys : List Str, ∃ z j, x = .ref p ∧ xs = [.str z] ∧ SqT K H p (ys.map V.str) ∧ ys[j]? = some z ∧ (∀ m, m < j → ys[m]? ≠ some z) ∧ Q (.int (j : Nat)) H
theorem kTupIndex (K : PySem.W.Frag) {X : Cx} (h : X.K = K := by rfl) : MtR X "tuple.index" (rTupI K) := h ▸ mt_tup_index
def marks : List Str := ["long", "done", "divided", "place", "input", "full", "bad"]
theorem marks_first : ∀ j : Fin 7, ∀ m : Fin 7, m.1 < j.1 → marks[m.1]? ≠ marks[j.1]? := by decide +kernel
theorem w_tupI {K : PySem.W.Frag} {p : Addr} {H : Hp} {Q : VK} (j : Nat) (hj : j < 7) {z : Str} (hz : marks[j]? = some z) (h : SqT K H p (marks.map V.str)) (q : Q (.int (j : Int)) H) : rTupI K (.ref p) [.str z] H Q :=
  ⟨p, marks, z, j, rfl, rfl, h, hz, fun m hm => by rw [← hz]; exact marks_first ⟨j, hj⟩ ⟨m, by omega⟩ hm, q⟩
theorem w_notNS {s : Str} {H : Hp} {Q : VK} (q : Q (.bl true) H) : Kit.rNotNo (.str s) .non H Q := ⟨rfl, q⟩
theorem w_tyT {K : PySem.W.Frag} {p : Addr} {H : Hp} {W : Prop} (h : ∃ o, K.lookup p = some o ∧ o.cls = .type "tuple" ∧ o.dict = none) (r : W) : tyV K "tuple" (.ref p) H ∧ W := ⟨Or.inr (Or.inl ⟨rfl, h⟩), r⟩
/-- the mark of a halt, 0 for none -/
def haltN (s : Str) (word acc x count d : Int) : Nat :=
  if s = "bad" then 6 else if s = "halt" then 1 else if s = "bound" ∧ word % 1024 ≤ x then 3 else if s = "within" ∧ d ≤ x then 4
  else if s ∈ sgs ∧ opV (sgOf s) acc d = .non then 2 else if s = "tell" ∧ count = 16 then 5 else 0
theorem halt_two (s : Str) (word acc x count d : Int) : (haltN s word acc x count d = 0 ∧ haltM s word acc x count d = .non) ∨ ∃ z, haltN s word acc x count d < 7 ∧ haltN s word acc x count d ≠ 0 ∧ marks[haltN s word acc x count d]? = some z ∧ haltM s word acc x count d = .str z := by
  unfold haltN haltM
  split
  · exact .inr ⟨_, by decide, by decide, rfl, rfl⟩
  · split
    · exact .inr ⟨_, by decide, by decide, rfl, rfl⟩
    · split
      · exact .inr ⟨_, by decide, by decide, rfl, rfl⟩
      · split
        · exact .inr ⟨_, by decide, by decide, rfl, rfl⟩
        · split
          · exact .inr ⟨_, by decide, by decide, rfl, rfl⟩
          · split
            · exact .inr ⟨_, by decide, by decide, rfl, rfl⟩
            · exact .inl ⟨rfl, rfl⟩
def doneM (m : Int) (s : Str) (pc acc x mark out count word d : Int) (data : V) : List V × V :=
  if haltN s word acc x count d = 0 then
    ([.int (pcM s pc acc word d), accM s acc word d data, xM s acc x data, .int mark, .int (if s = "tell" then foldI m out (leafI m acc) else out), .int (if s = "tell" then count + 1 else count)], chM s pc acc)
  else ([.int pc, .int acc, .int x, .int (haltN s word acc x count d : Nat), .int out, .int count], .non)
def sp_done_by (K : PySem.W.Frag) (C : Addr) : Sp := fun vs H Q _ => ∃ (g r : Addr) (m pc acc x mark out count word d : Int) (data : V), vs = [.ref g, .ref r, .int word, data] ∧ DigN C H g m ∧ SqT K H r [.int pc, .int acc, .int x, .int mark, .int out, .int count] ∧ 0 ≤ word ∧ word < 65536 ∧ 0 ≤ acc ∧ acc < 65536 ∧ Dg m out ∧
  (nm (word / 1024) = "back" ∨ nm (word / 1024) = "within" ∨ nm (word / 1024) ∈ sgs → data = .int d ∧ 0 ≤ d ∧ d < 65536) ∧
  ∀ t1 t2 H', Evl.Ex H H' → H' t1 = some (.tup (doneM m (nm (word / 1024)) pc acc x mark out count word d data).1) → H' t2 = some (.tup [.ref t1, (doneM m (nm (word / 1024)) pc acc x mark out count word d data).2]) → Q (.ref t2) H'
theorem ok_done_by (T : Txt K mg) : FnOk P w K mg base CX0 4 T.f_done_by.f T.f_done_by.fd ["digests", "registers", "word", "data"] (sp_done_by K T.c_Digests.C) := by
  have G_acc_by := ok_acc_by (P := P) (w := w) (base := base) T
  have G_changed_by := ok_changed_by (P := P) (w := w) (base := base) T
  have G_halt_by := ok_halt_by (P := P) (w := w) (base := base) T
  have G_name_of := ok_name_of (P := P) (w := w) (base := base) T
  have G_out_behind := ok_out_behind (P := P) (w := w) (base := base) T
  have G_pc_by := ok_pc_by (P := P) (w := w) (base := base) T
  have G_x_by := ok_x_by (P := P) (w := w) (base := base) T
  refine T.f_done_by.F.ok sc_done_by (fun vs H Q E h => ?_) (fun cdv A outer s H vs Q E hr h => ?_)
  · obtain ⟨g, r, m, pc, acc, x, mark, out, count, word, d, data, rfl, hg, hr6, w0, w1, a0, a1, ho, hd, q⟩ := h
    rfl
  obtain ⟨g, r, m, pc, acc, x, mark, out, count, word, d, data, rfl, hg, hr6, w0, w1, a0, a1, ho, hd, q⟩ := h
  have nd := sc_done_by.nd
  have hr1 : Room 1 _ := hr.mono (by decide)
  have hr2 : Room 2 _ := hr.mono (by decide)
  have hr3 : Room 3 _ := hr.mono (by decide)
  refine Kit.ok_body (σ := [some _, some _, some _, some _, none, none, none, none, none, none, none, none, none, none, none]) ((pss_cons (ps_asg (pv 1) (Kit.kgTup K rfl (pgs_cons (pg_name (i := 4) nd rfl (Or.inl rfl)) (pgs_cons (pg_name (i := 5) nd rfl (Or.inl rfl)) (pgs_cons (pg_name (i := 6) nd rfl (Or.inl rfl)) (pgs_cons (pg_name (i := 7) nd rfl (Or.inl rfl)) (pgs_cons (pg_name (i := 8) nd rfl (Or.inl rfl)) (pgs_cons (pg_name (i := 9) nd rfl (Or.inl rfl)) pgs_nil))))))))
    (pss_cons (ps_set (i := 10) nd rfl (Or.inl rfl) (pe_call G_name_of hr1 (by rfl) T.f_name_of.g T.f_name_of.F.kp T.f_name_of.b .nil pass0 (pa_cons (pv 2) pa_nil)))
    (pss_cons (ps_set (i := 11) nd rfl (Or.inl rfl) (pe_call G_halt_by hr3 (by rfl) T.f_halt_by.g T.f_halt_by.F.kp T.f_halt_by.b .nil pass0 (pa_cons (pv 10) (pa_cons (pv 1) (pa_cons (pv 2) (pa_cons (pv 3) pa_nil))))))
    (pss_cons (ps_if (pt_cmpR Kit.k_notN (pv 11) pe_non (nomark _))
    (pss_one (ps_ret (pe_tup (pa_cons (pe_tup (pa_cons (pv 4) (pa_cons (pv 5) (pa_cons (pv 6) (pa_cons (pe_bm PySem.F.plainAttrs_tuple PySem.F.slot_tuple_index PySem.F.type_tuple_index (kTupIndex K) (pe_glob (v := .ref T.a_MARKS) rfl T.g_MARKS rfl) (pa_cons (pv 11) pa_nil)) (pa_cons (pv 8) (pa_cons (pv 9) pa_nil))))))) (pa_cons pe_non pa_nil)))))
    pss_nil)
    (pss_cons (ps_if (pt_cmpR op_eq (pv 10) pe_str (nomark _))
    (pss_cons (ps_set (i := 8) nd rfl (Or.inl rfl) (pe_call G_out_behind hr3 (by rfl) T.f_out_behind.g T.f_out_behind.F.kp T.f_out_behind.b .nil pass0 (pa_cons (pv 0) (pa_cons (pv 8) (pa_cons (pv 5) pa_nil)))))
    (pss_one (ps_set (i := 9) nd rfl (Or.inl rfl) (pe_op op_add (pv 9) pe_int))))
    pss_nil)
    (pss_cons (ps_set (i := 12) nd rfl (Or.inl rfl) (pe_call G_pc_by hr2 (by rfl) T.f_pc_by.g T.f_pc_by.F.kp T.f_pc_by.b .nil pass0 (pa_cons (pv 10) (pa_cons (pv 1) (pa_cons (pv 2) (pa_cons (pv 3) pa_nil))))))
    (pss_cons (ps_set (i := 13) nd rfl (Or.inl rfl) (pe_call G_acc_by hr3 (by rfl) T.f_acc_by.g T.f_acc_by.F.kp T.f_acc_by.b .nil pass0 (pa_cons (pv 10) (pa_cons (pv 1) (pa_cons (pv 2) (pa_cons (pv 3) pa_nil))))))
    (pss_cons (ps_set (i := 14) nd rfl (Or.inl rfl) (pe_call G_x_by hr1 (by rfl) T.f_x_by.g T.f_x_by.F.kp T.f_x_by.b .nil pass0 (pa_cons (pv 10) (pa_cons (pv 1) (pa_cons (pv 3) pa_nil)))))
    (pss_one (ps_ret (pe_tup (pa_cons (pe_tup (pa_cons (pv 12) (pa_cons (pv 13) (pa_cons (pv 14) (pa_cons (pv 7) (pa_cons (pv 8) (pa_cons (pv 9) pa_nil))))))) (pa_cons (pe_call G_changed_by hr2 (by rfl) T.f_changed_by.g T.f_changed_by.F.kp T.f_changed_by.b .nil pass0 (pa_cons (pv 10) (pa_cons (pv 1) pa_nil))) pa_nil)))))))))))))) rfl ?_
  try dsimp only [L2.cxOf, L2.Cx.nox]
  walk_at "wp"
  refine ⟨word, rfl, w0, w1, ?_⟩
  generalize nm (word / 1024) = s at *
  walk_at "wp"
  refine ⟨s, r, pc, acc, x, mark, out, count, word, d, data, rfl, hr6, a0, a1, fun h => hd (.inr h), fun H1 e1 => ?_⟩
  rcases halt_two s word acc x count d with ⟨hn, hm⟩ | ⟨z, h7, hn, hz, hm⟩
  · rw [hm]
    have eD : doneM m s pc acc x mark out count word d data = ([.int (pcM s pc acc word d), accM s acc word d data, xM s acc x data, .int mark, .int (if s = "tell" then foldI m out (leafI m acc) else out), .int (if s = "tell" then count + 1 else count)], chM s pc acc) := if_pos hn
    rw [eD] at q
    walk_at "wp"
    · rename_i ht
      refine ⟨g, m, out, acc, rfl, hg.ex e1, ho, fun H2 e2 => ?_⟩
      have E2 := e1.trans e2
      walk_at "wp"
      refine ⟨s, r, pc, acc, x, mark, out, count, word, d, data, rfl, Evl.ex_t E2 hr6, fun h => (hd (.inl h)).1, fun H3 e3 => ?_⟩
      have E3 := E2.trans e3
      walk_at "wp"
      refine ⟨s, r, pc, acc, x, mark, out, count, word, d, data, rfl, Evl.ex_t E3 hr6, a0, a1, fun h => hd (.inr (.inr h)), fun H4 e4 => ?_⟩
      have E4 := E3.trans e4
      walk_at "wp"
      refine ⟨s, r, pc, acc, x, mark, out, count, data, rfl, Evl.ex_t E4 hr6, fun H5 e5 => ?_⟩
      have E5 := E4.trans e5
      walk_at "wp"
      rename_i t1 H6 n6 e6 f6
      have E6 := E5.trans e6
      refine ⟨s, r, pc, acc, x, mark, out, count, rfl, Evl.ex_t E6 hr6, fun H7 e7 => ?_⟩
      have E7 := E6.trans e7
      walk_at "wp"
      rename_i t2 H8 n8 e8 f8
      refine q t1 t2 H8 (E7.trans e8) ?_ f8
      rw [if_pos ht, if_pos ht]
      exact e8 _ _ (e7 _ _ f6)
    · rename_i ht
      refine ⟨s, r, pc, acc, x, mark, out, count, word, d, data, rfl, Evl.ex_t e1 hr6, fun h => (hd (.inl h)).1, fun H3 e3 => ?_⟩
      have E3 := e1.trans e3
      walk_at "wp"
      refine ⟨s, r, pc, acc, x, mark, out, count, word, d, data, rfl, Evl.ex_t E3 hr6, a0, a1, fun h => hd (.inr (.inr h)), fun H4 e4 => ?_⟩
      have E4 := E3.trans e4
      walk_at "wp"
      refine ⟨s, r, pc, acc, x, mark, out, count, data, rfl, Evl.ex_t E4 hr6, fun H5 e5 => ?_⟩
      have E5 := E4.trans e5
      walk_at "wp"
      rename_i t1 H6 n6 e6 f6
      have E6 := E5.trans e6
      refine ⟨s, r, pc, acc, x, mark, out, count, rfl, Evl.ex_t E6 hr6, fun H7 e7 => ?_⟩
      have E7 := E6.trans e7
      walk_at "wp"
      rename_i t2 H8 n8 e8 f8
      refine q t1 t2 H8 (E7.trans e8) ?_ f8
      rw [if_neg ht, if_neg ht]
      exact e8 _ _ (e7 _ _ f6)
  · rw [hm]
    have eD : doneM m s pc acc x mark out count word d data = ([.int pc, .int acc, .int x, .int (haltN s word acc x count d : Nat), .int out, .int count], .non) := if_neg hn
    rw [eD] at q
    walk_at "wp"
    refine w_notNS ?_
    walk_at "wp"
    refine w_tyT T.y_MARKS ?_
    walk_at "wp"
    refine w_tupI _ h7 hz (T.w_MARKS.sq _) ?_
    walk_at "wp"
    rename_i t1 H2 n2 e2 f2 t2 H3 n3 e3 f3
    exact q t1 t2 H3 ((e1.trans e2).trans e3) (e3 _ _ f2) f3

/-! ### draws out of a bag of five: any value in its bounds -/
def Bag5 (H : Hp) (p : Addr) : Prop := ∃ (rest seed place : Int) (c : Addr) (cells : List Int), H p = some (.lst [.int rest, .int seed, .int place, .int 0, .ref c]) ∧ H c = some (.lst (cells.map V.int)) ∧ 0 ≤ place ∧ c ≠ p
theorem Bag5.ex {p : Addr} {H H' : Hp} (e : Evl.Ex H H') (b : Bag5 H p) : Bag5 H' p := let ⟨r, s, k, c, cs, h1, h2, h3, h4⟩ := b; ⟨r, s, k, c, cs, e _ _ h1, e _ _ h2, h3, h4⟩
theorem Bag5.is {p : Addr} {H : Hp} (b : Bag5 H p) : ∃ o, H p = some o := let ⟨_, _, _, _, _, h, _⟩ := b; ⟨_, h⟩
def sp_law_bag (K : PySem.W.Frag) : Sp := fun vs H Q _ => ∃ (a : Addr) (ns : List Int), vs = [.ref a] ∧ SqL K H a (ns.map V.int) ∧ ∀ p H', H p = none → Evl.Ex H H' → Bag5 H' p → Q (.ref p) H'
theorem ok_law_bag (T : Txt K mg) : FnOk P w K mg base CX0 1 T.f_law_bag.f T.f_law_bag.fd ["script"] (sp_law_bag K) := by
  refine T.f_law_bag.F.ok sc_law_bag (fun vs H Q E h => ?_) (fun cdv A outer s H vs Q E hr h => ?_)
  · obtain ⟨a, ns, rfl, hS, q⟩ := h
    rfl
  obtain ⟨a, ns, rfl, hS, q⟩ := h
  have nd := sc_law_bag.nd
  refine Kit.ok_body (σ := [some _]) ((pss_one (ps_ret (pe_lst (pa_cons pe_int (pa_cons pe_int (pa_cons pe_int (pa_cons pe_int (pa_cons (pe_callTy (Kit.kList K) (by rfl) T.z_list (by decide +kernel) (pa_cons (pv 0) pa_nil)) pa_nil))))))))) rfl ?_
  walk_at "wp"
  rename_i c H1 n1 e1 f1 p H2 n2 e2 f2
  exact q p H2 (Evl.fresh_back e1 n2) (e1.trans e2) ⟨0, 7, 0, c, ns, f2, e2 _ _ f1, Int.le_refl 0, ne_of_none f1 n2⟩
def sp_law_draw : Sp := fun vs H Q _ => ∃ (p : Addr) (m : Int), vs = [.ref p, .int m] ∧ Bag5 H p ∧ 0 < m ∧ m < 2 ^ 250 ∧ ∀ v H', 0 ≤ v → v < m → Kit.ExBut p H H' → Bag5 H' p → Q (.int v) H'
theorem use_draw {p : Addr} {m : Int} {H : Hp} {Q : VK} {E : XK} (b : Bag5 H p) (h0 : 0 < m) (h1 : m < 2 ^ 250) (k : ∀ v H', 0 ≤ v → v < m → Kit.ExBut p H H' → Bag5 H' p → Q (.int v) H') : sp_law_draw [.ref p, .int m] H Q E := ⟨p, m, rfl, b, h0, h1, k⟩
theorem big_nat : (0 : Int) ≤ 10 ^ (18 : Int).toNat := by decide
theorem ok_law_draw (T : Txt K mg) : FnOk P w K mg base CX0 1 T.f_law_draw.f T.f_law_draw.fd ["bag", "many"] (sp_law_draw) := by
  refine T.f_law_draw.F.ok sc_law_draw (fun vs H Q E h => ?_) (fun cdv A outer s H vs Q E hr h => ?_)
  · obtain ⟨p, m, rfl, ⟨r, s, k, c, cs, hp, hc, hk, hcp⟩, hm0, hm1, q⟩ := h
    rfl
  obtain ⟨p, m, rfl, ⟨r, s, k, c, cs, hp, hc, hk, hcp⟩, hm0, hm1, q⟩ := h
  have nd := sc_law_draw.nd
  refine Kit.ok_body (σ := [some _, some _, none, none, none, none]) ((pss_cons (ps_if (pt_cmpR op_eq (pe_ix (Kit.ixL K) (pv 0) pe_int (fun _ _ => rfl)) pe_int (nomark _))
    (pss_cons (ps_set (i := 2) nd rfl (Or.inl rfl) (pe_callTy Kit.k_int (by rfl) T.z_int (by decide +kernel) (pa_cons (pe_ix (Kit.ixL K) (pv 0) pe_int (fun _ _ => rfl)) pa_nil)))
    (pss_cons (ps_set (i := 3) nd rfl (Or.inl rfl) (pe_ix (Kit.ixL K) (pv 0) pe_int (fun _ _ => rfl)))
    (pss_cons (ps_if (pt_cmpR op_lt (pe_ix (Kit.ixL K) (pv 0) pe_int (fun _ _ => rfl)) (pe_callB (Kit.kLen K) (by rfl) T.z_len (by decide +kernel) (pa_cons (pv 3) pa_nil)) (nomark _))
    (pss_one (ps_set (i := 2) nd rfl (Or.inl rfl) (pe_callTy Kit.k_int (by rfl) T.z_int (by decide +kernel) (pa_cons (pe_ix (Kit.ixL K) (pv 3) (pe_ix (Kit.ixL K) (pv 0) pe_int (fun _ _ => rfl)) (fun _ _ => rfl)) pa_nil))))
    pss_nil)
    (pss_cons (ps_asg (pe_op op_add (pe_ix (Kit.ixL K) (pv 0) pe_int (fun _ _ => rfl)) pe_int) (pg_sub (pv 0) pe_int set_list))
    (pss_cons (ps_set (i := 4) nd rfl (Or.inl rfl) (pe_op op_mod (pe_callTy Kit.k_int (by rfl) T.z_int (by decide +kernel) (pa_cons (pe_op op_add (pe_op op_add (pe_op op_add (pe_op op_mul (pe_ix (Kit.ixL K) (pv 0) pe_int (fun _ _ => rfl)) pe_int) (pe_op op_mul (pv 2) pe_int)) (pe_op op_mul (pe_ix (Kit.ixL K) (pv 0) pe_int (fun _ _ => rfl)) pe_int)) pe_int) pa_nil)) pe_int))
    (pss_cons (ps_asg (pe_op op_add (pe_op op_mul (pv 4) pe_int) (pe_op op_mod (pe_callTy Kit.k_int (by rfl) T.z_int (by decide +kernel) (pa_cons (pe_op op_add (pe_op op_mul (pv 4) (pv 4)) (pv 2)) pa_nil)) pe_int)) (pg_sub (pv 0) pe_int set_list))
    (pss_cons (ps_if (pt_cmpR op_ge (pv 2) (pe_op op_pow pe_int pe_int) (nomark _))
    (pss_one (ps_asg (pv 2) (pg_sub (pv 0) pe_int set_list)))
    pss_nil)
    (pss_one (ps_asg (pv 4) (pg_sub (pv 0) pe_int set_list))))))))))
    pss_nil)
    (pss_cons (ps_set (i := 5) nd rfl (Or.inl rfl) (pe_ix (Kit.ixL K) (pv 0) pe_int (fun _ _ => rfl)))
    (pss_cons (ps_asg (pe_op op_fdivW (pv 5) (pv 1)) (pg_sub (pv 0) pe_int set_list))
    (pss_one (ps_ret (pe_op op_mod (pe_callTy Kit.k_int (by rfl) T.z_int (by decide +kernel) (pa_cons (pv 5) pa_nil)) (pv 1)))))))) rfl ?_
  walk_at "wp"
  · rename_i hlt
    obtain ⟨c0, hc0⟩ := Kit.int_at hk hlt
    refine Kit.w_ixL (Evl.sq_of hc) hc0 ?_
    walk_at "wp"
    all_goals exact q _ _ (Int.emod_nonneg _ (by omega)) (Int.emod_lt_of_pos _ hm0) (by walk_at "but") ⟨_, _, _, c, cs, (by assumption), Kit.but_get (by walk_at "but") hcp hc, (by omega), hcp⟩
  all_goals exact q _ _ (Int.emod_nonneg _ (by omega)) (Int.emod_lt_of_pos _ hm0) (by walk_at "but") ⟨_, _, _, c, cs, (by assumption), Kit.but_get (by walk_at "but") hcp hc, (by omega), hcp⟩
local macro_rules | `(tactic| walk_at "bag") => `(tactic| first | with_reducible assumption | exact Bag5.ex (by with_reducible assumption) (by walk_at "bag") | fail)
local macro_rules | `(tactic| walk_at "wp1") => `(tactic| ((with_reducible show sp_law_draw _ _ _ _); refine use_draw (by walk_at "bag") (by first | decide | omega) (by first | decide | omega) ?_; intro _ _ _ _ _ _))
def IsW (v : Int) : Prop := 0 ≤ v ∧ v < 65536
theorem Bag5.ne {p a : Addr} {H : Hp} (b : Bag5 H p) (h : H a = none) : a ≠ p := by
  obtain ⟨o, ho⟩ := b.is
  exact (ne_of_none ho h).symm
theorem pick_of {P : Int → Prop} {xs : List Int} (h : ∀ x ∈ xs, P x) {i : Int} (h0 : 0 ≤ i) (h1 : i < (xs.length : Int)) : ∃ x, atI (xs.map V.int) i = some (.int x) ∧ P x := by
  obtain ⟨j, rfl⟩ := Int.eq_ofNat_of_zero_le h0
  have hj : j < xs.length := by omega
  refine ⟨xs[j], L2.atI_nat (j := j) ?_, h _ (List.getElem_mem hj)⟩
  rw [List.getElem?_map, List.getElem?_eq_getElem hj]
  rfl
def sp_law_word : Sp := fun vs H Q _ => ∃ (p : Addr), vs = [.ref p] ∧ Bag5 H p ∧ ∀ v H', IsW v → Kit.ExBut p H H' → Bag5 H' p → Q (.int v) H'
theorem use_word {p : Addr} {H : Hp} {Q : VK} {E : XK} (b : Bag5 H p) (k : ∀ v H', IsW v → Kit.ExBut p H H' → Bag5 H' p → Q (.int v) H') : sp_law_word [.ref p] H Q E := ⟨p, rfl, b, k⟩
theorem ok_law_word (T : Txt K mg) : FnOk P w K mg base CX0 2 T.f_law_word.f T.f_law_word.fd ["bag"] (sp_law_word) := by
  have G_law_draw := ok_law_draw (P := P) (w := w) (base := base) T
  refine T.f_law_word.F.ok sc_law_word (fun vs H Q E h => ?_) (fun cdv A outer s H vs Q E hr h => ?_)
  · obtain ⟨p, rfl, hb, q⟩ := h
    rfl
  obtain ⟨p, rfl, hb, q⟩ := h
  have nd := sc_law_word.nd
  have hr1 : Room 1 _ := hr.mono (by decide)
  refine Kit.ok_body (σ := [some _, none]) ((pss_cons (ps_set (i := 1) nd rfl (Or.inl rfl) (pe_call G_law_draw hr1 (by rfl) T.f_law_draw.g T.f_law_draw.F.kp T.f_law_draw.b .nil pass0 (pa_cons (pv 0) (pa_cons pe_int pa_nil))))
    (pss_cons (ps_if (pt_cmpR op_lt (pv 1) pe_int (nomark _))
    (pss_one (ps_ret (pe_op op_add (pe_op op_mul pe_int (pe_call G_law_draw hr1 (by rfl) T.f_law_draw.g T.f_law_draw.F.kp T.f_law_draw.b .nil pass0 (pa_cons (pv 0) (pa_cons pe_int pa_nil)))) (pe_ix (Kit.ixL K) (pe_lst (pa_cons (pe_call G_law_draw hr1 (by rfl) T.f_law_draw.g T.f_law_draw.F.kp T.f_law_draw.b .nil pass0 (pa_cons (pv 0) (pa_cons pe_int pa_nil))) (pa_cons (pe_call G_law_draw hr1 (by rfl) T.f_law_draw.g T.f_law_draw.F.kp T.f_law_draw.b .nil pass0 (pa_cons (pv 0) (pa_cons pe_int pa_nil))) (pa_cons (pe_call G_law_draw hr1 (by rfl) T.f_law_draw.g T.f_law_draw.F.kp T.f_law_draw.b .nil pass0 (pa_cons (pv 0) (pa_cons pe_int pa_nil))) pa_nil)))) (pe_call G_law_draw hr1 (by rfl) T.f_law_draw.g T.f_law_draw.F.kp T.f_law_draw.b .nil pass0 (pa_cons (pv 0) (pa_cons pe_int pa_nil))) (fun _ _ => rfl)))))
    pss_nil)
    (pss_one (ps_ret (pe_ix (Kit.ixL K) (pe_lst (pa_cons pe_int (pa_cons pe_int (pa_cons pe_int (pa_cons pe_int (pa_cons (pe_call G_law_draw hr1 (by rfl) T.f_law_draw.g T.f_law_draw.F.kp T.f_law_draw.b .nil pass0 (pa_cons (pv 0) (pa_cons pe_int pa_nil))) pa_nil)))))) (pe_call G_law_draw hr1 (by rfl) T.f_law_draw.g T.f_law_draw.F.kp T.f_law_draw.b .nil pass0 (pa_cons (pv 0) (pa_cons pe_int pa_nil))) (fun _ _ => rfl))))))) rfl ?_
  walk_at "wp"
  · rename_i _ _ _ _ _ _ _ w1 _ wa wb _ _ x3 _ xa xb _ _ x2 _ ya yb _ _ x1 _ za zb _ bb pl Hl nl el fl i _ i0 i1 mi bi
    obtain ⟨z, hz, z0, z1⟩ := pick_of (P := fun x => 0 ≤ x ∧ x < 1024) (xs := [x3, x2, x1]) (by intro x hx; simp only [List.mem_cons, List.not_mem_nil, or_false] at hx; rcases hx with rfl | rfl | rfl <;> omega) i0 i1
    refine Kit.w_ixL (xs := [x3, x2, x1].map V.int) (Evl.sq_of (mi _ _ (bb.ne nl) fl)) hz ?_
    walk_at "wp"
    exact q _ _ ⟨by omega, by omega⟩ (by walk_at "but") bi
  · rename_i _ _ _ _ _ _ _ w1 _ wa wb _ bb pl Hl nl el fl i _ i0 i1 mi bi
    obtain ⟨z, hz, z0, z1⟩ := pick_of (P := fun x => 0 ≤ x ∧ x < 65536) (xs := [0, 1, 15, 65535, w1]) (by intro x hx; simp only [List.mem_cons, List.not_mem_nil, or_false] at hx; rcases hx with rfl | rfl | rfl | rfl | rfl <;> omega) i0 i1
    refine Kit.w_ixL (xs := [0, 1, 15, 65535, w1].map V.int) (Evl.sq_of (mi _ _ (bb.ne nl) fl)) hz ?_
    exact q _ _ ⟨z0, z1⟩ (by walk_at "but") bi
local macro_rules | `(tactic| walk_at "wp1") => `(tactic| ((with_reducible show sp_law_word _ _ _ _); refine use_word (by walk_at "bag") ?_; intro _ _ _ _ _))

theorem w_pick {K : PySem.W.Frag} {a : Addr} (xs : List Int) {ys : List V} {i : Int} {H : Hp} {Q : VK} (h : H a = some (.lst ys)) (e : ys = xs.map V.int) (h0 : 0 ≤ i) (h1 : i < (xs.length : Int)) (q : ∀ x, x ∈ xs → Q (.int x) H) : rIxL K (.ref a) (.int i) H Q := by
  subst e
  obtain ⟨x, hx, hm⟩ := pick_of (P := fun x => x ∈ xs) (fun x h => h) h0 h1
  exact Kit.w_ixL (Evl.sq_of h) hx (q x hm)
theorem bag_ne2 {p a : Addr} {H : Hp} (h : H a = none) (b : Bag5 H p) : a ≠ p := b.ne h
local macro_rules | `(tactic| walk_at "hpB") => `(tactic| first | assumption | exact Kit.ex_get (by with_reducible assumption) (by walk_at "hpB") | exact Kit.but_get (by with_reducible assumption) (bag_ne2 (by with_reducible assumption) (by walk_at "bag")) (by walk_at "hpB") | fail)
structure StartOk (m pc acc x mark out count : Int) : Prop where
  pc : 0 ≤ pc ∧ pc < 256
  acc : IsW acc
  x : IsW x
  mark : 0 ≤ mark ∧ mark < 7
  out : Dg m out
  count : 0 ≤ count ∧ count ≤ 16
theorem start_pc {a b x : Int} (ha : 0 ≤ a ∧ a < 16) (hb : 0 ≤ b ∧ b < 256) (h : x ∈ [0, 255, a, b]) : 0 ≤ x ∧ x < 256 := by
  simp only [List.mem_cons, List.not_mem_nil, or_false] at h
  rcases h with rfl | rfl | rfl | rfl <;> omega
theorem start_w {a x : Int} (ha : 0 ≤ a ∧ a < 65536) (h : x ∈ [0, 1, 3, 255, 256, 65535, a]) : IsW x := by
  simp only [List.mem_cons, List.not_mem_nil, or_false] at h
  rcases h with rfl | rfl | rfl | rfl | rfl | rfl | rfl <;> exact ⟨by omega, by omega⟩
theorem start_mark {a x : Int} (ha : 0 ≤ a ∧ a < 7) (h : x ∈ [0, 0, 0, 0, 0, 0, 0, a]) : 0 ≤ x ∧ x < 7 := by
  simp only [List.mem_cons, List.not_mem_nil, or_false] at h
  rcases h with rfl | rfl | rfl | rfl | rfl | rfl | rfl | rfl <;> omega
theorem start_out {m a x : Int} (hm : 100 < m) (ha : 0 ≤ a ∧ a < m) (h : x ∈ [7, m - 1, a]) : Dg m x := by
  simp only [List.mem_cons, List.not_mem_nil, or_false] at h
  rcases h with rfl | rfl | rfl <;> exact ⟨by omega, by omega⟩
theorem start_count {a x : Int} (ha : 0 ≤ a ∧ a < 17) (h : x ∈ [0, 15, 16, a]) : 0 ≤ x ∧ x ≤ 16 := by
  simp only [List.mem_cons, List.not_mem_nil, or_false] at h
  rcases h with rfl | rfl | rfl | rfl <;> omega
def sp_law_start : Sp := fun vs H Q _ => ∃ (p : Addr) (m : Int), vs = [.ref p, .int m] ∧ Bag5 H p ∧ 100 < m ∧ m < 2 ^ 62 ∧ ∀ t pc acc x mark out count H', StartOk m pc acc x mark out count → H t = none → Kit.ExBut p H H' → Bag5 H' p → H' t = some (.tup [.int pc, .int acc, .int x, .int mark, .int out, .int count]) → Q (.ref t) H'
theorem ok_law_start (T : Txt K mg) : FnOk P w K mg base CX0 2 T.f_law_start.f T.f_law_start.fd ["bag", "m"] (sp_law_start) := by
  have G_law_draw := ok_law_draw (P := P) (w := w) (base := base) T
  refine T.f_law_start.F.ok sc_law_start (fun vs H Q E h => ?_) (fun cdv A outer s H vs Q E hr h => ?_)
  · obtain ⟨p, m, rfl, hb, m0, m1, q⟩ := h
    rfl
  obtain ⟨p, m, rfl, hb, m0, m1, q⟩ := h
  have nd := sc_law_start.nd
  have hr1 : Room 1 _ := hr.mono (by decide)
  refine Kit.ok_body (σ := [some _, some _, none, none, none, none, none]) ((pss_cons (ps_set (i := 2) nd rfl (Or.inl rfl) (pe_lst (pa_cons pe_int (pa_cons pe_int (pa_cons pe_int (pa_cons pe_int (pa_cons pe_int (pa_cons pe_int (pa_cons (pe_call G_law_draw hr1 (by rfl) T.f_law_draw.g T.f_law_draw.F.kp T.f_law_draw.b .nil pass0 (pa_cons (pv 0) (pa_cons pe_int pa_nil))) pa_nil)))))))))
    (pss_cons (ps_set (i := 3) nd rfl (Or.inl rfl) (pe_ix (Kit.ixL K) (pe_lst (pa_cons pe_int (pa_cons pe_int (pa_cons (pe_call G_law_draw hr1 (by rfl) T.f_law_draw.g T.f_law_draw.F.kp T.f_law_draw.b .nil pass0 (pa_cons (pv 0) (pa_cons pe_int pa_nil))) (pa_cons (pe_call G_law_draw hr1 (by rfl) T.f_law_draw.g T.f_law_draw.F.kp T.f_law_draw.b .nil pass0 (pa_cons (pv 0) (pa_cons pe_int pa_nil))) pa_nil))))) (pe_call G_law_draw hr1 (by rfl) T.f_law_draw.g T.f_law_draw.F.kp T.f_law_draw.b .nil pass0 (pa_cons (pv 0) (pa_cons pe_int pa_nil))) (fun _ _ => rfl)))
    (pss_cons (ps_set (i := 4) nd rfl (Or.inl rfl) (pe_ix (Kit.ixL K) (pe_lst (pa_cons pe_int (pa_cons pe_int (pa_cons pe_int (pa_cons (pe_call G_law_draw hr1 (by rfl) T.f_law_draw.g T.f_law_draw.F.kp T.f_law_draw.b .nil pass0 (pa_cons (pv 0) (pa_cons pe_int pa_nil))) pa_nil))))) (pe_call G_law_draw hr1 (by rfl) T.f_law_draw.g T.f_law_draw.F.kp T.f_law_draw.b .nil pass0 (pa_cons (pv 0) (pa_cons pe_int pa_nil))) (fun _ _ => rfl)))
    (pss_cons (ps_set (i := 5) nd rfl (Or.inl rfl) (pe_ix (Kit.ixL K) (pe_lst (pa_cons pe_int (pa_cons (pe_op op_sub (pv 1) pe_int) (pa_cons (pe_call G_law_draw hr1 (by rfl) T.f_law_draw.g T.f_law_draw.F.kp T.f_law_draw.b .nil pass0 (pa_cons (pv 0) (pa_cons (pv 1) pa_nil))) pa_nil)))) (pe_call G_law_draw hr1 (by rfl) T.f_law_draw.g T.f_law_draw.F.kp T.f_law_draw.b .nil pass0 (pa_cons (pv 0) (pa_cons pe_int pa_nil))) (fun _ _ => rfl)))
    (pss_cons (ps_set (i := 6) nd rfl (Or.inl rfl) (pe_ix (Kit.ixL K) (pe_lst (pa_cons pe_int (pa_cons pe_int (pa_cons pe_int (pa_cons pe_int (pa_cons pe_int (pa_cons pe_int (pa_cons pe_int (pa_cons (pe_call G_law_draw hr1 (by rfl) T.f_law_draw.g T.f_law_draw.F.kp T.f_law_draw.b .nil pass0 (pa_cons (pv 0) (pa_cons pe_int pa_nil))) pa_nil))))))))) (pe_call G_law_draw hr1 (by rfl) T.f_law_draw.g T.f_law_draw.F.kp T.f_law_draw.b .nil pass0 (pa_cons (pv 0) (pa_cons pe_int pa_nil))) (fun _ _ => rfl)))
    (pss_one (ps_ret (pe_tup (pa_cons (pv 3) (pa_cons (pe_ix (Kit.ixL K) (pv 2) (pe_call G_law_draw hr1 (by rfl) T.f_law_draw.g T.f_law_draw.F.kp T.f_law_draw.b .nil pass0 (pa_cons (pv 0) (pa_cons pe_int pa_nil))) (fun _ _ => rfl)) (pa_cons (pe_ix (Kit.ixL K) (pv 2) (pe_call G_law_draw hr1 (by rfl) T.f_law_draw.g T.f_law_draw.F.kp T.f_law_draw.b .nil pass0 (pa_cons (pv 0) (pa_cons pe_int pa_nil))) (fun _ _ => rfl)) (pa_cons (pv 6) (pa_cons (pv 5) (pa_cons (pv 4) pa_nil))))))))))))))) rfl ?_
  walk_at "wp"
  rename_i w1 Ha wa wb ba bb1 ps H1 n1 e1 f1 w2 _ _ _ _ bb2 w3 _ _ _ _ bb3 pp H2 n2 e2 f2 i1 H3 i0 i3 m3 b3
  refine w_pick [0, 255, w2, w3] (by walk_at "hpB") rfl i0 i3 fun pc hpc => ?_
  walk_at "wp"
  rename_i w4 _ _ _ _ bb4 pc2 H4 n4 e4 f4 i5 H5 i6 i7 m5 b5
  refine w_pick [0, 15, 16, w4] (by walk_at "hpB") rfl i6 i7 fun count hcount => ?_
  walk_at "wp"
  rename_i w5 _ _ _ _ bb5 po H6 n6 e6 f6 j1 H7 j2 j3 m7 b7
  refine w_pick [7, m - 1, w5] (by walk_at "hpB") rfl j2 j3 fun out hout => ?_
  walk_at "wp"
  rename_i w6 _ _ _ _ bb6 pm H8 n8 e8 f8 j4 H9 j5 j6 m9 b9
  refine w_pick [0, 0, 0, 0, 0, 0, 0, w6] (by walk_at "hpB") rfl j5 j6 fun mark hmark => ?_
  walk_at "wp"
  rename_i j7 H10 j8 j9 m10 b10
  refine w_pick [0, 1, 3, 255, 256, 65535, w1] (by walk_at "hpB") rfl j8 j9 fun acc hacc => ?_
  walk_at "wp"
  rename_i k7 H11 k8 k9 m11 b11
  refine w_pick [0, 1, 3, 255, 256, 65535, w1] (by walk_at "hpB") rfl k8 k9 fun x hx => ?_
  walk_at "wp"
  rename_i t H12 n12 e12 f12
  have w1ok : 0 ≤ w1 ∧ w1 < 65536 := ⟨by assumption, by assumption⟩
  have w5ok : 0 ≤ w5 ∧ w5 < m := ⟨by assumption, by assumption⟩
  have w2ok : 0 ≤ w2 ∧ w2 < 16 := ⟨by assumption, by assumption⟩
  have w3ok : 0 ≤ w3 ∧ w3 < 256 := ⟨by assumption, by assumption⟩
  have w4ok : 0 ≤ w4 ∧ w4 < 17 := ⟨by assumption, by assumption⟩
  have w6ok : 0 ≤ w6 ∧ w6 < 7 := ⟨by assumption, by assumption⟩
  exact q t pc acc x mark out count H12 ⟨start_pc w2ok w3ok hpc, start_w w1ok hacc, start_w w1ok hx, start_mark w6ok hmark, start_out m0 w5ok hout, start_count w4ok hcount⟩ (by
    cases hz : H t with
    | none => rfl
    | some o =>
      have hz2 := (show Kit.ExBut p H H11 from by walk_at "but") t o (by rintro rfl; obtain ⟨o2, ho2⟩ := b11.is; rw [n12] at ho2; cases ho2) hz
      rw [n12] at hz2
      cases hz2) (by walk_at "but") (by walk_at "bag") f12

/-! ### a machine's step, in numbers -/
structure MSt where
  (pc acc x mark out count : Int)
  mem : List Int
  told : List Int
def MSt.at (s : MSt) (k : Int) : Int := (s.mem[k.toNat]?).getD 0
theorem tup_stay {H H' : Hp} {q a : Addr} {xs : List V} {o : HO} (m : Kit.ExBut q H H') (hq : H q = some o) (h1 : ∀ ys, o ≠ .tup ys) (h2 : ∀ z u, o ≠ .frz z u) (h : SqT K H a xs) : SqT K H' a xs := by
  rcases h with (h | ⟨z, h⟩) | h
  · exact .inl (.inl (m _ _ (by rintro rfl; rw [hq] at h; exact h1 _ (Option.some.inj h)) h))
  · exact .inl (.inr ⟨z, m _ _ (by rintro rfl; rw [hq] at h; exact h2 _ _ (Option.some.inj h)) h⟩)
  · exact .inr h
theorem mod256 (k : Int) : 0 ≤ k % 256 ∧ k % 256 < 256 := ⟨Int.emod_nonneg _ (by decide), Int.emod_lt_of_pos _ (by decide)⟩
def otherM (n a x : Int) : Int := if n = 5 ∨ n = 6 then (a + x) % 256 else a % 256
theorem other_in (n a x : Int) : 0 ≤ otherM n a x ∧ otherM n a x < 256 := by unfold otherM; split <;> exact mod256 _
def dataL (n a x : Int) : Option (Int × Bool) := if n = 4 ∨ n = 6 ∨ n = 26 then some (otherM n a x, true) else if (n = 3 ∨ n = 5 ∨ n = 8 ∨ n = 10 ∨ n = 27) ∨ (12 ≤ n ∧ n ≤ 22) then some (otherM n a x, false) else none
def MSt.moveM (m : Int) (s : MSt) (n a : Int) : MSt × Int :=
  if n = 23 ∨ (n = 24 ∧ s.acc = 0) ∨ (n = 25 ∧ ¬ s.acc = 0) then (s, a % 256)
  else if n = 26 then ({ s with mem := s.mem.set (otherM n a s.x).toNat ((s.pc + 1) % 256) }, (otherM n a s.x + 1) % 256)
  else if n = 27 then (s, s.at (otherM n a s.x) % 256)
  else if n = 28 ∧ s.count = 16 then ({ s with mark := 5 }, s.pc)
  else if n = 28 then ({ s with out := foldI m s.out (leafI m s.acc), count := s.count + 1, told := s.told ++ [s.acc] }, (s.pc + 1) % 256)
  else (s, (s.pc + 1) % 256)
def intOf : V → Int
  | .int i => i
  | _ => 0
def accL (n a acc d : Int) : Int := if 12 ≤ n ∧ n ≤ 22 then intOf (opV (sgOf (nm n)) acc d) else if n = 2 then a else if n = 3 ∨ n = 5 then d else if n = 11 then (if acc = 0 then 1 else 0) else acc
def xL (n acc x d : Int) : Int := if n = 7 then acc else if n = 8 then d else x
def haltL (n a acc x d : Int) : Int := if n = 0 ∨ 28 < n then 6 else if n = 1 then 1 else if n = 9 ∧ a ≤ x then 3 else if n = 10 ∧ d ≤ x then 4 else if (12 ≤ n ∧ n ≤ 22) ∧ opV (sgOf (nm n)) acc d = .non then 2 else 0
def MSt.workS (s : MSt) (n a : Int) : MSt := { s with acc := accL n a s.acc (s.at (otherM n a s.x)), x := xL n s.acc s.x (s.at (otherM n a s.x)), mem := if n = 4 ∨ n = 6 then s.mem.set (otherM n a s.x).toNat s.acc else s.mem }
def MSt.workM (m : Int) (s : MSt) (n a : Int) : MSt × Int :=
  if haltL n a s.acc s.x (s.at (otherM n a s.x)) = 0 then (s.workS n a).moveM m n a
  else ({ s with mark := haltL n a s.acc s.x (s.at (otherM n a s.x)) }, s.pc)
theorem op5 {g : Sg} {a b : Int} (h : g.isCmp = true) : opV g a b = .int (if cmpB g a b = true then 1 else 0) := by
  rw [opV_cmp h]
  split <;> rfl
theorem div_small {a b : Int} (ha : 0 ≤ a) (h : a < 65536) (hb : 0 < b) : 0 ≤ a / b ∧ a / b < 65536 := by
  refine ⟨Int.ediv_nonneg ha (by omega), ?_⟩
  have h1 : a / b ≤ a := Int.ediv_le_self _ ha
  omega

/-! ### both readings of a step agree -/
def regsL (s : MSt) (r : Int) : List V := [.int r, .int s.acc, .int s.x, .int s.mark, .int s.out, .int s.count]
def writL (s' : MSt) : Option (Int × Bool) → V
  | some (p, true) => .int (s'.at p)
  | _ => .non
theorem nm_of_gt {n : Int} (h : 28 < n) : nm n = "bad" := nm_bad (by omega)
theorem at_set {s : MSt} {p v : Int} (hl : s.mem.length = 256) (h0 : 0 ≤ p) (h1 : p < 256) : MSt.at { s with mem := s.mem.set p.toNat v } p = v := by
  show ((s.mem.set p.toNat v)[p.toNat]?).getD 0 = v
  rw [List.getElem?_set_self (by omega)]
  rfl
theorem data_math {n a word x : Int} (h0 : 0 ≤ n) (ha : word % 256 = a % 256) : dataM (nm n) word x = dataL n a x := by
  have e : ∀ k : Int, otherM k a x = if k = 5 ∨ k = 6 then (a + x) % 256 else a % 256 := fun k => rfl
  have hx : (word % 256 + x) % 256 = (a + x) % 256 := by omega
  by_cases hb : 28 < n
  · rw [nm_of_gt hb, show dataL n a x = none from by unfold dataL; rw [if_neg (by omega), if_neg (by omega)]]
    rfl
  · have hc : n = 0 ∨ n = 1 ∨ n = 2 ∨ n = 3 ∨ n = 4 ∨ n = 5 ∨ n = 6 ∨ n = 7 ∨ n = 8 ∨ n = 9 ∨ n = 10 ∨ n = 11 ∨ n = 12 ∨ n = 13 ∨ n = 14 ∨ n = 15 ∨ n = 16 ∨ n = 17 ∨ n = 18 ∨ n = 19 ∨ n = 20 ∨ n = 21 ∨ n = 22 ∨ n = 23 ∨ n = 24 ∨ n = 25 ∨ n = 26 ∨ n = 27 ∨ n = 28 := by omega
    unfold dataM dataL
    rw [hx, ha, e]
    rcases hc with rfl | rfl | rfl | rfl | rfl | rfl | rfl | rfl | rfl | rfl | rfl | rfl | rfl | rfl | rfl | rfl | rfl | rfl | rfl | rfl | rfl | rfl | rfl | rfl | rfl | rfl | rfl | rfl | rfl
    all_goals rfl
theorem step_sg {m word d : Int} {pc acc x out count : Int} {mem told : List Int} (n : Int) (h0 : 12 ≤ n) (h1 : n ≤ 22) (hd : d = MSt.at ⟨pc, acc, x, 0, out, count, mem, told⟩ (otherM n (word % 1024) x))
    (hs : nm n ∈ sgs ∧ ¬ nm n = "bad" ∧ ¬ nm n = "halt" ∧ ¬ nm n = "bound" ∧ ¬ nm n = "within" ∧ ¬ nm n = "tell" ∧ ¬ nm n = "lit" ∧ ¬ nm n ∈ (["load", "loadx"] : List Str) ∧ ¬ nm n = "not" ∧ xM (nm n) acc x (.int d) = .int x ∧ chM (nm n) pc acc = .non ∧ pcM (nm n) pc acc word d = (pc + 1) % 256) :
    doneM m (nm n) pc acc x 0 out count word d (.int d) = (regsL (MSt.workM m ⟨pc, acc, x, 0, out, count, mem, told⟩ n (word % 1024)).1 (MSt.workM m ⟨pc, acc, x, 0, out, count, mem, told⟩ n (word % 1024)).2, writL (MSt.workM m ⟨pc, acc, x, 0, out, count, mem, told⟩ n (word % 1024)).1 (dataL n (word % 1024) x)) := by
  obtain ⟨s1, s2, s3, s4, s5, s6, s7, s8, s9, sx, sc, sp⟩ := hs
  have hdl : dataL n (word % 1024) x = some (otherM n (word % 1024) x, false) := by unfold dataL; rw [if_neg (by omega), if_pos (by omega)]
  have hL : ∀ d, haltL n (word % 1024) acc x d = if (12 ≤ n ∧ n ≤ 22) ∧ opV (sgOf (nm n)) acc d = .non then 2 else 0 := fun d => by
    unfold haltL
    rw [if_neg (by omega), if_neg (by omega), if_neg (by omega), if_neg (by omega)]
  have hN : haltN (nm n) word acc x count d = if nm n ∈ sgs ∧ opV (sgOf (nm n)) acc d = .non then 2 else if nm n = "tell" ∧ count = 16 then 5 else 0 := by
    unfold haltN
    rw [if_neg s2, if_neg s3, if_neg (fun z => s4 z.1), if_neg (fun z => s5 z.1)]
  rcases opV_cases (sgOf (nm n)) acc d with h | ⟨z, h⟩
  · have hN' : haltN (nm n) word acc x count d = 2 := by rw [hN, h, if_pos ⟨s1, rfl⟩]
    have hL' : haltL n (word % 1024) acc x d = 2 := by rw [hL, h, if_pos ⟨⟨h0, h1⟩, rfl⟩]
    unfold doneM MSt.workM
    dsimp only
    rw [← hd, hL', hN', hdl]
    rfl
  · have hne : ¬ V.int z = V.non := fun y => nomatch y
    have hN' : haltN (nm n) word acc x count d = 0 := by rw [hN, h, if_neg (fun y => hne y.2), if_neg (fun y => s6 y.1)]
    have hL' : haltL n (word % 1024) acc x d = 0 := by rw [hL, h, if_neg (fun y => hne y.2)]
    have ea : accM (nm n) acc word d (.int d) = .int z := by
      unfold accM
      rw [if_neg s7, if_neg s8, if_neg s9, if_pos s1, h]
    have el : accL n (word % 1024) acc d = z := by
      unfold accL
      rw [if_pos ⟨h0, h1⟩, h]
      rfl
    have ex : xL n acc x d = x := by unfold xL; rw [if_neg (by omega), if_neg (by omega)]
    have ew : MSt.workS ⟨pc, acc, x, 0, out, count, mem, told⟩ n (word % 1024) = ⟨pc, z, x, 0, out, count, mem, told⟩ := by
      unfold MSt.workS
      dsimp only
      rw [← hd, el, ex, if_neg (by omega)]
    have em : MSt.moveM m ⟨pc, z, x, 0, out, count, mem, told⟩ n (word % 1024) = (⟨pc, z, x, 0, out, count, mem, told⟩, (pc + 1) % 256) := by
      unfold MSt.moveM
      rw [if_neg (by omega), if_neg (by omega), if_neg (by omega), if_neg (by omega), if_neg (by omega)]
    unfold doneM MSt.workM
    dsimp only
    rw [← hd, hL', hN', hdl, if_neg s6, if_neg s6, sx, sc, sp, ea, ew, em]
    rfl
theorem step_math {m n word d : Int} {s : MSt} {dv : V} (h0 : 0 ≤ n) (hl : s.mem.length = 256) (hd : d = s.at (otherM n (word % 1024) s.x)) (hdv : dataL n (word % 1024) s.x ≠ none → dv = .int d) (hm : s.mark = 0) :
    doneM m (nm n) s.pc s.acc s.x s.mark s.out s.count word d dv = (regsL (s.workM m n (word % 1024)).1 (s.workM m n (word % 1024)).2, writL (s.workM m n (word % 1024)).1 (dataL n (word % 1024) s.x)) := by
  have hwb : word % 256 = (word % 1024) % 256 := by omega
  have hO := other_in n (word % 1024) s.x
  have hpc : ∀ sn pc acc d, pcM sn pc acc word d = pcM sn pc acc (word % 1024) d := fun sn pc acc d => by unfold pcM; rw [hwb]
  obtain ⟨pc, acc, x, mark, out, count, mem, told⟩ := s
  have hm : mark = 0 := hm
  subst hm
  dsimp only at hO hdv hd ⊢
  have no1 : ∀ {a b : Str} {p : Prop}, decide (a = b) = false → ¬ (a = b ∧ p) := fun h z => absurd z.1 (of_decide_eq_false h)
  have no2 : ∀ {a b : Int} {p : Prop}, decide (a = b) = false → ¬ (a = b ∧ p) := fun h z => absurd z.1 (of_decide_eq_false h)
  by_cases hb : 28 < n
  · rw [nm_of_gt hb]
    have e1 : ∀ d, haltL n (word % 1024) acc x d = 6 := fun d => if_pos (.inr hb)
    have e2 : dataL n (word % 1024) x = none := by unfold dataL; rw [if_neg (by omega), if_neg (by omega)]
    unfold MSt.workM
    rw [e1, e2, if_neg (by decide)]
    rfl
  · have hc : n = 0 ∨ n = 1 ∨ n = 2 ∨ n = 3 ∨ n = 4 ∨ n = 5 ∨ n = 6 ∨ n = 7 ∨ n = 8 ∨ n = 9 ∨ n = 10 ∨ n = 11 ∨ n = 12 ∨ n = 13 ∨ n = 14 ∨ n = 15 ∨ n = 16 ∨ n = 17 ∨ n = 18 ∨ n = 19 ∨ n = 20 ∨ n = 21 ∨ n = 22 ∨ n = 23 ∨ n = 24 ∨ n = 25 ∨ n = 26 ∨ n = 27 ∨ n = 28 := by omega
    rcases hc with rfl | rfl | rfl | rfl | rfl | rfl | rfl | rfl | rfl | rfl | rfl | rfl | rfl | rfl | rfl | rfl | rfl | rfl | rfl | rfl | rfl | rfl | rfl | rfl | rfl | rfl | rfl | rfl | rfl
    all_goals try rw [hdv (by intro z; exact absurd z (Option.some_ne_none _))]
    all_goals try (exact step_sg _ (by decide) (by decide) hd ⟨by decide +kernel, by decide +kernel, by decide +kernel, by decide +kernel, by decide +kernel, by decide +kernel, by decide +kernel, by decide +kernel, by decide +kernel, rfl, rfl, rfl⟩)
    all_goals subst hd
    all_goals try rfl
    all_goals unfold doneM
    all_goals try rw [hpc]
    all_goals try rfl
    · show _ = (regsL _ _, V.int (MSt.at ⟨pc, acc, x, 0, out, count, mem.set (otherM 4 (word % 1024) x).toNat acc, told⟩ (otherM 4 (word % 1024) x)))
      rw [at_set (s := ⟨pc, acc, x, 0, out, count, mem, told⟩) hl hO.1 hO.2]
      rfl
    · show _ = (regsL _ _, V.int (MSt.at ⟨pc, acc, x, 0, out, count, mem.set (otherM 6 (word % 1024) x).toNat acc, told⟩ (otherM 6 (word % 1024) x)))
      rw [at_set (s := ⟨pc, acc, x, 0, out, count, mem, told⟩) hl hO.1 hO.2]
      rfl
    · generalize hd : MSt.at _ _ = d
      by_cases h : word % 1024 ≤ x
      · rw [show haltN (nm 9) word acc x count d = 3 from by unfold haltN; rw [if_neg (by decide +kernel), if_neg (by decide +kernel), if_pos ⟨rfl, h⟩]]
        have e' : ∀ d, haltL 9 (word % 1024) acc x d = 3 := fun d => by unfold haltL; rw [if_neg (by decide), if_neg (by decide), if_pos ⟨rfl, h⟩]
        unfold MSt.workM
        dsimp only
        rw [e']
        rfl
      · rw [show haltN (nm 9) word acc x count d = 0 from by unfold haltN; rw [if_neg (by decide +kernel), if_neg (by decide +kernel), if_neg (fun z => h z.2)]; rfl]
        have e' : ∀ d, haltL 9 (word % 1024) acc x d = 0 := fun d => by unfold haltL; rw [if_neg (by decide), if_neg (by decide), if_neg (fun z => h z.2)]; rfl
        unfold MSt.workM
        dsimp only
        rw [e']
        rfl
    · generalize hd : MSt.at _ _ = d
      by_cases h : d ≤ x
      · rw [show haltN (nm 10) word acc x count d = 4 from by unfold haltN; rw [if_neg (by decide +kernel), if_neg (by decide +kernel), if_neg (no1 (by decide +kernel)), if_pos ⟨rfl, h⟩]]
        have e' : haltL 10 (word % 1024) acc x d = 4 := by unfold haltL; rw [if_neg (by decide), if_neg (by decide), if_neg (no2 (by decide)), if_pos ⟨rfl, h⟩]
        unfold MSt.workM
        dsimp only
        rw [hd, e']
        rfl
      · rw [show haltN (nm 10) word acc x count d = 0 from by unfold haltN; rw [if_neg (by decide +kernel), if_neg (by decide +kernel), if_neg (no1 (by decide +kernel)), if_neg (fun z => h z.2)]; rfl]
        have e' : haltL 10 (word % 1024) acc x d = 0 := by unfold haltL; rw [if_neg (by decide), if_neg (by decide), if_neg (no2 (by decide)), if_neg (fun z => h z.2)]; rfl
        unfold MSt.workM
        dsimp only
        rw [hd, e']
        rfl
    · have ea : ∀ d dv, accM (nm 11) acc word d dv = .int (if acc = 0 then 1 else 0) := fun d dv => by
        show (if acc = 0 then V.int 1 else V.int 0) = _
        split <;> rfl
      rw [ea]
      rfl
    · by_cases h : acc = 0
      · subst h; rfl
      · have e1 : pcM (nm 24) pc acc (word % 1024) (MSt.at ⟨pc, acc, x, 0, out, count, mem, told⟩ (otherM 24 (word % 1024) x)) = (pc + 1) % 256 := by
          unfold pcM
          rw [if_neg (by rintro (z | z | z); exact absurd z (by decide +kernel); exact h z.2; exact absurd z.1 (by decide +kernel))]
          rfl
        have e2 : ∀ s' : MSt, s'.acc = acc → s'.pc = pc → MSt.moveM m s' 24 (word % 1024) = (s', (pc + 1) % 256) := fun s' z1 z2 => by
          unfold MSt.moveM
          rw [z1, z2, if_neg (by omega)]
          rfl
        have e3 : MSt.workM m ⟨pc, acc, x, 0, out, count, mem, told⟩ 24 (word % 1024) = (⟨pc, acc, x, 0, out, count, mem, told⟩, (pc + 1) % 256) := e2 _ rfl rfl
        rw [e1, e3]
        rfl
    · by_cases h : acc = 0
      · subst h; rfl
      · have e1 : pcM (nm 25) pc acc (word % 1024) (MSt.at ⟨pc, acc, x, 0, out, count, mem, told⟩ (otherM 25 (word % 1024) x)) = (word % 1024) % 256 := by
          unfold pcM
          rw [if_pos (.inr (.inr ⟨rfl, h⟩))]
        have e2 : ∀ s' : MSt, s'.acc = acc → MSt.moveM m s' 25 (word % 1024) = (s', (word % 1024) % 256) := fun s' z1 => by
          unfold MSt.moveM
          rw [z1, if_pos (by omega)]
        have e3 : MSt.workM m ⟨pc, acc, x, 0, out, count, mem, told⟩ 25 (word % 1024) = (⟨pc, acc, x, 0, out, count, mem, told⟩, (word % 1024) % 256) := e2 _ rfl
        rw [e1, e3]
        rfl
    · show _ = (regsL _ _, V.int (MSt.at ⟨pc, acc, x, 0, out, count, mem.set (otherM 26 (word % 1024) x).toNat ((pc + 1) % 256), told⟩ (otherM 26 (word % 1024) x)))
      rw [at_set (s := ⟨pc, acc, x, 0, out, count, mem, told⟩) hl hO.1 hO.2]
      rfl
    · by_cases h : count = 16
      · subst h; rfl
      · have e1 : ∀ d, haltN (nm 28) word acc x count d = 0 := fun d => by
          unfold haltN
          rw [if_neg (by decide +kernel), if_neg (by decide +kernel), if_neg (no1 (by decide +kernel)), if_neg (no1 (by decide +kernel)), if_neg (fun z => absurd z.1 (by decide +kernel)), if_neg (fun z => h z.2)]
        have e3 : MSt.workM m ⟨pc, acc, x, 0, out, count, mem, told⟩ 28 (word % 1024) = (⟨pc, acc, x, 0, foldI m out (leafI m acc), count + 1, mem, told ++ [acc]⟩, (pc + 1) % 256) := by
          show MSt.moveM m ⟨pc, acc, x, 0, out, count, mem, told⟩ 28 (word % 1024) = _
          unfold MSt.moveM
          rw [if_neg (by omega), if_neg (by omega), if_neg (by omega), if_neg (fun z => h z.2), if_pos rfl]
        rw [e1, e3]
        rfl
def sp_law_right (C : Addr) : Sp := fun vs H Q _ => ∃ (p g : Addr) (m : Int), vs = [.ref p, .ref g, .int m] ∧ Bag5 H p ∧ DigN C H g m ∧ 100 < m ∧ m < 2 ^ 62 ∧ ∀ H', Kit.ExBut p H H' → Bag5 H' p → Q (.bl true) H'

/-! ### rows and their levels -/
def iv (ns : List Int) : List V := ns.map V.int
theorem iv_at {r : List Int} {k : Nat} (h : k < r.length) : atI (iv r) (k : Int) = some (.int ((r[k]?).getD 0)) := by
  refine atI_nat (j := k) ?_
  unfold iv
  rw [List.getElem?_map, List.getElem?_eq_getElem h]
  rfl
theorem iv_at' {r : List Int} {z : Int} (k : Nat) (e : z = (k : Int)) (h : k < r.length) : atI (iv r) z = some (.int ((r[k]?).getD 0)) := by
  rw [e]
  exact iv_at h
theorem iv_len (r : List Int) : (iv r).length = r.length := List.length_map _
def AllDg (m : Int) (r : List Int) : Prop := ∀ x ∈ r, Dg m x
theorem AllDg.at {m : Int} {r : List Int} (h : AllDg m r) {k : Nat} (hk : k < r.length) : Dg m ((r[k]?).getD 0) := by
  rw [List.getElem?_eq_getElem hk]
  exact h _ (List.getElem_mem hk)
theorem pairs_at {f : Int → Int → Int} : ∀ (r : List Int) {m : Nat}, r.length = 2 * m → KM.pairs f r = (List.range m).map fun k => f ((r[2 * k]?).getD 0) ((r[2 * k + 1]?).getD 0) := by
  intro r m hr
  apply List.ext_getElem?
  intro i
  by_cases hi : i < m
  · rw [List.getElem?_map, List.getElem?_range hi]
    have h1 : 2 * i < r.length := by omega
    have h2 : 2 * i + 1 < r.length := by omega
    rw [KM.pairs_get r (List.getElem?_eq_getElem h1) (List.getElem?_eq_getElem h2)]
    show _ = some (f ((r[2 * i]?).getD 0) ((r[2 * i + 1]?).getD 0))
    rw [List.getElem?_eq_getElem h1, List.getElem?_eq_getElem h2]
    rfl
  · rw [List.getElem?_eq_none (by rw [KM.pairs_len r hr]; omega), List.getElem?_eq_none (by rw [List.length_map, List.length_range]; omega)]
theorem pairs_dg {m : Int} (hm : 0 < m) : ∀ r : List Int, AllDg m (KM.pairs (foldI m) r)
  | [] => fun x h => by cases h
  | [_] => fun x h => by cases h
  | a :: b :: r => fun x h => by
    rcases List.mem_cons.mp h with rfl | h
    · exact fold_dg hm
    · exact pairs_dg hm r x h
/-- lists at new addresses, one a row -/
def RowsAt (H0 H : Hp) : List Addr → List (List Int) → Prop
  | [], [] => True
  | p :: ps, r :: rs => H0 p = none ∧ H p = some (.lst (iv r)) ∧ p ∉ ps ∧ RowsAt H0 H ps rs
  | _, _ => False
theorem RowsAt.ex {H0 H H' : Hp} (e : Evl.Ex H H') : ∀ {ps : List Addr} {rs : List (List Int)}, RowsAt H0 H ps rs → RowsAt H0 H' ps rs
  | [], [], _ => trivial
  | _ :: _, _ :: _, ⟨a, b, c, d⟩ => ⟨a, e _ _ b, c, RowsAt.ex e d⟩
theorem RowsAt.but {q : Addr} {H0 H H' : Hp} (e : Kit.ExBut q H H') : ∀ {ps : List Addr} {rs : List (List Int)}, q ∉ ps → RowsAt H0 H ps rs → RowsAt H0 H' ps rs
  | [], [], _, _ => trivial
  | p :: ps, _ :: _, n, ⟨a, b, c, d⟩ => ⟨a, e _ _ (fun z => n (z ▸ List.mem_cons_self)) b, c, RowsAt.but e (fun z => n (List.mem_cons_of_mem _ z)) d⟩
theorem RowsAt.len {H0 H : Hp} : ∀ {ps : List Addr} {rs : List (List Int)}, RowsAt H0 H ps rs → ps.length = rs.length
  | [], [], _ => rfl
  | _ :: _, _ :: _, ⟨_, _, _, d⟩ => by rw [List.length_cons, List.length_cons, RowsAt.len d]
theorem RowsAt.get {H0 H : Hp} : ∀ {ps : List Addr} {rs : List (List Int)}, RowsAt H0 H ps rs → ∀ {i : Nat} {r : List Int}, rs[i]? = some r → ∃ p, ps[i]? = some p ∧ H0 p = none ∧ H p = some (.lst (iv r))
  | [], [], _, i, _, h => by simp at h
  | p :: ps, s :: rs, ⟨a, b, c, d⟩, 0, r, h => by
    have e : s = r := by simpa using h
    subst e
    exact ⟨p, rfl, a, b⟩
  | p :: ps, s :: rs, ⟨a, b, c, d⟩, i + 1, r, h => by
    obtain ⟨q, h1, h2⟩ := RowsAt.get d (i := i) (r := r) (by simpa using h)
    exact ⟨q, by simpa using h1, h2⟩
theorem RowsAt.mem {H0 H : Hp} : ∀ {ps : List Addr} {rs : List (List Int)}, RowsAt H0 H ps rs → ∀ {p : Addr}, p ∈ ps → ∃ xs, H p = some (.lst xs)
  | [], [], _, _, h => by cases h
  | q :: ps, s :: rs, ⟨a, b, c, d⟩, p, h => by
    rcases List.mem_cons.mp h with rfl | h
    · exact ⟨_, b⟩
    · exact RowsAt.mem d h
theorem RowsAt.snoc {H0 H : Hp} {q : Addr} {r : List Int} (hq : H0 q = none) (h : H q = some (.lst (iv r))) : ∀ {ps : List Addr} {rs : List (List Int)}, q ∉ ps → RowsAt H0 H ps rs → RowsAt H0 H (ps ++ [q]) (rs ++ [r])
  | [], [], _, _ => ⟨hq, h, by simp, trivial⟩
  | p :: ps, _ :: _, n, ⟨a, b, c, d⟩ => ⟨a, b, by
      intro z
      rcases List.mem_append.mp z with z | z
      · exact c z
      · exact n (List.mem_singleton.mp z ▸ List.mem_cons_self), RowsAt.snoc hq h (fun z => n (List.mem_cons_of_mem _ z)) d⟩
/-- a list of lists: the levels of a row -/
structure LevAt (H0 H : Hp) (l : Addr) (rs : List (List Int)) : Prop where
  ex : ∃ ps : List Addr, H l = some (.lst (ps.map V.ref)) ∧ RowsAt H0 H ps rs ∧ l ∉ ps ∧ H0 l = none
theorem LevAt.mono {H0 H H' : Hp} {l : Addr} {rs : List (List Int)} (e : Evl.Ex H H') (h : LevAt H0 H l rs) : LevAt H0 H' l rs := let ⟨ps, a, b, c, d⟩ := h.ex; ⟨ps, e _ _ a, b.ex e, c, d⟩
/-- the levels so far, by how far one has come -/
def LevSo (f : Int → Int → Int) (k : Nat) (row : List Int) (j : Nat) (rs : List (List Int)) : Prop := ∃ (pre : List (List Int)) (r : List Int), rs = pre ++ [r] ∧ r.length = 2 ^ j ∧ pre ++ KM.levs f j r = KM.levs f k row
theorem LevSo.next {f : Int → Int → Int} {k j : Nat} {row : List Int} {rs : List (List Int)} (h : LevSo f k row (j + 1) rs) : ∃ r, rs.getLast? = some r ∧ r.length = 2 * 2 ^ j ∧ LevSo f k row j (rs ++ [KM.pairs f r]) := by
  obtain ⟨pre, r, rfl, hr, e⟩ := h
  rw [KM.two_pow] at hr
  refine ⟨r, by simp, hr, pre ++ [r], KM.pairs f r, rfl, KM.pairs_len r hr, ?_⟩
  rw [List.append_assoc]
  exact e
def sp_levels_of (K : PySem.W.Frag) (C : Addr) : Sp := fun vs H Q _ => ∃ (p a : Addr) (m : Int) (r : List Int) (k : Nat), vs = [.ref p, .ref a] ∧ DigN C H p m ∧ (SqL K H a (iv r) ∨ SqT K H a (iv r)) ∧ AllDg m r ∧ r.length = 2 ^ k ∧ k ≤ 8 ∧
  ∀ l H', Evl.Ex H H' → LevAt H H' l (KM.levs (foldI m) k r) → Q (.ref l) H'
theorem ok_levels_of (T : Txt K mg) : FnOk P w K mg base CX0 3 T.f_levels_of.f T.f_levels_of.fd ["digests", "row"] (sp_levels_of K T.c_Digests.C) := by
  have G_Digests_fold := ok_Digests_fold (P := P) (w := w) (base := base) T
  refine T.f_levels_of.F.ok sc_levels_of (fun vs H Q E h => ?_) (fun cdv A outer s H vs Q E hr h => ?_)
  · obtain ⟨p, a, m, r, k, rfl, hd, ha, hx, hk, hk8, q⟩ := h
    rfl
  obtain ⟨p, a, m, r, k, rfl, hd, ha, hx, hk, hk8, q⟩ := h
  have nd := sc_levels_of.nd
  have hr2 : Room 2 _ := hr.mono (by decide)
  refine Kit.ok_body (σ := [some _, some _, none, none, none]) ((pss_cons (ps_set (i := 2) nd rfl (Or.inl rfl) (pe_lst (pa_cons (pe_callTy (Kit.kList K) (by rfl) T.z_list (by decide +kernel) (pa_cons (pv 1) pa_nil)) pa_nil)))
    (pss_cons (ps_while PassesOwn.never (pt_cmpR op_gt (pe_callB (Kit.kLen K) (by rfl) T.z_len (by decide +kernel) (pa_cons (pe_ix (Kit.ixL K) (pv 2) (pe_un un_neg pe_int) (fun _ _ => rfl)) pa_nil)) pe_int (nomark _))
    (pss_cons (ps_set (i := 3) nd rfl (Or.inr rfl) (pe_ix (Kit.ixL K) (pv 2) (pe_un un_neg pe_int) (fun _ _ => rfl)))
    (pss_one (ps_expr (pe_bm PySem.F.plainAttrs_list PySem.F.slot_list_append PySem.F.type_list_append mt_append (pv 2) (pa_cons (pe_lc (own := [("k", 4)]) (g := gName 4) (tt := tYes) (by rfl) nd (pi_range3 (by rfl) T.z_range (pa_cons pe_int (pa_cons (pe_callB (Kit.kLen K) (by rfl) T.z_len (by decide +kernel) (pa_cons (pv 3) pa_nil)) (pa_cons pe_int pa_nil)))) (blkOk_by (own := [("k", 4)]) (N := N_levels_of) (sc := defScope s_levels_of) (by decide +kernel)) (fun _ _ _ _ _ => pg_name (i := 4) nd rfl (Or.inl rfl)) (fun _ _ _ _ _ => pts_nil) (fun _ _ _ _ _ => (pe_meth (pv 0) T.c_Digests.cl T.m_Digests_fold G_Digests_fold hr2 T.f_Digests_fold.b .nil pass0 (pa_cons (pe_ix (Kit.ixL K) (pv 3) (pv 4) (fun _ _ => rfl)) (pa_cons (pe_ix (Kit.ixL K) (pv 3) (pe_op op_add (pv 4) pe_int) (fun _ _ => rfl)) pa_nil))))) pa_nil))))))
    (pss_one (ps_ret (pv 2)))))) rfl ?_
  try dsimp only [L2.cxOf, L2.Cx.nox]
  have hlen : (iv r).length ≤ 256 := by
    rw [iv_len, hk]
    exact Nat.pow_le_pow_right (by decide) hk8
  walk_at "wp"
  rename_i c H1 n1 e1 f1 l H2 n2 e2 f2
  refine Kit.m_whileT (fun j σ' H' => ∃ (rs : List (List Int)) (y3 y4 : Option V), σ' = [some (.ref p), some (.ref a), some (.ref l), y3, y4] ∧ Evl.Ex H H' ∧ LevAt H H' l rs ∧ LevSo (foldI m) k r j rs ∧ (∀ x ∈ rs, AllDg m x) ∧ rs.length + j = k + 1 ∧ j ≤ k) k
    ⟨[r], none, none, rfl, e1.trans e2, ⟨[c], f2, ⟨n1, e2 _ _ f1, by simp, trivial⟩, fun z => by
      rw [List.mem_singleton] at z
      exact ne_of_none f1 n2 z.symm, Evl.fresh_back e1 n2⟩, ⟨[], r, rfl, hk, rfl⟩, fun x z => by
      rw [List.mem_singleton] at z
      rw [z]; exact hx, by simp; omega, Nat.le_refl k⟩ ?_
  rintro j σ' H3 ⟨rs, y3, y4, rfl, e3, ⟨ps, g1, g2, g3, g4⟩, hso, hdg, hj, hjk⟩
  obtain ⟨pre, rl, rfl, hrl, hle⟩ := id hso
  obtain ⟨q0, hq0, _, hq1⟩ := g2.get (i := pre.length) (r := rl) (by simp)
  have hps : ps.length = pre.length + 1 := by rw [g2.len]; simp
  have hat : atI (ps.map V.ref) (-1) = some (.ref q0) := by
    have z : ps = ps.dropLast ++ [q0] := by
      have hne : ps ≠ [] := fun z => by rw [z] at hps; simp at hps
      have hl : ps.getLast hne = q0 := by
        have := List.getLast_eq_getElem hne
        rw [this]
        have h2 := (List.getElem?_eq_some_iff.mp hq0)
        obtain ⟨h3, h4⟩ := h2
        have h5 : ps.length - 1 = pre.length := by omega
        simp only [h5]
        exact h4
      rw [← hl]
      exact (List.dropLast_concat_getLast hne).symm
    rw [z, List.map_append]
    exact atI_last _ _
  have hlt : rl.length = 2 ^ j := hrl
  walk_at "wp"
  · rename_i hc
    rw [iv_len, hrl] at hc
    obtain ⟨j, rfl⟩ : ∃ i, j = i + 1 := ⟨j - 1, by
      have : j ≠ 0 := fun z => by subst z; simp at hc
      omega⟩
    refine Kit.turn_go ?_
    walk_at "wp"
    have hr2 : rl.length = 2 * 2 ^ j := by rw [hrl, KM.two_pow]
    have hb : 2 ^ j ≤ 256 := Nat.le_trans (Nat.pow_le_pow_right (by decide) (show j ≤ 8 by omega)) (by decide)
    have hdl := hdg rl (by simp)
    have hm := hd.pos
    refine Kit.l_rng2 (m := 2 ^ j) (by rw [iv_len, hr2]; omega) (by omega) (fun _ => rfl) (fun i => .int (foldI m ((rl[2 * i]?).getD 0) ((rl[2 * i + 1]?).getD 0))) ?_ ?_
    · intro i H4 hi e4 R rr
      walk_at "wp"
      refine Kit.w_ixL (Evl.sq_of (e4 _ _ hq1)) (iv_at' (2 * i) (by omega) (by omega)) ?_
      walk_at "wp"
      refine Kit.w_ixL (Evl.sq_of (e4 _ _ hq1)) (iv_at' (2 * i + 1) (by omega) (by omega)) ?_
      walk_at "wp"
      refine use_fold (by walk_at "dig") (hdl.at (by omega)) (hdl.at (by omega)) fun H5 e5 => ?_
      exact rr _ e5
    · intro q1 H4 n4 e4 f4
      rw [show (fun i : Nat => V.int (foldI m ((rl[2 * i]?).getD 0) ((rl[2 * i + 1]?).getD 0))) = V.int ∘ (fun i : Nat => foldI m ((rl[2 * i]?).getD 0) ((rl[2 * i + 1]?).getD 0)) from rfl, ← List.map_map, ← pairs_at rl hr2] at f4
      walk_at "wp"
      have hpl : ps.length ≤ 9 := by rw [hps]; simp at hj; omega
      refine Kit.w_app (e4 _ _ g1) (by rw [List.length_map]; omega) fun H5 m5 f5 => ?_
      have hql : q1 ≠ l := fun z => by
        have := e4 _ _ g1
        rw [z] at n4
        rw [n4] at g1
        cases g1
      have hqp : q1 ∉ ps := fun z => by
        obtain ⟨xs, hx⟩ := g2.mem z
        rw [n4] at hx
        cases hx
      have hlp : ∀ x ∈ ps, x ≠ l := fun x hx z => g3 (z ▸ hx)
      refine ⟨j, Nat.lt_succ_self j, pre ++ [rl] ++ [KM.pairs (foldI m) rl], _, _, rfl, ?_, ⟨ps ++ [q1], ?_, ?_, ?_, g4⟩, ?_, ?_, ?_, by omega⟩
      · exact Kit.ex_but m5 g4 (e3.trans e4)
      · rw [f5, List.map_append]; rfl
      · exact RowsAt.snoc (Evl.fresh_back e3 n4) (m5 _ _ hql f4) hqp ((g2.ex e4).but m5 g3)
      · intro z
        rcases List.mem_append.mp z with z | z
        · exact g3 z
        · exact hql (List.mem_singleton.mp z).symm
      · obtain ⟨r', hr', _, h⟩ := hso.next
        have : rl = r' := by simpa using hr'
        rw [← this] at h; exact h
      · intro x hx
        rcases List.mem_append.mp hx with hx | hx
        · exact hdg x hx
        · rw [List.mem_singleton.mp hx]
          exact pairs_dg hm rl
      · simp at hj ⊢; omega
  · rename_i hc
    rw [iv_len, hrl] at hc
    have hj0 : j = 0 := by
      cases j with
      | zero => rfl
      | succ j =>
        rw [KM.two_pow] at hc
        have : 0 < 2 ^ j := Nat.pow_pos (by decide)
        omega
    subst hj0
    exact q l H3 e3 (by rw [← hle]; exact ⟨ps, g1, g2, g3, g4⟩)
theorem use_levels_of {K : PySem.W.Frag} {C p a : Addr} {m : Int} {r : List Int} {k : Nat} {H : Hp} {Q : VK} {E : XK} (hd : DigN C H p m) (ha : SqL K H a (iv r) ∨ SqT K H a (iv r)) (hx : AllDg m r) (hk : r.length = 2 ^ k) (h8 : k ≤ 8)
    (q : ∀ l H', Evl.Ex H H' → LevAt H H' l (KM.levs (foldI m) k r) → Q (.ref l) H') : sp_levels_of K C [.ref p, .ref a] H Q E := ⟨p, a, m, r, k, rfl, hd, ha, hx, hk, h8, q⟩

/-! ### roots and paths -/
theorem LevAt.get {H0 H : Hp} {l : Addr} {rs : List (List Int)} (h : LevAt H0 H l rs) : ∃ ps : List Addr, H l = some (.lst (ps.map V.ref)) ∧ ps.length = rs.length ∧ ∀ (i : Nat) r, rs[i]? = some r → ∃ p, ps[i]? = some p ∧ H p = some (.lst (iv r)) := by
  obtain ⟨ps, a, b, _, _⟩ := h.ex
  exact ⟨ps, a, b.len, fun i r hi => let ⟨p, x, _, y⟩ := b.get hi; ⟨p, x, y⟩⟩
theorem levs_last {f : Int → Int → Int} : ∀ (k : Nat) (r : List Int), r.length = 2 ^ k → (KM.levs f k r)[k]? = some [KM.rootM f k r]
  | 0, [x], _ => rfl
  | k + 1, r, h => by
    rw [KM.two_pow] at h
    exact levs_last k _ (KM.pairs_len r h)
theorem ref_at {ps : List Addr} {k : Nat} {p : Addr} (h : ps[k]? = some p) : atI (ps.map V.ref) (k : Int) = some (.ref p) := by
  refine atI_nat (j := k) ?_
  rw [List.getElem?_map, h]
  rfl
theorem ref_last {ps : List Addr} {k : Nat} {p : Addr} (hl : ps.length = k + 1) (h : ps[k]? = some p) : atI (ps.map V.ref) (-1) = some (.ref p) := by
  have hne : ps ≠ [] := fun z => by rw [z] at hl; simp at hl
  have hq : ps.getLast hne = p := by
    rw [List.getLast_eq_getElem hne]
    obtain ⟨h3, h4⟩ := List.getElem?_eq_some_iff.mp h
    have h5 : ps.length - 1 = k := by omega
    simp only [h5]
    exact h4
  rw [← List.dropLast_concat_getLast hne, hq, List.map_append]
  exact atI_last _ _

theorem pathM_eq (f : Int → Int → Int) : ∀ (k : Nat) (r : List Int) (pl : Nat) (i : Nat) (s : List Int), (KM.levs f k r)[i]? = some s → i < k → (KM.pathM f k r pl)[i]? = some ((s[KM.nb (pl / 2 ^ i)]?).getD 0)
  | 0, _, _, _, _, _, h => by omega
  | k + 1, r, pl, 0, s, hs, _ => by
    have e : r = s := by simpa [KM.levs] using hs
    subst e
    simp [KM.pathM]
  | k + 1, r, pl, i + 1, s, hs, hi => by
    have h := pathM_eq f k (KM.pairs f r) (pl / 2) i s (by simpa [KM.levs] using hs) (by omega)
    have e : pl / 2 / 2 ^ i = pl / 2 ^ (i + 1) := by
      rw [Nat.div_div_eq_div_mul, KM.two_pow]
    rw [e] at h
    simpa [KM.pathM] using h
theorem levs_at_len {f : Int → Int → Int} : ∀ (k : Nat) (r : List Int) (i : Nat) (s : List Int), r.length = 2 ^ k → (KM.levs f k r)[i]? = some s → s.length = 2 ^ (k - i)
  | 0, r, 0, s, hr, hs => by
    have e : r = s := by simpa [KM.levs] using hs
    rw [← e, hr]
  | 0, r, i + 1, s, hr, hs => by simp [KM.levs] at hs
  | k + 1, r, 0, s, hr, hs => by
    have e : r = s := by simpa [KM.levs] using hs
    rw [← e, hr]
    rfl
  | k + 1, r, i + 1, s, hr, hs => by
    rw [KM.two_pow] at hr
    have h := levs_at_len k (KM.pairs f r) i s (KM.pairs_len r hr) (by simpa [KM.levs] using hs)
    rw [h, Nat.add_sub_add_right]
theorem nb_lt {k i pl : Nat} (hi : i < k) (hp : pl < 2 ^ k) : KM.nb (pl / 2 ^ i) < 2 ^ (k - i) := by
  have h1 : pl / 2 ^ i < 2 ^ (k - i) := by
    rw [Nat.div_lt_iff_lt_mul (Nat.pow_pos (by decide)), ← Nat.pow_add, Nat.sub_add_cancel (Nat.le_of_lt hi)]
    exact hp
  have h2 : 2 ^ (k - i) = 2 * 2 ^ (k - i - 1) := by
    rw [← KM.two_pow]
    congr 1
    omega
  unfold KM.nb
  rw [h2] at h1 ⊢
  generalize pl / 2 ^ i = z at *
  generalize 2 ^ (k - i - 1) = y at *
  split <;> omega
def sp_path_in (K : PySem.W.Frag) : Sp := fun vs H Q _ => ∃ (l : Addr) (ps : List Addr) (f : Int → Int → Int) (r : List Int) (k : Nat) (pl : Nat), vs = [.ref l, .int pl] ∧ H l = some (.lst (ps.map V.ref)) ∧ ps.length = k + 1 ∧ (∀ (i : Nat) s, (KM.levs f k r)[i]? = some s → ∃ p, ps[i]? = some p ∧ H p = some (.lst (iv s))) ∧
  r.length = 2 ^ k ∧ k ≤ 8 ∧ pl < 2 ^ k ∧ ∀ p H', H p = none → Evl.Ex H H' → H' p = some (.tup (iv (KM.pathM f k r pl))) → Q (.ref p) H'
theorem cut_butlast {xs : List V} {n : Nat} (h : xs.length = n + 1) : cutV xs none (some (-1)) = xs.take n := by
  unfold cutV
  rw [HT.sIx_none]
  have e : HT.sIx xs.length xs.length (some (-1)) = n := by
    unfold HT.sIx
    rw [h]
    simp
    omega
  rw [e]
  simp
theorem int_half {pl i : Nat} : ((pl / 2 ^ i : Nat) : Int) / 2 = ((pl / 2 ^ (i + 1) : Nat) : Int) := by
  rw [KM.two_pow, Nat.mul_comm, ← Nat.div_div_eq_div_mul]
  omega
theorem nb_even {z : Nat} (h : (z : Int) % 2 = 0) : (z : Int) + 1 = ((KM.nb z : Nat) : Int) := by
  unfold KM.nb
  rw [if_pos (by omega)]
  omega
theorem nb_odd {z : Nat} (h : ¬ (z : Int) % 2 = 0) : (z : Int) - 1 = ((KM.nb z : Nat) : Int) := by
  unfold KM.nb
  rw [if_neg (by omega)]
  omega
theorem ok_path_in (T : Txt K mg) : FnOk P w K mg base CX0 1 T.f_path_in.f T.f_path_in.fd ["levels", "place"] (sp_path_in K) := by
  refine T.f_path_in.F.ok sc_path_in (fun vs H Q E h => ?_) (fun cdv A outer s H vs Q E hr h => ?_)
  · obtain ⟨l, ps, f, r, k, pl, rfl, hl, hps, hlv, hk, hk8, hpl, q⟩ := h
    rfl
  obtain ⟨l, ps, f, r, k, pl, rfl, hl, hps, hlv, hk, hk8, hpl, q⟩ := h
  have nd := sc_path_in.nd
  refine Kit.ok_body (σ := [some _, some _, none, none, none]) ((pss_cons (ps_set (i := 2) nd rfl (Or.inl rfl) (pe_lst pa_nil))
    (pss_cons (ps_for PassesOwn.never rfl (Kit.kpList K (pe_slice (Kit.kSlL K) (pv 0) po_none (po_some (pe_un un_neg pe_int)))) (pg_name (i := 3) nd rfl (Or.inl rfl))
    (pss_cons (ps_set (i := 4) nd rfl (Or.inl rfl) (pe_ifExp (pt_cmpR op_eq (pe_op op_mod (pv 1) pe_int) pe_int (nomark _)) (pe_op op_add (pv 1) pe_int) (pe_op op_sub (pv 1) pe_int)))
    (pss_cons (ps_expr (pe_bm PySem.F.plainAttrs_list PySem.F.slot_list_append PySem.F.type_list_append mt_append (pv 2) (pa_cons (pe_ix (Kit.ixL K) (pv 3) (pv 4) (fun _ _ => rfl)) pa_nil)))
    (pss_one (ps_set (i := 1) nd rfl (Or.inl rfl) (pe_op op_fdiv (pv 1) pe_int))))))
    (pss_one (ps_ret (pe_callTy (Kit.kTuple K) (by rfl) T.z_tuple (by decide +kernel) (pa_cons (pv 2) pa_nil))))))) rfl ?_
  try dsimp only [L2.cxOf, L2.Cx.nox]
  walk_at "wp"
  rename_i pp H1 n1 e1 f1 c H2 n2 e2 f2
  rw [cut_butlast (n := k) (by rw [List.length_map, hps])] at f2
  have hxl : ((ps.map V.ref).take k).length = k := by rw [List.length_take, List.length_map, hps]; omega
  refine Kit.f_list (Evl.sq_of f2) (fun i σ' H' => ∃ y3 y4, σ' = [some (.ref l), some (.int ((pl / 2 ^ i : Nat) : Int)), some (.ref pp), y3, y4] ∧ Kit.ExBut pp H2 H' ∧ H' pp = some (.lst (iv ((KM.pathM f k r pl).take i)))) ⟨none, none, by simp, Kit.ExBut.refl _ _, by rw [e2 _ _ f1]; rfl⟩ ?_ ?_ ?_
  · rintro i σ' H' _ ⟨y3, y4, rfl, m, _⟩
    exact Evl.sq_of (m _ _ (fun z => by rw [z, e2 _ _ f1] at f2; rw [z, f1] at n2; cases n2) f2)
  · rintro i x σ' H' hx ⟨y3, y4, rfl, m, g⟩
    have hi : i < k := by
      have := (List.getElem?_eq_some_iff.mp hx).1
      rw [hxl] at this
      exact this
    have hil : i < (KM.levs f k r).length := by rw [KM.levs_len]; omega
    obtain ⟨p, hp1, hp2⟩ := hlv i _ (List.getElem?_eq_getElem hil)
    generalize hs : (KM.levs f k r)[i] = s at hp2
    have hs2 : (KM.levs f k r)[i]? = some s := by rw [List.getElem?_eq_getElem hil, hs]
    have hsl := levs_at_len k r i s hk hs2
    have ex : x = .ref p := by
      rw [List.getElem?_take_of_lt hi, List.getElem?_map, hp1] at hx
      exact (Option.some.inj hx).symm
    subst ex
    have hnp : p ≠ pp := ne_of_none hp2 n1
    have hp3 : H' p = some (.lst (iv s)) := m _ _ hnp (e2 _ _ (e1 _ _ hp2))
    have hnb := nb_lt hi hpl
    rw [← hsl] at hnb
    have hpath := pathM_eq f k r pl i s hs2 hi
    have htk : iv ((KM.pathM f k r pl).take (i + 1)) = iv ((KM.pathM f k r pl).take i) ++ [.int ((s[KM.nb (pl / 2 ^ i)]?).getD 0)] := by
      rw [List.take_add_one, hpath]
      unfold iv
      rw [List.map_append]
      rfl
    have hz : ((pl / 2 ^ i : Nat) : Int) / 2 = ((pl / 2 ^ (i + 1) : Nat) : Int) := int_half
    show Kit.Sm _ _ _ _ _ _ _
    have hlen : (iv ((KM.pathM f k r pl).take i)).length < 100000 := by
      rw [iv_len, List.length_take]
      omega
    walk_at "wp"
    all_goals rename_i hc
    · refine Kit.w_ixL (Evl.sq_of hp3) (iv_at' (KM.nb (pl / 2 ^ i)) (nb_even hc) hnb) ?_
      walk_at "wp"
      refine Kit.w_app g hlen fun H3 m3 f3 => ?_
      walk_at "wp"
      exact ⟨_, _, by rw [hz] <;> rfl, m.trans m3, by rw [f3, htk]⟩
    · refine Kit.w_ixL (Evl.sq_of hp3) (iv_at' (KM.nb (pl / 2 ^ i)) (nb_odd hc) hnb) ?_
      walk_at "wp"
      refine Kit.w_app g hlen fun H3 m3 f3 => ?_
      walk_at "wp"
      exact ⟨_, _, by rw [hz] <;> rfl, m.trans m3, by rw [f3, htk]⟩
  · rintro σ' H' ⟨y3, y4, rfl, m, g⟩
    rw [hxl, List.take_of_length_le (by rw [KM.path_len]; exact Nat.le_refl k)] at g
    walk_at "wp"
    rename_i p H3 n3 e3 f3
    have e : Evl.Ex H H' := Kit.ex_but m n1 (e1.trans e2)
    exact q p H3 (Evl.fresh_back e n3) (e.trans e3) f3
theorem use_path_in {K : PySem.W.Frag} {l : Addr} {f : Int → Int → Int} {r : List Int} {k : Nat} (pl : Nat) {z : Int} {H0 H : Hp} {Q : VK} {E : XK} (hl : LevAt H0 H l (KM.levs f k r)) (hk : r.length = 2 ^ k) (h8 : k ≤ 8) (hp : pl < 2 ^ k) (ez : z = (pl : Int))
    (q : ∀ p H', H p = none → Evl.Ex H H' → H' p = some (.tup (iv (KM.pathM f k r pl))) → Q (.ref p) H') : sp_path_in K [.ref l, .int z] H Q E := by
  obtain ⟨ps, a, b, c⟩ := hl.get
  subst ez
  exact ⟨l, ps, f, r, k, pl, rfl, a, by rw [b, KM.levs_len], c, hk, h8, hp, q⟩

/-! ### an attribute as one of several targets -/
def gFldT (K : PySem.W.Frag) (to : TE) (f : Str) : TG := fun v σ H Q => to σ H fun x H1 => Kit.PutOf K f v x H1 fun H2 => Q σ H2
theorem kgAttr (K : PySem.W.Frag) {X : Cx} {o : Expr} {f : Str} {pos : Pos} {to : TE} (ho : PE X o to) (h : X.K = K := by rfl) : PG X (.Attribute o f pos) (gFldT K to f) := by
  subst h
  refine ⟨fun pins s σ H v u Q I r h => ?_⟩
  refine PySem.W.kas_attr (thn (ho.run pins s σ H _ I h) fun ov s2 ⟨x, H2, I2, rx, a, C, dx, fs, ex, ea, c, n, l, q2⟩ => ?_)
  subst ex
  obtain rfl : ov = Value.ref a := rx
  exact setattr_ok I2 ea c n l r fun s3 I3 => ⟨σ, _, I3, q2⟩
theorem w_gfldT {K : PySem.W.Frag} {to : TE} {f : Str} {v : V} {σ : L2.St} {H : Hp} {Q : L2.St → Hp → Prop} (h : to σ H fun x H1 => Kit.PutOf K f v x H1 fun H2 => Q σ H2) : gFldT K to f v σ H Q := h
local macro_rules | `(tactic| walk_at "wp1") => `(tactic| with_reducible refine w_gfldT ?_)

/-! ### all but some objects as they were -/
def ExBy (F : List Addr) (H H' : Hp) : Prop := ∀ b o, b ∉ F → H b = some o → H' b = some o
theorem ExBy.refl (F : List Addr) (H : Hp) : ExBy F H H := fun _ _ _ h => h
theorem ExBy.of {F : List Addr} {H H' : Hp} (e : Evl.Ex H H') : ExBy F H H' := fun b o _ h => e b o h
theorem ExBy.trans {F : List Addr} {H H1 H2 : Hp} (a : ExBy F H H1) (b : ExBy F H1 H2) : ExBy F H H2 := fun c o n h => b c o n (a c o n h)
theorem ExBy.snoc {F : List Addr} {H H1 H2 : Hp} (b : ExBy F H1 H2) (a : ExBy F H H1) : ExBy F H H2 := a.trans b
theorem ExBy.snocE {F : List Addr} {H H1 H2 : Hp} (b : Evl.Ex H1 H2) (a : ExBy F H H1) : ExBy F H H2 := a.trans (.of b)
theorem ExBy.snocB {F : List Addr} {p : Addr} {H H1 H2 : Hp} (b : Kit.ExBut p H1 H2) (hp : p ∈ F) (a : ExBy F H H1) : ExBy F H H2 := a.trans fun c o n h => b c o (fun z => n (z ▸ hp)) h
theorem ExBy.mono {F G : List Addr} {H H' : Hp} (s : ∀ x ∈ F, x ∈ G) (a : ExBy F H H') : ExBy G H H' := fun b o n h => a b o (fun z => n (s b z)) h
theorem ExBy.ex {F : List Addr} {H0 H H' : Hp} (m : ExBy F H H') (h : ∀ x ∈ F, H0 x = none) (e : Evl.Ex H0 H) : Evl.Ex H0 H' := fun b o hb => m b o (fun z => by rw [h b z] at hb; cases hb) (e b o hb)
theorem ExBy.tup {K : PySem.W.Frag} {F : List Addr} {H H' : Hp} {a : Addr} {xs : List V} (m : ExBy F H H') (hF : ∀ x ∈ F, (∃ ys, H x = some (.lst ys)) ∨ ∃ C dx fs, H x = some (.ins C dx fs)) (h : SqT K H a xs) : SqT K H' a xs := by
  rcases h with (h | ⟨z, h⟩) | h
  · refine .inl (.inl (m _ _ (fun hz => ?_) h))
    rcases hF _ hz with ⟨ys, e⟩ | ⟨C, dx, fs, e⟩ <;> · rw [h] at e; cases e
  · refine .inl (.inr ⟨z, m _ _ (fun hz => ?_) h⟩)
    rcases hF _ hz with ⟨ys, e⟩ | ⟨C, dx, fs, e⟩ <;> · rw [h] at e; cases e
  · exact .inr h
theorem ExBy.len1 {F : List Addr} {H H' : Hp} {p : Addr} (h : Kit.ExBut p H H') (hp : p ∈ F) : ExBy F H H' := fun c o n e => h c o (fun z => n (z ▸ hp)) e
local macro_rules | `(tactic| walk_at "by") => `(tactic| first | with_reducible assumption | with_reducible exact ExBy.refl _ _ | exact ExBy.snoc (by with_reducible assumption) (by walk_at "by") | exact ExBy.snocE (by with_reducible assumption) (by walk_at "by") | exact ExBy.snocB (by with_reducible assumption) (by first | assumption | simp; done | fail) (by walk_at "by") | fail)

theorem step_dg {m d n : Int} (h : 0 < m) : Dg m (stepI m d n) := ⟨Int.emod_nonneg _ (by omega), Int.emod_lt_of_pos _ h⟩
theorem foldl_dg {m : Int} (h : 3 < m) : ∀ (ns : List Int) (d : Int), Dg m d → Dg m (ns.foldl (stepI m) d)
  | [], _, hd => hd
  | _ :: ns, _, _ => foldl_dg h ns _ (step_dg (by omega))
theorem stateI_dg {m : Int} (h : 3 < m) (ns : List Int) : Dg m (stateI m ns) := foldl_dg h ns 3 ⟨by decide, h⟩
theorem int_of {ns : List Int} {i : Nat} {x : V} (h : (ns.map V.int)[i]? = some x) : ∃ n, ns[i]? = some n ∧ x = .int n ∧ n ∈ ns := by
  rw [List.getElem?_map] at h
  cases e : ns[i]? with
  | none => rw [e] at h; cases h
  | some n => rw [e] at h; exact ⟨n, rfl, (Option.some.inj h).symm, List.mem_of_getElem? e⟩
theorem foldl_take {f : Int → Int → Int} {z : Int} {ns : List Int} {i : Nat} {n : Int} (h : ns[i]? = some n) : (ns.take (i + 1)).foldl f z = f ((ns.take i).foldl f z) n := by
  rw [List.take_add_one, h, List.foldl_append]
  rfl
def sp_state (K : PySem.W.Frag) (C : Addr) : Sp := fun vs H Q _ => ∃ (p : Addr) (m : Int) (a : Addr) (ns : List Int), vs = [.ref p, .ref a] ∧ DigN C H p m ∧ 3 < m ∧ SqT K H a (ns.map V.int) ∧ (∀ n ∈ ns, 0 ≤ n ∧ n < 2 ^ 62) ∧ ns.length ≤ 1000 ∧
  ∀ H', Evl.Ex H H' → Q (.int (stateI m ns)) H'
theorem ok_Digests_state (T : Txt K mg) : FnOk P w K mg base CX0 2 T.f_Digests_state.f T.f_Digests_state.fd ["self", "numbers"] (sp_state K T.c_Digests.C) := by
  have G_Digests__noted := ok_Digests__noted (P := P) (w := w) (base := base) T
  refine T.f_Digests_state.F.ok sc_Digests_state (fun vs H Q E h => ?_) (fun cdv A outer s H vs Q E hr h => ?_)
  · obtain ⟨p, m, a, ns, rfl, ⟨⟨dx, b, hp⟩, m0, m1⟩, m3, ha, hb, hl, q⟩ := h
    rfl
  obtain ⟨p, m, a, ns, rfl, ⟨⟨dx, b, hp⟩, m0, m1⟩, m3, ha, hb, hl, q⟩ := h
  have nd := sc_Digests_state.nd
  have hr1 : Room 1 _ := hr.mono (by decide)
  refine Kit.ok_body (σ := [some _, some _, none, none]) ((pss_cons (ps_set (i := 2) nd rfl (Or.inl rfl) pe_int)
    (pss_cons (ps_for PassesOwn.never rfl (Kit.kpTup K (pv 1)) (pg_name (i := 3) nd rfl (Or.inl rfl))
    (pss_one (ps_set (i := 2) nd rfl (Or.inl rfl) (pe_op op_mod (pe_op op_add (pe_op op_add (pe_op op_mulW (pe_op op_add (pv 2) (pv 3)) (pe_op op_add (pv 2) pe_int)) (pe_op op_mul pe_int (pv 3))) pe_int) (Kit.kFld K (pv 0) rfl)))))
    (pss_one (ps_ret (pe_meth (pv 0) T.c_Digests.cl T.m_Digests__noted G_Digests__noted hr1 T.f_Digests__noted.b .nil pass0 (pa_cons pe_str (pa_cons (pv 1) (pa_cons (pv 2) pa_nil))))))))) rfl ?_
  try dsimp only [L2.cxOf, L2.Cx.nox]
  walk_at "wp"
  refine Kit.f_tup ha (fun i σ H' => ∃ y3, σ = [some (.ref p), some (.ref a), some (.int ((ns.take i).foldl (stepI m) 3)), y3] ∧ H = H') ⟨_, rfl, rfl⟩ ?_ ?_ ?_
  · rintro i σ' _ _ ⟨y3, rfl, rfl⟩
    exact ha
  · rintro i x σ' _ hx ⟨y3, rfl, rfl⟩
    obtain ⟨n, hn, rfl, hm⟩ := int_of hx
    obtain ⟨n0, n1⟩ := hb n hm
    obtain ⟨d0, d1⟩ := foldl_dg m3 (ns.take i) 3 ⟨by omega, m3⟩
    rw [foldl_take hn]
    generalize (ns.take i).foldl (stepI m) 3 = d at *
    show Kit.Sm _ _ _ _ _ _ _
    walk_at "wp"
    refine Kit.w_I (mulW (by omega) (by omega)) ?_
    walk_at "wp"
    exact ⟨_, rfl, rfl⟩
  · rintro σ' _ ⟨y3, rfl, rfl⟩
    rw [List.take_of_length_le (by rw [List.length_map]; exact Nat.le_refl _)]
    walk_at "wp"
    exact q _ (by walk_at "ex")

/-! ### the memory (digests without a book) -/
theorem w_rep {l : Addr} {xs : List V} {k : Int} {H : Hp} {Q : VK} (h : H l = some (.lst xs)) (h0 : 0 ≤ k) (h1 : k ≤ 1000) (hx : xs.length ≤ 10) (q : ∀ p H2, H p = none → Evl.Ex H H2 → H2 p = some (.lst (List.replicate k.toNat xs).flatten) → Q (.ref p) H2) : rRep (.ref l) (.int k) H Q :=
  ⟨l, k, xs, rfl, rfl, h, by omega, by omega, Nat.le_of_lt (Evl.sz_lt (by
    have a : k.toNat ≤ 1000 := by omega
    have := Nat.mul_le_mul hx a
    omega)), fun p hp => q p _ hp (Evl.Ex.new hp) upd_same⟩
local macro_rules | `(tactic| walk_at "wp1") => `(tactic| ((with_reducible show rRep _ _ _ _); refine w_rep (by walk_at "hp") (by omega) (by omega) (by decide) ?_; intro _ _ _ _ _))
theorem rep_flat (n : Nat) : (List.replicate n [V.int 0]).flatten = (List.replicate n (0 : Int)).map V.int := by
  induction n with
  | zero => rfl
  | succ n ih => rw [List.replicate_succ, List.flatten_cons, ih]; rfl
/-- the words of a memory: the given ones, then zeros -/
def padW (ws : List Int) : List Int := ws ++ List.replicate (256 - ws.length) 0
theorem padW_len {ws : List Int} (h : ws.length ≤ 256) : (padW ws).length = 256 := by unfold padW; rw [List.length_append, List.length_replicate]; omega
theorem padW_whole {ws : List Int} (h : ws.length = 256) : padW ws = ws := by unfold padW; rw [h]; simp
theorem cut256 {ws : List Int} (h : ws.length ≤ 256) : cutV (iv ws) none (some 256) = iv ws := by
  unfold cutV
  rw [HT.sIx_none]
  have e : HT.sIx (iv ws).length (iv ws).length (some 256) = ws.length := by
    rw [iv_len]
    unfold HT.sIx
    simp
    omega
  rw [e]
  simp only [Int.toNat_zero, List.drop_zero, Nat.sub_zero, List.drop]
  exact List.take_of_length_le (by rw [iv_len]; exact Nat.le_refl _)
theorem ins_ne {H : Hp} {a b C C' dx dx' : Addr} {fs fs' : List (Str × V)} (h1 : H a = some (.ins C dx fs)) (h2 : H b = some (.ins C' dx' fs')) (hl : fs.length ≠ fs'.length) : a ≠ b := by
  rintro rfl
  rw [h1] at h2
  injection h2 with h2
  injection h2 with _ _ h2
  exact hl (by rw [h2])
theorem tup_ins {K : PySem.W.Frag} {H H' : Hp} {p a C dx : Addr} {fs : List (Str × V)} {xs : List V} (m : Kit.ExBut p H H') (hp : H p = some (.ins C dx fs)) (h : SqT K H a xs) : SqT K H' a xs := by
  rcases h with (h | ⟨z, h⟩) | h
  · exact .inl (.inl (m _ _ (by rintro rfl; rw [hp] at h; cases h) h))
  · exact .inl (.inr ⟨z, m _ _ (by rintro rfl; rw [hp] at h; cases h) h⟩)
  · exact .inr h
def h0 : Hp := fun _ => none
structure MemAt (C : Addr) (H : Hp) (p dg wa la : Addr) (ps : List Addr) (m : Int) (ws : List Int) : Prop where
  at_ : ∃ dx, H p = some (.ins C dx (fl_Memory (.ref dg) (.ref wa) (.ref la)))
  wds : H wa = some (.lst (iv ws))
  len : ws.length = 256
  lvl : H la = some (.lst (ps.map V.ref))
  rows : RowsAt h0 H ps (KM.levs (foldI m) 8 (ws.map (leafI m)))
  nwp : wa ∉ ps
  nlp : la ∉ ps
  nwl : wa ≠ la
theorem MemAt.ex {C p dg wa la : Addr} {ps : List Addr} {m : Int} {ws : List Int} {H H' : Hp} (e : Evl.Ex H H') (h : MemAt C H p dg wa la ps m ws) : MemAt C H' p dg wa la ps m ws :=
  ⟨h.at_.imp fun _ a => e _ _ a, e _ _ h.wds, h.len, e _ _ h.lvl, h.rows.ex e, h.nwp, h.nlp, h.nwl⟩
theorem RowsAt.exBy {F : List Addr} {H0 H H' : Hp} (e : ExBy F H H') : ∀ {ps : List Addr} {rs : List (List Int)}, (∀ x ∈ ps, x ∉ F) → RowsAt H0 H ps rs → RowsAt H0 H' ps rs
  | [], [], _, _ => trivial
  | p :: ps, _ :: _, n, ⟨a, b, c, d⟩ => ⟨a, e _ _ (n p List.mem_cons_self) b, c, RowsAt.exBy e (fun x z => n x (List.mem_cons_of_mem _ z)) d⟩
/-- kept by what changes none of its objects -/
theorem MemAt.by {F : List Addr} {C p dg wa la : Addr} {ps : List Addr} {m : Int} {ws : List Int} {H H' : Hp} (e : ExBy F H H') (h : MemAt C H p dg wa la ps m ws) (n : ∀ x ∈ p :: wa :: la :: ps, x ∉ F) : MemAt C H' p dg wa la ps m ws :=
  ⟨h.at_.imp fun _ a => e _ _ (n p (by simp)) a, e _ _ (n wa (by simp)) h.wds, h.len, e _ _ (n la (by simp)) h.lvl, h.rows.exBy e (fun x z => n x (by simp [z])), h.nwp, h.nlp, h.nwl⟩
theorem RowsAt.h0 {H0 H : Hp} : ∀ {ps : List Addr} {rs : List (List Int)}, RowsAt H0 H ps rs → RowsAt My.h0 H ps rs
  | [], [], _ => trivial
  | _ :: _, _ :: _, ⟨_, b, c, d⟩ => ⟨rfl, b, c, RowsAt.h0 d⟩
theorem RowsAt.new {H0 H : Hp} : ∀ {ps : List Addr} {rs : List (List Int)}, RowsAt H0 H ps rs → ∀ x ∈ ps, H0 x = none
  | [], [], _, x, h => by cases h
  | p :: ps, _ :: _, ⟨a, _, _, d⟩, x, h => by
    rcases List.mem_cons.mp h with rfl | h
    · exact a
    · exact RowsAt.new d x h
section
variable {C p dg wa la : Addr} {ps : List Addr} {m : Int} {ws : List Int} {H : Hp} {Q : VK} {R : Prop}
theorem MemAt.ins (h : MemAt C H p dg wa la ps m ws) {x : Str} (l : (fl_Memory (.ref dg) (.ref wa) (.ref la)).lookup x = none) (r : R) : Kit.InsOf C x (.ref p) H R := let ⟨_, a⟩ := h.at_; Kit.w_ins a l r
theorem MemAt.mem_lst (h : MemAt C H p dg wa la ps m ws) : ∀ x ∈ wa :: ps, ∃ ys, H x = some (.lst ys) := fun x hx => by
  rcases List.mem_cons.mp hx with rfl | hx
  · exact ⟨_, h.wds⟩
  · exact h.rows.mem hx
theorem lev_len {ws : List Int} (f : Int → Int → Int) : (KM.levs f 8 ws).length = 9 := KM.levs_len 8 ws
theorem MemAt.plen (h : MemAt C H p dg wa la ps m ws) : ps.length = 9 := by rw [h.rows.len]; exact lev_len _
end
def sp_Memory_init (K : PySem.W.Frag) (CM CD : Addr) : Sp := fun vs H Q _ => ∃ (p dx dg a : Addr) (m : Int) (ws : List Int), vs = [.ref p, .ref dg, .ref a] ∧ H p = some (.ins CM dx []) ∧ DigN CD H dg m ∧ SqT K H a (iv ws) ∧ ws.length ≤ 256 ∧
  ∀ H' wa la ps, Kit.ExBut p H H' → MemAt CM H' p dg wa la ps m (padW ws) → (∀ x ∈ wa :: la :: ps, H x = none) → Q .non H'
theorem ok_Memory___init (T : Txt K mg) : FnOk P w K mg base CX0 4 T.f_Memory___init.f T.f_Memory___init.fd ["self", "digests", "words"] (sp_Memory_init K T.c_Memory.C T.c_Digests.C) := by
  have G_Digests_leaf := ok_Digests_leaf (P := P) (w := w) (base := base) T
  have G_levels_of := ok_levels_of (P := P) (w := w) (base := base) T
  refine T.f_Memory___init.F.ok sc_Memory___init (fun vs H Q E h => ?_) (fun cdv A outer s H vs Q E hr h => ?_)
  · obtain ⟨p, dx, dg, a, m, ws, rfl, hp, hd, ha, hl, q⟩ := h
    rfl
  obtain ⟨p, dx, dg, a, m, ws, rfl, hp, hd, ha, hl, q⟩ := h
  have nd := sc_Memory___init.nd
  have hr2 : Room 2 _ := hr.mono (by decide)
  have hr3 : Room 3 _ := hr.mono (by decide)
  refine Kit.ok_body (σ := [some _, some _, some _, none]) ((pss_cons (Kit.kSet K (pv 0) (pv 1) rfl)
    (pss_cons (Kit.kSet K (pv 0) (pe_op op_cat (pe_callTy (Kit.kList K) (by rfl) T.z_list (by decide +kernel) (pa_cons (pe_slice (Kit.kSlT K) (pv 2) po_none (po_some (pe_glob (v := .int 256) rfl T.g_PLACES ⟨_, rfl⟩))) pa_nil)) (pe_op op_rep (pe_lst (pa_cons pe_int pa_nil)) (pe_op op_sub (pe_glob (v := .int 256) rfl T.g_PLACES ⟨_, rfl⟩) (pe_callB (Kit.kLen K) (by rfl) T.z_len (by decide +kernel) (pa_cons (pv 2) pa_nil))))) rfl)
    (pss_one (Kit.kSet K (pv 0) (pe_call G_levels_of hr3 (by rfl) T.f_levels_of.g T.f_levels_of.F.kp T.f_levels_of.b .nil pass0 (pa_cons (pv 1) (pa_cons (pe_lc (own := [("word", 3)]) (g := gName 3) (tt := tYes) (by rfl) nd (Kit.kpList K (Kit.kFld K (pv 0) rfl)) (blkOk_by (own := [("word", 3)]) (N := N_Memory___init) (sc := defScope s_Memory___init) (by decide +kernel)) (fun _ _ _ _ _ => pg_name (i := 3) nd rfl (Or.inl rfl)) (fun _ _ _ _ _ => pts_nil) (fun _ _ _ _ _ => (pe_meth (pv 1) T.c_Digests.cl T.m_Digests_leaf G_Digests_leaf hr2 T.f_Digests_leaf.b .nil pass0 (pa_cons (pv 3) pa_nil)))) pa_nil))) rfl))))) rfl ?_
  try dsimp only [L2.cxOf, L2.Cx.nox]
  have hdp : dg ≠ p := by
    obtain ⟨dx2, b, hd2⟩ := hd.at_
    exact ins_ne hd2 hp (by show 3 ≠ 0; decide)
  have hl2 : (iv ws).length ≤ 256 := by rw [iv_len]; exact hl
  walk_at "wp"
  rename_i H1 m1 f1
  refine Kit.w_slT (tup_ins m1 hp ha) fun a2 H2 e2 h2 => ?_
  rw [cut256 hl] at h2
  walk_at "wp"
  refine Kit.w_len (.inr (Evl.ex_t (by walk_at "ex") (tup_ins m1 hp ha))) ?_
  walk_at "wp"
  rename_i l1 H3 n3 e3 f3 l2 H4 n4 e4 f4 l3 H5 n5 e5 f5 wa H6 n6 e6 f6 H7 m7 f7
  have hwa : iv ws ++ (List.replicate (256 - ((iv ws).length : Int)).toNat [V.int 0]).flatten = iv (padW ws) := by
    rw [rep_flat]
    unfold padW iv
    rw [List.map_append, List.length_map, show ((256 : Int) - (ws.length : Int)).toNat = 256 - ws.length by omega]
  rw [hwa] at f6
  have hwp : wa ≠ p := ne_of_none (Kit.ex_get e5 (Kit.ex_get e4 (Kit.ex_get e3 (Kit.ex_get e2 f1)))) n6 |>.symm
  have f6' : H7 wa = some (.lst (iv (padW ws))) := m7 _ _ hwp f6
  have hpl := padW_len hl
  have hd7 : DigN T.c_Digests.C H7 dg m := DigN.but (by walk_at "but") hdp hd
  refine Kit.w_rd f7 T.c_Memory.cl T.n_Memory_words rfl ?_
  refine Kit.l_list (Evl.sq_of f6') (by rw [iv_len, hpl]; decide) (fun _ => rfl) (fun i => .int (leafI m (((padW ws)[i]?).getD 0))) ?_ ?_
  · intro i x H8 hx e8 R rr
    obtain ⟨y, hy, rfl⟩ : ∃ y, (padW ws)[i]? = some y ∧ x = .int y := by
      unfold iv at hx
      rw [List.getElem?_map] at hx
      cases hz : (padW ws)[i]? with
      | none => rw [hz] at hx; cases hx
      | some y => rw [hz] at hx; exact ⟨y, rfl, (Option.some.inj hx).symm⟩
    walk_at "wp"
    refine use_leaf (hd7.ex e8) fun H9 e9 => ?_
    rw [hy] at rr
    exact rr _ e9
  · intro c H8 n8 e8 f8
    have hc : (List.range (iv (padW ws)).length).map (fun i : Nat => V.int (leafI m (((padW ws)[i]?).getD 0))) = iv ((padW ws).map (leafI m)) := by
      rw [iv_len]
      apply List.ext_getElem?
      intro i
      unfold iv
      by_cases hi : i < (padW ws).length
      · rw [List.getElem?_map, List.getElem?_range hi, List.getElem?_map, List.getElem?_map]
        show some (V.int (leafI m (((padW ws)[i]?).getD 0))) = _
        rw [List.getElem?_eq_getElem hi]
        rfl
      · rw [List.getElem?_eq_none (by rw [List.length_map, List.length_range]; omega), List.getElem?_eq_none (by rw [List.length_map, List.length_map]; omega)]
    rw [hc] at f8
    walk_at "wp"
    refine use_levels_of (k := 8) (hd7.ex e8) (.inl (Evl.sq_of f8)) (fun x hx => by
      obtain ⟨y, _, rfl⟩ := List.mem_map.mp hx
      exact leaf_dg hd.pos) (by rw [List.length_map, hpl]) (by decide) fun la H9 e9 lev => ?_
    obtain ⟨ps, g1, g2, g3, g4⟩ := lev.ex
    walk_at "wp"
    rename_i H10 m10 f10
    have big : ∀ x, H8 x = none → H x = none := fun x hx => by
      cases hz : H x with
      | none => rfl
      | some o =>
        have hxp : x ≠ p := by
          rintro rfl
          have := Kit.ex_get e8 f7
          rw [hx] at this
          cases this
        have := (show Kit.ExBut p H H8 from by walk_at "but") x o hxp hz
        rw [hx] at this
        cases this
    have hlp : la ≠ p := by
      rintro rfl
      have := Kit.ex_get e8 f7
      rw [g4] at this
      cases this
    have f6e : H8 wa = some (.lst (iv (padW ws))) := e8 _ _ f6'
    have hpp : p ∉ ps := fun z => by
      have h1 := g2.new p z
      have := Kit.ex_get e8 f7
      rw [h1] at this
      cases this
    have hwn : wa ∉ ps := fun z => by
      have h1 := g2.new wa z
      rw [h1] at f6e
      cases f6e
    refine q H10 wa la ps (by walk_at "but") ⟨⟨dx, f10⟩, ?_, hpl, ?_, ?_, hwn, g3, ?_⟩ ?_
    · exact m10 _ _ hwp (e9 _ _ f6e)
    · exact m10 _ _ hlp g1
    · exact (g2.h0).but m10 hpp
    · rintro rfl
      rw [g4] at f6e
      cases f6e
    · intro x hx
      rcases List.mem_cons.mp hx with rfl | hx
      · cases hz : H x with
        | none => rfl
        | some o =>
          have := (show Kit.ExBut p H H5 from by walk_at "but") x o hwp hz
          rw [n6] at this
          cases this
      · rcases List.mem_cons.mp hx with rfl | hx
        · exact big _ g4
        · exact big _ (g2.new x hx)

/-! ### a memory asked, a memory changed -/
theorem RowsAt.set {H0 H H' : Hp} {q : Addr} {r : List Int} (m : Kit.ExBut q H H') (h : H' q = some (.lst (iv r))) : ∀ {ps : List Addr} {rs : List (List Int)} {i : Nat}, RowsAt H0 H ps rs → ps[i]? = some q → RowsAt H0 H' ps (rs.set i r)
  | [], [], i, _, hi => by simp at hi
  | p :: ps, s :: rs, 0, ⟨a, b, c, d⟩, hi => by
    have e : p = q := by simpa using hi
    subst e
    exact ⟨a, h, c, d.but m c⟩
  | p :: ps, s :: rs, i + 1, ⟨a, b, c, d⟩, hi => by
    have hi' : ps[i]? = some q := by simpa using hi
    have hne : p ≠ q := fun z => c (z ▸ List.mem_of_getElem? hi')
    exact ⟨a, m _ _ hne b, c, RowsAt.set m h d hi'⟩
theorem pairs_set {f : Int → Int → Int} {r : List Int} {n j : Nat} {v : Int} (hr : r.length = 2 * n) (hj : j < 2 * n) : ∃ w, KM.pairs f (r.set j v) = (KM.pairs f r).set (j / 2) w := by
  refine ⟨f ((((r.set j v)[2 * (j / 2)]?).getD 0)) (((r.set j v)[2 * (j / 2) + 1]?).getD 0), ?_⟩
  have hl : (r.set j v).length = 2 * n := by rw [List.length_set]; exact hr
  rw [pairs_at _ hl, pairs_at _ hr]
  apply List.ext_getElem?
  intro i
  rw [List.getElem?_set]
  by_cases hi : i < n
  · by_cases e : j / 2 = i
    · rw [if_pos e, if_pos (by rw [List.length_map, List.length_range]; omega), List.getElem?_map, List.getElem?_range hi, ← e]
      rfl
    · rw [if_neg e, List.getElem?_map, List.getElem?_range hi, List.getElem?_map, List.getElem?_range hi]
      show some (f (((r.set j v)[2 * i]?).getD 0) (((r.set j v)[2 * i + 1]?).getD 0)) = some (f ((r[2 * i]?).getD 0) ((r[2 * i + 1]?).getD 0))
      rw [List.getElem?_set_ne (show j ≠ 2 * i by omega), List.getElem?_set_ne (show j ≠ 2 * i + 1 by omega)]
  · have e : ¬ j / 2 = i := by omega
    rw [if_neg e, List.getElem?_eq_none (by rw [List.length_map, List.length_range]; omega), List.getElem?_eq_none (by rw [List.length_map, List.length_range]; omega)]
theorem levs_set {f : Int → Int → Int} : ∀ (k : Nat) (r : List Int) (j : Nat) (v : Int) (i : Nat), r.length = 2 ^ k → j < 2 ^ k → i ≤ k → ∃ t w, (KM.levs f k r)[i]? = some t ∧ (KM.levs f k (r.set j v))[i]? = some (t.set (j / 2 ^ i) w)
  | k, r, j, v, 0, hr, hj, _ => by
    refine ⟨r, v, ?_, ?_⟩
    · cases k <;> rfl
    · rw [Nat.pow_zero, Nat.div_one]
      cases k <;> rfl
  | 0, r, j, v, i + 1, _, _, hi => by omega
  | k + 1, r, j, v, i + 1, hr, hj, hi => by
    rw [KM.two_pow] at hr hj
    obtain ⟨w, hw⟩ := pairs_set (f := f) (v := v) hr hj
    obtain ⟨t, u, h1, h2⟩ := levs_set k (KM.pairs f r) (j / 2) w i (KM.pairs_len r hr) (by omega) (by omega)
    refine ⟨t, u, h1, ?_⟩
    show (KM.levs f k (KM.pairs f (r.set j v)))[i]? = _
    rw [hw, h2, Nat.div_div_eq_div_mul, ← KM.two_pow]
theorem levs_succ {f : Int → Int → Int} : ∀ (k : Nat) (r : List Int) (i : Nat) (s : List Int), i < k → (KM.levs f k r)[i]? = some s → (KM.levs f k r)[i + 1]? = some (KM.pairs f s)
  | 0, _, _, _, h, _ => by omega
  | k + 1, r, 0, s, _, h => by
    have e : r = s := by simpa [KM.levs] using h
    subst e
    show (KM.levs f k (KM.pairs f r))[0]? = _
    cases k <;> rfl
  | k + 1, r, i + 1, s, hi, h => levs_succ k (KM.pairs f r) i s (by omega) h
theorem levs_chg {f : Int → Int → Int} {k : Nat} {r : List Int} {j i : Nat} {v : Int} {s : List Int} (hr : r.length = 2 ^ k) (hj : j < 2 ^ k) (hi : i < k) (hs : (KM.levs f k (r.set j v))[i]? = some s) :
    2 * (j / 2 ^ (i + 1)) + 1 < s.length ∧ ∃ t, (KM.levs f k r)[i + 1]? = some t ∧ j / 2 ^ (i + 1) < t.length ∧ (KM.levs f k (r.set j v))[i + 1]? = some (t.set (j / 2 ^ (i + 1)) (f ((s[2 * (j / 2 ^ (i + 1))]?).getD 0) ((s[2 * (j / 2 ^ (i + 1)) + 1]?).getD 0))) := by
  obtain ⟨t, w, h1, h2⟩ := levs_set (f := f) k r j v (i + 1) hr hj (by omega)
  have h3 := levs_succ k _ i s hi hs
  have hsl := levs_at_len k (r.set j v) i s (by rw [List.length_set]; exact hr) hs
  have htl := levs_at_len k r (i + 1) t hr h1
  have hp : 2 ^ (k - i) = 2 * 2 ^ (k - (i + 1)) := by rw [← KM.two_pow]; congr 1; omega
  have hq : j / 2 ^ (i + 1) < 2 ^ (k - (i + 1)) := by
    rw [Nat.div_lt_iff_lt_mul (Nat.pow_pos (by decide)), ← Nat.pow_add, Nat.sub_add_cancel hi]
    exact hj
  generalize j / 2 ^ (i + 1) = a at *
  refine ⟨by rw [hsl, hp]; omega, t, h1, by rw [htl]; exact hq, ?_⟩
  rw [h2]
  rw [h2] at h3
  have e : t.set a w = KM.pairs f s := Option.some.inj h3
  have hx : (KM.pairs f s)[a]? = some w := by rw [← e, List.getElem?_set_self (by rw [htl]; exact hq)]
  have h4 : s[2 * a]? = some ((s[2 * a]?).getD 0) := by rw [List.getElem?_eq_getElem (by rw [hsl, hp]; omega)]; rfl
  have h5 : s[2 * a + 1]? = some ((s[2 * a + 1]?).getD 0) := by rw [List.getElem?_eq_getElem (by rw [hsl, hp]; omega)]; rfl
  rw [KM.pairs_get s h4 h5] at hx
  rw [Option.some.inj hx]
theorem levs_dg {m : Int} (hm : 0 < m) : ∀ (k : Nat) (r : List Int), AllDg m r → ∀ s ∈ KM.levs (foldI m) k r, AllDg m s
  | 0, r, h, s, hs => by
    have : s = r := by simpa [KM.levs] using hs
    rw [this]; exact h
  | k + 1, r, h, s, hs => by
    rcases List.mem_cons.mp hs with rfl | hs
    · exact h
    · exact levs_dg hm k _ (pairs_dg hm r) s hs
theorem leaves_dg {m : Int} (hm : 0 < m) (ws : List Int) : AllDg m (ws.map (leafI m)) := fun x hx => by
  obtain ⟨y, _, rfl⟩ := List.mem_map.mp hx
  exact leaf_dg hm
section
variable {C p dg wa la : Addr} {ps : List Addr} {m : Int} {ws : List Int} {H : Hp} {Q : VK}
theorem MemAt.row (h : MemAt C H p dg wa la ps m ws) {i : Nat} {s : List Int} (hs : (KM.levs (foldI m) 8 (ws.map (leafI m)))[i]? = some s) : ∃ q, ps[i]? = some q ∧ H q = some (.lst (iv s)) :=
  let ⟨q, a, _, b⟩ := h.rows.get hs; ⟨q, a, b⟩
end
def memRoot (m : Int) (ws : List Int) : Int := KM.rootM (foldI m) 8 (ws.map (leafI m))
def memPath (m : Int) (ws : List Int) (k : Nat) : List Int := KM.pathM (foldI m) 8 (ws.map (leafI m)) k
def wordAt (ws : List Int) (k : Int) : Int := (ws[(k % 256).toNat]?).getD 0
theorem nat256 (k : Int) : ∃ j : Nat, k % 256 = (j : Int) ∧ j < 256 ∧ (k % 256).toNat = j := by
  have a := Int.emod_nonneg k (show (256 : Int) ≠ 0 by decide)
  have b := Int.emod_lt_of_pos k (show (0 : Int) < 256 by decide)
  exact ⟨(k % 256).toNat, by omega, by omega, rfl⟩
def sp_Memory_word (C : Addr) : Sp := fun vs H Q _ => ∃ (p dg wa la : Addr) (ps : List Addr) (m : Int) (ws : List Int) (k : Int), vs = [.ref p, .int k] ∧ MemAt C H p dg wa la ps m ws ∧ Q (.int (wordAt ws k)) H
theorem ok_Memory_word (T : Txt K mg) : FnOk P w K mg base CX0 1 T.f_Memory_word.f T.f_Memory_word.fd ["self", "place"] (sp_Memory_word T.c_Memory.C) := by
  refine T.f_Memory_word.F.ok sc_Memory_word (fun vs H Q E h => ?_) (fun cdv A outer s H vs Q E hr h => ?_)
  · obtain ⟨p, dg, wa, la, ps, m, ws, k, rfl, hm, q⟩ := h
    rfl
  obtain ⟨p, dg, wa, la, ps, m, ws, k, rfl, hm, q⟩ := h
  have nd := sc_Memory_word.nd
  refine Kit.ok_body (σ := [some _, some _]) ((pss_one (ps_ret (pe_ix (Kit.ixL K) (Kit.kFld K (pv 0) rfl) (pe_op op_mod (pv 1) (pe_glob (v := .int 256) rfl T.g_PLACES ⟨_, rfl⟩)) (fun _ _ => rfl))))) rfl ?_
  obtain ⟨dx, hp⟩ := hm.at_
  obtain ⟨j, h1, h2, h3⟩ := nat256 k
  unfold wordAt at q
  walk_at "wp"
  refine Kit.w_ixL (Evl.sq_of hm.wds) (iv_at' j h1 (by rw [hm.len]; exact h2)) ?_
  rw [← h3]
  exact q
def sp_Memory_words (C : Addr) : Sp := fun vs H Q _ => ∃ (p dg wa la : Addr) (ps : List Addr) (m : Int) (ws : List Int), vs = [.ref p] ∧ MemAt C H p dg wa la ps m ws ∧ ∀ t H', H t = none → Evl.Ex H H' → H' t = some (.tup (iv ws)) → Q (.ref t) H'
theorem ok_Memory_words (T : Txt K mg) : FnOk P w K mg base CX0 1 T.f_Memory_words.f T.f_Memory_words.fd ["self"] (sp_Memory_words T.c_Memory.C) := by
  refine T.f_Memory_words.F.ok sc_Memory_words (fun vs H Q E h => ?_) (fun cdv A outer s H vs Q E hr h => ?_)
  · obtain ⟨p, dg, wa, la, ps, m, ws, rfl, hm, q⟩ := h
    rfl
  obtain ⟨p, dg, wa, la, ps, m, ws, rfl, hm, q⟩ := h
  have nd := sc_Memory_words.nd
  refine Kit.ok_body (σ := [some _]) ((pss_one (ps_ret (pe_callTy (Kit.kTuple K) (by rfl) T.z_tuple (by decide +kernel) (pa_cons (Kit.kFld K (pv 0) rfl) pa_nil))))) rfl ?_
  obtain ⟨dx, hp⟩ := hm.at_
  walk_at "wp"
  refine Kit.w_tuple (Evl.sq_of hm.wds) fun t H' n e f => ?_
  exact q t H' n e f
def sp_Memory_root (C : Addr) : Sp := fun vs H Q _ => ∃ (p dg wa la : Addr) (ps : List Addr) (m : Int) (ws : List Int), vs = [.ref p] ∧ MemAt C H p dg wa la ps m ws ∧ Q (.int (memRoot m ws)) H
theorem ok_Memory_root (T : Txt K mg) : FnOk P w K mg base CX0 1 T.f_Memory_root.f T.f_Memory_root.fd ["self"] (sp_Memory_root T.c_Memory.C) := by
  refine T.f_Memory_root.F.ok sc_Memory_root (fun vs H Q E h => ?_) (fun cdv A outer s H vs Q E hr h => ?_)
  · obtain ⟨p, dg, wa, la, ps, m, ws, rfl, hm, q⟩ := h
    rfl
  obtain ⟨p, dg, wa, la, ps, m, ws, rfl, hm, q⟩ := h
  have nd := sc_Memory_root.nd
  refine Kit.ok_body (σ := [some _]) ((pss_one (ps_ret (pe_ix (Kit.ixL K) (pe_ix (Kit.ixL K) (Kit.kFld K (pv 0) rfl) (pe_un un_neg pe_int) (fun _ _ => rfl)) pe_int (fun _ _ => rfl))))) rfl ?_
  obtain ⟨dx, hp⟩ := hm.at_
  obtain ⟨c, h1, h2⟩ := hm.row (levs_last 8 (ws.map (leafI m)) (by rw [List.length_map, hm.len]))
  walk_at "wp"
  refine Kit.w_ixL (Evl.sq_of hm.lvl) (ref_last hm.plen h1) ?_
  walk_at "wp"
  exact q
def sp_Memory_path (C : Addr) : Sp := fun vs H Q _ => ∃ (p dg wa la : Addr) (ps : List Addr) (m : Int) (ws : List Int) (k : Int), vs = [.ref p, .int k] ∧ MemAt C H p dg wa la ps m ws ∧ ∀ t H', H t = none → Evl.Ex H H' → H' t = some (.tup (iv (memPath m ws (k % 256).toNat))) → Q (.ref t) H'
theorem ok_Memory_path (T : Txt K mg) : FnOk P w K mg base CX0 2 T.f_Memory_path.f T.f_Memory_path.fd ["self", "place"] (sp_Memory_path T.c_Memory.C) := by
  have G_path_in := ok_path_in (P := P) (w := w) (base := base) T
  refine T.f_Memory_path.F.ok sc_Memory_path (fun vs H Q E h => ?_) (fun cdv A outer s H vs Q E hr h => ?_)
  · obtain ⟨p, dg, wa, la, ps, m, ws, k, rfl, hm, q⟩ := h
    rfl
  obtain ⟨p, dg, wa, la, ps, m, ws, k, rfl, hm, q⟩ := h
  have nd := sc_Memory_path.nd
  have hr1 : Room 1 _ := hr.mono (by decide)
  refine Kit.ok_body (σ := [some _, some _]) ((pss_one (ps_ret (pe_call G_path_in hr1 (by rfl) T.f_path_in.g T.f_path_in.F.kp T.f_path_in.b .nil pass0 (pa_cons (Kit.kFld K (pv 0) rfl) (pa_cons (pe_op op_mod (pv 1) (pe_glob (v := .int 256) rfl T.g_PLACES ⟨_, rfl⟩)) pa_nil)))))) rfl ?_
  obtain ⟨dx, hp⟩ := hm.at_
  obtain ⟨j, h1, h2, h3⟩ := nat256 k
  rw [h3] at q
  walk_at "wp"
  rw [h1]
  exact ⟨la, ps, foldI m, ws.map (leafI m), 8, j, rfl, hm.lvl, hm.plen, fun i s hs => hm.row hs, by rw [List.length_map, hm.len], by decide, h2, q⟩
def sp_Memory_change (C CD : Addr) : Sp := fun vs H Q _ => ∃ (p dg wa la : Addr) (ps : List Addr) (m : Int) (ws : List Int) (k v : Int), vs = [.ref p, .int k, .int v] ∧ MemAt C H p dg wa la ps m ws ∧ DigN CD H dg m ∧
  ∀ H', ExBy (wa :: ps) H H' → MemAt C H' p dg wa la ps m (ws.set (k % 256).toNat v) → Q .non H'
theorem ok_Memory_change (T : Txt K mg) : FnOk P w K mg base CX0 3 T.f_Memory_change.f T.f_Memory_change.fd ["self", "place", "word"] (sp_Memory_change T.c_Memory.C T.c_Digests.C) := by
  have G_Digests_fold := ok_Digests_fold (P := P) (w := w) (base := base) T
  have G_Digests_leaf := ok_Digests_leaf (P := P) (w := w) (base := base) T
  refine T.f_Memory_change.F.ok sc_Memory_change (fun vs H Q E h => ?_) (fun cdv A outer s H vs Q E hr h => ?_)
  · obtain ⟨p, dg, wa, la, ps, m, ws, k, v, rfl, hm, hd, q⟩ := h
    rfl
  obtain ⟨p, dg, wa, la, ps, m, ws, k, v, rfl, hm, hd, q⟩ := h
  have nd := sc_Memory_change.nd
  have hr2 : Room 2 _ := hr.mono (by decide)
  refine Kit.ok_body (σ := [some _, some _, some _, none, none, none]) ((pss_cons (ps_set (i := 3) nd rfl (Or.inl rfl) (pe_op op_mod (pv 1) (pe_glob (v := .int 256) rfl T.g_PLACES ⟨_, rfl⟩)))
    (pss_cons (ps_asg (pv 2) (pg_sub (Kit.kFld K (pv 0) rfl) (pv 3) set_list))
    (pss_cons (ps_asg (pe_meth (Kit.kFld K (pv 0) rfl) T.c_Digests.cl T.m_Digests_leaf G_Digests_leaf hr2 T.f_Digests_leaf.b .nil pass0 (pa_cons (pv 2) pa_nil)) (pg_sub (pe_ix (Kit.ixL K) (Kit.kFld K (pv 0) rfl) pe_int (fun _ _ => rfl)) (pv 3) set_list))
    (pss_one (ps_for PassesOwn.never rfl (pi_range2 (by rfl) T.z_range (pa_cons pe_int (pa_cons (pe_callB (Kit.kLen K) (by rfl) T.z_len (by decide +kernel) (pa_cons (Kit.kFld K (pv 0) rfl) pa_nil)) pa_nil))) (pg_name (i := 4) nd rfl (Or.inl rfl))
    (pss_cons (ps_set (i := 3) nd rfl (Or.inl rfl) (pe_op op_fdiv (pv 3) pe_int))
    (pss_cons (ps_set (i := 5) nd rfl (Or.inl rfl) (pe_ix (Kit.ixL K) (Kit.kFld K (pv 0) rfl) (pe_op op_sub (pv 4) pe_int) (fun _ _ => rfl)))
    (pss_one (ps_asg (pe_meth (Kit.kFld K (pv 0) rfl) T.c_Digests.cl T.m_Digests_fold G_Digests_fold hr2 T.f_Digests_fold.b .nil pass0 (pa_cons (pe_ix (Kit.ixL K) (pv 5) (pe_op op_mul pe_int (pv 3)) (fun _ _ => rfl)) (pa_cons (pe_ix (Kit.ixL K) (pv 5) (pe_op op_add (pe_op op_mul pe_int (pv 3)) pe_int) (fun _ _ => rfl)) pa_nil))) (pg_sub (pe_ix (Kit.ixL K) (Kit.kFld K (pv 0) rfl) (pv 4) (fun _ _ => rfl)) (pv 3) set_list))))))))))) rfl ?_
  try dsimp only [L2.cxOf, L2.Cx.nox]
  obtain ⟨dx, hp⟩ := hm.at_
  obtain ⟨j, h1, h2, h3⟩ := nat256 k
  rw [h3] at q
  walk_at "wp"
  rw [h1]
  have hF := hm.mem_lst
  have hpF : p ∉ wa :: ps := fun z => by obtain ⟨ys, hy⟩ := hF p z; rw [hp] at hy; cases hy
  have hdF : dg ∉ wa :: ps := fun z => by obtain ⟨ys, hy⟩ := hF dg z; obtain ⟨_, _, hd⟩ := hd.at_; rw [hd] at hy; cases hy
  have hlF : la ∉ wa :: ps := fun z => (List.mem_cons.mp z).elim (fun z => hm.nwl z.symm) hm.nlp
  have hL : (ws.map (leafI m)).length = 2 ^ 8 := by rw [List.length_map, hm.len]
  have hset : (ws.map (leafI m)).set j (leafI m v) = (ws.set j v).map (leafI m) := (List.map_set).symm
  obtain ⟨dx2, b2, hdg⟩ := hd.at_
  refine Kit.w_setL hm.wds (Evl.ixN_nat (by rw [iv_len, hm.len]; exact h2)) (ys := iv (ws.set j v)) (by unfold iv; rw [List.map_set]) fun H1 m1 f1 => ?_
  have b1 : ExBy (wa :: ps) H H1 := ExBy.len1 m1 (by simp)
  have hp1 := b1 _ _ hpF hp
  have hd1 : DigN T.c_Digests.C H1 dg m := DigN.but m1 (fun z => hdF (by rw [z]; simp)) hd
  walk_at "wp"
  refine use_leaf hd1 fun H2 e2 => ?_
  obtain ⟨q0, hq0, hq1⟩ := hm.row (i := 0) (s := ws.map (leafI m)) rfl
  have hq0w : q0 ≠ wa := fun z => hm.nwp (z ▸ List.mem_of_getElem? hq0)
  have hq0F : q0 ∈ wa :: ps := List.mem_cons_of_mem _ (List.mem_of_getElem? hq0)
  have hq2 : H2 q0 = some (.lst (iv (ws.map (leafI m)))) := e2 _ _ (m1 _ _ hq0w hq1)
  have hl2 : H2 la = some (.lst (ps.map V.ref)) := e2 _ _ (b1 _ _ hlF hm.lvl)
  have hp2 := e2 _ _ hp1
  walk_at "wp"
  refine Kit.w_ixL (Evl.sq_of hl2) (ref_at (k := 0) hq0) ?_
  walk_at "wp"
  refine Kit.w_setL hq2 (Evl.ixN_nat (by rw [iv_len, hL]; exact h2)) (ys := iv ((ws.set j v).map (leafI m))) (by rw [← hset]; unfold iv; rw [List.map_set]) fun H3 m3 f3 => ?_
  have b3 : ExBy (wa :: ps) H2 H3 := ExBy.len1 m3 hq0F
  have B3 : ExBy (wa :: ps) H H3 := (b1.trans (.of e2)).trans b3
  have r3 : RowsAt h0 H3 ps ((KM.levs (foldI m) 8 (ws.map (leafI m))).set 0 ((ws.set j v).map (leafI m))) := RowsAt.set m3 f3 ((hm.rows.but m1 hm.nwp).ex e2) hq0
  have w3 : H3 wa = some (.lst (iv (ws.set j v))) := m3 _ _ hq0w.symm (e2 _ _ f1)
  have hl3 : H3 la = some (.lst (ps.map V.ref)) := b3 _ _ hlF hl2
  have hp3 := b3 _ _ hpF hp2
  have hl9 : (ps.map V.ref).length = 9 := by rw [List.length_map]; exact hm.plen
  walk_at "wp"
  rw [hl9]
  generalize hA : KM.levs (foldI m) 8 (ws.map (leafI m)) = A at *
  generalize hB : KM.levs (foldI m) 8 ((ws.set j v).map (leafI m)) = B at *
  have hAl : A.length = 9 := by rw [← hA]; exact lev_len _
  have hBl : B.length = 9 := by rw [← hB]; exact lev_len _
  have hB0 : B[0]? = some ((ws.set j v).map (leafI m)) := by rw [← hB]; rfl
  refine Kit.f_rng2 (lo := 1) (n := 9) (by decide) (fun i σ' H' => ∃ y4 y5 rs, σ' = [some (.ref p), some (.int k), some (.int v), some (.int ((j / 2 ^ i : Nat) : Int)), y4, y5] ∧ ExBy (wa :: ps) H3 H' ∧ H' wa = some (.lst (iv (ws.set j v))) ∧ RowsAt h0 H' ps rs ∧ rs.length = 9 ∧ (∀ h, h ≤ i → rs[h]? = B[h]?) ∧ (∀ h, i < h → rs[h]? = A[h]?))
    ⟨_, _, _, by rw [Nat.pow_zero, Nat.div_one], ExBy.refl _ _, w3, r3, by rw [List.length_set]; exact hAl, fun h hh => ?_, fun h hh => ?_⟩ ?_ ?_
  · rw [Nat.le_zero.mp hh, List.getElem?_set_self (by rw [hAl]; decide), hB0]
  · rw [List.getElem?_set_ne (by omega)]
  · rintro i σ' H4 hi ⟨y4, y5, rs, rfl, b4, w4, r4, hrl, hlo, hhi⟩
    have hi8 : i < 8 := by omega
    have hp4 := b4 _ _ hpF hp3
    have hl4 := b4 _ _ hlF hl3
    have hd4 : DigN T.c_Digests.C H4 dg m := ⟨⟨dx2, b2, b4 _ _ hdF (B3 _ _ hdF hdg)⟩, hd.pos, hd.lt⟩
    have hBi : B[i]? = some B[i] := List.getElem?_eq_getElem (by omega)
    generalize hs : B[i] = s at hBi
    have hBi2 : (KM.levs (foldI m) 8 ((ws.map (leafI m)).set j (leafI m v)))[i]? = some s := by rw [hset, hB]; exact hBi
    obtain ⟨hs1, t, ht1, ht2, ht3⟩ := levs_chg (f := foldI m) hL h2 hi8 hBi2
    rw [hset, hB] at ht3
    rw [hA] at ht1
    obtain ⟨qb, hb1, _, hb2⟩ := r4.get (i := i) (r := s) (by rw [hlo i (Nat.le_refl i)]; exact hBi)
    obtain ⟨qc, hc1, _, hc2⟩ := r4.get (i := i + 1) (r := t) (by rw [hhi (i + 1) (Nat.lt_succ_self i)]; exact ht1)
    have hsd : AllDg m s := levs_dg hd.pos 8 _ (leaves_dg hd.pos (ws.set j v)) s (by rw [hB]; exact List.mem_of_getElem? hBi)
    have hz : ((j / 2 ^ i : Nat) : Int) / 2 = ((j / 2 ^ (i + 1) : Nat) : Int) := int_half
    show Kit.Sm _ _ _ _ _ _ _
    walk_at "wp"
    refine Kit.w_ixL (Evl.sq_of hl4) (by rw [show (1 : Int) + (i : Int) - 1 = (i : Int) by omega]; exact ref_at hb1) ?_
    walk_at "wp"
    rw [hz]
    generalize j / 2 ^ (i + 1) = a at *
    refine Kit.w_ixL (Evl.sq_of hb2) (iv_at' (2 * a) (by omega) (by omega)) ?_
    walk_at "wp"
    refine Kit.w_ixL (Evl.sq_of hb2) (iv_at' (2 * a + 1) (by omega) (by omega)) ?_
    walk_at "wp"
    refine use_fold hd4 (hsd.at (by omega)) (hsd.at (by omega)) fun H5 e5 => ?_
    have hp5 := e5 _ _ hp4
    walk_at "wp"
    refine Kit.w_ixL (Evl.sq_of (e5 _ _ hl4)) (by rw [show (1 : Int) + (i : Int) = ((i + 1 : Nat) : Int) by omega]; exact ref_at hc1) ?_
    walk_at "wp"
    refine Kit.w_setL (e5 _ _ hc2) (Evl.ixN_nat (by rw [iv_len]; exact ht2)) (ys := iv (t.set a (foldI m ((s[2 * a]?).getD 0) ((s[2 * a + 1]?).getD 0)))) (by unfold iv; rw [List.map_set]) fun H6 m6 f6 => ?_
    have hcF : qc ∈ wa :: ps := List.mem_cons_of_mem _ (List.mem_of_getElem? hc1)
    have hcw : wa ≠ qc := fun z => hm.nwp (z ▸ List.mem_of_getElem? hc1)
    refine ⟨_, _, rs.set (i + 1) (t.set a (foldI m ((s[2 * a]?).getD 0) ((s[2 * a + 1]?).getD 0))), rfl, (b4.trans (.of e5)).trans (ExBy.len1 m6 hcF), m6 _ _ hcw (e5 _ _ w4), RowsAt.set m6 f6 (r4.ex e5) hc1, by rw [List.length_set]; exact hrl, fun h hh => ?_, fun h hh => ?_⟩
    · by_cases he : h = i + 1
      · rw [he, List.getElem?_set_self (by omega), ht3]
      · rw [List.getElem?_set_ne (by omega)]
        exact hlo h (by omega)
    · rw [List.getElem?_set_ne (by omega)]
      exact hhi h (by omega)
  · rintro σ' H4 ⟨y4, y5, rs, rfl, b4, w4, r4, hrl, hlo, hhi⟩
    have hrs : rs = B := by
      apply List.ext_getElem?
      intro h
      by_cases hh : h ≤ 8
      · exact hlo h hh
      · rw [List.getElem?_eq_none (by omega), List.getElem?_eq_none (by omega)]
    subst hrs
    walk_at "wp"
    exact q H4 (B3.trans b4) ⟨⟨dx, b4 _ _ hpF hp3⟩, w4, by rw [List.length_set]; exact hm.len, b4 _ _ hlF hl3, by rw [hB]; exact r4, hm.nwp, hm.nlp, hm.nwl⟩

/-! ### states of a machine: what a step keeps -/
structure SOk (m : Int) (s : MSt) : Prop where
  pc : 0 ≤ s.pc ∧ s.pc < 256
  acc : IsW s.acc
  x : IsW s.x
  mark : 0 ≤ s.mark ∧ s.mark < 7
  out : Dg m s.out
  count : 0 ≤ s.count ∧ s.count ≤ 16
  told : (s.told.length : Int) ≤ s.count
  len : s.mem.length = 256
  mem : ∀ w ∈ s.mem, IsW w
theorem SOk.at {m : Int} {s : MSt} (h : SOk m s) (k : Int) : IsW (s.at k) := by
  unfold MSt.at
  cases e : s.mem[k.toNat]? with
  | none => exact ⟨by decide, by decide⟩
  | some w => exact h.mem w (List.mem_of_getElem? e)
def MSt.setPc (s : MSt) (r : Int) : MSt := ⟨r, s.acc, s.x, s.mark, s.out, s.count, s.mem, s.told⟩
def MSt.stepM (m : Int) (s : MSt) : MSt :=
  if s.mark = 0 then (s.workM m (s.at s.pc / 1024) (s.at s.pc % 1024)).1.setPc (s.workM m (s.at s.pc / 1024) (s.at s.pc % 1024)).2 else s
theorem opV_in {g : Sg} {a b z : Int} (ha : IsW a) (hb : IsW b) (h : opV g a b = .int z) : IsW z := by
  by_cases hg : g.isCmp = true
  · rw [op5 hg] at h
    injection h with h
    split at h <;> exact ⟨by omega, by omega⟩
  · obtain ⟨a0, a1⟩ := ha
    obtain ⟨b0, b1⟩ := hb
    have h65 : ∀ k : Int, IsW (k % 65536) := fun k => ⟨Int.emod_nonneg _ (by decide), Int.emod_lt_of_pos _ (by decide)⟩
    cases g
    all_goals first | (exact absurd rfl hg) | skip
    · cases h; exact h65 _
    · cases h; exact h65 _
    · cases h; exact h65 _
    · by_cases hb : b = 0
      · rw [show opV .div a b = .non from if_pos hb] at h; cases h
      · rw [show opV .div a b = .int (a / b) from if_neg hb] at h
        cases h
        exact div_small a0 a1 (by omega)
    · by_cases hb : b = 0
      · rw [show opV .mod a b = .non from if_pos hb] at h; cases h
      · rw [show opV .mod a b = .int (a % b) from if_neg hb] at h
        cases h
        exact ⟨Int.emod_nonneg _ hb, by have := Int.emod_lt_of_pos a (show 0 < b by omega); omega⟩
theorem accL_in {n a acc d : Int} (h0 : 0 ≤ a) (h1 : a < 1024) (hA : IsW acc) (hd : IsW d) : IsW (accL n a acc d) := by
  unfold accL
  split
  · rcases opV_cases (sgOf (nm n)) acc d with h | ⟨z, h⟩
    · rw [h]; exact ⟨by decide, by decide⟩
    · rw [h]; exact opV_in hA hd h
  · split
    · exact ⟨h0, by omega⟩
    · split
      · exact hd
      · split
        · split <;> exact ⟨by decide, by decide⟩
        · exact hA
theorem xL_in {n acc x d : Int} (hA : IsW acc) (hx : IsW x) (hd : IsW d) : IsW (xL n acc x d) := by
  unfold xL
  split
  · exact hA
  · split
    · exact hd
    · exact hx
theorem haltL_in (n a acc x d : Int) : 0 ≤ haltL n a acc x d ∧ haltL n a acc x d < 7 := by
  unfold haltL
  repeat' split
  all_goals decide
theorem mem_set_in {ws : List Int} {k : Nat} {v : Int} (h : ∀ w ∈ ws, IsW w) (hv : IsW v) : ∀ w ∈ ws.set k v, IsW w := fun w hw => by
  rcases List.mem_or_eq_of_mem_set hw with h1 | h1
  · exact h w h1
  · rw [h1]; exact hv
theorem w256 {k : Int} (h : 0 ≤ k ∧ k < 256) : IsW k := ⟨h.1, by omega⟩
/-- what a step that goes on does: the tables' last part -/
theorem move_ok {m : Int} (hm : 100 < m) {s : MSt} {n a : Int} (h : SOk m s) : SOk m (s.moveM m n a).1 ∧ (0 ≤ (s.moveM m n a).2 ∧ (s.moveM m n a).2 < 256) := by
  unfold MSt.moveM
  split
  · exact ⟨h, mod256 _⟩
  · split
    · exact ⟨⟨h.pc, h.acc, h.x, h.mark, h.out, h.count, h.told, by show (s.mem.set _ _).length = 256; rw [List.length_set]; exact h.len, mem_set_in h.mem (w256 (mod256 _))⟩, mod256 _⟩
    · split
      · exact ⟨h, mod256 _⟩
      · split
        · exact ⟨⟨h.pc, h.acc, h.x, (show (0 : Int) ≤ 5 ∧ (5 : Int) < 7 from by decide), h.out, h.count, h.told, h.len, h.mem⟩, h.pc⟩
        · split
          · rename_i h1 h2
            have hc := h.count
            have hne : s.count ≠ 16 := fun z => h1 ⟨h2, z⟩
            refine ⟨⟨h.pc, h.acc, h.x, h.mark, fold_dg (by omega), ?_, ?_, h.len, h.mem⟩, mod256 _⟩
            · show 0 ≤ s.count + 1 ∧ s.count + 1 ≤ 16
              omega
            · show ((s.told ++ [s.acc]).length : Int) ≤ s.count + 1
              have := h.told
              rw [List.length_append]
              show ((s.told.length + 1 : Nat) : Int) ≤ s.count + 1
              omega
          · exact ⟨h, mod256 _⟩
theorem workS_ok {m : Int} {s : MSt} {n a : Int} (h0 : 0 ≤ a) (h1 : a < 1024) (h : SOk m s) : SOk m (s.workS n a) := by
  refine ⟨h.pc, accL_in h0 h1 h.acc (h.at _), xL_in h.acc h.x (h.at _), h.mark, h.out, h.count, h.told, ?_, ?_⟩
  · show (if n = 4 ∨ n = 6 then s.mem.set (otherM n a s.x).toNat s.acc else s.mem).length = 256
    split
    · rw [List.length_set]; exact h.len
    · exact h.len
  · show ∀ w ∈ (if n = 4 ∨ n = 6 then s.mem.set (otherM n a s.x).toNat s.acc else s.mem), IsW w
    split
    · exact mem_set_in h.mem h.acc
    · exact h.mem
theorem work_ok {m : Int} (hm : 100 < m) {s : MSt} {n a : Int} (h0 : 0 ≤ a) (h1 : a < 1024) (h : SOk m s) : SOk m (s.workM m n a).1 ∧ (0 ≤ (s.workM m n a).2 ∧ (s.workM m n a).2 < 256) := by
  unfold MSt.workM
  split
  · exact move_ok hm (workS_ok h0 h1 h)
  · exact ⟨⟨h.pc, h.acc, h.x, haltL_in _ _ _ _ _, h.out, h.count, h.told, h.len, h.mem⟩, h.pc⟩
theorem SOk.step {m : Int} (hm : 100 < m) {s : MSt} (h : SOk m s) : SOk m (s.stepM m) := by
  unfold MSt.stepM
  split
  · obtain ⟨o, p⟩ := work_ok (n := s.at s.pc / 1024) (a := s.at s.pc % 1024) hm (Int.emod_nonneg _ (by decide)) (Int.emod_lt_of_pos _ (by decide)) h
    exact ⟨p, o.acc, o.x, o.mark, o.out, o.count, o.told, o.len, o.mem⟩
  · exact h
/-- what is told, and what is written -/
theorem move_told (m n a : Int) (s : MSt) : ((s.moveM m n a).1.count = s.count ∧ (s.moveM m n a).1.told = s.told) ∨ ((s.moveM m n a).1.count = s.count + 1 ∧ (s.moveM m n a).1.told = s.told ++ [s.acc] ∧ n = 28) := by
  unfold MSt.moveM
  split
  · exact .inl ⟨rfl, rfl⟩
  · split
    · exact .inl ⟨rfl, rfl⟩
    · split
      · exact .inl ⟨rfl, rfl⟩
      · split
        · exact .inl ⟨rfl, rfl⟩
        · split
          · exact .inr ⟨rfl, rfl, by assumption⟩
          · exact .inl ⟨rfl, rfl⟩
theorem accL_28 (a acc d : Int) : accL 28 a acc d = acc := by
  unfold accL
  rw [if_neg (by omega), if_neg (by omega), if_neg (by omega), if_neg (by omega)]
theorem work_told (m n a : Int) (s : MSt) : ((s.workM m n a).1.count = s.count ∧ (s.workM m n a).1.told = s.told) ∨ ((s.workM m n a).1.count = s.count + 1 ∧ (s.workM m n a).1.told = s.told ++ [s.acc]) := by
  unfold MSt.workM
  split
  · rcases move_told m n a (s.workS n a) with h | ⟨h1, h2, h3⟩
    · exact .inl h
    · refine .inr ⟨h1, ?_⟩
      rw [h2]
      subst h3
      show s.told ++ [accL 28 a s.acc (s.at (otherM 28 a s.x))] = _
      rw [accL_28]
  · exact .inl ⟨rfl, rfl⟩
theorem halt_wr {n a acc x d : Int} (h : n = 4 ∨ n = 6 ∨ n = 26) : haltL n a acc x d = 0 := by
  unfold haltL
  rw [if_neg (by omega), if_neg (by omega), if_neg (by omega), if_neg (by omega), if_neg (by omega)]
theorem work_mem {m n a : Int} {s : MSt} (hl : s.mem.length = 256) : (∃ k, dataL n a s.x = some (k, true) ∧ 0 ≤ k ∧ k < 256 ∧ (s.workM m n a).1.mem = s.mem.set k.toNat ((s.workM m n a).1.at k)) ∨ ((∀ k, dataL n a s.x ≠ some (k, true)) ∧ (s.workM m n a).1.mem = s.mem) := by
  have hO := other_in n a s.x
  by_cases hw : n = 4 ∨ n = 6 ∨ n = 26
  · refine .inl ⟨otherM n a s.x, if_pos hw, hO.1, hO.2, ?_⟩
    have e : ∃ v, (s.workM m n a).1.mem = s.mem.set (otherM n a s.x).toNat v := by
      unfold MSt.workM
      rw [if_pos (halt_wr hw)]
      rcases hw with rfl | rfl | rfl
      · exact ⟨s.acc, rfl⟩
      · exact ⟨s.acc, rfl⟩
      · exact ⟨(s.pc + 1) % 256, rfl⟩
    obtain ⟨v, hv⟩ := e
    have hat : (s.workM m n a).1.at (otherM n a s.x) = v := by
      unfold MSt.at
      rw [hv, List.getElem?_set_self (by omega)]
      rfl
    rw [hv, hat]
  · refine .inr ⟨fun k h => ?_, ?_⟩
    · unfold dataL at h
      rw [if_neg hw] at h
      split at h
      · injection h with h; injection h with _ h; cases h
      · cases h
    · unfold MSt.workM
      split
      · have e : (s.workS n a).mem = s.mem := if_neg (by omega)
        rw [← e]
        unfold MSt.moveM
        split
        · rfl
        · rw [if_neg (by omega)]
          split
          · rfl
          · split
            · rfl
            · split <;> rfl
      · rfl

/-! ### a machine (digests without a book): its state, and the objects that are its own -/
def KindF (F : List Addr) (H : Hp) : Prop := ∀ x ∈ F, (∃ ys, H x = some (.lst ys)) ∨ ∃ C dx fs, H x = some (.ins C dx fs)
theorem KindF.ex {F : List Addr} {H H' : Hp} (e : Evl.Ex H H') (h : KindF F H) : KindF F H' := fun x hx => (h x hx).imp (fun ⟨ys, a⟩ => ⟨ys, e _ _ a⟩) fun ⟨C, dx, fs, a⟩ => ⟨C, dx, fs, e _ _ a⟩
structure MacP (K : PySem.W.Frag) (C CM : Addr) (H : Hp) (p dx r mp ta wa la : Addr) (ps : List Addr) (dg : Addr) (m : Int) (s : MSt) : Prop where
  at_ : H p = some (.ins C dx (fl_Machine (.ref dg) (.ref r) (.ref mp) (.ref ta)))
  regs : SqT K H r (regsV s.pc s.acc s.x s.mark s.out s.count)
  mem : MemAt CM H mp dg wa la ps m s.mem
  told : H ta = some (.lst (iv s.told))
  nt : ta ∉ wa :: la :: ps
  np : p ≠ mp
def ownF (p mp ta wa la : Addr) (ps : List Addr) : List Addr := p :: mp :: ta :: la :: wa :: ps
structure MacAt (K : PySem.W.Frag) (C CM : Addr) (H : Hp) (p : Addr) (F : List Addr) (dg : Addr) (m : Int) (s : MSt) : Prop where
  ex : ∃ dx r mp ta wa la ps, MacP K C CM H p dx r mp ta wa la ps dg m s ∧ F = ownF p mp ta wa la ps
theorem MacP.ex {K : PySem.W.Frag} {C CM : Addr} {H H' : Hp} {p dx r mp ta wa la : Addr} {ps : List Addr} {dg : Addr} {m : Int} {s : MSt} (e : Evl.Ex H H') (h : MacP K C CM H p dx r mp ta wa la ps dg m s) : MacP K C CM H' p dx r mp ta wa la ps dg m s :=
  ⟨e _ _ h.at_, Evl.ex_t e h.regs, h.mem.ex e, e _ _ h.told, h.nt, h.np⟩
theorem MacAt.exE {K : PySem.W.Frag} {C CM : Addr} {H H' : Hp} {p : Addr} {F : List Addr} {dg : Addr} {m : Int} {s : MSt} (e : Evl.Ex H H') (h : MacAt K C CM H p F dg m s) : MacAt K C CM H' p F dg m s :=
  let ⟨dx, r, mp, ta, wa, la, ps, a, b⟩ := h.ex; ⟨dx, r, mp, ta, wa, la, ps, a.ex e, b⟩
theorem MacP.kind {K : PySem.W.Frag} {C CM : Addr} {H : Hp} {p dx r mp ta wa la : Addr} {ps : List Addr} {dg : Addr} {m : Int} {s : MSt} (h : MacP K C CM H p dx r mp ta wa la ps dg m s) : KindF (ownF p mp ta wa la ps) H := fun x hx => by
  rcases List.mem_cons.mp hx with rfl | hx
  · exact .inr ⟨_, _, _, h.at_⟩
  · rcases List.mem_cons.mp hx with rfl | hx
    · obtain ⟨d, a⟩ := h.mem.at_
      exact .inr ⟨_, _, _, a⟩
    · rcases List.mem_cons.mp hx with rfl | hx
      · exact .inl ⟨_, h.told⟩
      · rcases List.mem_cons.mp hx with rfl | hx
        · exact .inl ⟨_, h.mem.lvl⟩
        · exact .inl (h.mem.mem_lst x hx)
theorem MacAt.kind {K : PySem.W.Frag} {C CM : Addr} {H : Hp} {p : Addr} {F : List Addr} {dg : Addr} {m : Int} {s : MSt} (h : MacAt K C CM H p F dg m s) : KindF F H := by
  obtain ⟨dx, r, mp, ta, wa, la, ps, a, rfl⟩ := h.ex
  exact a.kind
/-- kept by what changes none of its own -/
theorem MacAt.by {K : PySem.W.Frag} {C CM : Addr} {H H' : Hp} {p : Addr} {F G : List Addr} {dg : Addr} {m : Int} {s : MSt} (h : MacAt K C CM H p F dg m s) (e : ExBy G H H') (k : KindF G H) (n : ∀ x ∈ F, x ∉ G) : MacAt K C CM H' p F dg m s := by
  obtain ⟨dx, r, mp, ta, wa, la, ps, a, rfl⟩ := h.ex
  refine ⟨dx, r, mp, ta, wa, la, ps, ⟨e _ _ (n p (by simp [ownF])) a.at_, e.tup k a.regs, a.mem.by e (fun x hx => n x ?_), e _ _ (n ta (by simp [ownF])) a.told, a.nt, a.np⟩, rfl⟩
  simp only [ownF, List.mem_cons] at hx ⊢
  rcases hx with rfl | rfl | rfl | hx
  · exact .inr (.inl rfl)
  · exact .inr (.inr (.inr (.inr (.inl rfl))))
  · exact .inr (.inr (.inr (.inl rfl)))
  · exact .inr (.inr (.inr (.inr (.inr hx))))
theorem DigN.by {C d : Addr} {F : List Addr} {H H' : Hp} {m : Int} (h : DigN C H d m) (e : ExBy F H H') (n : d ∉ F) : DigN C H' d m := let ⟨⟨dx, b, h⟩, p, l⟩ := h; ⟨⟨dx, b, e _ _ n h⟩, p, l⟩
/-- digests are no machine's own -/
theorem MacAt.dig {K : PySem.W.Frag} {C CM CD : Addr} {H : Hp} {p : Addr} {F : List Addr} {dg : Addr} {m : Int} {s : MSt} (h : MacAt K C CM H p F dg m s) (d : DigN CD H dg m) : dg ∉ F := by
  obtain ⟨dx, r, mp, ta, wa, la, ps, a, rfl⟩ := h.ex
  obtain ⟨⟨dx2, b, hd⟩, _, _⟩ := d
  obtain ⟨dx3, hm⟩ := a.mem.at_
  intro z
  simp only [ownF, List.mem_cons] at z
  rcases z with rfl | rfl | rfl | rfl | z
  · exact ins_ne hd a.at_ (by show 3 ≠ 4; decide) rfl
  · rw [hd] at hm
    injection hm with hm
    injection hm with _ _ hm
    have hm : (some ("_bits" : Str)) = some "_digests" := congrArg (fun l => l.head?.map Prod.fst) hm
    exact absurd hm (by decide +kernel)
  · rw [a.told] at hd; cases hd
  · rw [a.mem.lvl] at hd; cases hd
  · obtain ⟨ys, hy⟩ := a.mem.mem_lst dg (List.mem_cons.mpr z); rw [hy] at hd; cases hd
theorem use_Memory {K : PySem.W.Frag} {CM CD dg a : Addr} {m : Int} {ws : List Int} {H : Hp} {Q : VK} {E : XK} (hd : DigN CD H dg m) (ha : SqT K H a (iv ws)) (hl : ws.length ≤ 256)
    (k : ∀ mp wa la ps H', (∀ x ∈ mp :: wa :: la :: ps, H x = none) → Evl.Ex H H' → MemAt CM H' mp dg wa la ps m (padW ws) → Q (.ref mp) H') : Kit.MakeOf CM (sp_Memory_init K CM CD) E [.ref dg, .ref a] H Q := by
  refine Kit.w_made fun x dx H2 hx e h => ?_
  refine ⟨x, dx, dg, a, m, ws, rfl, h, hd.ex e, Evl.ex_t e ha, hl, fun H3 wa la ps m3 hm hn => ⟨rfl, k x wa la ps H3 (fun y hy => ?_) (Kit.ex_but m3 hx e) hm⟩⟩
  rcases List.mem_cons.mp hy with rfl | hy
  · exact hx
  · exact Evl.fresh_back e (hn y hy)
local macro_rules | `(tactic| walk_at "dig") => `(tactic| first | with_reducible assumption | exact DigN.ex (by with_reducible assumption) (by walk_at "dig") | exact DigN.but (by with_reducible assumption) (by with_reducible assumption) (by walk_at "dig") | fail)
local macro_rules | `(tactic| walk_at "sqT") => `(tactic| first | with_reducible assumption | exact Evl.st_of (by with_reducible assumption) | exact Evl.ex_t (by with_reducible assumption) (by walk_at "sqT") | exact tup_ins (by with_reducible assumption) (by with_reducible assumption) (by walk_at "sqT") | fail)
local macro_rules | `(tactic| walk_at "wp1") => `(tactic| ((with_reducible show Kit.MakeOf _ (sp_Memory_init _ _ _) _ _ _ _); refine use_Memory (by walk_at "dig") (by walk_at "sqT") (by assumption) ?_; intro _ _ _ _ _ _ _ _))
def sp_Machine_init (K : PySem.W.Frag) (C CM CD : Addr) : Sp := fun vs H Q _ => ∃ (p dx dg r a : Addr) (m pc acc x mark out count : Int) (ws : List Int), vs = [.ref p, .ref dg, .ref r, .ref a] ∧ H p = some (.ins C dx []) ∧ DigN CD H dg m ∧ SqT K H r (regsV pc acc x mark out count) ∧ SqT K H a (iv ws) ∧ ws.length ≤ 256 ∧
  ∀ H' F, Kit.ExBut p H H' → MacAt K C CM H' p F dg m ⟨pc, acc, x, mark, out, count, padW ws, []⟩ → (∀ x ∈ F, x ≠ p → H x = none) → p ∈ F → Q .non H'
theorem ok_Machine___init (T : Txt K mg) : FnOk P w K mg base CX0 6 T.f_Machine___init.f T.f_Machine___init.fd ["self", "digests", "registers", "words"] (sp_Machine_init K T.c_Machine.C T.c_Memory.C T.c_Digests.C) := by
  have G_Memory___init := ok_Memory___init (P := P) (w := w) (base := base) T
  refine T.f_Machine___init.F.ok sc_Machine___init (fun vs H Q E h => ?_) (fun cdv A outer s H vs Q E hr h => ?_)
  · obtain ⟨p, dx, dg, r, a, m, pc, acc, x, mark, out, count, ws, rfl, hp, hd, hr6, ha, hl, q⟩ := h
    rfl
  obtain ⟨p, dx, dg, r, a, m, pc, acc, x, mark, out, count, ws, rfl, hp, hd, hr6, ha, hl, q⟩ := h
  have nd := sc_Machine___init.nd
  have hr4 : Room 4 _ := hr.mono (by decide)
  have hr5 : Room 5 _ := hr.mono (by decide)
  refine Kit.ok_body (σ := [some _, some _, some _, some _]) ((pss_cons (Kit.kSet K (pv 0) (pv 1) rfl)
    (pss_cons (Kit.kSet K (pv 0) (pv 2) rfl)
    (pss_cons (Kit.kSet K (pv 0) (pe_make T.c_Memory.M G_Memory___init hr5 (by rfl) T.c_Memory.g T.f_Memory___init.b .nil pass0 (pa_cons (pv 1) (pa_cons (pv 3) pa_nil))) rfl)
    (pss_one (Kit.kSet K (pv 0) (pe_lst pa_nil) rfl)))))) rfl ?_
  have hdp : dg ≠ p := by
    obtain ⟨dx2, b, hd2⟩ := hd.at_
    exact ins_ne hd2 hp (by show 3 ≠ 0; decide)
  walk_at "wp"
  rename_i H1 m1 f1 H2 m2 f2 mp wa la ps H3 hn e3 hm H4 m4 f4 ta H5 n5 e5 f5 H6 m6 f6
  have M2 : Kit.ExBut p H H2 := m1.trans m2
  have ht : ta ≠ p := (ne_of_none f4 n5).symm
  have big : ∀ y, y ≠ p → H2 y = none → H y = none := fun y hy h => by
    cases hz : H y with
    | none => rfl
    | some o => have := M2 y o hy hz; rw [h] at this; cases this
  have hnp : ∀ y ∈ mp :: wa :: la :: ps, y ≠ p := fun y hy z => by have := hn y hy; rw [z, f2] at this; cases this
  have hm4 : MemAt T.c_Memory.C H4 mp dg wa la ps m (padW ws) := hm.by (F := [p]) (ExBy.len1 m4 (by simp)) (fun y hy z => hnp y hy (List.mem_singleton.mp z))
  have hm5 := hm4.ex e5
  have hm6 : MemAt T.c_Memory.C H6 mp dg wa la ps m (padW ws) := hm5.by (F := [p]) (ExBy.len1 m6 (by simp)) (fun y hy z => hnp y hy (List.mem_singleton.mp z))
  have hta : ta ∉ wa :: la :: ps := fun z => by
    have hz : ∃ o, H4 ta = some o := by
      rcases List.mem_cons.mp z with rfl | z
      · exact ⟨_, hm4.wds⟩
      · rcases List.mem_cons.mp z with rfl | z
        · exact ⟨_, hm4.lvl⟩
        · obtain ⟨ys, hy⟩ := hm4.rows.mem z; exact ⟨_, hy⟩
    obtain ⟨o, ho⟩ := hz
    rw [n5] at ho
    cases ho
  refine q H6 (ownF p mp ta wa la ps) (by walk_at "but") ⟨dx, r, mp, ta, wa, la, ps, ⟨f6, tup_ins (show Kit.ExBut p H H6 from by walk_at "but") hp hr6, hm6, m6 _ _ ht f5, hta, (hnp mp (by simp)).symm⟩, rfl⟩ (fun y hy hyp => ?_) (by simp [ownF])
  simp only [ownF, List.mem_cons] at hy
  rcases hy with rfl | rfl | rfl | rfl | rfl | hy
  · exact absurd rfl hyp
  · exact big _ hyp (hn _ (by simp))
  · refine big _ hyp (Evl.fresh_back e3 ?_)
    cases hz : H3 y with
    | none => rfl
    | some o => have := m4 y o hyp hz; rw [n5] at this; cases this
  · exact big _ hyp (hn _ (by simp))
  · exact big _ hyp (hn _ (by simp))
  · exact big _ hyp (hn _ (by simp [hy]))
theorem use_Machine {K : PySem.W.Frag} {C CM CD dg r a : Addr} {m pc acc x mark out count : Int} {ws : List Int} {H : Hp} {Q : VK} {E : XK} (hd : DigN CD H dg m) (hr : SqT K H r (regsV pc acc x mark out count)) (ha : SqT K H a (iv ws)) (hl : ws.length ≤ 256)
    (k : ∀ p F H', (∀ y ∈ F, H y = none) → Evl.Ex H H' → MacAt K C CM H' p F dg m ⟨pc, acc, x, mark, out, count, padW ws, []⟩ → Q (.ref p) H') : Kit.MakeOf C (sp_Machine_init K C CM CD) E [.ref dg, .ref r, .ref a] H Q := by
  refine Kit.w_made fun p dx H2 hx e h => ?_
  refine ⟨p, dx, dg, r, a, m, pc, acc, x, mark, out, count, ws, rfl, h, hd.ex e, Evl.ex_t e hr, Evl.ex_t e ha, hl, fun H3 F m3 hm hn hp => ⟨rfl, k p F H3 (fun y hy => ?_) (Kit.ex_but m3 hx e) hm⟩⟩
  by_cases hyp : y = p
  · rw [hyp]; exact hx
  · exact Evl.fresh_back e (hn y hy hyp)

/-! ### a machine asked -/
section
variable {K : PySem.W.Frag} {C CM dg p : Addr} {F : List Addr} {m : Int} {s : MSt} {H : Hp} {R : Prop}
theorem MacAt.ins (h : MacAt K C CM H p F dg m s) {x : Str} (l : ∀ a b c d, (fl_Machine a b c d).lookup x = none) (r : R) : Kit.InsOf C x (.ref p) H R := let ⟨_, _, _, _, _, _, _, a, _⟩ := h.ex; Kit.w_ins a.at_ (l _ _ _ _) r
end
local macro_rules | `(tactic| walk_at "mac") => `(tactic| first | with_reducible assumption | exact MacAt.exE (by with_reducible assumption) (by walk_at "mac") | fail)
local macro_rules | `(tactic| walk_at "wp1") => `(tactic| ((with_reducible show Kit.InsOf _ _ _ _ _); refine MacAt.ins (by walk_at "mac") (fun _ _ _ _ => rfl) ?_))
def sp_Machine_registers (K : PySem.W.Frag) (C CM : Addr) : Sp := fun vs H Q _ => ∃ (p : Addr) (F : List Addr) (dg : Addr) (m : Int) (s : MSt), vs = [.ref p] ∧ MacAt K C CM H p F dg m s ∧ ∀ r, SqT K H r (regsV s.pc s.acc s.x s.mark s.out s.count) → Q (.ref r) H
theorem ok_Machine_registers (T : Txt K mg) : FnOk P w K mg base CX0 1 T.f_Machine_registers.f T.f_Machine_registers.fd ["self"] (sp_Machine_registers K T.c_Machine.C T.c_Memory.C) := by
  refine T.f_Machine_registers.F.ok sc_Machine_registers (fun vs H Q E h => ?_) (fun cdv A outer s H vs Q E hr h => ?_)
  · obtain ⟨p, F, dg, m, s, rfl, hm, q⟩ := h
    rfl
  obtain ⟨p, F, dg, m, s, rfl, hm, q⟩ := h
  have nd := sc_Machine_registers.nd
  refine Kit.ok_body (σ := [some _]) ((pss_one (ps_ret (Kit.kFld K (pv 0) rfl)))) rfl ?_
  obtain ⟨dx, r, mp, ta, wa, la, ps, a, rfl⟩ := hm.ex
  have hp := a.at_
  walk_at "wp"
  exact q r a.regs
def sp_Machine_words (K : PySem.W.Frag) (C CM : Addr) : Sp := fun vs H Q _ => ∃ (p : Addr) (F : List Addr) (dg : Addr) (m : Int) (s : MSt), vs = [.ref p] ∧ MacAt K C CM H p F dg m s ∧ ∀ t H', H t = none → Evl.Ex H H' → H' t = some (.tup (iv s.mem)) → Q (.ref t) H'
theorem ok_Machine_words (T : Txt K mg) : FnOk P w K mg base CX0 2 T.f_Machine_words.f T.f_Machine_words.fd ["self"] (sp_Machine_words K T.c_Machine.C T.c_Memory.C) := by
  have G_Memory_words := ok_Memory_words (P := P) (w := w) (base := base) T
  refine T.f_Machine_words.F.ok sc_Machine_words (fun vs H Q E h => ?_) (fun cdv A outer s H vs Q E hr h => ?_)
  · obtain ⟨p, F, dg, m, s, rfl, hm, q⟩ := h
    rfl
  obtain ⟨p, F, dg, m, s, rfl, hm, q⟩ := h
  have nd := sc_Machine_words.nd
  have hr1 : Room 1 _ := hr.mono (by decide)
  refine Kit.ok_body (σ := [some _]) ((pss_one (ps_ret (pe_meth0 (Kit.kFld K (pv 0) rfl) T.c_Memory.cl T.m_Memory_words G_Memory_words hr1 T.f_Memory_words.b .nil pass0)))) rfl ?_
  try dsimp only [L2.cxOf, L2.Cx.nox]
  obtain ⟨dx, r, mp, ta, wa, la, ps, a, rfl⟩ := hm.ex
  have hp := a.at_
  obtain ⟨dm, hmp⟩ := a.mem.at_
  walk_at "wp"
  exact ⟨mp, dg, wa, la, ps, m, s.mem, rfl, a.mem, q⟩
def sp_Machine_word (K : PySem.W.Frag) (C CM : Addr) : Sp := fun vs H Q _ => ∃ (p : Addr) (F : List Addr) (dg : Addr) (m : Int) (s : MSt) (k : Int), vs = [.ref p, .int k] ∧ MacAt K C CM H p F dg m s ∧ Q (.int (wordAt s.mem k)) H
theorem ok_Machine_word (T : Txt K mg) : FnOk P w K mg base CX0 2 T.f_Machine_word.f T.f_Machine_word.fd ["self", "place"] (sp_Machine_word K T.c_Machine.C T.c_Memory.C) := by
  have G_Memory_word := ok_Memory_word (P := P) (w := w) (base := base) T
  refine T.f_Machine_word.F.ok sc_Machine_word (fun vs H Q E h => ?_) (fun cdv A outer s H vs Q E hr h => ?_)
  · obtain ⟨p, F, dg, m, s, k, rfl, hm, q⟩ := h
    rfl
  obtain ⟨p, F, dg, m, s, k, rfl, hm, q⟩ := h
  have nd := sc_Machine_word.nd
  have hr1 : Room 1 _ := hr.mono (by decide)
  refine Kit.ok_body (σ := [some _, some _]) ((pss_one (ps_ret (pe_meth (Kit.kFld K (pv 0) rfl) T.c_Memory.cl T.m_Memory_word G_Memory_word hr1 T.f_Memory_word.b .nil pass0 (pa_cons (pv 1) pa_nil))))) rfl ?_
  try dsimp only [L2.cxOf, L2.Cx.nox]
  obtain ⟨dx, r, mp, ta, wa, la, ps, a, rfl⟩ := hm.ex
  have hp := a.at_
  obtain ⟨dm, hmp⟩ := a.mem.at_
  walk_at "wp"
  exact ⟨mp, dg, wa, la, ps, m, s.mem, k, rfl, a.mem, q⟩
def sp_Machine_path (K : PySem.W.Frag) (C CM : Addr) : Sp := fun vs H Q _ => ∃ (p : Addr) (F : List Addr) (dg : Addr) (m : Int) (s : MSt) (k : Int), vs = [.ref p, .int k] ∧ MacAt K C CM H p F dg m s ∧ ∀ t H', H t = none → Evl.Ex H H' → H' t = some (.tup (iv (memPath m s.mem (k % 256).toNat))) → Q (.ref t) H'
theorem ok_Machine_path (T : Txt K mg) : FnOk P w K mg base CX0 3 T.f_Machine_path.f T.f_Machine_path.fd ["self", "place"] (sp_Machine_path K T.c_Machine.C T.c_Memory.C) := by
  have G_Memory_path := ok_Memory_path (P := P) (w := w) (base := base) T
  refine T.f_Machine_path.F.ok sc_Machine_path (fun vs H Q E h => ?_) (fun cdv A outer s H vs Q E hr h => ?_)
  · obtain ⟨p, F, dg, m, s, k, rfl, hm, q⟩ := h
    rfl
  obtain ⟨p, F, dg, m, s, k, rfl, hm, q⟩ := h
  have nd := sc_Machine_path.nd
  have hr2 : Room 2 _ := hr.mono (by decide)
  refine Kit.ok_body (σ := [some _, some _]) ((pss_one (ps_ret (pe_meth (Kit.kFld K (pv 0) rfl) T.c_Memory.cl T.m_Memory_path G_Memory_path hr2 T.f_Memory_path.b .nil pass0 (pa_cons (pv 1) pa_nil))))) rfl ?_
  try dsimp only [L2.cxOf, L2.Cx.nox]
  obtain ⟨dx, r, mp, ta, wa, la, ps, a, rfl⟩ := hm.ex
  have hp := a.at_
  obtain ⟨dm, hmp⟩ := a.mem.at_
  walk_at "wp"
  exact ⟨mp, dg, wa, la, ps, m, s.mem, k, rfl, a.mem, q⟩
def sp_Machine_root (K : PySem.W.Frag) (C CM : Addr) : Sp := fun vs H Q _ => ∃ (p : Addr) (F : List Addr) (dg : Addr) (m : Int) (s : MSt), vs = [.ref p] ∧ MacAt K C CM H p F dg m s ∧ Q (.int (memRoot m s.mem)) H
theorem ok_Machine_root (T : Txt K mg) : FnOk P w K mg base CX0 2 T.f_Machine_root.f T.f_Machine_root.fd ["self"] (sp_Machine_root K T.c_Machine.C T.c_Memory.C) := by
  have G_Memory_root := ok_Memory_root (P := P) (w := w) (base := base) T
  refine T.f_Machine_root.F.ok sc_Machine_root (fun vs H Q E h => ?_) (fun cdv A outer s H vs Q E hr h => ?_)
  · obtain ⟨p, F, dg, m, s, rfl, hm, q⟩ := h
    rfl
  obtain ⟨p, F, dg, m, s, rfl, hm, q⟩ := h
  have nd := sc_Machine_root.nd
  have hr1 : Room 1 _ := hr.mono (by decide)
  refine Kit.ok_body (σ := [some _]) ((pss_one (ps_ret (pe_meth0 (Kit.kFld K (pv 0) rfl) T.c_Memory.cl T.m_Memory_root G_Memory_root hr1 T.f_Memory_root.b .nil pass0)))) rfl ?_
  try dsimp only [L2.cxOf, L2.Cx.nox]
  obtain ⟨dx, r, mp, ta, wa, la, ps, a, rfl⟩ := hm.ex
  have hp := a.at_
  obtain ⟨dm, hmp⟩ := a.mem.at_
  walk_at "wp"
  exact ⟨mp, dg, wa, la, ps, m, s.mem, rfl, a.mem, q⟩
def sp_Machine_told (K : PySem.W.Frag) (C CM : Addr) : Sp := fun vs H Q _ => ∃ (p : Addr) (F : List Addr) (dg : Addr) (m : Int) (s : MSt), vs = [.ref p] ∧ MacAt K C CM H p F dg m s ∧ ∀ t H', H t = none → Evl.Ex H H' → H' t = some (.tup (iv s.told)) → Q (.ref t) H'
theorem ok_Machine_told (T : Txt K mg) : FnOk P w K mg base CX0 1 T.f_Machine_told.f T.f_Machine_told.fd ["self"] (sp_Machine_told K T.c_Machine.C T.c_Memory.C) := by
  refine T.f_Machine_told.F.ok sc_Machine_told (fun vs H Q E h => ?_) (fun cdv A outer s H vs Q E hr h => ?_)
  · obtain ⟨p, F, dg, m, s, rfl, hm, q⟩ := h
    rfl
  obtain ⟨p, F, dg, m, s, rfl, hm, q⟩ := h
  have nd := sc_Machine_told.nd
  refine Kit.ok_body (σ := [some _]) ((pss_one (ps_ret (pe_callTy (Kit.kTuple K) (by rfl) T.z_tuple (by decide +kernel) (pa_cons (Kit.kFld K (pv 0) rfl) pa_nil))))) rfl ?_
  obtain ⟨dx, r, mp, ta, wa, la, ps, a, rfl⟩ := hm.ex
  have hp := a.at_
  have ht := a.told
  walk_at "wp"
  rename_i t H' n e f
  exact q t H' n e f
def regsI (s : MSt) : List Int := [s.pc, s.acc, s.x, s.mark, s.out, s.count]
def digestM (m : Int) (s : MSt) : Int := stateI m (regsI s ++ [memRoot m s.mem])
theorem root_dg {m : Int} (hm : 0 < m) {ws : List Int} (hl : ws.length = 256) : Dg m (memRoot m ws) := by
  have h := levs_last (f := foldI m) 8 (ws.map (leafI m)) (by rw [List.length_map, hl])
  have := levs_dg hm 8 _ (leaves_dg hm ws) _ (List.mem_of_getElem? h)
  exact this _ (by simp [memRoot])
theorem SOk.nums {m : Int} {s : MSt} (h : SOk m s) (h1 : m < 2 ^ 62) (hm : 0 < m) : ∀ n ∈ regsI s ++ [memRoot m s.mem], 0 ≤ n ∧ n < 2 ^ 62 := by
  intro n hn
  simp only [regsI, List.cons_append, List.nil_append, List.mem_cons, List.not_mem_nil, or_false] at hn
  have := root_dg hm h.len
  obtain ⟨r0, r1⟩ := this
  obtain ⟨a0, a1⟩ := h.acc
  obtain ⟨x0, x1⟩ := h.x
  obtain ⟨o0, o1⟩ := h.out
  have := h.pc
  have := h.mark
  have := h.count
  rcases hn with rfl | rfl | rfl | rfl | rfl | rfl | rfl <;> omega
def sp_Machine_digest (K : PySem.W.Frag) (C CM CD : Addr) : Sp := fun vs H Q _ => ∃ (p : Addr) (F : List Addr) (dg : Addr) (m : Int) (s : MSt), vs = [.ref p] ∧ MacAt K C CM H p F dg m s ∧ DigN CD H dg m ∧ 100 < m ∧ SOk m s ∧ ∀ H', Evl.Ex H H' → Q (.int (digestM m s)) H'
theorem ok_Machine_digest (T : Txt K mg) : FnOk P w K mg base CX0 3 T.f_Machine_digest.f T.f_Machine_digest.fd ["self"] (sp_Machine_digest K T.c_Machine.C T.c_Memory.C T.c_Digests.C) := by
  have G_Digests_state := ok_Digests_state (P := P) (w := w) (base := base) T
  have G_Memory_root := ok_Memory_root (P := P) (w := w) (base := base) T
  refine T.f_Machine_digest.F.ok sc_Machine_digest (fun vs H Q E h => ?_) (fun cdv A outer s H vs Q E hr h => ?_)
  · obtain ⟨p, F, dg, m, s, rfl, hm, hd, m1, ok, q⟩ := h
    rfl
  obtain ⟨p, F, dg, m, s, rfl, hm, hd, m1, ok, q⟩ := h
  have nd := sc_Machine_digest.nd
  have hr1 : Room 1 _ := hr.mono (by decide)
  have hr2 : Room 2 _ := hr.mono (by decide)
  refine Kit.ok_body (σ := [some _]) ((pss_one (ps_ret (pe_meth (Kit.kFld K (pv 0) rfl) T.c_Digests.cl T.m_Digests_state G_Digests_state hr2 T.f_Digests_state.b .nil pass0 (pa_cons (pe_op (Kit.kCat K) (Kit.kFld K (pv 0) rfl) (pe_tup (pa_cons (pe_meth0 (Kit.kFld K (pv 0) rfl) T.c_Memory.cl T.m_Memory_root G_Memory_root hr1 T.f_Memory_root.b .nil pass0) pa_nil))) pa_nil))))) rfl ?_
  try dsimp only [L2.cxOf, L2.Cx.nox]
  obtain ⟨dx, r, mp, ta, wa, la, ps, a, rfl⟩ := hm.ex
  have hp := a.at_
  obtain ⟨dm, hmp⟩ := a.mem.at_
  have hr6 := a.regs
  walk_at "wp"
  refine ⟨mp, dg, wa, la, ps, m, s.mem, rfl, a.mem, ?_⟩
  walk_at "wp"
  rename_i t1 H1 n1 e1 f1 t2 H2 e2 f2
  refine ⟨dg, m, t2, regsI s ++ [memRoot m s.mem], rfl, hd.ex (e1.trans e2), by omega, f2, ok.nums hd.lt hd.pos, by simp [regsI], fun H3 e3 => q _ ((e1.trans e2).trans e3)⟩

/-! ### a step -/
theorem w_lawnone {x : V} {H : Hp} {Q : VK} (h : x = .non) (q : Q (.bl true) H) : Kit.rIsNo x .non H Q := by subst h; exact ⟨rfl, q⟩
theorem stepM_go {m : Int} {s : MSt} (h : s.mark = 0) : s.stepM m = (s.workM m (s.at s.pc / 1024) (s.at s.pc % 1024)).1.setPc (s.workM m (s.at s.pc / 1024) (s.at s.pc % 1024)).2 := if_pos h
theorem m_cutN {a b : TS} {nx bk ct : L2.St → Hp → Prop} {rt : VK} {σ : L2.St} {H : Hp} (M : L2.St → Hp → Prop) (k : ∀ N : L2.St → Hp → Prop, (∀ σ H, M σ H → N σ H) → Kit.Sm a N rt bk ct σ H) (h : ∀ σ H, M σ H → Kit.Sm b nx rt bk ct σ H) : Kit.Sm (tSeq a b) nx rt bk ct σ H := k _ h
theorem writL_non {s : MSt} {o : Option (Int × Bool)} (h : ∀ k, o ≠ some (k, true)) : writL s o = .non := by
  rcases o with _ | ⟨k, b⟩
  · rfl
  · cases b
    · rfl
    · exact absurd rfl (h k)
theorem stepM_rest {m : Int} {s : MSt} (h : ¬ s.mark = 0) : s.stepM m = s := if_neg h
theorem wordAt_pc {m : Int} {s : MSt} (h : SOk m s) : wordAt s.mem s.pc = s.at s.pc := by
  have := h.pc
  unfold wordAt MSt.at
  rw [Int.emod_eq_of_lt this.1 this.2]
theorem wordAt_in {s : MSt} {k : Int} (h0 : 0 ≤ k) (h1 : k < 256) : wordAt s.mem k = s.at k := by
  unfold wordAt MSt.at
  rw [Int.emod_eq_of_lt h0 h1]
theorem dataM_none {s : Str} {word x : Int} (h : dataM s word x = none) : ¬ (s = "back" ∨ s = "within" ∨ s ∈ sgs) := by
  intro z
  unfold dataM at h
  rw [if_pos (by
    rcases z with rfl | rfl | z
    · exact .inl (by decide +kernel)
    · exact .inl (by decide +kernel)
    · exact .inr z)] at h
  cases h
theorem dataL_in {n a x k : Int} {b : Bool} (h : dataL n a x = some (k, b)) : k = otherM n a x ∧ 0 ≤ k ∧ k < 256 := by
  unfold dataL at h
  have := other_in n a x
  split at h
  · injection h with h; injection h with h _; omega
  · split at h
    · injection h with h; injection h with h _; omega
    · cases h
theorem set256 {ws : List Int} {k v : Int} (h0 : 0 ≤ k) (h1 : k < 256) : ws.set (k % 256).toNat v = ws.set k.toNat v := by rw [Int.emod_eq_of_lt h0 h1]
def sp_Machine_step (K : PySem.W.Frag) (C CM CD : Addr) : Sp := fun vs H Q _ => ∃ (p : Addr) (F : List Addr) (dg : Addr) (m : Int) (s : MSt), vs = [.ref p] ∧ MacAt K C CM H p F dg m s ∧ DigN CD H dg m ∧ 100 < m ∧ SOk m s ∧ ∀ H', ExBy F H H' → MacAt K C CM H' p F dg m (s.stepM m) → Q .non H'
theorem ok_Machine_step (T : Txt K mg) : FnOk P w K mg base CX0 5 T.f_Machine_step.f T.f_Machine_step.fd ["self"] (sp_Machine_step K T.c_Machine.C T.c_Memory.C T.c_Digests.C) := by
  have G_Memory_change := ok_Memory_change (P := P) (w := w) (base := base) T
  have G_Memory_word := ok_Memory_word (P := P) (w := w) (base := base) T
  have G_data_of := ok_data_of (P := P) (w := w) (base := base) T
  have G_done_by := ok_done_by (P := P) (w := w) (base := base) T
  refine T.f_Machine_step.F.ok sc_Machine_step (fun vs H Q E h => ?_) (fun cdv A outer s H vs Q E hr h => ?_)
  · obtain ⟨p, F, dg, m, s, rfl, hm, hd, m1, ok, q⟩ := h
    rfl
  obtain ⟨p, F, dg, m, s, rfl, hm, hd, m1, ok, q⟩ := h
  have nd := sc_Machine_step.nd
  have hr1 : Room 1 _ := hr.mono (by decide)
  have hr2 : Room 2 _ := hr.mono (by decide)
  have hr3 : Room 3 _ := hr.mono (by decide)
  have hr4 : Room 4 _ := hr.mono (by decide)
  refine Kit.ok_body (σ := [some _, none, none, none, none, none, none, none, none, none, none]) ((pss_cons (ps_asg (Kit.kFld K (pv 0) rfl) (Kit.kgTup K rfl (pgs_cons (pg_name (i := 1) nd rfl (Or.inl rfl)) (pgs_cons (pg_name (i := 2) nd rfl (Or.inl rfl)) (pgs_cons (pg_name (i := 3) nd rfl (Or.inl rfl)) (pgs_cons (pg_name (i := 4) nd rfl (Or.inl rfl)) (pgs_cons (pg_name (i := 5) nd rfl (Or.inl rfl)) (pgs_cons (pg_name (i := 6) nd rfl (Or.inl rfl)) pgs_nil))))))))
    (pss_cons (ps_if (pt_cmpR op_ne (pv 4) pe_int (nomark _))
    (pss_one ps_retN)
    pss_nil)
    (pss_cons (ps_set (i := 7) nd rfl (Or.inl rfl) (pe_meth (Kit.kFld K (pv 0) rfl) T.c_Memory.cl T.m_Memory_word G_Memory_word hr1 T.f_Memory_word.b .nil pass0 (pa_cons (pv 1) pa_nil)))
    (pss_cons (ps_set (i := 8) nd rfl (Or.inl rfl) (pe_call G_data_of hr2 (by rfl) T.f_data_of.g T.f_data_of.F.kp T.f_data_of.b .nil pass0 (pa_cons (Kit.kFld K (pv 0) rfl) (pa_cons (pv 7) pa_nil))))
    (pss_cons (ps_set (i := 9) nd rfl (Or.inl rfl) (pe_ifExp (pt_cmpR Kit.k_isN (pv 8) pe_non (nomark _)) pe_non (pe_meth (Kit.kFld K (pv 0) rfl) T.c_Memory.cl T.m_Memory_word G_Memory_word hr1 T.f_Memory_word.b .nil pass0 (pa_cons (pe_ix (Kit.ixT K) (pv 8) pe_int (fun _ _ => rfl)) pa_nil))))
    (pss_cons (ps_asg (pe_call G_done_by hr4 (by rfl) T.f_done_by.g T.f_done_by.F.kp T.f_done_by.b .nil pass0 (pa_cons (Kit.kFld K (pv 0) rfl) (pa_cons (Kit.kFld K (pv 0) rfl) (pa_cons (pv 7) (pa_cons (pv 9) pa_nil))))) (Kit.kgTup K rfl (pgs_cons (kgAttr K (pv 0)) (pgs_cons (pg_name (i := 10) nd rfl (Or.inl rfl)) pgs_nil))))
    (pss_cons (ps_if (pt_cmpR Kit.k_notN (pv 10) pe_non (nomark _))
    (pss_one (ps_expr (pe_meth (Kit.kFld K (pv 0) rfl) T.c_Memory.cl T.m_Memory_change G_Memory_change hr3 T.f_Memory_change.b .nil pass0 (pa_cons (pe_ix (Kit.ixT K) (pv 8) pe_int (fun _ _ => rfl)) (pa_cons (pv 10) pa_nil)))))
    pss_nil)
    (pss_one (ps_if (pt_cmpR op_gt (pe_ix (Kit.ixT K) (Kit.kFld K (pv 0) rfl) pe_int (fun _ _ => rfl)) (pv 6) (nomark _))
    (pss_one (ps_expr (pe_bm PySem.F.plainAttrs_list PySem.F.slot_list_append PySem.F.type_list_append mt_append (Kit.kFld K (pv 0) rfl) (pa_cons (pv 2) pa_nil))))
    pss_nil)))))))))) rfl ?_
  try dsimp only [L2.cxOf, L2.Cx.nox]
  have hdF := hm.dig hd
  have hkF := hm.kind
  obtain ⟨dx, r, mp, ta, wa, la, ps, a, rfl⟩ := hm.ex
  have hp := a.at_
  obtain ⟨dm, hmp⟩ := a.mem.at_
  have hr6 : SqT K H r [.int s.pc, .int s.acc, .int s.x, .int s.mark, .int s.out, .int s.count] := a.regs
  walk_at "wp"
  all_goals rename_i hmark
  rotate_left
  · exact q _ (ExBy.refl _ _) (by rw [stepM_rest hmark]; exact hm)
  rw [stepM_go hmark] at q
  refine ⟨mp, dg, wa, la, ps, m, s.mem, s.pc, rfl, a.mem, ?_⟩
  rw [wordAt_pc ok]
  have hW := ok.at s.pc
  have hcount := ok.count
  generalize hword : s.at s.pc = word at *
  have hn0 : 0 ≤ word / 1024 := by have := hW.1; omega
  have hoth := other_in (word / 1024) (word % 1024) s.x
  walk_at "wp"
  refine ⟨r, word, s.pc, s.acc, s.x, s.mark, s.out, s.count, rfl, hr6, hW.1, hW.2, fun v H1 e1 hv => ?_⟩
  rw [data_math (a := word % 1024) hn0 (by omega)] at hv
  have hdI := ok.at (otherM (word / 1024) (word % 1024) s.x)
  have hwm := work_mem (m := m) (n := word / 1024) (a := word % 1024) ok.len
  have hsm := fun dv h => step_math (m := m) (word := word) (s := s) (dv := dv) hn0 ok.len rfl h hmark
  generalize hdd : s.at (otherM (word / 1024) (word % 1024) s.x) = d at hdI hsm
  generalize hod : dataL (word / 1024) (word % 1024) s.x = od at hv hwm hsm
  have hnone : od = none → ¬ (nm (word / 1024) = "back" ∨ nm (word / 1024) = "within" ∨ nm (word / 1024) ∈ sgs) := fun h => dataM_none (word := word) (x := s.x) (by rw [data_math (a := word % 1024) hn0 (by omega), hod, h])
  try refine Kit.m_norm (by simp only [List.set_cons_succ, List.set_cons_zero]; exact rfl) ?_
  refine m_cutN (fun σ' H' => ∃ dv, σ' = [some (.ref p), some (.int s.pc), some (.int s.acc), some (.int s.x), some (.int s.mark), some (.int s.out), some (.int s.count), some (.int word), some v, some dv, none] ∧ H1 = H' ∧ (od ≠ none → dv = .int d)) (fun N hN => ?_) ?_
  · rcases od with _ | ⟨k, b⟩
    · cases hv
      walk_at "wp"
      exact hN _ _ ⟨_, rfl, rfl, fun z => absurd rfl z⟩
    · obtain ⟨t, rfl, ft⟩ := hv
      obtain ⟨hk, hk0, hk1⟩ := dataL_in hod
      walk_at "wp"
      refine ⟨mp, dg, wa, la, ps, m, s.mem, k, rfl, a.mem.ex e1, ?_⟩
      rw [wordAt_in hk0 hk1, hk, hdd]
      walk_at "wp"
      exact hN _ _ ⟨_, rfl, rfl, fun _ => rfl⟩
  rintro σ' H1' ⟨dv, rfl, rfl, hdv⟩
  have hp1 := e1 _ _ hp
  have hsm := hsm dv hdv
  generalize hw2 : s.workM m (word / 1024) (word % 1024) = sr at q hwm hsm
  obtain ⟨s2, r2⟩ := sr
  walk_at "wp"
  refine ⟨dg, r, m, s.pc, s.acc, s.x, s.mark, s.out, s.count, word, d, dv, rfl, hd.ex e1, Evl.ex_t e1 hr6, hW.1, hW.2, ok.acc.1, ok.acc.2, ok.out, fun z => ⟨hdv (fun y => hnone y z), hdI.1, hdI.2⟩, fun t1 t2 H2 e2 g1 g2 => ?_⟩
  rw [hsm] at g1 g2
  have htp : ta ≠ p := by rintro rfl; rw [a.told] at hp; cases hp
  have htm : ∀ x ∈ mp :: wa :: la :: ps, x ∉ [ta] := fun x hx z => by
    rw [List.mem_singleton] at z
    subst z
    rcases List.mem_cons.mp hx with rfl | hx
    · rw [a.told] at hmp; cases hmp
    · exact a.nt hx
  have hpm : ∀ x ∈ mp :: wa :: la :: ps, x ∉ [p] := fun x hx z => by
    rw [List.mem_singleton] at z
    subst z
    rcases List.mem_cons.mp hx with rfl | hx
    · exact a.np rfl
    · rcases List.mem_cons.mp hx with rfl | hx
      · rw [a.mem.wds] at hp; cases hp
      · rcases List.mem_cons.mp hx with rfl | hx
        · rw [a.mem.lvl] at hp; cases hp
        · obtain ⟨ys, hy⟩ := a.mem.rows.mem hx; rw [hy] at hp; cases hp
  have E12 := e1.trans e2
  have hp2 := e2 _ _ hp1
  have g1 : H2 t1 = some (.tup (regsL s2 r2)) := g1
  have htold := work_told m (word / 1024) (word % 1024) s
  rw [hw2] at htold
  have htold : (s2.count = s.count ∧ s2.told = s.told) ∨ (s2.count = s.count + 1 ∧ s2.told = s.told ++ [s.acc]) := htold
  have htl := ok.told
  have hpn : p ∉ wa :: ps := fun z => hpm p (by
    rcases List.mem_cons.mp z with rfl | z
    · simp
    · simp [z]) (by simp)
  have htn : ta ∉ wa :: ps := fun z => a.nt (by
    rcases List.mem_cons.mp z with rfl | z
    · simp
    · simp [z])
  rcases hwm with ⟨k, rfl, hk0, hk1, hmem⟩ | ⟨hk, hmem⟩
  · obtain ⟨t, rfl, ft⟩ := hv
    have g2 : H2 t2 = some (.tup [.ref t1, .int (s2.at k)]) := g2
    have ft2 := e2 _ _ ft
    have hmem' : s2.mem = s.mem.set k.toNat (s2.at k) := hmem
    walk_at "wp"
    rename_i H3 m3 f3
    have mem3 : MemAt T.c_Memory.C H3 mp dg wa la ps m s.mem := (a.mem.ex E12).by (F := [p]) (ExBy.len1 m3 (by simp)) hpm
    refine MemAt.ins mem3 rfl ?_
    walk_at "wp"
    refine ⟨mp, dg, wa, la, ps, m, s.mem, k, s2.at k, rfl, mem3, (hd.ex E12).but m3 (fun z => hdF (by rw [z]; simp [ownF])), fun H4 b4 mem4 => ?_⟩
    rw [set256 hk0 hk1, ← hmem'] at mem4
    have hp4 := b4 _ _ hpn f3
    have t4 : SqT K H4 t1 (regsL s2 r2) := b4.tup (fun x hx => .inl (mem3.mem_lst x hx)) (tup_ins m3 hp2 (Evl.st_of g1))
    have ta4 : H4 ta = some (.lst (iv s.told)) := b4 _ _ htn (m3 _ _ htp (E12 _ _ a.told))
    have B4 : ExBy (ownF p mp ta wa la ps) H H4 := ((ExBy.of E12).trans (ExBy.len1 m3 (by simp [ownF]))).trans (b4.mono (fun x hx => by simp only [ownF, List.mem_cons] at hx ⊢; exact .inr (.inr (.inr (.inr hx)))))
    have t4' : SqT K H4 t1 [.int r2, .int s2.acc, .int s2.x, .int s2.mark, .int s2.out, .int s2.count] := t4
    walk_at "wp"
    all_goals rename_i hc
    · have hc : s.count < s2.count := hc
      have ht : s2.told = s.told ++ [s.acc] := by
        rcases htold with h | h
        · omega
        · exact h.2
      walk_at "wp"
      refine Kit.w_app ta4 (by rw [iv_len]; omega) fun H5 m5 f5 => ?_
      have b5 : ExBy (ownF p mp ta wa la ps) H4 H5 := ExBy.len1 m5 (by simp [ownF])
      walk_at "wp"
      refine q H5 (B4.trans b5) ⟨dx, t1, mp, ta, wa, la, ps, ⟨m5 _ _ htp.symm hp4, tup_stay m5 ta4 (fun _ z => nomatch z) (fun _ _ z => nomatch z) t4, mem4.by (F := [ta]) (ExBy.len1 m5 (by simp)) htm, ?_, a.nt, a.np⟩, rfl⟩
      show H5 ta = some (.lst (iv s2.told))
      rw [f5, ht]
      unfold iv
      rw [List.map_append]
      rfl
    · have hc : ¬ s.count < s2.count := hc
      have ht : s2.told = s.told := by
        rcases htold with h | h
        · exact h.2
        · omega
      refine q H4 B4 ⟨dx, t1, mp, ta, wa, la, ps, ⟨hp4, t4, mem4, ?_, a.nt, a.np⟩, rfl⟩
      show H4 ta = some (.lst (iv s2.told))
      rw [ht]
      exact ta4
  · rw [writL_non hk] at g2
    have hmem' : s2.mem = s.mem := hmem
    have g1' : H2 t1 = some (.tup [.int r2, .int s2.acc, .int s2.x, .int s2.mark, .int s2.out, .int s2.count]) := g1
    walk_at "wp"
    all_goals rename_i H4 m4 hp4 hc
    all_goals have mem4 : MemAt T.c_Memory.C H4 mp dg wa la ps m s2.mem := by rw [hmem']; exact (a.mem.ex E12).by (F := [p]) (ExBy.len1 m4 (by simp)) hpm
    all_goals have t4 : SqT K H4 t1 (regsL s2 r2) := tup_ins m4 hp2 (Evl.st_of g1)
    all_goals have ta4 : H4 ta = some (.lst (iv s.told)) := m4 _ _ htp (E12 _ _ a.told)
    all_goals have B4 : ExBy (ownF p mp ta wa la ps) H H4 := (ExBy.of E12).trans (ExBy.len1 m4 (by simp [ownF]))
    · have hc : s.count < s2.count := hc
      have ht : s2.told = s.told ++ [s.acc] := by
        rcases htold with h | h
        · omega
        · exact h.2
      walk_at "wp"
      refine Kit.w_app ta4 (by rw [iv_len]; omega) fun H5 m5 f5 => ?_
      have b5 : ExBy (ownF p mp ta wa la ps) H4 H5 := ExBy.len1 m5 (by simp [ownF])
      walk_at "wp"
      refine q H5 (B4.trans b5) ⟨dx, t1, mp, ta, wa, la, ps, ⟨m5 _ _ htp.symm hp4, tup_stay m5 ta4 (fun _ z => nomatch z) (fun _ _ z => nomatch z) t4, mem4.by (F := [ta]) (ExBy.len1 m5 (by simp)) htm, ?_, a.nt, a.np⟩, rfl⟩
      show H5 ta = some (.lst (iv s2.told))
      rw [f5, ht]
      unfold iv
      rw [List.map_append]
      rfl
    · have hc : ¬ s.count < s2.count := hc
      have ht : s2.told = s.told := by
        rcases htold with h | h
        · exact h.2
        · omega
      refine q H4 B4 ⟨dx, t1, mp, ta, wa, la, ps, ⟨hp4, t4, mem4, ?_, a.nt, a.np⟩, rfl⟩
      show H4 ta = some (.lst (iv s2.told))
      rw [ht]
      exact ta4

def sp_root_by (K : PySem.W.Frag) (C : Addr) : Sp := fun vs H Q _ => ∃ (p a : Addr) (m d : Int) (path : List Int) (pl : Nat), vs = [.ref p, .int pl, .int d, .ref a] ∧ DigN C H p m ∧ SqT K H a (iv path) ∧ AllDg m path ∧ Dg m d ∧ path.length ≤ 1000 ∧
  ∀ H', Evl.Ex H H' → Q (.int (KM.rootBy (foldI m) pl d path)) H'
theorem rootBy_dg {m : Int} (hm : 0 < m) : ∀ (path : List Int) (pl : Nat) (d : Int), Dg m d → Dg m (KM.rootBy (foldI m) pl d path)
  | [], _, _, h => h
  | x :: r, pl, d, h => rootBy_dg hm r _ _ (by split <;> exact fold_dg hm)
theorem rootBy_snoc (f : Int → Int → Int) : ∀ (path : List Int) (x : Int) (pl : Nat) (d : Int), KM.rootBy f pl d (path ++ [x]) = (if pl / 2 ^ path.length % 2 = 0 then f (KM.rootBy f pl d path) x else f x (KM.rootBy f pl d path))
  | [], x, pl, d => by simp [KM.rootBy]
  | y :: r, x, pl, d => by
    show KM.rootBy f (pl / 2) _ (r ++ [x]) = _
    rw [rootBy_snoc f r x (pl / 2), Nat.div_div_eq_div_mul, List.length_cons, KM.two_pow]
    rfl
theorem ok_root_by (T : Txt K mg) : FnOk P w K mg base CX0 3 T.f_root_by.f T.f_root_by.fd ["digests", "place", "digest", "path"] (sp_root_by K T.c_Digests.C) := by
  have G_Digests_fold := ok_Digests_fold (P := P) (w := w) (base := base) T
  refine T.f_root_by.F.ok sc_root_by (fun vs H Q E h => ?_) (fun cdv A outer s H vs Q E hr h => ?_)
  · obtain ⟨p, a, m, d, path, pl, rfl, hd, ha, hx, hdg, hl, q⟩ := h
    rfl
  obtain ⟨p, a, m, d, path, pl, rfl, hd, ha, hx, hdg, hl, q⟩ := h
  have nd := sc_root_by.nd
  have hr2 : Room 2 _ := hr.mono (by decide)
  refine Kit.ok_body (σ := [some _, some _, some _, some _, none, none]) ((pss_cons (ps_set (i := 4) nd rfl (Or.inl rfl) (pv 2))
    (pss_cons (ps_for PassesOwn.never rfl (Kit.kpTup K (pv 3)) (pg_name (i := 5) nd rfl (Or.inl rfl))
    (pss_cons (ps_if (pt_cmpR op_eq (pe_op op_mod (pv 1) pe_int) pe_int (nomark _))
    (pss_one (ps_set (i := 4) nd rfl (Or.inl rfl) (pe_meth (pv 0) T.c_Digests.cl T.m_Digests_fold G_Digests_fold hr2 T.f_Digests_fold.b .nil pass0 (pa_cons (pv 4) (pa_cons (pv 5) pa_nil)))))
    (pss_one (ps_set (i := 4) nd rfl (Or.inl rfl) (pe_meth (pv 0) T.c_Digests.cl T.m_Digests_fold G_Digests_fold hr2 T.f_Digests_fold.b .nil pass0 (pa_cons (pv 5) (pa_cons (pv 4) pa_nil))))))
    (pss_one (ps_set (i := 1) nd rfl (Or.inl rfl) (pe_op op_fdiv (pv 1) pe_int)))))
    (pss_one (ps_ret (pv 4)))))) rfl ?_
  try dsimp only [L2.cxOf, L2.Cx.nox]
  walk_at "wp"
  refine Kit.f_tup ha (fun i σ' H' => ∃ y5, σ' = [some (.ref p), some (.int ((pl / 2 ^ i : Nat) : Int)), some (.int d), some (.ref a), some (.int (KM.rootBy (foldI m) pl d (path.take i))), y5] ∧ Evl.Ex H H') ⟨none, by simp [KM.rootBy], Evl.Ex.refl _⟩ ?_ ?_ ?_
  · rintro i σ' H' _ ⟨y5, rfl, e⟩
    exact Evl.ex_t e ha
  · rintro i x σ' H' hix ⟨y5, rfl, e⟩
    have hi : i < path.length := by
      have := (List.getElem?_eq_some_iff.mp hix).1
      rw [iv_len] at this
      exact this
    have exi : x = .int path[i] := by
      unfold iv at hix
      rw [List.getElem?_map, List.getElem?_eq_getElem hi] at hix
      exact (Option.some.inj hix).symm
    subst exi
    have hz : ((pl / 2 ^ i : Nat) : Int) / 2 = ((pl / 2 ^ (i + 1) : Nat) : Int) := by
      rw [KM.two_pow, Nat.mul_comm, ← Nat.div_div_eq_div_mul]
      omega
    have hs := rootBy_snoc (foldI m) (path.take i) path[i] pl d
    rw [List.length_take, Nat.min_eq_left (Nat.le_of_lt hi), List.take_append_getElem hi] at hs
    have h1 : Dg m (KM.rootBy (foldI m) pl d (path.take i)) := rootBy_dg hd.pos _ _ _ hdg
    have h2 : Dg m path[i] := hx _ (List.getElem_mem hi)
    have hd2 := DigN.ex e hd
    show Kit.Sm _ _ _ _ _ _ _
    generalize hg : pl / 2 ^ i = z at *
    walk_at "wp"
    · rename_i hc
      rw [if_pos (by omega)] at hs
      refine use_fold hd2 h1 h2 fun H2 e2 => ?_
      walk_at "wp"
      exact ⟨_, by rw [hz, hs] <;> rfl, e.trans e2⟩
    · rename_i hc
      rw [if_neg (by omega)] at hs
      refine use_fold hd2 h2 h1 fun H2 e2 => ?_
      walk_at "wp"
      exact ⟨_, by rw [hz, hs] <;> rfl, e.trans e2⟩
  · rintro σ' H' ⟨y5, rfl, e⟩
    rw [iv_len, List.take_length]
    walk_at "wp"
    exact q _ e
theorem use_root_by {K : PySem.W.Frag} {C p a : Addr} {m d : Int} {path : List Int} (pl : Nat) {z : Int} {H : Hp} {Q : VK} {E : XK} (hd : DigN C H p m) (ha : SqT K H a (iv path)) (hx : AllDg m path) (hdg : Dg m d) (hl : path.length ≤ 1000) (ez : z = (pl : Int))
    (q : ∀ H', Evl.Ex H H' → Q (.int (KM.rootBy (foldI m) pl d path)) H') : sp_root_by K C [.ref p, .int z, .int d, .ref a] H Q E := by
  subst ez
  exact ⟨p, a, m, d, path, pl, rfl, hd, ha, hx, hdg, hl, q⟩

def sp_root_with (K : PySem.W.Frag) (C : Addr) : Sp := fun vs H Q _ => ∃ (p a : Addr) (m x : Int) (path : List Int) (pl : Nat), vs = [.ref p, .int pl, .int x, .ref a] ∧ DigN C H p m ∧ SqT K H a (iv path) ∧ AllDg m path ∧ path.length ≤ 1000 ∧
  ∀ H', Evl.Ex H H' → Q (.int (KM.rootBy (foldI m) pl (leafI m x) path)) H'
theorem ok_root_with (T : Txt K mg) : FnOk P w K mg base CX0 4 T.f_root_with.f T.f_root_with.fd ["digests", "place", "word", "path"] (sp_root_with K T.c_Digests.C) := by
  have G_Digests_leaf := ok_Digests_leaf (P := P) (w := w) (base := base) T
  have G_root_by := ok_root_by (P := P) (w := w) (base := base) T
  refine T.f_root_with.F.ok sc_root_with (fun vs H Q E h => ?_) (fun cdv A outer s H vs Q E hr h => ?_)
  · obtain ⟨p, a, m, x, path, pl, rfl, hd, ha, hx, hl, q⟩ := h
    rfl
  obtain ⟨p, a, m, x, path, pl, rfl, hd, ha, hx, hl, q⟩ := h
  have nd := sc_root_with.nd
  have hr2 : Room 2 _ := hr.mono (by decide)
  have hr3 : Room 3 _ := hr.mono (by decide)
  refine Kit.ok_body (σ := [some _, some _, some _, some _]) ((pss_one (ps_ret (pe_call G_root_by hr3 (by rfl) T.f_root_by.g T.f_root_by.F.kp T.f_root_by.b .nil pass0 (pa_cons (pv 0) (pa_cons (pv 1) (pa_cons (pe_meth (pv 0) T.c_Digests.cl T.m_Digests_leaf G_Digests_leaf hr2 T.f_Digests_leaf.b .nil pass0 (pa_cons (pv 2) pa_nil)) (pa_cons (pv 3) pa_nil)))))))) rfl ?_
  try dsimp only [L2.cxOf, L2.Cx.nox]
  walk_at "wp"
  refine use_leaf hd fun H1 e1 => ?_
  walk_at "wp"
  refine use_root_by pl (hd.ex e1) (Evl.ex_t e1 ha) hx (leaf_dg hd.pos) hl rfl fun H2 e2 => ?_
  walk_at "wp"
  exact q _ (e1.trans e2)
theorem use_root_with {K : PySem.W.Frag} {C p a : Addr} {m x k : Int} {path : List Int} {H : Hp} {Q : VK} {E : XK} (hd : DigN C H p m) (ha : SqT K H a (iv path)) (hx : AllDg m path) (hl : path.length ≤ 1000) (k0 : 0 ≤ k)
    (q : ∀ H', Evl.Ex H H' → Q (.int (KM.rootBy (foldI m) k.toNat (leafI m x) path)) H') : sp_root_with K C [.ref p, .int k, .int x, .ref a] H Q E :=
  ⟨p, a, m, x, path, k.toNat, by rw [Int.toNat_of_nonneg k0], hd, ha, hx, hl, q⟩
theorem none_back {H H' : Hp} {p : Addr} (e : Evl.Ex H H') (h : H' p = none) : H p = none := by
  cases hh : H p with
  | none => rfl
  | some o => rw [e _ _ hh] at h; cases h
def placesV (pc : Int) : Option (Int × Bool) → List V
  | none => [.int pc]
  | some (z, _) => [.int pc, .int z]
def sp_places_of (K : PySem.W.Frag) : Sp := fun vs H Q _ => ∃ (r : Addr) (word pc acc x mark out count : Int), vs = [.ref r, .int word] ∧ SqT K H r [.int pc, .int acc, .int x, .int mark, .int out, .int count] ∧ 0 ≤ word ∧ word < 65536 ∧
  ∀ p H', H p = none → Evl.Ex H H' → H' p = some (.lst (placesV pc (dataM (nm (word / 1024)) word x))) → Q (.ref p) H'
theorem ok_places_of (T : Txt K mg) : FnOk P w K mg base CX0 3 T.f_places_of.f T.f_places_of.fd ["registers", "word"] (sp_places_of K) := by
  have G_data_of := ok_data_of (P := P) (w := w) (base := base) T
  refine T.f_places_of.F.ok sc_places_of (fun vs H Q E h => ?_) (fun cdv A outer s H vs Q E hr h => ?_)
  · obtain ⟨r, word, pc, acc, x, mark, out, count, rfl, hr6, h0, h1, q⟩ := h
    rfl
  obtain ⟨r, word, pc, acc, x, mark, out, count, rfl, hr6, h0, h1, q⟩ := h
  have nd := sc_places_of.nd
  have hr2 : Room 2 _ := hr.mono (by decide)
  refine Kit.ok_body (σ := [some _, some _, none]) ((pss_cons (ps_set (i := 2) nd rfl (Or.inl rfl) (pe_call G_data_of hr2 (by rfl) T.f_data_of.g T.f_data_of.F.kp T.f_data_of.b .nil pass0 (pa_cons (pv 0) (pa_cons (pv 1) pa_nil))))
    (pss_one (ps_ret (pe_ifExp (pt_cmpR Kit.k_isN (pv 2) pe_non (nomark _)) (pe_lst (pa_cons (pe_ix (Kit.ixT K) (pv 0) pe_int (fun _ _ => rfl)) pa_nil)) (pe_lst (pa_cons (pe_ix (Kit.ixT K) (pv 0) pe_int (fun _ _ => rfl)) (pa_cons (pe_ix (Kit.ixT K) (pv 2) pe_int (fun _ _ => rfl)) pa_nil)))))))) rfl ?_
  walk_at "wp"
  refine ⟨r, word, pc, acc, x, mark, out, count, rfl, hr6, h0, h1, fun v H1 e1 hv => ?_⟩
  rcases hdm : dataM (nm (word / 1024)) word x with _ | ⟨z, b⟩
  · rw [hdm] at hv q
    cases hv
    walk_at "wp"
    exact q _ _ (none_back e1 ‹_›) (e1.trans ‹_›) ‹_›
  · rw [hdm] at hv q
    obtain ⟨t, rfl, ht⟩ := hv
    walk_at "wp"
    exact q _ _ (none_back e1 ‹_›) (e1.trans ‹_›) ‹_›

/-! ### zip of a list with a tuple: what the hand layer has for two lists and for two tuples -/
structure ZipM (h : Heap) (z TI TO i1 i2 l1 l2 : Addr) (k : Nat) : Prop where
  apart : ZipApart z TI TO i1 i2 l1 l2
  zip : IsZip h z TI TO .none
  its : IsPair h TI (.ref i1) (.ref i2)
  old : ∃ a b, IsPair h TO a b
  one : h.IsListIter i1 l1 k
  two : h.IsTupleIter i2 l2 k
section
variable {prog : Program} {w : World} {A : Around} {E : Value → Shared → Prop} {s : Shared} {z TI TO i1 i2 l1 l2 : Addr} {k : Nat} {xs ys : Array Value}
abbrev Rest (z TO i1 i2 : Addr) (h h' : Heap) : Prop := ∀ c o, c ≠ z → c ≠ TO → c ≠ i1 → c ≠ i2 → h.get? c = some o → h'.get? c = some o
theorem zm_item {x y : Value} {Q : Value → Shared → Prop} (Z : ZipM s.heap z TI TO i1 i2 l1 l2 k) (hl1 : s.heap.IsList l1 xs) (hl2 : s.heap.IsTuple l2 ys) (hx : xs[k]? = some x) (hy : ys[k]? = some y)
    (go : ∀ h', IsZip h' z TI TO (rawInt s.heap.objs.size) → IsPair h' TO x y → h'.IsListIter i1 l1 (k + 1) → h'.IsTupleIter i2 l2 (k + 1) → IsPair h' s.heap.objs.size x y → Rest z TO i1 i2 s.heap h' → Q (.ref s.heap.objs.size) { s with heap := h' }) :
    wpAny (model prog w) A (Builtin.«zip.__next__» ⟨[.ref z], []⟩) (fun fin s' => ∃ v, fin = .done (.ret v) ∧ Q v s') E s := by
  obtain ⟨D, Z1, Z2, ⟨a, b, Z3⟩, Z4, Z5⟩ := Z
  show wpAny _ _ (field (.ref z) 2 >>= fun _ => _) _ _ _
  refine wpAny_bind (wpAny_field Z1 rfl (x := .bool false) rfl ?_)
  show wpAny _ _ (field (.ref z) 3 >>= fun _ => _) _ _ _
  refine wpAny_bind (wpAny_field Z1 rfl (x := .ref TI) rfl (wpAny_bind (wpAny_seqItems Z2 rfl ?_)))
  show wpAny _ _ (Builtin.SmallTypes.ownedTupleIsFree (.ref z) >>= fun _ => _) _ _ _
  unfold Builtin.SmallTypes.ownedTupleIsFree
  refine wpAny_bind (wpAny_bind (wpAny_field Z1 rfl (x := .none) rfl (wpAny_pure ?_)))
  simp only [if_true]
  refine wpAny_bind (wpAny_rule (wpAny_bind (wpAny_field Z1 rfl (x := .ref TO) rfl ?_)))
  refine wpAny_bind (wpAny_setField_rec Z1 (by simp) fun ha za ka => wpAny_bind ?_)
  have za : IsZip ha z TI TO .ellipsis := za
  have kA := ka.extBut
  simp only [List.zipIdx_cons, List.zipIdx_nil, List.forIn_cons, List.forIn_nil]
  refine wpAny_bind (wpAny_bind (wpAny_onRaise ?_))
  show wpAny _ _ (Builtin.SmallTypes.nextOf (.ref i1) >>= fun _ => _) _ _ _
  refine wpAny_bind (wpAny_nextOf_list_item (Z4.extBut kA D.i1z) (hl1.extBut kA D.l1z) hx fun hb ib kb => wpAny_pure ?_)
  have kB := kb.extBut
  have tb : IsPair hb TO a b := kB _ _ D.TOi1 (kA _ _ D.TOz Z3)
  refine wpAny_bind (wpAny_seqItems tb rfl (wpAny_bind (wpAny_updateSeq_pair tb fun hc tc kc => ?_)))
  have tc : IsPair hc TO x b := tc
  have kC := kc.extBut
  refine wpAny_bind (wpAny_letGo (wpAny_pure (wpAny_bind (wpAny_bind (wpAny_onRaise ?_)))))
  show wpAny _ _ (Builtin.SmallTypes.nextOf (.ref i2) >>= fun _ => _) _ _ _
  have jc : hc.IsTupleIter i2 l2 k := ((Z5.extBut kA D.i2z).extBut kB D.i12.symm).extBut kC D.TOi2.symm
  have lc : hc.IsTuple l2 ys := ((hl2.extBut kA D.l2z).extBut kB D.l2i1).extBut kC D.l2TO
  refine wpAny_bind (RZ.nextOf_tuple_item jc lc hy fun hd jd kd => wpAny_pure ?_)
  have kD := kd.extBut
  have td : IsPair hd TO x b := kD _ _ D.TOi2 tc
  refine wpAny_bind (wpAny_seqItems td rfl (wpAny_bind (wpAny_updateSeq_pair td fun he te ke => ?_)))
  have te : IsPair he TO x y := te
  have kE := ke.extBut
  refine wpAny_bind (wpAny_letGo (wpAny_pure (wpAny_pure (wpAny_bind (wpAny_seqItems te rfl (wpAny_bind (wpAny_newTuple ?_)))))))
  have size : he.objs.size = s.heap.objs.size := ke.1.trans (kd.1.trans (kc.1.trans (kb.1.trans ka.1)))
  have ze : IsZip he z TI TO .ellipsis := kE _ _ D.TOz.symm (kD _ _ D.i2z.symm (kC _ _ D.TOz.symm (kB _ _ D.i1z.symm za)))
  have rest : Rest z TO i1 i2 s.heap he := fun c o n1 n2 n3 n4 q => kE _ _ n2 (kD _ _ n4 (kC _ _ n2 (kB _ _ n3 (kA _ _ n1 q))))
  have ie : he.IsListIter i1 l1 (k + 1) := ((ib.extBut kC D.TOi1.symm).extBut kD D.i12).extBut kE D.TOi1.symm
  have je : he.IsTupleIter i2 l2 (k + 1) := jd.extBut kE D.TOi2.symm
  have zlt : z < he.objs.size := Heap.lt_size ze
  show wpAny _ _ (Builtin.SmallTypes.ownedTupleHandOut (.ref z) (.ref he.objs.size) >>= fun _ => _) _ _ _
  unfold Builtin.SmallTypes.ownedTupleHandOut
  have zf : IsZip (he.push { cls := .type "tuple", data := .seq #[x, y] }) z TI TO .ellipsis := Heap.get?_push_of_some _ ze
  refine wpAny_bind (wpAny_bind (wpAny_setField_rec zf (by simp) fun hg zg kg => ?_))
  have zg : IsZip hg z TI TO (rawInt he.objs.size) := zg
  refine wpAny_setField_rec zg (by simp) fun hh zh kh => wpAny_pure ⟨_, rfl, ?_⟩
  have zh : IsZip hh z TI TO (rawInt he.objs.size) := zh
  have up : ∀ c o, c ≠ z → he.get? c = some o → hh.get? c = some o := fun c o n q => kh.extBut _ _ n (kg.extBut _ _ n (Heap.get?_push_of_some _ q))
  have th : IsPair hh he.objs.size x y := kh.extBut _ _ (Nat.ne_of_gt zlt) (kg.extBut _ _ (Nat.ne_of_gt zlt) (Heap.get?_push_size _ rfl))
  show Q (.ref he.objs.size) _
  rw [size] at zh th ⊢
  exact go hh zh (up _ _ D.TOz te) (ie.at fun o q => up _ o D.i1z q) (je.at fun o q => up _ o D.i2z q) th fun c o n1 n2 n3 n4 q => up c o n1 (rest c o n1 n2 n3 n4 q)
theorem zm_end {Q : Fin → Shared → Prop} (free : A.handled = none) (Z : ZipM s.heap z TI TO i1 i2 l1 l2 k) (hl1 : s.heap.IsList l1 xs) (hl2 : s.heap.IsTuple l2 ys) (stop : xs[k]? = none ∨ ys[k]? = none)
    (out : ∀ h' e, Rest z TO i1 i2 s.heap h' → (∃ o, h'.get? e = some o ∧ o.cls = .type "StopIteration") → E (.ref e) { s with heap := h' }) :
    wpAny (model prog w) A (Builtin.«zip.__next__» ⟨[.ref z], []⟩) Q E s := by
  obtain ⟨D, Z1, Z2, ⟨a, b, Z3⟩, Z4, Z5⟩ := Z
  show wpAny _ _ (field (.ref z) 2 >>= fun _ => _) _ _ _
  refine wpAny_bind (wpAny_field Z1 rfl (x := .bool false) rfl ?_)
  show wpAny _ _ (field (.ref z) 3 >>= fun _ => _) _ _ _
  refine wpAny_bind (wpAny_field Z1 rfl (x := .ref TI) rfl (wpAny_bind (wpAny_seqItems Z2 rfl ?_)))
  show wpAny _ _ (Builtin.SmallTypes.ownedTupleIsFree (.ref z) >>= fun _ => _) _ _ _
  unfold Builtin.SmallTypes.ownedTupleIsFree
  refine wpAny_bind (wpAny_bind (wpAny_field Z1 rfl (x := .none) rfl (wpAny_pure ?_)))
  simp only [if_true]
  refine wpAny_bind (wpAny_rule (wpAny_bind (wpAny_field Z1 rfl (x := .ref TO) rfl ?_)))
  refine wpAny_bind (wpAny_setField_rec Z1 (by simp) fun ha za ka => wpAny_bind ?_)
  have za : IsZip ha z TI TO .ellipsis := za
  have kA := ka.extBut
  have noZip : ∀ {h : Heap} {e : Addr} {o : Obj}, IsZip h z TI TO .ellipsis → h.get? e = some o → o.cls = .type "StopIteration" → e ≠ z := fun q1 q2 q3 q4 => by
    rw [q4, q1] at q2
    cases q2
    simp at q3
  simp only [List.zipIdx_cons, List.zipIdx_nil, List.forIn_cons, List.forIn_nil]
  refine wpAny_bind (wpAny_bind (wpAny_onRaise ?_))
  show wpAny _ _ (Builtin.SmallTypes.nextOf (.ref i1) >>= fun _ => _) _ _ _
  have ia := Z4.extBut kA D.i1z
  have la := hl1.extBut kA D.l1z
  rcases hx : xs[k]? with _ | x
  · refine wpAny_bind (wpAny_nextOf_list_end free ia la hx fun hb e kb ⟨o, ho, hc⟩ => ?_)
    have zb : IsZip hb z TI TO .ellipsis := kb _ _ D.i1z.symm za
    exact wpAny_setField_rec zb (by simp) fun hd _ kd => out hd e (fun c q n1 _ n3 _ y => kd.extBut _ _ n1 (kb _ _ n3 (kA _ _ n1 y))) ⟨o, kd.extBut _ _ (noZip zb ho hc) ho, hc⟩
  · have hy : ys[k]? = none := stop.resolve_left (by rw [hx]; exact fun q => nomatch q)
    refine wpAny_bind (wpAny_nextOf_list_item ia la hx fun hb ib kb => wpAny_pure ?_)
    have kB := kb.extBut
    have tb : IsPair hb TO a b := kB _ _ D.TOi1 (kA _ _ D.TOz Z3)
    refine wpAny_bind (wpAny_seqItems tb rfl (wpAny_bind (wpAny_updateSeq_pair tb fun hc tc kc => ?_)))
    have kC := kc.extBut
    refine wpAny_bind (wpAny_letGo (wpAny_pure (wpAny_bind (wpAny_bind (wpAny_onRaise ?_)))))
    show wpAny _ _ (Builtin.SmallTypes.nextOf (.ref i2) >>= fun _ => _) _ _ _
    have jc : hc.IsTupleIter i2 l2 k := ((Z5.extBut kA D.i2z).extBut kB D.i12.symm).extBut kC D.TOi2.symm
    have lc : hc.IsTuple l2 ys := ((hl2.extBut kA D.l2z).extBut kB D.l2i1).extBut kC D.l2TO
    refine wpAny_bind (RZ.nextOf_tuple_end free jc lc hy fun hd e kd ⟨o, ho, hq⟩ => ?_)
    have zd : IsZip hd z TI TO .ellipsis := kd _ _ D.i2z.symm (kC _ _ D.TOz.symm (kB _ _ D.i1z.symm za))
    exact wpAny_setField_rec zd (by simp) fun hf _ kf => out hf e (fun c q n1 n2 n3 n4 y => kf.extBut _ _ n1 (kd _ _ n4 (kC _ _ n2 (kB _ _ n3 (kA _ _ n1 y))))) ⟨o, kf.extBut _ _ (noZip zd ho hq) ho, hq⟩
theorem zm_next {x y : Value} {Q : Option Value → Shared → Prop} (Z : ZipM s.heap z TI TO i1 i2 l1 l2 k) (hl1 : s.heap.IsList l1 xs) (hl2 : s.heap.IsTuple l2 ys) (hx : xs[k]? = some x) (hy : ys[k]? = some y)
    (go : ∀ h', IsZip h' z TI TO (rawInt s.heap.objs.size) → IsPair h' TO x y → h'.IsListIter i1 l1 (k + 1) → h'.IsTupleIter i2 l2 (k + 1) → IsPair h' s.heap.objs.size x y → Rest z TO i1 i2 s.heap h' → Q (some (.ref s.heap.objs.size)) { s with heap := h' }) :
    wpAny (model prog w) A (pyNext (.ref z)) Q E s := by
  have ty : s.TypeIs (.ref z) "zip" := ⟨_, Z.zip, rfl⟩
  unfold pyNext
  refine wpAny_bind (wpAny_attempt (wpAny_callSpecial?_slot (name := Str.ofString "__next__") ty F.slot_zip_next ?_))
  exact wpAny_call_entry F.slot_zip_next ty F.entry_zip_next (zm_item Z hl1 hl2 hx hy fun h' q1 q2 q3 q4 q5 q6 => wpAny_pure (go h' q1 q2 q3 q4 q5 q6)) (F.args_zip_next_1 _)
theorem zm_over {Q : Option Value → Shared → Prop} (free : A.handled = none) (Z : ZipM s.heap z TI TO i1 i2 l1 l2 k) (hl1 : s.heap.IsList l1 xs) (hl2 : s.heap.IsTuple l2 ys) (stop : xs[k]? = none ∨ ys[k]? = none)
    (go : ∀ h', Rest z TO i1 i2 s.heap h' → Q none { s with heap := h' }) : wpAny (model prog w) A (pyNext (.ref z)) Q E s := by
  have ty : s.TypeIs (.ref z) "zip" := ⟨_, Z.zip, rfl⟩
  unfold pyNext
  refine wpAny_bind (wpAny_attempt (wpAny_callSpecial?_slot (name := Str.ofString "__next__") ty F.slot_zip_next ?_))
  refine wpAny_call_entry F.slot_zip_next ty F.entry_zip_next (zm_end free Z hl1 hl2 stop fun h' e q ⟨o, ho, hc⟩ => ?_) (F.args_zip_next_1 _)
  exact wpAny_bind (wpAny_isInstance (T := "StopIteration") (b := true) ⟨o, ho, hc⟩ isSubtype_stop (wpAny_pure (go _ q)))
end
/-! a new one: its five objects, one after the other -/
abbrev zmA (h : Heap) (p : Addr) : Heap := h.push ⟨.type "list_iterator", none, .fields #[.ref p, .int 0 0], #[]⟩
abbrev zmB (h : Heap) (p q : Addr) : Heap := (zmA h p).push ⟨.type "tuple_iterator", none, .fields #[.ref q, .int 0 0], #[]⟩
abbrev zmC (h : Heap) (p q : Addr) : Heap := (zmB h p q).push ⟨.type "tuple", none, .seq #[.ref h.objs.size, .ref (zmA h p).objs.size], #[]⟩
abbrev zmD (h : Heap) (p q : Addr) : Heap := (zmC h p q).push ⟨.type "tuple", none, .seq #[.none, .none], #[]⟩
abbrev zmE (h : Heap) (p q : Addr) : Heap := (zmD h p q).push ⟨.type "zip", none, .fields #[.none, .bool false, .bool false, .ref (zmB h p q).objs.size, .ref (zmC h p q).objs.size], #[]⟩
theorem zm_new (p q : Addr) (xs ys : Array Value) : Meets (Builtin.«zip.__new__» ⟨[.type "zip", .ref p, .ref q], []⟩) fun _ R s => s.heap.IsList p xs ∧ s.heap.IsTuple q ys ∧ R (.ok (.ret (.ref (zmD s.heap p q).objs.size))) { s with heap := zmE s.heap p q } :=
  .of_wp fun prog w A R st hh => by
    obtain ⟨h0, g0, r0, t0, o0⟩ := st
    obtain ⟨q1, q2, q3⟩ := hh
    have sub := sub_zip
    have L1 : Heap.IsList (Shared.heap ⟨h0, g0, r0, t0, o0⟩) p xs := q1
    have L2 : Heap.IsTuple (Shared.heap ⟨zmA h0 p, g0, r0, t0, o0⟩) q ys := Heap.IsTuple.push q2 _
    wp_walk using wpAny_pyIter_list L1, wpAny_pyIter_tuple L2
    exact ⟨_, rfl, q3⟩
section
variable {prog : Program} {w : World} {A : Around} {E : Value → Shared → Prop} {s : Shared}
theorem zm_call {p q : Addr} {xs ys : Array Value} {Q : Value → Shared → Prop} (hp : s.heap.IsList p xs) (hq : s.heap.IsTuple q ys)
    (go : ∀ h', ZipM h' (s.heap.objs.size + 4) (s.heap.objs.size + 2) (s.heap.objs.size + 3) s.heap.objs.size (s.heap.objs.size + 1) p q 0 → (∀ c o, s.heap.get? c = some o → h'.get? c = some o) → Q (.ref (s.heap.objs.size + 4)) { s with heap := h' }) :
    wpAny (model prog w) A (call (.type "zip") [.ref p, .ref q]) Q E s := by
  refine callType_new F.called_zip (by decide) (F.typeCall_zip_2 _ _) (F.newCall_zip_2 _ _) (fun obj => F.args_object_init_3 obj _ _) F.entry_zip_new (zm_new p q xs ys) ⟨hp, hq, ?_⟩
  have sA : (zmA s.heap p).objs.size = s.heap.objs.size + 1 := Heap.size_push ..
  have sB : (zmB s.heap p q).objs.size = s.heap.objs.size + 2 := (Heap.size_push ..).trans (by rw [sA])
  have sC : (zmC s.heap p q).objs.size = s.heap.objs.size + 3 := (Heap.size_push ..).trans (by rw [sB])
  have sD : (zmD s.heap p q).objs.size = s.heap.objs.size + 4 := (Heap.size_push ..).trans (by rw [sC])
  have eE : (zmE s.heap p q).get? (zmD s.heap p q).objs.size = some _ := Heap.get?_push_size _ rfl
  have eD : (zmE s.heap p q).get? (zmC s.heap p q).objs.size = some _ := Heap.get?_push_of_some _ (Heap.get?_push_size _ rfl)
  have eC : (zmE s.heap p q).get? (zmB s.heap p q).objs.size = some _ := Heap.get?_push_of_some _ (Heap.get?_push_of_some _ (Heap.get?_push_size _ rfl))
  have eB : (zmE s.heap p q).get? (zmA s.heap p).objs.size = some _ := Heap.get?_push_of_some _ (Heap.get?_push_of_some _ (Heap.get?_push_of_some _ (Heap.get?_push_size _ rfl)))
  have up : ∀ c o, s.heap.get? c = some o → (zmE s.heap p q).get? c = some o := fun c o x => Heap.get?_push_of_some _ (Heap.get?_push_of_some _ (Heap.get?_push_of_some _ (Heap.get?_push_of_some _ (Heap.get?_push_of_some _ x))))
  have eA : (zmE s.heap p q).get? s.heap.objs.size = some _ := Heap.get?_push_of_some _ (Heap.get?_push_of_some _ (Heap.get?_push_of_some _ (Heap.get?_push_of_some _ (Heap.get?_push_size _ rfl))))
  have lp : p < s.heap.objs.size := by obtain ⟨o, ho, _⟩ := hp; exact Heap.lt_size ho
  have lq : q < s.heap.objs.size := by obtain ⟨o, ho, _⟩ := hq; exact Heap.lt_size ho
  rw [sB, sC, sD] at eE
  rw [sC] at eD
  rw [sA, sB] at eC
  rw [sA] at eB
  show _ ∧ _
  rw [sD]
  exact ⟨⟨_, eE, rfl⟩, go _ ⟨PySem.W.ktu_apart s.heap.objs.size p q lp lq, eE, eC, ⟨_, _, eD⟩, ⟨_, eA, rfl, rfl⟩, ⟨_, eB, rfl, rfl⟩⟩ up⟩
end
/-! the iterator, and the loop -/
def ItzM (K : PySem.W.Frag) (a b : Addr) : It where
  go := fun i H => ∃ (xs ys : List V) (x y : V), SqL K H a xs ∧ SqT K H b ys ∧ xs[i]? = some x ∧ ys[i]? = some y
  yld := fun i H v H' => ∃ t x y, v = .ref t ∧ H t = none ∧ H' = upd H t (.tup [x, y]) ∧ (∀ xs, SqL K H a xs → xs[i]? = some x) ∧ ∀ ys, SqT K H b ys → ys[i]? = some y
  stop := fun i H => ∃ xs ys : List V, SqL K H a xs ∧ SqT K H b ys ∧ (xs.length ≤ i ∨ ys.length ≤ i)
theorem turn_zipM {P : Program} {w : World} {K : PySem.W.Frag} {elts : List Expr} {kk : Nat} {tpos : Pos} {a b z TI TO i1 i2 : Addr} : L2.Turn P w K (.Tuple elts kk tpos) (ItzM K a b) [z, TI, TO, i1, i2] z (fun i h => ZipM h z TI TO i1 i2 a b i) where
  mem := by simp
  obj := fun i h st c hc => by
    obtain ⟨_, q1, q2, ⟨_, _, q3⟩, ⟨o1, e1, _, d1⟩, ⟨o2, e2, _, d2⟩⟩ := st
    simp only [List.mem_cons, List.not_mem_nil, or_false] at hc
    rcases hc with rfl | rfl | rfl | rfl | rfl
    · exact ⟨_, q1, fun v q => nomatch q⟩
    · exact ⟨_, q2, fun v q => nomatch q⟩
    · exact ⟨_, q3, fun v q => nomatch q⟩
    · exact ⟨o1, e1, fun v q => by rw [d1] at q; cases q⟩
    · exact ⟨o2, e2, fun v q => by rw [d2] at q; cases q⟩
  keep := fun i h h' st k => by
    obtain ⟨q0, q1, q2, ⟨x, y, q3⟩, q4, q5⟩ := st
    exact ⟨q0, k z (by simp) _ q1, k TI (by simp) _ q2, ⟨x, y, k TO (by simp) _ q3⟩, q4.at fun o q => k i1 (by simp) o q, q5.at fun o q => k i2 (by simp) o q⟩
  item := by
    intro X hP hw hK hc i pins s σ H E I hf st hg
    subst hP hw hK
    obtain ⟨xs, ys, x, y, hqx, hqy, hx, hy⟩ := hg
    obtain ⟨its, rv, p1, _⟩ := I.list hqx
    obtain ⟨its2, rv2, p2, _⟩ := I.tuple hqy
    obtain ⟨u1, hu1, ru1⟩ := rv.get hx
    obtain ⟨u2, hu2, ru2⟩ := rv2.get hy
    have D := st.apart
    have lz : z < s.heap.objs.size := Heap.lt_size st.zip
    refine zm_next st p1.isList p2 (x := u1) (y := u2) (by simpa using hu1) (by simpa using hu2) fun g1 y1 y2 y3 y4 y5 keep => ⟨_, rfl, ?_⟩
    refine wpAny_letOwnedTupleGo_zip (s := { s with heap := g1 }) y1 fun g2 yz same => ?_
    have nt : g2.get? s.heap.objs.size = some { cls := .type "tuple", data := .seq #[u1, u2] } := (same.2 _ (Nat.ne_of_gt lz)).trans y5
    have ok : ObjOk X.prog X.w (upd H s.heap.objs.size (.tup [x, y])) g2 s.heap.objs.size (.tup [x, y]) := ⟨by show 2 ≤ sizeLine; decide, [u1, u2], .cons ru1 (.cons ru2 .nil), _, nt, rfl, _, rfl⟩
    have I1 := I.turnedNew (t' := s.toks) (ch := [z, TI, TO, i1, i2]) (fun c o nb q => (same.2 c fun e => nb (by simp [e])).trans (keep c o (fun e => nb (by simp [e])) (fun e => nb (by simp [e])) (fun e => nb (by simp [e])) (fun e => nb (by simp [e])) q)) hf (Nat.le_refl _) ok
    refine ⟨.ref s.heap.objs.size, _, I1, rfl, ⟨_, x, y, rfl, I.hok.fresh (Nat.le_refl _), rfl, fun l hl => by rw [I.list_inj hl hqx]; exact hx, fun l hl => by rw [I.tuple_inj hl hqy]; exact hy⟩, ⟨D, yz, ?_, ⟨u1, u2, (same.2 _ D.TOz).trans y2⟩, y3.at fun o q => (same.2 _ D.i1z).trans q, y4.at fun o q => (same.2 _ D.i2z).trans q⟩, fun c hcm => ?_⟩
    · exact (same.2 _ D.TIz).trans (keep _ _ D.TIz D.TITO D.TIi1 D.TIi2 st.its)
    · have lc : c < s.heap.objs.size := by
        obtain ⟨_, q1, q2, ⟨_, _, q3⟩, ⟨_, q4, _⟩, ⟨_, q5, _⟩⟩ := st
        simp only [List.mem_cons, List.not_mem_nil, or_false] at hcm
        rcases hcm with rfl | rfl | rfl | rfl | rfl
        · exact lz
        · exact Heap.lt_size q2
        · exact Heap.lt_size q3
        · exact Heap.lt_size q4
        · exact Heap.lt_size q5
      rw [upd_ne (Nat.ne_of_lt lc)]
      exact (hf c hcm).1
  done := by
    intro X hP hw hK hc i pins s σ H E I hf st hg
    subst hP hw hK
    obtain ⟨xs, ys, hqx, hqy, hend⟩ := hg
    obtain ⟨its, rv, p1, _⟩ := I.list hqx
    obtain ⟨its2, rv2, p2, _⟩ := I.tuple hqy
    have e1 := rv.length
    have e2 := rv2.length
    have stop : its.toArray[i]? = none ∨ its2.toArray[i]? = none := hend.imp (fun q => by simp; omega) fun q => by simp; omega
    exact zm_over (I.ok.hd hc) st p1.isList p2 stop fun h' keep => ⟨rfl, I.turnedL (t' := s.toks) (ch := [z, TI, TO, i1, i2]) (fun c o nb q => keep c o (fun e => nb (by simp [e])) (fun e => nb (by simp [e])) (fun e => nb (by simp [e])) (fun e => nb (by simp [e])) q) hf⟩
  self := fun A i s Q E st h => wpAny_pyIter_zip st.zip h
def iZipM (K : PySem.W.Frag) (ta : TA) : TI := fun σ H R => ta σ H fun vs H1 => ∃ a b xs ys, vs = [.ref a, .ref b] ∧ SqL K H1 a xs ∧ SqT K H1 b ys ∧ R (ItzM K a b) H1
theorem pi_zipM (K : PySem.W.Frag) {X : Cx} {e e2 : Expr} {ta : TA} {p pos tpos : Pos} {elts : List Expr} {kk : Nat} (hg : Gl X "zip") (hm : X.mg "zip" = none) (ha : PA X [e, e2] ta)
    (hs : starEach [e, e2] X.env = (false, eval e X.env) :: starEach [e2] X.env := by rfl) (hpl : (backTo pos (starEach [e2] X.env)).any (·.1) = false := by rfl) (hK : X.K = K := by rfl) :
    PI X (.Tuple elts kk tpos) (.Call (.Name "zip" p) [e, e2] [] pos) (iZipM K ta) := by
  subst hK
  refine ⟨fun pins s σ H R I h => Call_ (ld_blt I hg hm PyProof.Rows.boot_zip (PyProof.Rows.callWith_type1 (thn (ha.run pos pins s σ H _ I h) fun us s1 ⟨vs, H1, I1, r1, a, b, xs, ys, ex, hqx, hqy, q⟩ => ?_) hs hpl))⟩
  subst ex
  rcases r1 with _ | ⟨r, _ | ⟨r', rr⟩⟩
  cases rr
  cases r
  cases r'
  obtain ⟨its, rv, p1, _⟩ := I1.list hqx
  obtain ⟨its2, rv2, p2, _⟩ := I1.tuple hqy
  refine zm_call p1.isList (show s1.heap.IsTuple b its2.toArray from p2) fun h' st up => wpAny_pyIter_zip st.zip ?_
  have I2 : L2.Inv X pins σ H1 { s1 with heap := h' } := I1.kept (t' := s1.toks) up
  refine ⟨s1.heap.objs.size + 4, [s1.heap.objs.size + 4, s1.heap.objs.size + 2, s1.heap.objs.size + 3, s1.heap.objs.size, s1.heap.objs.size + 1], _, _, H1, rfl, I2, turn_zipM, st, fun c hcm => ?_, q⟩
  have lc : s1.heap.objs.size ≤ c := by
    simp only [List.mem_cons, List.not_mem_nil, or_false] at hcm
    rcases hcm with e | e | e | e | e <;> rw [e] <;> first | exact Nat.le_refl _ | exact Nat.le_add_right _ _
  exact I1.fpOk lc (I1.hok.fresh lc)
section
variable {σ : L2.St} {H : Hp} {nx : L2.St → Hp → Prop} {rt : VK} {K : PySem.W.Frag}
theorem w_zipM {tl : TA} {R : It → Hp → Prop} (h : tl σ H fun vs H1 => ∃ a b xs ys, vs = [.ref a, .ref b] ∧ SqL K H1 a xs ∧ SqT K H1 b ys ∧ R (ItzM K a b) H1) : iZipM K tl σ H R := h
theorem f_zipM {g : TG} {t : TS} {a b : Addr} {xs ys : List V} (hx : SqL K H a xs) (hy : SqT K H b ys) (hlen : ys.length = xs.length) (Pv : Nat → L2.St → Hp → Prop) (p0 : Pv 0 σ H)
    (hl : ∀ i σ' H', i ≤ xs.length → Pv i σ' H' → SqL K H' a xs ∧ SqT K H' b ys)
    (hs : ∀ i x y z σ' H', xs[i]? = some x → ys[i]? = some y → Pv i σ' H' → H' z = none → g (.ref z) σ' (upd H' z (.tup [x, y])) fun σ2 H2 => Kit.Sm t (Pv (i + 1)) rt nx (Pv (i + 1)) σ2 H2) (hd : ∀ σ' H', Pv xs.length σ' H' → nx σ' H') :
    ∃ a' b' xs' ys', [V.ref a, V.ref b] = [.ref a', .ref b'] ∧ SqL K H a' xs' ∧ SqT K H b' ys' ∧ Kit.Fj (ItzM K a' b') g t nx rt σ H := by
  refine ⟨a, b, xs, ys, rfl, hx, hy, fun i m σ H => Pv i σ H ∧ i + m = xs.length, ⟨xs.length, p0, by omega⟩, ?_⟩
  rintro i m σ' H' ⟨p, e⟩
  obtain ⟨q1, q2⟩ := hl i σ' H' (by omega) p
  rcases Nat.lt_or_ge i xs.length with lt | ge
  · have h1 : xs[i]? = some xs[i] := List.getElem?_eq_getElem lt
    have h2 : ys[i]? = some (ys[i]'(by omega)) := List.getElem?_eq_getElem (by omega)
    refine .inr ⟨⟨xs, ys, _, _, q1, q2, h1, h2⟩, Pv (i + 1), fun s2 H2 p2 => ⟨m - 1, by omega, p2, by omega⟩, ?_⟩
    rintro x H2 ⟨z, x0, y0, rfl, hz, rfl, f1, f2⟩
    exact hs i x0 y0 z σ' H' (f1 xs q1) (f2 ys q2) p hz
  · have ei : i = xs.length := by omega
    rw [ei] at p
    exact .inl ⟨⟨xs, ys, q1, q2, .inl ge⟩, hd _ _ p⟩
end
local macro_rules | `(tactic| walk_at "wp1") => `(tactic| with_reducible refine w_zipM ?_)

/-! ### a path serves the row with its own place changed -/
theorem path_set {f : Int → Int → Int} : ∀ (k : Nat) (r : List Int) (p : Nat) (d : Int), r.length = 2 ^ k → p < 2 ^ k → KM.pathM f k (r.set p d) p = KM.pathM f k r p
  | 0, _, _, _, _, _ => rfl
  | k + 1, r, p, d, hr, hp => by
    rw [KM.two_pow] at hr hp
    obtain ⟨w, hw⟩ := pairs_set (f := f) (v := d) hr hp
    show ((r.set p d)[KM.nb p]?).getD 0 :: KM.pathM f k (KM.pairs f (r.set p d)) (p / 2) = (r[KM.nb p]?).getD 0 :: KM.pathM f k (KM.pairs f r) (p / 2)
    rw [hw, path_set k _ _ w (KM.pairs_len r hr) (by omega), List.getElem?_set_ne (by unfold KM.nb; split <;> omega)]
theorem rootBy_mem {m : Int} {ws : List Int} {k : Nat} {v : Int} (hl : ws.length = 256) (hk : k < 256) : KM.rootBy (foldI m) k (leafI m v) (memPath m ws k) = memRoot m (ws.set k v) := by
  have h8 : (ws.map (leafI m)).length = 2 ^ 8 := by rw [List.length_map, hl]
  unfold memPath memRoot
  rw [← path_set 8 (ws.map (leafI m)) k (leafI m v) h8 hk, List.map_set]
  exact KM.rootBy_path 8 _ k _ (by rw [List.length_set]; exact h8) (by rw [List.getElem?_set_self (by rw [h8]; exact hk)])
theorem rootBy_own {m : Int} {s : MSt} {k : Int} (hl : s.mem.length = 256) (h0 : 0 ≤ k) (h1 : k < 256) : KM.rootBy (foldI m) k.toNat (leafI m (s.at k)) (memPath m s.mem k.toNat) = memRoot m s.mem := by
  rw [rootBy_mem hl (by omega)]
  have hk : k.toNat < s.mem.length := by omega
  have e : s.mem.set k.toNat (s.at k) = s.mem := by
    unfold MSt.at
    rw [List.getElem?_eq_getElem hk]
    exact List.set_getElem_self hk
  rw [e]
theorem path_dg {m : Int} (hm : 0 < m) : ∀ (k : Nat) (r : List Int) (p : Nat), AllDg m r → AllDg m (KM.pathM (foldI m) k r p)
  | 0, _, _, _ => fun z hz => nomatch hz
  | k + 1, r, p, h => fun z hz => by
    rcases List.mem_cons.mp (show z ∈ (r[KM.nb p]?).getD 0 :: KM.pathM (foldI m) k (KM.pairs (foldI m) r) (p / 2) from hz) with rfl | hz
    · cases e : r[KM.nb p]? with
      | none => exact ⟨Int.le_refl _, hm⟩
      | some y => exact h y (List.mem_of_getElem? e)
    · exact path_dg hm k _ _ (pairs_dg hm r) z hz
theorem memPath_dg {m : Int} (hm : 0 < m) {ws : List Int} {k : Nat} : AllDg m (memPath m ws k) := path_dg hm 8 _ k (leaves_dg hm ws)
def PartOf (K : PySem.W.Frag) (H : Hp) (m : Int) (s : MSt) (k : Int) (v : V) : Prop := ∃ t a, v = .ref t ∧ SqT K H t [.int (s.at k), .ref a] ∧ SqT K H a (iv (memPath m s.mem k.toNat))
theorem PartOf.ex {K : PySem.W.Frag} {H H' : Hp} {m : Int} {s : MSt} {k : Int} {v : V} (e : Evl.Ex H H') : PartOf K H m s k v → PartOf K H' m s k v := fun ⟨t, a, h1, h2, h3⟩ => ⟨t, a, h1, Evl.ex_t e h2, Evl.ex_t e h3⟩
def sp_step_by (K : PySem.W.Frag) (C : Addr) : Sp := fun vs H Q _ => ∃ (g r pa : Addr) (m : Int) (s : MSt) (xs : List V), vs = [.ref g, .ref r, .int (memRoot m s.mem), .ref pa] ∧ DigN C H g m ∧ 100 < m ∧ SqT K H r (regsV s.pc s.acc s.x s.mark s.out s.count) ∧ SOk m s ∧ s.mark = 0 ∧ SqT K H pa xs ∧
  (match dataL (s.at s.pc / 1024) (s.at s.pc % 1024) s.x with
   | none => ∃ v, xs = [v] ∧ PartOf K H m s s.pc v
   | some (k, _) => ∃ v u, xs = [v, u] ∧ PartOf K H m s s.pc v ∧ PartOf K H m s k u) ∧
  ∀ H', Evl.Ex H H' → Q (.int (digestM m (s.stepM m))) H'
theorem ok_step_by (T : Txt K mg) : FnOk P w K mg base CX0 5 T.f_step_by.f T.f_step_by.fd ["digests", "registers", "root", "parts"] (sp_step_by K T.c_Digests.C) := by
  have G_Digests_state := ok_Digests_state (P := P) (w := w) (base := base) T
  have G_done_by := ok_done_by (P := P) (w := w) (base := base) T
  have G_places_of := ok_places_of (P := P) (w := w) (base := base) T
  have G_root_with := ok_root_with (P := P) (w := w) (base := base) T
  refine T.f_step_by.F.ok sc_step_by (fun vs H Q E h => ?_) (fun cdv A outer s H vs Q E hr h => ?_)
  · obtain ⟨g, r, pa, m, s, xs, rfl, hd, m1, hr6, ok, hmark, hpa, hxs, q⟩ := h
    rfl
  obtain ⟨g, r, pa, m, s, xs, rfl, hd, m1, hr6, ok, hmark, hpa, hxs, q⟩ := h
  have nd := sc_step_by.nd
  have hr2 : Room 2 _ := hr.mono (by decide)
  have hr3 : Room 3 _ := hr.mono (by decide)
  have hr4 : Room 4 _ := hr.mono (by decide)
  refine Kit.ok_body (σ := [some _, some _, some _, some _, none, none, none, none, none, none, none, none]) ((pss_cons (ps_if (pt_cmpR op_eq (pe_callB (Kit.kLen K) (by rfl) T.z_len (by decide +kernel) (pa_cons (pv 3) pa_nil)) pe_int (nomark _))
    (pss_one ps_never)
    pss_nil)
    (pss_cons (ps_set (i := 4) nd rfl (Or.inl rfl) (pe_ix (Kit.ixT K) (pe_ix (Kit.ixT K) (pv 3) pe_int (fun _ _ => rfl)) pe_int (fun _ _ => rfl)))
    (pss_cons (ps_set (i := 5) nd rfl (Or.inl rfl) (pe_call G_places_of hr3 (by rfl) T.f_places_of.g T.f_places_of.F.kp T.f_places_of.b .nil pass0 (pa_cons (pv 1) (pa_cons (pv 4) pa_nil))))
    (pss_cons (ps_if (pt_cmpR op_ne (pe_callB (Kit.kLen K) (by rfl) T.z_len (by decide +kernel) (pa_cons (pv 3) pa_nil)) (pe_callB (Kit.kLen K) (by rfl) T.z_len (by decide +kernel) (pa_cons (pv 5) pa_nil)) (nomark _))
    (pss_one ps_never)
    pss_nil)
    (pss_cons (ps_for PassesOwn.never rfl (pi_zipM K (by rfl) T.z_zip (pa_cons (pv 5) (pa_cons (pv 3) pa_nil))) (Kit.kgTup K rfl (pgs_cons (pg_name (i := 6) nd rfl (Or.inl rfl)) (pgs_cons (pg_name (i := 7) nd rfl (Or.inl rfl)) pgs_nil)))
    (pss_one (ps_if (pt_cmpR op_ne (pe_call G_root_with hr4 (by rfl) T.f_root_with.g T.f_root_with.F.kp T.f_root_with.b .nil pass0 (pa_cons (pv 0) (pa_cons (pv 6) (pa_cons (pe_ix (Kit.ixT K) (pv 7) pe_int (fun _ _ => rfl)) (pa_cons (pe_ix (Kit.ixT K) (pv 7) pe_int (fun _ _ => rfl)) pa_nil))))) (pv 2) (nomark _))
    (pss_one ps_never)
    pss_nil)))
    (pss_cons (ps_asg (pe_ix (Kit.ixT K) (pv 3) (pe_un un_neg pe_int) (fun _ _ => rfl)) (Kit.kgTup K rfl (pgs_cons (pg_name (i := 8) nd rfl (Or.inl rfl)) (pgs_cons (pg_name (i := 9) nd rfl (Or.inl rfl)) pgs_nil))))
    (pss_cons (ps_asg (pe_call G_done_by hr4 (by rfl) T.f_done_by.g T.f_done_by.F.kp T.f_done_by.b .nil pass0 (pa_cons (pv 0) (pa_cons (pv 1) (pa_cons (pv 4) (pa_cons (pv 8) pa_nil))))) (Kit.kgTup K rfl (pgs_cons (pg_name (i := 10) nd rfl (Or.inl rfl)) (pgs_cons (pg_name (i := 11) nd rfl (Or.inl rfl)) pgs_nil))))
    (pss_cons (ps_if (pt_cmpR Kit.k_isN (pv 11) pe_non (nomark _))
    (pss_one (ps_ret (pe_meth (pv 0) T.c_Digests.cl T.m_Digests_state G_Digests_state hr2 T.f_Digests_state.b .nil pass0 (pa_cons (pe_op (Kit.kCat K) (pv 10) (pe_tup (pa_cons (pv 2) pa_nil))) pa_nil))))
    pss_nil)
    (pss_one (ps_ret (pe_meth (pv 0) T.c_Digests.cl T.m_Digests_state G_Digests_state hr2 T.f_Digests_state.b .nil pass0 (pa_cons (pe_op (Kit.kCat K) (pv 10) (pe_tup (pa_cons (pe_call G_root_with hr4 (by rfl) T.f_root_with.g T.f_root_with.F.kp T.f_root_with.b .nil pass0 (pa_cons (pv 0) (pa_cons (pe_ix (Kit.ixL K) (pv 5) (pe_un un_neg pe_int) (fun _ _ => rfl)) (pa_cons (pv 11) (pa_cons (pv 9) pa_nil))))) pa_nil))) pa_nil))))))))))))) rfl ?_
  try dsimp only [L2.cxOf, L2.Cx.nox]
  have hr6 : SqT K H r [.int s.pc, .int s.acc, .int s.x, .int s.mark, .int s.out, .int s.count] := hr6
  have okS := SOk.step m1 ok
  rw [stepM_go hmark] at q okS
  have hW := ok.at s.pc
  have hpc := ok.pc
  generalize hword : s.at s.pc = word at *
  have hn0 : 0 ≤ word / 1024 := by have := hW.1; omega
  have hdI := ok.at (otherM (word / 1024) (word % 1024) s.x)
  have hwm := work_mem (m := m) (n := word / 1024) (a := word % 1024) ok.len
  have hsm := fun dv h => step_math (m := m) (word := word) (s := s) (dv := dv) hn0 ok.len rfl h hmark
  generalize hdd : s.at (otherM (word / 1024) (word % 1024) s.x) = d at hdI hsm
  generalize hod : dataL (word / 1024) (word % 1024) s.x = od at hxs hwm hsm
  have hlen : xs.length = (placesV s.pc od).length := by
    rcases od with _ | ⟨k, b⟩
    · obtain ⟨v, rfl, _⟩ := hxs; rfl
    · obtain ⟨v, u, rfl, _⟩ := hxs; rfl
  have hplc : ∀ (i : Nat) (x y : V), (placesV s.pc od)[i]? = some x → xs[i]? = some y → ∃ k : Int, x = .int k ∧ 0 ≤ k ∧ k < 256 ∧ PartOf K H m s k y := by
    intro i x y hx hy
    rcases od with _ | ⟨k, b⟩
    · obtain ⟨v, rfl, h1⟩ := hxs
      match i, hx, hy with
      | 0, hx, hy => cases hx; cases hy; exact ⟨_, rfl, hpc.1, hpc.2, h1⟩
    · obtain ⟨v, u, rfl, h1, h2⟩ := hxs
      obtain ⟨_, k0, k1⟩ := dataL_in hod
      match i, hx, hy with
      | 0, hx, hy => cases hx; cases hy; exact ⟨_, rfl, hpc.1, hpc.2, h1⟩
      | 1, hx, hy => cases hx; cases hy; exact ⟨_, rfl, k0, k1, h2⟩
  have hfirst : ∃ t a xs', xs = .ref t :: xs' ∧ SqT K H t [.int word, .ref a] := by
    rcases od with _ | ⟨k, b⟩
    · obtain ⟨v, rfl, t, a, rfl, h, _⟩ := hxs
      exact ⟨t, a, _, rfl, hword ▸ h⟩
    · obtain ⟨v, u, rfl, ⟨t, a, rfl, h, _⟩, _⟩ := hxs
      exact ⟨t, a, _, rfl, hword ▸ h⟩
  obtain ⟨t, a, xs', ex, ht⟩ := hfirst
  rw [ex] at hpa
  walk_at "wp"
  · rename_i hz
    exact absurd hz (by rw [List.length_cons]; omega)
  refine ⟨r, word, s.pc, s.acc, s.x, s.mark, s.out, s.count, rfl, hr6, hW.1, hW.2, fun pl H1 n1 e1 f1 => ?_⟩
  rw [data_math (a := word % 1024) hn0 (by omega), hod] at f1
  walk_at "wp"
  rotate_left
  · rename_i hz
    rw [← ex, hlen] at hz
    exact absurd rfl hz
  have hpaT : SqT K H pa xs := by rw [ex]; exact hpa
  refine f_zipM (Evl.sq_of f1) (Evl.ex_t e1 hpaT) hlen (fun i σ' H' => ∃ y6 y7, σ' = [some (.ref g), some (.ref r), some (.int (memRoot m s.mem)), some (.ref pa), some (.int word), some (.ref pl), y6, y7, none, none, none, none] ∧ Evl.Ex H1 H') ⟨none, none, rfl, Evl.Ex.refl _⟩ ?_ ?_ ?_
  · rintro i σ' H' _ ⟨y6, y7, rfl, e⟩
    exact ⟨Evl.sq_of (e _ _ f1), Evl.ex_t e (Evl.ex_t e1 hpaT)⟩
  · rintro i x y z σ' H' hx hy ⟨y6, y7, rfl, e⟩ hz
    obtain ⟨k, rfl, k0, k1, t2, a2, rfl, ht2, ha2⟩ := hplc i x y hx hy
    have E0 : Evl.Ex H (upd H' z (.tup [.int k, .ref t2])) := fun c o h => by
      have h' := e _ _ (e1 _ _ h)
      rw [upd_ne (fun z' => by rw [z', hz] at h'; cases h')]
      exact h'
    have E1 : Evl.Ex H1 (upd H' z (.tup [.int k, .ref t2])) := fun c o h => by
      have h' := e _ _ h
      rw [upd_ne (fun z' => by rw [z', hz] at h'; cases h')]
      exact h'
    have hz2 : upd H' z (.tup [.int k, .ref t2]) z = some (.tup [.int k, .ref t2]) := upd_same
    generalize upd H' z (.tup [.int k, .ref t2]) = U at E0 E1 hz2 ⊢
    have ht3 := Evl.ex_t E0 ht2
    walk_at "wp"
    refine use_root_with (hd.ex E0) (Evl.ex_t E0 ha2) (memPath_dg hd.pos) (by unfold memPath; rw [KM.path_len]; decide) k0 fun H3 e3 => ?_
    rw [rootBy_own ok.len k0 k1]
    walk_at "wp"
    exact ⟨_, _, rfl, E1.trans e3⟩
  · rintro σ' H2 ⟨y6, y7, rfl, e⟩
    have E12 := e1.trans e
    have f2 := e _ _ f1
    have hd2 := hd.ex E12
    have hr2 := Evl.ex_t E12 hr6
    have hpa2 := Evl.ex_t E12 hpaT
    clear hlen hplc hpaT hpa ex ht f1 hr6 e
    rcases od with _ | ⟨k, b⟩
    · obtain ⟨v, rfl, t3, a3, rfl, h3, h4⟩ := hxs
      have h3 := Evl.ex_t E12 h3
      have h4 := Evl.ex_t E12 h4
      have hn : ¬ (nm (word / 1024) = "back" ∨ nm (word / 1024) = "within" ∨ nm (word / 1024) ∈ sgs) := dataM_none (word := word) (x := s.x) (by rw [data_math (a := word % 1024) hn0 (by omega), hod])
      have hsm := hsm (.int (s.at s.pc)) (fun z => absurd rfl z)
      rcases hwm with ⟨k, hk, _⟩ | ⟨_, hmem⟩
      · cases hk
      generalize hw2 : s.workM m (word / 1024) (word % 1024) = sr at q hmem hsm okS
      obtain ⟨s2, r2⟩ := sr
      have hmem : s2.mem = s.mem := hmem
      show Kit.Sm _ _ _ _ _ _ _
      walk_at "wp"
      refine Kit.w_ixT hpa2 (show atI [V.ref t3] (-1) = some (V.ref t3) from rfl) ?_
      walk_at "wp"
      refine ⟨g, r, m, s.pc, s.acc, s.x, s.mark, s.out, s.count, word, d, .int (s.at s.pc), rfl, hd2, hr2, hW.1, hW.2, ok.acc.1, ok.acc.2, ok.out, fun z => absurd z hn, fun t1 t2 H3 e3 g1 g2 => ?_⟩
      rw [hsm] at g1 g2
      have g2 : H3 t2 = some (.tup [.ref t1, .non]) := g2
      have g1' : SqT K H3 t1 [.int r2, .int s2.acc, .int s2.x, .int s2.mark, .int s2.out, .int s2.count] := Evl.st_of g1
      walk_at "wp"
      rename_i p1 H4 n4 e4 f4 p2 H5 e5 f5
      refine ⟨g, m, p2, regsI (s2.setPc r2) ++ [memRoot m (s2.setPc r2).mem], rfl, hd2.ex (e3.trans (e4.trans e5)), by omega, ?_, okS.nums hd.lt hd.pos, by simp [regsI], fun H6 e6 => q _ (E12.trans (e3.trans (e4.trans (e5.trans e6))))⟩
      show SqT K H5 p2 ([.int r2, .int s2.acc, .int s2.x, .int s2.mark, .int s2.out, .int s2.count] ++ [.int (memRoot m s2.mem)])
      rw [hmem]
      exact f5
    · obtain ⟨v, u, rfl, _, ⟨t3, a3, rfl, h3, h4⟩⟩ := hxs
      have h3 := Evl.ex_t E12 h3
      have h4 := Evl.ex_t E12 h4
      obtain ⟨hk, hk0, hk1⟩ := dataL_in hod
      rw [show s.at k = d by rw [hk, hdd]] at h3
      have hsm := hsm (.int d) (fun _ => rfl)
      have f2 : H2 pl = some (.lst [.int s.pc, .int k]) := f2
      generalize hw2 : s.workM m (word / 1024) (word % 1024) = sr at q hwm hsm okS
      obtain ⟨s2, r2⟩ := sr
      show Kit.Sm _ _ _ _ _ _ _
      walk_at "wp"
      refine Kit.w_ixT hpa2 (show atI [v, V.ref t3] (-1) = some (V.ref t3) from rfl) ?_
      walk_at "wp"
      refine ⟨g, r, m, s.pc, s.acc, s.x, s.mark, s.out, s.count, word, d, .int d, rfl, hd2, hr2, hW.1, hW.2, ok.acc.1, ok.acc.2, ok.out, fun _ => ⟨rfl, hdI.1, hdI.2⟩, fun t1 t2 H3 e3 g1 g2 => ?_⟩
      rw [hsm] at g1 g2
      have g1' : SqT K H3 t1 [.int r2, .int s2.acc, .int s2.x, .int s2.mark, .int s2.out, .int s2.count] := Evl.st_of g1
      rcases hwm with ⟨k', hk', _, _, hmem⟩ | ⟨hno, hmem⟩
      · cases hk'
        have hmem : s2.mem = s.mem.set k.toNat (s2.at k) := hmem
        have g2 : H3 t2 = some (.tup [.ref t1, .int (s2.at k)]) := g2
        walk_at "wp"
        refine Kit.w_ixL (Evl.sq_of (e3 _ _ f2)) (show atI [V.int s.pc, V.int k] (-1) = some (V.int k) from rfl) ?_
        walk_at "wp"
        refine use_root_with (hd2.ex e3) (Evl.ex_t e3 h4) (memPath_dg hd.pos) (by unfold memPath; rw [KM.path_len]; decide) hk0 fun H3b e3b => ?_
        rw [rootBy_mem ok.len (by omega), ← hmem]
        walk_at "wp"
        rename_i p1 H4 n4 e4 f4 p2 H5 e5 f5
        exact ⟨g, m, p2, regsI (s2.setPc r2) ++ [memRoot m (s2.setPc r2).mem], rfl, hd2.ex (e3.trans (e3b.trans (e4.trans e5))), by omega, f5, okS.nums hd.lt hd.pos, by simp [regsI], fun H6 e6 => q _ (E12.trans (e3.trans (e3b.trans (e4.trans (e5.trans e6)))))⟩
      cases b with
      | true => exact absurd rfl (hno k)
      | false =>
      have hmem : s2.mem = s.mem := hmem
      have g2 : H3 t2 = some (.tup [.ref t1, .non]) := g2
      walk_at "wp"
      rename_i p1 H4 n4 e4 f4 p2 H5 e5 f5
      refine ⟨g, m, p2, regsI (s2.setPc r2) ++ [memRoot m (s2.setPc r2).mem], rfl, hd2.ex (e3.trans (e4.trans e5)), by omega, ?_, okS.nums hd.lt hd.pos, by simp [regsI], fun H6 e6 => q _ (E12.trans (e3.trans (e4.trans (e5.trans e6))))⟩
      show SqT K H5 p2 ([.int r2, .int s2.acc, .int s2.x, .int s2.mark, .int s2.out, .int s2.count] ++ [.int (memRoot m s2.mem)])
      rw [hmem]
      exact f5

/-! ### any data, an empty dict among it, as it stands in a heap -/
mutual
inductive Dv (K : PySem.W.Frag) (H : Hp) : V → PyData → Prop
  | non : Dv K H .non .none
  | bl (b : Bool) : Dv K H (.bl b) (.bool b)
  | int (i : Int) : Dv K H (.int i) (.int i)
  | str (x : Str) : Dv K H (.str x) (.str x)
  | lst {a : Addr} {xs : List V} {ds : List PyData} : SqL K H a xs → DvAll K H xs ds → Dv K H (.ref a) (.list ds)
  | tup {a : Addr} {xs : List V} {ds : List PyData} : SqT K H a xs → DvAll K H xs ds → Dv K H (.ref a) (.tuple ds)
  | dic {a : Addr} : H a = some (.dK []) → Dv K H (.ref a) (.dict [])
inductive DvAll (K : PySem.W.Frag) (H : Hp) : List V → List PyData → Prop
  | nil : DvAll K H [] []
  | cons {v : V} {vs : List V} {d : PyData} {ds : List PyData} : Dv K H v d → DvAll K H vs ds → DvAll K H (v :: vs) (d :: ds)
end
mutual
theorem dp_ex {K : PySem.W.Frag} {H H' : Hp} (e : Evl.Ex H H') : ∀ (d : PyData) (v : V), Dv K H v d → Dv K H' v d
  | .none, _, h => by cases h; exact .non
  | .bool _, _, h => by cases h; exact .bl _
  | .int _, _, h => by cases h; exact .int _
  | .str _, _, h => by cases h; exact .str _
  | .list ds, _, h => by
    cases h with
    | lst h1 h2 => exact .lst (Evl.ex_l e h1) (dps_ex e ds _ h2)
  | .tuple ds, _, h => by
    cases h with
    | tup h1 h2 => exact .tup (Evl.ex_t e h1) (dps_ex e ds _ h2)
  | .dict _, _, h => by
    cases h with
    | dic h1 => exact .dic (e _ _ h1)
theorem dps_ex {K : PySem.W.Frag} {H H' : Hp} (e : Evl.Ex H H') : ∀ (ds : List PyData) (vs : List V), DvAll K H vs ds → DvAll K H' vs ds
  | [], _, h => by cases h; exact .nil
  | d :: ds, _, h => by
    cases h with
    | cons h1 h2 => exact .cons (dp_ex e d _ h1) (dps_ex e ds _ h2)
end
local macro_rules | `(tactic| walk_at "wp1") => `(tactic| ((with_reducible show L2.rIsi _ [V.ref _, V.ty _] _ _); first | refine Kit.w_isiDK (b := false) (by with_reducible assumption) (by decide +kernel) ?_ | refine Kit.w_isiDK (b := true) (by with_reducible assumption) (by decide +kernel) ?_))
theorem dps_len {K : PySem.W.Frag} {H : Hp} : ∀ {ds : List PyData} {vs : List V}, DvAll K H vs ds → vs.length = ds.length
  | [], _, h => by cases h; rfl
  | d :: ds, _, h => by
    cases h with
    | cons h1 h2 => rw [List.length_cons, List.length_cons, dps_len h2]
theorem dps_at {K : PySem.W.Frag} {H : Hp} : ∀ {ds : List PyData} {vs : List V} {i : Nat} {v : V}, DvAll K H vs ds → vs[i]? = some v → ∃ d, ds[i]? = some d ∧ Dv K H v d
  | [], _, _, _, h, hi => by cases h; simp at hi
  | d :: ds, _, 0, v, h, hi => by
    cases h with
    | cons h1 h2 => cases hi; exact ⟨d, rfl, h1⟩
  | d :: ds, _, i + 1, v, h, hi => by
    cases h with
    | cons h1 h2 => exact dps_at (i := i) h2 hi
theorem dps_ints {K : PySem.W.Frag} {H : Hp} : ∀ r : List Int, DvAll K H (r.map V.int) (r.map PyData.int)
  | [] => .nil
  | i :: r => .cons (.int i) (dps_ints r)
theorem dp_itup {K : PySem.W.Frag} {H : Hp} {p : Addr} {r : List Int} (h : SqT K H p (r.map V.int)) : Dv K H (.ref p) (.tuple (r.map PyData.int)) := .tup h (dps_ints r)
theorem ints_of {K : PySem.W.Frag} {H : Hp} : ∀ {r : List Int} {vs : List V}, DvAll K H vs (r.map PyData.int) → vs = r.map V.int
  | [], _, h => by cases h; rfl
  | i :: r, _, h => by
    cases h with
    | cons h1 h2 =>
      cases h1
      rw [ints_of h2]
      rfl
theorem itup_of {K : PySem.W.Frag} {H : Hp} {v : V} {r : List Int} (h : Dv K H v (.tuple (r.map PyData.int))) : ∃ p, v = .ref p ∧ SqT K H p (r.map V.int) := by
  cases h with
  | tup h1 h2 => exact ⟨_, rfl, ints_of h2 ▸ h1⟩
theorem range_bl {ds : List PyData} {n : Nat} (f : PyData → Bool) (h : n = ds.length) : (List.range n).map (fun i => V.bl (f ((ds[i]?).getD .none))) = (ds.map f).map V.bl := by
  subst h
  apply List.ext_getElem?
  intro i
  by_cases hi : i < ds.length
  · rw [List.getElem?_map, List.getElem?_range hi, List.getElem?_map, List.getElem?_map, List.getElem?_eq_getElem hi]
    show some (V.bl (f ((ds[i]?).getD .none))) = _
    rw [List.getElem?_eq_getElem hi]
    rfl
  · rw [List.getElem?_eq_none (by rw [List.length_map, List.length_range]; omega), List.getElem?_eq_none (by rw [List.length_map, List.length_map]; omega)]
theorem w_all {K : PySem.W.Frag} {p : Addr} {ds : List PyData} {f : PyData → Bool} {H : Hp} {Q : VK} (h : H p = some (.lst ((ds.map f).map V.bl))) (q : Q (.bl (ds.all f)) H) : rAll K [.ref p] H Q :=
  ⟨p, ds.map f, rfl, Evl.sq_of h, by rw [show (ds.map f).all id = ds.all f from by rw [List.all_map]; rfl]; exact q⟩
/-- [f(x) for x in xs] over a tuple of data, each item True or False -/
theorem l_dps {K : PySem.W.Frag} {a : Addr} {xs : List V} {ds : List PyData} {H : Hp} {Q : VK} {σ : L2.St} {vs : List Nat} {te : TE} {j : Nat} (hx : SqT K H a xs) (hd : DvAll K H xs ds) (hn : xs.length ≤ 40000) (hw : ∀ v, wipe ((wipe σ vs).set j (some v)) vs = wipe σ vs) (f : PyData → Bool)
    (he : ∀ (x : V) (d : PyData) H', Evl.Ex H H' → Dv K H' x d → d ∈ ds → ∀ R : VK, (∀ H2, Evl.Ex H' H2 → R (.bl (f d)) H2) → te ((wipe σ vs).set j (some x)) H' R)
    (q : ∀ p H2, H p = none → Evl.Ex H H2 → H2 p = some (.lst ((ds.map f).map V.bl)) → Q (.ref p) H2) :
    ∃ b, V.ref a = .ref b ∧ (∃ ys, SqT K H b ys) ∧ Kit.Lcj (Itt K b) (gName j) tYes te vs σ H Q := by
  refine Kit.l_tup hx hn hw (fun i => .bl (f ((ds[i]?).getD .none))) (fun i x H' hi e R r => ?_) (fun p H2 n e h => q p H2 n e (by rw [h, range_bl f (dps_len hd)]))
  obtain ⟨d, h1, h2⟩ := dps_at hd hi
  rw [h1] at r
  exact he x d H' e (dp_ex e d x h2) (List.mem_of_getElem? h1) R r

/-! ### forms of values: of any data -/
local macro_rules | `(tactic| walk_at "wp1") => `(tactic| first
  | with_reducible refine Kit.w_chain ?_
  | with_reducible refine Kit.w_isB ?_
  | with_reducible refine Kit.w_notB ?_
  | ((with_reducible show rAll _ _ _ _); refine w_all (by with_reducible assumption) ?_)
  | fail)
def inI (d : PyData) (lo hi : Int) : Bool := match d with
  | .int i => decide (lo ≤ i) && decide (i ≤ hi)
  | _ => false
def sp_is_integer (K : PySem.W.Frag) : Sp := fun vs H Q _ => ∃ (x : V) (d : PyData) (lo hi : Int), vs = [x, .int lo, .int hi] ∧ Dv K H x d ∧ Q (.bl (inI d lo hi)) H
theorem ok_is_integer (T : Txt K mg) : FnOk P w K mg base CX0 1 T.f_is_integer.f T.f_is_integer.fd ["value", "least", "greatest"] (sp_is_integer K) := by
  refine T.f_is_integer.F.ok sc_is_integer (fun vs H Q E h => ?_) (fun cdv A outer s H vs Q E hr h => ?_)
  · obtain ⟨x, d, lo, hi, rfl, hx, q⟩ := h
    rfl
  obtain ⟨x, d, lo, hi, rfl, hx, q⟩ := h
  have nd := sc_is_integer.nd
  refine Kit.ok_body (σ := [some _, some _, some _]) ((pss_cons (ps_if (PW.pt (pw_or (pt_not (pt_val (pe_callB (Kit.kIsi K) (by rfl) T.z_isinstance (by decide +kernel) (pa_cons (pv 0) (pa_cons (pe_bltn (v := .ty "int") (by rfl) T.z_int (by decide +kernel) rfl) pa_nil))))) (pw_or1 (pt_val (pe_callB (Kit.kIsi K) (by rfl) T.z_isinstance (by decide +kernel) (pa_cons (pv 0) (pa_cons (pe_bltn (v := .ty "bool") (by rfl) T.z_bool (by decide +kernel) rfl) pa_nil)))))))
    (pss_one (ps_ret pe_bl))
    pss_nil)
    (pss_one (ps_ret (pe_chain op_le op_le (pv 1) (pv 0) (pv 2)))))) rfl ?_
  cases hx with
  | int i =>
    change Q (.bl (decide (lo ≤ i) && decide (i ≤ hi))) H at q
    by_cases h1 : lo ≤ i
    · rw [decide_eq_true h1, Bool.true_and] at q
      walk_at "wp"
      all_goals first | exact q | omega
    · rw [decide_eq_false h1, Bool.false_and] at q
      walk_at "wp"
      all_goals first | exact q | omega
  | _ =>
    walk_at "wp"
    exact q
theorem use_is_integer {K : PySem.W.Frag} {x : V} {d : PyData} {lo hi hi' : Int} {H : Hp} {Q : VK} {E : XK} (hx : Dv K H x d) (e : hi = hi') (q : Q (.bl (inI d lo hi')) H) : sp_is_integer K [x, .int lo, .int hi] H Q E := ⟨x, d, lo, hi, rfl, hx, by rw [e]; exact q⟩
local macro_rules | `(tactic| walk_at "wp1") => `(tactic| ((with_reducible show sp_is_integer _ _ _ _ _); refine use_is_integer (by with_reducible assumption) (by first | decide | rfl) ?_))
def sp_is_word (K : PySem.W.Frag) : Sp := fun vs H Q _ => ∃ (x : V) (d : PyData), vs = [x] ∧ Dv K H x d ∧ Q (.bl (inI d 0 65535)) H
theorem ok_is_word (T : Txt K mg) : FnOk P w K mg base CX0 2 T.f_is_word.f T.f_is_word.fd ["value"] (sp_is_word K) := by
  have G_is_integer := ok_is_integer (P := P) (w := w) (base := base) T
  refine T.f_is_word.F.ok sc_is_word (fun vs H Q E h => ?_) (fun cdv A outer s H vs Q E hr h => ?_)
  · obtain ⟨x, d, rfl, hx, q⟩ := h
    rfl
  obtain ⟨x, d, rfl, hx, q⟩ := h
  have nd := sc_is_word.nd
  have hr1 : Room 1 _ := hr.mono (by decide)
  refine Kit.ok_body (σ := [some _]) ((pss_one (ps_ret (pe_call G_is_integer hr1 (by rfl) T.f_is_integer.g T.f_is_integer.F.kp T.f_is_integer.b .nil pass0 (pa_cons (pv 0) (pa_cons pe_int (pa_cons (pe_glob (v := .int 65535) rfl T.g_MOST_WORD ⟨_, rfl⟩) pa_nil))))))) rfl ?_
  walk_at "wp"
  exact q
theorem use_is_word {K : PySem.W.Frag} {x : V} {d : PyData} {H : Hp} {Q : VK} {E : XK} (hx : Dv K H x d) (q : Q (.bl (inI d 0 65535)) H) : sp_is_word K [x] H Q E := ⟨x, d, rfl, hx, q⟩
local macro_rules | `(tactic| walk_at "wp1") => `(tactic| ((with_reducible show sp_is_word _ _ _ _ _); refine use_is_word (by with_reducible assumption) ?_))
def sp_is_digest (K : PySem.W.Frag) (C : Addr) : Sp := fun vs H Q _ => ∃ (p dx : Addr) (b bk : V) (m : Int) (x : V) (d : PyData), vs = [.ref p, x] ∧ H p = some (.ins C dx (fl_Digests b bk (.int m))) ∧ Dv K H x d ∧ Q (.bl (inI d 0 (m - 1))) H
theorem ok_Digests_is_digest (T : Txt K mg) : FnOk P w K mg base CX0 2 T.f_Digests_is_digest.f T.f_Digests_is_digest.fd ["self", "value"] (sp_is_digest K T.c_Digests.C) := by
  have G_is_integer := ok_is_integer (P := P) (w := w) (base := base) T
  refine T.f_Digests_is_digest.F.ok sc_Digests_is_digest (fun vs H Q E h => ?_) (fun cdv A outer s H vs Q E hr h => ?_)
  · obtain ⟨p, dx, b, bk, m, x, d, rfl, hp, hx, q⟩ := h
    rfl
  obtain ⟨p, dx, b, bk, m, x, d, rfl, hp, hx, q⟩ := h
  have nd := sc_Digests_is_digest.nd
  have hr1 : Room 1 _ := hr.mono (by decide)
  refine Kit.ok_body (σ := [some _, some _]) ((pss_one (ps_ret (pe_call G_is_integer hr1 (by rfl) T.f_is_integer.g T.f_is_integer.F.kp T.f_is_integer.b .nil pass0 (pa_cons (pv 1) (pa_cons pe_int (pa_cons (pe_op op_sub (Kit.kFld K (pv 0) rfl) pe_int) pa_nil))))))) rfl ?_
  walk_at "wp"
  exact q
theorem use_is_digest {K : PySem.W.Frag} {C p dx : Addr} {b bk : V} {m : Int} {x : V} {d : PyData} {H : Hp} {Q : VK} {E : XK} (hp : H p = some (.ins C dx (fl_Digests b bk (.int m)))) (hx : Dv K H x d) (q : Q (.bl (inI d 0 (m - 1))) H) : sp_is_digest K C [.ref p, x] H Q E := ⟨p, dx, b, bk, m, x, d, rfl, hp, hx, q⟩
local macro_rules | `(tactic| walk_at "wp1") => `(tactic| ((with_reducible show sp_is_digest _ _ _ _ _ _); refine use_is_digest (by walk_at "hp") (by with_reducible assumption) ?_))
def regB (m : Int) : PyData → Bool
  | .tuple [a, b, c, d, e, f] => inI a 0 255 && (inI b 0 65535 && (inI c 0 65535 && (inI d 0 6 && (inI e 0 (m - 1) && inI f 0 16))))
  | _ => false
theorem regB_ne {m : Int} {ds : List PyData} (h : ¬ ds.length = 6) : regB m (.tuple ds) = false := by
  unfold regB
  split
  · rename_i hz
    injection hz with hz
    subst hz
    exact absurd rfl h
  · rfl
theorem six_of {ds : List PyData} (h : ds.length = 6) : ∃ a b c d e f, ds = [a, b, c, d, e, f] := by
  match ds, h with
  | [a, b, c, d, e, f], _ => exact ⟨a, b, c, d, e, f, rfl⟩
theorem dps_cons {K : PySem.W.Frag} {H : Hp} {vs : List V} {d : PyData} {ds : List PyData} (h : DvAll K H vs (d :: ds)) : ∃ v vs', vs = v :: vs' ∧ Dv K H v d ∧ DvAll K H vs' ds := by
  cases h with
  | cons h1 h2 => exact ⟨_, _, rfl, h1, h2⟩
theorem dps_nil {K : PySem.W.Frag} {H : Hp} {vs : List V} (h : DvAll K H vs []) : vs = [] := by cases h; rfl
def sp_are_registers (K : PySem.W.Frag) (C : Addr) : Sp := fun vs H Q _ => ∃ (p dx : Addr) (b bk : V) (m : Int) (x : V) (d : PyData), vs = [.ref p, x] ∧ H p = some (.ins C dx (fl_Digests b bk (.int m))) ∧ Dv K H x d ∧ Q (.bl (regB m d)) H
theorem ok_are_registers (T : Txt K mg) : FnOk P w K mg base CX0 3 T.f_are_registers.f T.f_are_registers.fd ["digests", "value"] (sp_are_registers K T.c_Digests.C) := by
  have G_Digests_is_digest := ok_Digests_is_digest (P := P) (w := w) (base := base) T
  have G_is_integer := ok_is_integer (P := P) (w := w) (base := base) T
  have G_is_word := ok_is_word (P := P) (w := w) (base := base) T
  refine T.f_are_registers.F.ok sc_are_registers (fun vs H Q E h => ?_) (fun cdv A outer s H vs Q E hr h => ?_)
  · obtain ⟨p, dx, b, bk, m, x, d, rfl, hp, hx, q⟩ := h
    rfl
  obtain ⟨p, dx, b, bk, m, x, d, rfl, hp, hx, q⟩ := h
  have nd := sc_are_registers.nd
  have hr1 : Room 1 _ := hr.mono (by decide)
  have hr2 : Room 2 _ := hr.mono (by decide)
  refine Kit.ok_body (σ := [some _, some _, none, none, none, none, none, none]) ((pss_cons (ps_if (PW.pt (pw_or (pt_not (pt_val (pe_callB (Kit.kIsi K) (by rfl) T.z_isinstance (by decide +kernel) (pa_cons (pv 1) (pa_cons (pe_bltn (v := .ty "tuple") (by rfl) T.z_tuple (by decide +kernel) rfl) pa_nil))))) (pw_or1 (pt_cmpR op_ne (pe_callB (Kit.kLen K) (by rfl) T.z_len (by decide +kernel) (pa_cons (pv 1) pa_nil)) pe_int (nomark _)))))
    (pss_one (ps_ret pe_bl))
    pss_nil)
    (pss_cons (ps_asg (pv 1) (Kit.kgTup K rfl (pgs_cons (pg_name (i := 2) nd rfl (Or.inl rfl)) (pgs_cons (pg_name (i := 3) nd rfl (Or.inl rfl)) (pgs_cons (pg_name (i := 4) nd rfl (Or.inl rfl)) (pgs_cons (pg_name (i := 5) nd rfl (Or.inl rfl)) (pgs_cons (pg_name (i := 6) nd rfl (Or.inl rfl)) (pgs_cons (pg_name (i := 7) nd rfl (Or.inl rfl)) pgs_nil))))))))
    (pss_cons (ps_if (PW.pt (pw_or (pt_not (pt_val (pe_call G_is_integer hr1 (by rfl) T.f_is_integer.g T.f_is_integer.F.kp T.f_is_integer.b .nil pass0 (pa_cons (pv 2) (pa_cons pe_int (pa_cons (pe_op op_sub (pe_glob (v := .int 256) rfl T.g_PLACES ⟨_, rfl⟩) pe_int) pa_nil)))))) (pw_or (pt_not (pt_val (pe_call G_is_word hr2 (by rfl) T.f_is_word.g T.f_is_word.F.kp T.f_is_word.b .nil pass0 (pa_cons (pv 3) pa_nil)))) (pw_or1 (pt_not (pt_val (pe_call G_is_word hr2 (by rfl) T.f_is_word.g T.f_is_word.F.kp T.f_is_word.b .nil pass0 (pa_cons (pv 4) pa_nil))))))))
    (pss_one (ps_ret pe_bl))
    pss_nil)
    (pss_cons (ps_if (PW.pt (pw_or (pt_not (pt_val (pe_call G_is_integer hr1 (by rfl) T.f_is_integer.g T.f_is_integer.F.kp T.f_is_integer.b .nil pass0 (pa_cons (pv 5) (pa_cons pe_int (pa_cons (pe_op op_sub (pe_callB (Kit.kLen K) (by rfl) T.z_len (by decide +kernel) (pa_cons (pe_glob (v := .ref T.a_MARKS) rfl T.g_MARKS rfl) pa_nil)) pe_int) pa_nil)))))) (pw_or1 (pt_not (pt_val (pe_meth (pv 0) T.c_Digests.cl T.m_Digests_is_digest G_Digests_is_digest hr2 T.f_Digests_is_digest.b .nil pass0 (pa_cons (pv 6) pa_nil)))))))
    (pss_one (ps_ret pe_bl))
    pss_nil)
    (pss_one (ps_ret (pe_call G_is_integer hr1 (by rfl) T.f_is_integer.g T.f_is_integer.F.kp T.f_is_integer.b .nil pass0 (pa_cons (pv 7) (pa_cons pe_int (pa_cons (pe_glob (v := .int 16) rfl T.g_MOST_TOLD ⟨_, rfl⟩) pa_nil))))))))))) rfl ?_
  try dsimp only [L2.cxOf, L2.Cx.nox]
  cases hx with
  | @tup a xs ds h1 h2 =>
    by_cases h6 : ds.length = 6
    · obtain ⟨d0, d1, d2, d3, d4, d5, rfl⟩ := six_of h6
      obtain ⟨x0, _, rfl, g0, h2⟩ := dps_cons h2
      obtain ⟨x1, _, rfl, g1, h2⟩ := dps_cons h2
      obtain ⟨x2, _, rfl, g2, h2⟩ := dps_cons h2
      obtain ⟨x3, _, rfl, g3, h2⟩ := dps_cons h2
      obtain ⟨x4, _, rfl, g4, h2⟩ := dps_cons h2
      obtain ⟨x5, _, rfl, g5, h2⟩ := dps_cons h2
      cases dps_nil h2
      change Q (.bl (inI d0 0 255 && (inI d1 0 65535 && (inI d2 0 65535 && (inI d3 0 6 && (inI d4 0 (m - 1) && inI d5 0 16)))))) H at q
      have hMK := T.w_MARKS.sq H
      walk_at "wp"
      all_goals first | (rename_i hz; exact absurd rfl hz) | skip
      all_goals clear hMK h1 hp g0 g1 g2 g3 g4 g5 h6
      all_goals simp only [show (256 : Int) - 1 = 255 from rfl, List.length_cons, List.length_nil, show (((0 + 1 + 1 + 1 + 1 + 1 + 1 + 1 : Nat) : Int) - 1) = 6 from rfl] at *
      all_goals first | (simp only [*, Bool.true_and, Bool.false_and] at q; exact q) | skip
    · rw [regB_ne h6, ] at q
      have h6' : ¬ ((xs.length : Int) = 6) := by rw [dps_len h2]; omega
      walk_at "wp"
      all_goals first | exact q | (rename_i hz; exact absurd hz h6')
  | _ =>
    walk_at "wp"
    exact q
theorem use_are_registers {K : PySem.W.Frag} {C p dx : Addr} {b bk : V} {m : Int} {x : V} {d : PyData} {H : Hp} {Q : VK} {E : XK} (hp : H p = some (.ins C dx (fl_Digests b bk (.int m)))) (hx : Dv K H x d) (q : Q (.bl (regB m d)) H) : sp_are_registers K C [.ref p, x] H Q E := ⟨p, dx, b, bk, m, x, d, rfl, hp, hx, q⟩
local macro_rules | `(tactic| walk_at "wp1") => `(tactic| ((with_reducible show sp_are_registers _ _ _ _ _ _); refine use_are_registers (by walk_at "hp") (by with_reducible assumption) ?_))

/-! ### openings: their form -/
def partB (m : Int) : PyData → Bool
  | .tuple [w, .tuple ps] => inI w 0 65535 && (decide (ps.length = 8) && ps.all fun d => inI d 0 (m - 1))
  | _ => false
theorem partB_ne {m : Int} {ds : List PyData} (h : ¬ ds.length = 2) : partB m (.tuple ds) = false := by
  unfold partB
  split
  · rename_i hz
    injection hz with hz
    subst hz
    exact absurd rfl h
  · rfl
theorem two_of {ds : List PyData} (h : ds.length = 2) : ∃ a b, ds = [a, b] := by
  match ds, h with
  | [a, b], _ => exact ⟨a, b, rfl⟩
/-- tuples are not too long to be walked -/
def lenB : PyData → Bool
  | .tuple ds => decide (ds.length ≤ 40000)
  | _ => true
def sp_is_part (K : PySem.W.Frag) (C : Addr) : Sp := fun vs H Q _ => ∃ (p dx : Addr) (b bk : V) (m : Int) (x : V) (d : PyData), vs = [.ref p, x] ∧ H p = some (.ins C dx (fl_Digests b bk (.int m))) ∧ Dv K H x d ∧ ∀ H', Evl.Ex H H' → Q (.bl (partB m d)) H'
theorem ok_is_part (T : Txt K mg) : FnOk P w K mg base CX0 3 T.f_is_part.f T.f_is_part.fd ["digests", "value"] (sp_is_part K T.c_Digests.C) := by
  have G_Digests_is_digest := ok_Digests_is_digest (P := P) (w := w) (base := base) T
  have G_is_word := ok_is_word (P := P) (w := w) (base := base) T
  refine T.f_is_part.F.ok sc_is_part (fun vs H Q E h => ?_) (fun cdv A outer s H vs Q E hr h => ?_)
  · obtain ⟨p, dx, b, bk, m, x, d, rfl, hp, hx, q⟩ := h
    rfl
  obtain ⟨p, dx, b, bk, m, x, d, rfl, hp, hx, q⟩ := h
  have nd := sc_is_part.nd
  have hr2 : Room 2 _ := hr.mono (by decide)
  refine Kit.ok_body (σ := [some _, some _, none, none, none]) ((pss_cons (ps_if (PW.pt (pw_or (pt_not (pt_val (pe_callB (Kit.kIsi K) (by rfl) T.z_isinstance (by decide +kernel) (pa_cons (pv 1) (pa_cons (pe_bltn (v := .ty "tuple") (by rfl) T.z_tuple (by decide +kernel) rfl) pa_nil))))) (pw_or1 (pt_cmpR op_ne (pe_callB (Kit.kLen K) (by rfl) T.z_len (by decide +kernel) (pa_cons (pv 1) pa_nil)) pe_int (nomark _)))))
    (pss_one (ps_ret pe_bl))
    pss_nil)
    (pss_cons (ps_asg (pv 1) (Kit.kgTup K rfl (pgs_cons (pg_name (i := 2) nd rfl (Or.inl rfl)) (pgs_cons (pg_name (i := 3) nd rfl (Or.inl rfl)) pgs_nil))))
    (pss_cons (ps_if (PW.pt (pw_or (pt_not (pt_val (pe_call G_is_word hr2 (by rfl) T.f_is_word.g T.f_is_word.F.kp T.f_is_word.b .nil pass0 (pa_cons (pv 2) pa_nil)))) (pw_or (pt_not (pt_val (pe_callB (Kit.kIsi K) (by rfl) T.z_isinstance (by decide +kernel) (pa_cons (pv 3) (pa_cons (pe_bltn (v := .ty "tuple") (by rfl) T.z_tuple (by decide +kernel) rfl) pa_nil))))) (pw_or1 (pt_cmpR op_ne (pe_callB (Kit.kLen K) (by rfl) T.z_len (by decide +kernel) (pa_cons (pv 3) pa_nil)) (pe_glob (v := .int 8) rfl T.g_DEPTH ⟨_, rfl⟩) (nomark _))))))
    (pss_one (ps_ret pe_bl))
    pss_nil)
    (pss_one (ps_ret (pe_callB (kAll K rfl) (by rfl) T.z_all (by decide +kernel) (pa_cons (pe_lc (own := [("item", 4)]) (g := gName 4) (tt := tYes) (by rfl) nd (Kit.kpTup K (pv 3)) (blkOk_by (own := [("item", 4)]) (N := N_is_part) (sc := defScope s_is_part) (by decide +kernel)) (fun _ _ _ _ _ => pg_name (i := 4) nd rfl (Or.inl rfl)) (fun _ _ _ _ _ => pts_nil) (fun _ _ _ _ _ => (pe_meth (pv 0) T.c_Digests.cl T.m_Digests_is_digest G_Digests_is_digest hr2 T.f_Digests_is_digest.b .nil pass0 (pa_cons (pv 4) pa_nil)))) pa_nil)))))))) rfl ?_
  try dsimp only [L2.cxOf, L2.Cx.nox]
  cases hx with
  | @tup a xs ds h1 h2 =>
    by_cases h6 : ds.length = 2
    · obtain ⟨d0, d1, rfl⟩ := two_of h6
      obtain ⟨x0, _, rfl, g0, h2⟩ := dps_cons h2
      obtain ⟨x1, _, rfl, g1, h2⟩ := dps_cons h2
      cases dps_nil h2
      cases g1 with
      | @tup a2 ys es k1 k2 =>
        change ∀ H', Evl.Ex H H' → Q (.bl (inI d0 0 65535 && (decide (es.length = 8) && es.all fun d => inI d 0 (m - 1)))) H' at q
        by_cases h8 : es.length = 8
        · have h8' : (ys.length : Int) = 8 := by rw [dps_len k2]; omega
          walk_at "wp"
          all_goals first | (rename_i hz; exact absurd rfl hz) | (rename_i hz; exact absurd h8' hz) | skip
          · refine l_dps k1 k2 (by omega) (fun _ => rfl) (fun d => inI d 0 (m - 1)) ?_ ?_
            · intro x d H8 e8 hx _ R rr
              walk_at "wp"
              exact rr _ (Evl.Ex.refl _)
            · intro l H8 n8 e8 f8
              walk_at "wp"
              rw [decide_eq_true h8, Bool.true_and] at q
              simp only [*, Bool.true_and] at q
              exact q _ e8
          · simp only [*, Bool.false_and] at q
            exact q _ (Evl.Ex.refl _)
        · have h8' : ¬ ((ys.length : Int) = 8) := by rw [dps_len k2]; omega
          rw [decide_eq_false h8, Bool.false_and, Bool.and_false] at q
          walk_at "wp"
          all_goals first | (rename_i hz; exact absurd rfl hz) | (rename_i hz; exact absurd hz h8') | exact q _ (Evl.Ex.refl _)
      | _ =>
        walk_at "wp"
        all_goals first | (rename_i hz; exact absurd rfl hz) | exact q _ (Evl.Ex.refl _)
    · rw [partB_ne h6] at q
      have h6' : ¬ ((xs.length : Int) = 2) := by rw [dps_len h2]; omega
      walk_at "wp"
      all_goals first | exact q _ (Evl.Ex.refl _) | (rename_i hz; exact absurd hz h6')
  | _ =>
    walk_at "wp"
    exact q _ (Evl.Ex.refl _)
def openB (m : Int) : PyData → Bool
  | .tuple [r, t, .tuple ps] => regB m r && (inI t 0 (m - 1) && ps.all (partB m))
  | _ => false
theorem openB_ne {m : Int} {ds : List PyData} (h : ¬ ds.length = 3) : openB m (.tuple ds) = false := by
  unfold openB
  split
  · rename_i hz
    injection hz with hz
    subst hz
    exact absurd rfl h
  · rfl
theorem three_of {ds : List PyData} (h : ds.length = 3) : ∃ a b c, ds = [a, b, c] := by
  match ds, h with
  | [a, b, c], _ => exact ⟨a, b, c, rfl⟩
/-- the parts of a value that may be an opening are not too many to be walked -/
def fewB : PyData → Bool
  | .tuple [_, _, .tuple ps] => decide (ps.length ≤ 40000)
  | _ => true
def sp_is_opening (K : PySem.W.Frag) (C : Addr) : Sp := fun vs H Q _ => ∃ (p dx : Addr) (b bk : V) (m : Int) (x : V) (d : PyData), vs = [.ref p, x] ∧ H p = some (.ins C dx (fl_Digests b bk (.int m))) ∧ Dv K H x d ∧ fewB d = true ∧ ∀ H', Evl.Ex H H' → Q (.bl (openB m d)) H'
theorem ok_is_opening (T : Txt K mg) : FnOk P w K mg base CX0 4 T.f_is_opening.f T.f_is_opening.fd ["digests", "value"] (sp_is_opening K T.c_Digests.C) := by
  have G_Digests_is_digest := ok_Digests_is_digest (P := P) (w := w) (base := base) T
  have G_are_registers := ok_are_registers (P := P) (w := w) (base := base) T
  have G_is_part := ok_is_part (P := P) (w := w) (base := base) T
  refine T.f_is_opening.F.ok sc_is_opening (fun vs H Q E h => ?_) (fun cdv A outer s H vs Q E hr h => ?_)
  · obtain ⟨p, dx, b, bk, m, x, d, rfl, hp, hx, hf, q⟩ := h
    rfl
  obtain ⟨p, dx, b, bk, m, x, d, rfl, hp, hx, hf, q⟩ := h
  have nd := sc_is_opening.nd
  have hr2 : Room 2 _ := hr.mono (by decide)
  have hr3 : Room 3 _ := hr.mono (by decide)
  refine Kit.ok_body (σ := [some _, some _, none, none, none, none]) ((pss_cons (ps_if (PW.pt (pw_or (pt_not (pt_val (pe_callB (Kit.kIsi K) (by rfl) T.z_isinstance (by decide +kernel) (pa_cons (pv 1) (pa_cons (pe_bltn (v := .ty "tuple") (by rfl) T.z_tuple (by decide +kernel) rfl) pa_nil))))) (pw_or1 (pt_cmpR op_ne (pe_callB (Kit.kLen K) (by rfl) T.z_len (by decide +kernel) (pa_cons (pv 1) pa_nil)) pe_int (nomark _)))))
    (pss_one (ps_ret pe_bl))
    pss_nil)
    (pss_cons (ps_asg (pv 1) (Kit.kgTup K rfl (pgs_cons (pg_name (i := 2) nd rfl (Or.inl rfl)) (pgs_cons (pg_name (i := 3) nd rfl (Or.inl rfl)) (pgs_cons (pg_name (i := 4) nd rfl (Or.inl rfl)) pgs_nil)))))
    (pss_cons (ps_if (PW.pt (pw_or (pt_not (pt_val (pe_call G_are_registers hr3 (by rfl) T.f_are_registers.g T.f_are_registers.F.kp T.f_are_registers.b .nil pass0 (pa_cons (pv 0) (pa_cons (pv 2) pa_nil))))) (pw_or (pt_not (pt_val (pe_meth (pv 0) T.c_Digests.cl T.m_Digests_is_digest G_Digests_is_digest hr2 T.f_Digests_is_digest.b .nil pass0 (pa_cons (pv 3) pa_nil)))) (pw_or1 (pt_not (pt_val (pe_callB (Kit.kIsi K) (by rfl) T.z_isinstance (by decide +kernel) (pa_cons (pv 4) (pa_cons (pe_bltn (v := .ty "tuple") (by rfl) T.z_tuple (by decide +kernel) rfl) pa_nil)))))))))
    (pss_one (ps_ret pe_bl))
    pss_nil)
    (pss_one (ps_ret (pe_callB (kAll K rfl) (by rfl) T.z_all (by decide +kernel) (pa_cons (pe_lc (own := [("part", 5)]) (g := gName 5) (tt := tYes) (by rfl) nd (Kit.kpTup K (pv 4)) (blkOk_by (own := [("part", 5)]) (N := N_is_opening) (sc := defScope s_is_opening) (by decide +kernel)) (fun _ _ _ _ _ => pg_name (i := 5) nd rfl (Or.inl rfl)) (fun _ _ _ _ _ => pts_nil) (fun _ _ _ _ _ => (pe_call G_is_part hr3 (by rfl) T.f_is_part.g T.f_is_part.F.kp T.f_is_part.b .nil pass0 (pa_cons (pv 0) (pa_cons (pv 5) pa_nil))))) pa_nil)))))))) rfl ?_
  try dsimp only [L2.cxOf, L2.Cx.nox]
  cases hx with
  | @tup a xs ds h1 h2 =>
    by_cases h6 : ds.length = 3
    · obtain ⟨d0, d1, d2, rfl⟩ := three_of h6
      obtain ⟨x0, _, rfl, g0, h2⟩ := dps_cons h2
      obtain ⟨x1, _, rfl, g1, h2⟩ := dps_cons h2
      obtain ⟨x2, _, rfl, g2, h2⟩ := dps_cons h2
      cases dps_nil h2
      cases g2 with
      | @tup a2 ys es k1 k2 =>
        have hf : es.length ≤ 40000 := of_decide_eq_true hf
        change ∀ H', Evl.Ex H H' → Q (.bl (regB m d0 && (inI d1 0 (m - 1) && es.all (partB m)))) H' at q
        walk_at "wp"
        all_goals first | (rename_i hz; exact absurd rfl hz) | skip
        · refine l_dps k1 k2 (by rw [dps_len k2]; exact hf) (fun _ => rfl) (partB m) ?_ ?_
          · intro x d H8 e8 hx _ R rr
            walk_at "wp"
            exact ⟨p, dx, b, bk, m, x, d, rfl, e8 _ _ hp, hx, rr⟩
          · intro l H8 n8 e8 f8
            walk_at "wp"
            simp only [*, Bool.true_and] at q
            exact q _ e8
        all_goals
          simp only [*, Bool.true_and, Bool.false_and] at q
          exact q _ (Evl.Ex.refl _)
      | _ =>
        walk_at "wp"
        all_goals first | (rename_i hz; exact absurd rfl hz) | exact q _ (Evl.Ex.refl _) | skip
        all_goals
          simp only [openB, *, Bool.true_and, Bool.false_and] at q
          exact q _ (Evl.Ex.refl _)
    · rw [openB_ne h6] at q
      have h6' : ¬ ((xs.length : Int) = 3) := by rw [dps_len h2]; omega
      walk_at "wp"
      all_goals first | exact q _ (Evl.Ex.refl _) | (rename_i hz; exact absurd hz h6')
  | _ =>
    walk_at "wp"
    exact q _ (Evl.Ex.refl _)

/-! ### openings as data -/
def partD (m : Int) (s : MSt) (k : Int) : PyData := .tuple [.int (s.at k), .tuple ((memPath m s.mem k.toNat).map PyData.int)]
def plsI (s : MSt) : List Int := if s.mark = 0 then (match dataL (s.at s.pc / 1024) (s.at s.pc % 1024) s.x with | none => [s.pc] | some (k, _) => [s.pc, k]) else []
def openD (m : Int) (s : MSt) : PyData := .tuple [.tuple ((regsI s).map PyData.int), .int (memRoot m s.mem), .tuple ((plsI s).map (partD m s))]
theorem PartOf.dp {K : PySem.W.Frag} {H : Hp} {m : Int} {s : MSt} {k : Int} {v : V} : PartOf K H m s k v → Dv K H v (partD m s k)
  | ⟨_, _, e, h1, h2⟩ => e ▸ .tup h1 (.cons (.int _) (.cons (dp_itup h2) .nil))
theorem PartOf.of {K : PySem.W.Frag} {H : Hp} {m : Int} {s : MSt} {k : Int} {v : V} (h : Dv K H v (partD m s k)) : PartOf K H m s k v := by
  cases h with
  | tup h1 h2 =>
    obtain ⟨x, _, rfl, g0, h2⟩ := dps_cons h2
    obtain ⟨y, _, rfl, g1, h2⟩ := dps_cons h2
    cases dps_nil h2
    cases g0
    obtain ⟨p, rfl, hp⟩ := itup_of g1
    exact ⟨_, p, rfl, h1, hp⟩
theorem plsI_in {m : Int} {s : MSt} (ok : SOk m s) : ∀ k ∈ plsI s, 0 ≤ k ∧ k < 256 := by
  intro k hk
  unfold plsI at hk
  split at hk
  · split at hk
    · rw [List.mem_singleton] at hk
      rw [hk]; exact ok.pc
    · rename_i k2 b hd
      obtain ⟨_, h0, h1⟩ := dataL_in hd
      simp only [List.mem_cons, List.not_mem_nil, or_false] at hk
      rcases hk with rfl | rfl
      · exact ok.pc
      · exact ⟨h0, h1⟩
  · cases hk
theorem plsI_len (s : MSt) : (plsI s).length ≤ 2 := by
  unfold plsI
  split
  · split <;> simp
  · simp
theorem inI_t {i lo hi : Int} (h : lo ≤ i ∧ i ≤ hi) : inI (.int i) lo hi = true := by
  show (decide (lo ≤ i) && decide (i ≤ hi)) = true
  rw [decide_eq_true h.1, decide_eq_true h.2]
  rfl
theorem regB_t {m : Int} {s : MSt} (ok : SOk m s) : regB m (.tuple ((regsI s).map PyData.int)) = true := by
  have h1 := ok.pc
  have h2 := ok.acc
  have h3 := ok.x
  have h4 := ok.mark
  have h5 := ok.out
  have h6 := ok.count
  unfold IsW at h2 h3
  unfold Dg at h5
  show (inI (.int s.pc) 0 255 && (inI (.int s.acc) 0 65535 && (inI (.int s.x) 0 65535 && (inI (.int s.mark) 0 6 && (inI (.int s.out) 0 (m - 1) && inI (.int s.count) 0 16))))) = true
  rw [inI_t (by omega), inI_t (by omega), inI_t (by omega), inI_t (by omega), inI_t (by omega), inI_t (by omega)]
  rfl
theorem partB_t {m : Int} {s : MSt} (hm : 0 < m) (ok : SOk m s) (k : Int) : partB m (partD m s k) = true := by
  have h1 := ok.at k
  unfold IsW at h1
  show (inI (.int (s.at k)) 0 65535 && (decide (((memPath m s.mem k.toNat).map PyData.int).length = 8) && ((memPath m s.mem k.toNat).map PyData.int).all fun d => inI d 0 (m - 1))) = true
  rw [inI_t (by omega), decide_eq_true (by rw [List.length_map]; unfold memPath; exact KM.path_len _ _ _), Bool.true_and, Bool.true_and, List.all_eq_true]
  intro d hd
  obtain ⟨i, hi, rfl⟩ := List.mem_map.mp hd
  have := memPath_dg hm i hi
  unfold Dg at this
  exact inI_t (by omega)
theorem openB_t {m : Int} {s : MSt} (hm : 0 < m) (ok : SOk m s) : openB m (openD m s) = true := by
  have h1 := root_dg hm ok.len
  unfold Dg at h1
  show (regB m (.tuple ((regsI s).map PyData.int)) && (inI (.int (memRoot m s.mem)) 0 (m - 1) && ((plsI s).map (partD m s)).all (partB m))) = true
  rw [regB_t ok, inI_t (by omega), Bool.true_and, Bool.true_and, List.all_eq_true]
  intro d hd
  obtain ⟨i, _, rfl⟩ := List.mem_map.mp hd
  exact partB_t hm ok i
theorem few_t {m : Int} {s : MSt} : fewB (openD m s) = true := by
  show decide (((plsI s).map (partD m s)).length ≤ 40000) = true
  rw [List.length_map]
  exact decide_eq_true (Nat.le_trans (plsI_len s) (by decide))
/-- what stands in an opening -/
theorem open_of {K : PySem.W.Frag} {H : Hp} {m : Int} {s : MSt} {v : V} (h : Dv K H v (openD m s)) : ∃ t r p xs, v = .ref t ∧ SqT K H t [.ref r, .int (memRoot m s.mem), .ref p] ∧ SqT K H r ((regsI s).map V.int) ∧ SqT K H p xs ∧ DvAll K H xs ((plsI s).map (partD m s)) := by
  cases h with
  | tup h1 h2 =>
    obtain ⟨x, _, rfl, g0, h2⟩ := dps_cons h2
    obtain ⟨y, _, rfl, g1, h2⟩ := dps_cons h2
    obtain ⟨z, _, rfl, g2, h2⟩ := dps_cons h2
    cases dps_nil h2
    cases g1
    obtain ⟨r, rfl, hr⟩ := itup_of g0
    cases g2 with
    | tup k1 k2 => exact ⟨_, r, _, _, rfl, h1, hr, k1, k2⟩
def sp_step_of (K : PySem.W.Frag) (C CX : Addr) : Sp := fun vs H Q E => ∃ (g : Addr) (m : Int) (s : MSt) (v : V) (d : PyData), vs = [.ref g, .int (digestM m s), v] ∧ DigN C H g m ∧ 100 < m ∧ SOk m s ∧ Dv K H v d ∧ fewB d = true ∧
  ((d = openD m s ∧ ∀ H', Evl.Ex H H' → Q (.int (digestM m (s.stepM m))) H') ∨ (openB m d = false ∧ ∀ H', Evl.Ex H H' → E (.ref CX) none H'))
theorem ok_step_of (T : Txt K mg) : FnOk P w K mg base (L2.CX P w) 6 T.f_step_of.f T.f_step_of.fd ["digests", "digest", "opening"] (sp_step_of K T.c_Digests.C T.e_BadOpening.C) := by
  have G_Digests_state := ok_Digests_state (P := P) (w := w) (base := base) T
  have G_is_opening := ok_is_opening (P := P) (w := w) (base := base) T
  have G_step_by := ok_step_by (P := P) (w := w) (base := base) T
  refine T.f_step_of.F.okX sc_step_of (fun vs H Q E h => ?_) (fun cdv A outer s H vs Q E hr h => ?_)
  · obtain ⟨g, m, s, v, d, rfl, hd, m1, ok, hv, hfew, hq⟩ := h
    rfl
  obtain ⟨g, m, s, v, d, rfl, hd, m1, ok, hv, hfew, hq⟩ := h
  have nd := sc_step_of.nd
  have hr2 : Room 2 _ := hr.mono (by decide)
  have hr4 : Room 4 _ := hr.mono (by decide)
  have hr5 : Room 5 _ := hr.mono (by decide)
  refine Kit.ok_body (σ := [some _, some _, some _, none, none, none]) ((pss_cons (ps_if (pt_not (pt_val (pe_call G_is_opening hr4 (by rfl) T.f_is_opening.g T.f_is_opening.F.kp T.f_is_opening.b .nil pass0 (pa_cons (pv 0) (pa_cons (pv 2) pa_nil)))))
    (pss_one (Kit.ps_raise0 rfl (takes_of rfl rfl rfl rfl) T.e_BadOpening rfl rfl (by exact rfl)))
    pss_nil)
    (pss_cons (ps_asg (pv 2) (Kit.kgTup K rfl (pgs_cons (pg_name (i := 3) nd rfl (Or.inl rfl)) (pgs_cons (pg_name (i := 4) nd rfl (Or.inl rfl)) (pgs_cons (pg_name (i := 5) nd rfl (Or.inl rfl)) pgs_nil)))))
    (pss_cons (ps_if (pt_cmpR op_ne (pe_meth (pv 0) T.c_Digests.cl T.m_Digests_state G_Digests_state hr2 T.f_Digests_state.b .nil pass0 (pa_cons (pe_op (Kit.kCat K) (pv 3) (pe_tup (pa_cons (pv 4) pa_nil))) pa_nil)) (pv 1) (nomark _))
    (pss_one (Kit.ps_raise0 rfl (takes_of rfl rfl rfl rfl) T.e_BadOpening rfl rfl (by exact rfl)))
    pss_nil)
    (pss_cons (ps_if (pt_cmpR op_eq (pe_ix (Kit.ixT K) (pv 3) pe_int (fun _ _ => rfl)) pe_int (nomark _))
    (pss_one (ps_ret (pe_call G_step_by hr5 (by rfl) T.f_step_by.g T.f_step_by.F.kp T.f_step_by.b .nil pass0 (pa_cons (pv 0) (pa_cons (pv 3) (pa_cons (pv 4) (pa_cons (pv 5) pa_nil)))))))
    pss_nil)
    (pss_cons (ps_if (pt_cmpR op_ne (pe_callB (Kit.kLen K) (by rfl) T.z_len (by decide +kernel) (pa_cons (pv 5) pa_nil)) pe_int (nomark _))
    (pss_one (Kit.ps_raise0 rfl (takes_of rfl rfl rfl rfl) T.e_BadOpening rfl rfl (by exact rfl)))
    pss_nil)
    (pss_one (ps_ret (pv 1))))))))) rfl ?_
  try dsimp only [L2.cxOf, L2.Cx.nox]
  obtain ⟨dx, b, hg⟩ := hd.at_
  rcases hq with ⟨rfl, q⟩ | ⟨hno, q⟩
  · obtain ⟨t, r, p, xs, rfl, ht, hr6, hp, hxs⟩ := open_of hv
    walk_at "wp"
    refine ⟨g, dx, b, .non, m, .ref t, _, rfl, hg, hv, few_t, fun H1 e1 => ?_⟩
    rw [openB_t hd.pos ok]
    have ht1 := Evl.ex_t e1 ht
    have hr1 : SqT K H1 r [.int s.pc, .int s.acc, .int s.x, .int s.mark, .int s.out, .int s.count] := Evl.ex_t e1 hr6
    walk_at "wp"
    rename_i p1 H4 n4 e4 f4 p2 H5 e5 f5
    have hd5 : DigN T.c_Digests.C H5 g m := hd.ex (e1.trans (e4.trans e5))
    refine ⟨g, m, p2, regsI s ++ [memRoot m s.mem], rfl, hd5, by omega, f5, ok.nums hd.lt hd.pos, by simp [regsI], fun H6 e6 => ?_⟩
    have E6 := e1.trans (e4.trans (e5.trans e6))
    have hr2 : SqT K H6 r [.int s.pc, .int s.acc, .int s.x, .int s.mark, .int s.out, .int s.count] := Evl.ex_t E6 hr6
    have hp6 := Evl.ex_t E6 hp
    have hx6 := dps_ex E6 _ _ hxs
    rw [show stateI m (regsI s ++ [memRoot m s.mem]) = digestM m s from rfl]
    walk_at "wp"
    · rename_i hmark
      refine ⟨g, r, p, m, s, xs, rfl, hd.ex E6, m1, hr2, ok, hmark, hp6, ?_, fun H' e => q _ (E6.trans e)⟩
      unfold plsI at hx6
      rw [if_pos hmark] at hx6
      generalize dataL (s.at s.pc / 1024) (s.at s.pc % 1024) s.x = od at hx6 ⊢
      rcases od with _ | ⟨k, bb⟩
      · obtain ⟨x, _, rfl, g0, h2⟩ := dps_cons hx6
        cases dps_nil h2
        exact ⟨x, rfl, PartOf.of g0⟩
      · obtain ⟨x, _, rfl, g0, h2⟩ := dps_cons hx6
        obtain ⟨y, _, rfl, g1, h2⟩ := dps_cons h2
        cases dps_nil h2
        exact ⟨x, y, rfl, PartOf.of g0, PartOf.of g1⟩
    all_goals
      rename_i hmark hz
      have hx0 : xs = [] := by
        unfold plsI at hx6
        rw [if_neg hmark] at hx6
        exact dps_nil hx6
      first
      | (exact absurd (by rw [hx0]; rfl) hz)
      | (rw [stepM_rest hmark] at q
         exact q _ E6)
  · walk_at "wp"
    refine ⟨g, dx, b, .non, m, v, d, rfl, hg, hv, hfew, fun H1 e1 => ?_⟩
    rw [hno]
    walk_at "wp"
    exact q _ e1
theorem dps_of {K : PySem.W.Frag} {H : Hp} : ∀ {ys : List V} {ds : List PyData}, ys.length = ds.length → (∀ (i : Nat) y d, ys[i]? = some y → ds[i]? = some d → Dv K H y d) → DvAll K H ys ds
  | [], [], _, _ => .nil
  | y :: ys, d :: ds, hl, h => .cons (h 0 y d rfl rfl) (dps_of (by simpa using hl) fun i y d hy hd => h (i + 1) y d hy hd)
def sp_opened (K : PySem.W.Frag) (C CM : Addr) : Sp := fun vs H Q _ => ∃ (p : Addr) (F : List Addr) (dg : Addr) (m : Int) (s : MSt), vs = [.ref p] ∧ MacAt K C CM H p F dg m s ∧ SOk m s ∧ ∀ v H', Evl.Ex H H' → Dv K H' v (openD m s) → Q v H'
theorem ok_opened (T : Txt K mg) : FnOk P w K mg base CX0 4 T.f_opened.f T.f_opened.fd ["machine"] (sp_opened K T.c_Machine.C T.c_Memory.C) := by
  have G_Machine_path := ok_Machine_path (P := P) (w := w) (base := base) T
  have G_Machine_registers := ok_Machine_registers (P := P) (w := w) (base := base) T
  have G_Machine_root := ok_Machine_root (P := P) (w := w) (base := base) T
  have G_Machine_word := ok_Machine_word (P := P) (w := w) (base := base) T
  have G_places_of := ok_places_of (P := P) (w := w) (base := base) T
  refine T.f_opened.F.ok sc_opened (fun vs H Q E h => ?_) (fun cdv A outer s H vs Q E hr h => ?_)
  · obtain ⟨p, F, dg, m, s, rfl, hm, ok, q⟩ := h
    rfl
  obtain ⟨p, F, dg, m, s, rfl, hm, ok, q⟩ := h
  have nd := sc_opened.nd
  have hr1 : Room 1 _ := hr.mono (by decide)
  have hr2 : Room 2 _ := hr.mono (by decide)
  have hr3 : Room 3 _ := hr.mono (by decide)
  refine Kit.ok_body (σ := [some _, none, none, none, none]) ((pss_cons (ps_set (i := 1) nd rfl (Or.inl rfl) (pe_meth0 (pv 0) T.c_Machine.cl T.m_Machine_registers G_Machine_registers hr1 T.f_Machine_registers.b .nil pass0))
    (pss_cons (ps_set (i := 2) nd rfl (Or.inl rfl) (pe_lst pa_nil))
    (pss_cons (ps_if (pt_cmpR op_eq (pe_ix (Kit.ixT K) (pv 1) pe_int (fun _ _ => rfl)) pe_int (nomark _))
    (pss_one (ps_set (i := 2) nd rfl (Or.inl rfl) (pe_call G_places_of hr3 (by rfl) T.f_places_of.g T.f_places_of.F.kp T.f_places_of.b .nil pass0 (pa_cons (pv 1) (pa_cons (pe_meth (pv 0) T.c_Machine.cl T.m_Machine_word G_Machine_word hr2 T.f_Machine_word.b .nil pass0 (pa_cons (pe_ix (Kit.ixT K) (pv 1) pe_int (fun _ _ => rfl)) pa_nil)) pa_nil)))))
    pss_nil)
    (pss_cons (ps_setLc (i := 3) (own := [("place", 4)]) (g := gName 4) (tt := tYes) (by rfl) nd rfl rfl (sw_true rfl rfl rfl (by decide +kernel)) (Kit.kpList K (pv 2)) (blkOk_by (own := [("place", 4)]) (N := N_opened) (sc := defScope s_opened) (by decide +kernel)) (fun _ _ _ _ _ => pg_name (i := 4) nd rfl (Or.inl rfl)) (fun _ _ _ _ _ => pts_nil) (fun _ _ _ _ _ => (pe_tup (pa_cons (pe_meth (pv 0) T.c_Machine.cl T.m_Machine_word G_Machine_word hr2 T.f_Machine_word.b .nil pass0 (pa_cons (pv 4) pa_nil)) (pa_cons (pe_meth (pv 0) T.c_Machine.cl T.m_Machine_path G_Machine_path hr3 T.f_Machine_path.b .nil pass0 (pa_cons (pv 4) pa_nil)) pa_nil)))))
    (pss_one (ps_ret (pe_tup (pa_cons (pv 1) (pa_cons (pe_meth0 (pv 0) T.c_Machine.cl T.m_Machine_root G_Machine_root hr2 T.f_Machine_root.b .nil pass0) (pa_cons (pe_callTy (Kit.kTuple K) (by rfl) T.z_tuple (by decide +kernel) (pa_cons (pv 3) pa_nil)) pa_nil))))))))))) rfl ?_
  try dsimp only [L2.cxOf, L2.Cx.nox]
  walk_at "wp"
  refine ⟨p, F, dg, m, s, rfl, hm, fun r hr6 => ?_⟩
  have hr : SqT K H r [.int s.pc, .int s.acc, .int s.x, .int s.mark, .int s.out, .int s.count] := hr6
  have hW := ok.at s.pc
  walk_at "wp"
  all_goals rename_i pl H2 n2 e2 f2 hmark
  rotate_left
  replace f2 : H2 pl = some (.lst ((plsI s).map V.int)) := by
    rw [f2]
    unfold plsI
    rw [if_neg hmark]
    rfl
  rotate_left
  have hr1 := Evl.ex_t e2 hr
  refine ⟨p, F, dg, m, s, s.pc, rfl, hm.exE e2, ?_⟩
  rw [wordAt_pc ok]
  walk_at "wp"
  refine ⟨r, s.at s.pc, s.pc, s.acc, s.x, s.mark, s.out, s.count, rfl, hr1, hW.1, hW.2, fun pl H2 n2 e3 f2 => ?_⟩
  replace e2 := e2.trans e3
  replace f2 : H2 pl = some (.lst ((plsI s).map V.int)) := by
    rw [data_math (a := s.at s.pc % 1024) (by have := hW.1; omega) (by omega)] at f2
    rw [f2]
    unfold plsI placesV
    rw [if_pos hmark]
    generalize dataL (s.at s.pc / 1024) (s.at s.pc % 1024) s.x = od
    rcases od with _ | ⟨k, b⟩ <;> rfl
  all_goals
    have hlen : ((plsI s).map V.int).length ≤ 2 := by rw [List.length_map]; exact plsI_len s
    walk_at "wp"
    refine ⟨pl, rfl, ⟨_, Evl.sq_of f2⟩, ?_⟩
    refine Kit.l_grow Kit.walks_list (by omega) (fun _ => rfl) (Evl.sq_of f2) (fun _ _ e h => Evl.ex_l e h) (fun D i v H' => ∃ (t a : Addr) (k : Int), (plsI s)[i]? = some k ∧ v = .ref t ∧ t ≠ D ∧ a ≠ D ∧ H' t = some (.tup [.int (s.at k), .ref a]) ∧ H' a = some (.tup (iv (memPath m s.mem k.toNat))))
      (fun D i v H3 H4 m3 ⟨t, a, k, h1, h2, h3, h4, h5, h6⟩ => ⟨t, a, k, h1, h2, h3, h4, m3 _ _ h3 h5, m3 _ _ h4 h6⟩) ?_ ?_
    · intro D i acc H3 hD hi e3 hD3 R rr
      rw [List.length_map] at hi
      have hk : (plsI s)[i]? = some (plsI s)[i] := List.getElem?_eq_getElem hi
      obtain ⟨k0, k1⟩ := plsI_in ok _ (List.getElem_mem hi)
      rw [List.getElem?_map, hk]
      generalize (plsI s)[i] = k at *
      have E3 := e2.trans e3
      show _
      walk_at "wp"
      refine ⟨p, F, dg, m, s, k, rfl, hm.exE E3, ?_⟩
      rw [wordAt_in k0 k1]
      walk_at "wp"
      refine ⟨p, F, dg, m, s, k, rfl, hm.exE E3, fun a H4 n4 e4 f4 => ?_⟩
      rw [Int.emod_eq_of_lt k0 k1] at f4
      walk_at "wp"
      rename_i t H5 n5 e5 f5
      refine rr _ H5 (e4.trans e5) ⟨t, a, k, hk, rfl, fun z => ?_, fun z => ?_, f5, e5 _ _ f4⟩
      · rw [z, e4 _ _ hD3] at n5; cases n5
      · rw [z, hD3] at n4; cases n4
    · intro D ys H3 nD e3 fD hyl hpe
      have E3 := e2.trans e3
      walk_at "wp"
      refine ⟨p, F, dg, m, s, rfl, hm.exE E3, ?_⟩
      walk_at "wp"
      rename_i t4 H4 n4 e4 f4 t5 H5 n5 e5 f5
      have E5 := E3.trans (e4.trans e5)
      refine q _ H5 E5 (.tup (Evl.st_of f5) (.cons (dp_itup (Evl.ex_t E5 hr6)) (.cons (.int _) (.cons (.tup (Evl.st_of (e5 _ _ f4)) (dps_of ?_ ?_)) .nil))))
      · rw [hyl, List.length_map, List.length_map]
      · intro i y d hy hd
        obtain ⟨t, a, k, h1, h2, h3, h4, h5, h6⟩ := hpe i y hy
        rw [List.getElem?_map, h1] at hd
        cases hd
        exact PartOf.dp ⟨t, a, h2, Evl.st_of (e5 _ _ (e4 _ _ h5)), Evl.st_of (e5 _ _ (e4 _ _ h6))⟩

/-! ### drawn words -/
theorem Bag5.updI {H : Hp} {p D : Addr} {ws : List Int} (b : Bag5 H p) (h : D ≠ p) : Bag5 (upd H D (.lst (ws.map V.int))) p := by
  obtain ⟨r, s, k, c, cs, h1, h2, h3, h4⟩ := b
  by_cases e : c = D
  · subst e
    exact ⟨r, s, k, c, ws, by rw [upd_ne h.symm]; exact h1, upd_same, h3, h4⟩
  · exact ⟨r, s, k, c, cs, by rw [upd_ne h.symm]; exact h1, by rw [upd_ne e]; exact h2, h3, h4⟩
/-- [.. for k in range(n)] where each item draws -/
theorem l_bag {n : Int} {p : Addr} {H : Hp} {Q : VK} {σ : L2.St} {vs : List Nat} {te : TE} {j : Nat} (hb : Bag5 H p) (h0 : 0 ≤ n) (hn : n ≤ 40000) (hw : ∀ v, wipe ((wipe σ vs).set j (some v)) vs = wipe σ vs) (P : Int → Prop)
    (he : ∀ (i : Nat) H', (i : Int) < n → Kit.ExBut p H H' → Bag5 H' p → ∀ R : VK, (∀ v H2, P v → Kit.ExBut p H' H2 → Bag5 H2 p → R (.int v) H2) → te ((wipe σ vs).set j (some (.int (i : Int)))) H' R)
    (q : ∀ D (ws : List Int) H2, H D = none → Kit.ExBut p H H2 → Bag5 H2 p → H2 D = some (.lst (ws.map V.int)) → ws.length = n.toNat → (∀ w ∈ ws, P w) → Q (.ref D) H2) :
    ∃ k : Int, [V.int n] = [.int k] ∧ -(2 ^ 62) ≤ k ∧ k < 2 ^ 62 ∧ Kit.Lcj (Itr 0 k.toNat) (gName j) tYes te vs σ H Q := by
  have hDp : ∀ D, H D = none → D ≠ p := fun D hD => hb.ne hD
  refine ⟨n, rfl, by omega, by omega, Kit.l_any Kit.walks_rng (by omega) hw (fun D i acc H' => H D = none ∧ Kit.ExBut p H H' ∧ Bag5 H' p ∧ ∃ ws : List Int, acc = ws.map V.int ∧ ws.length = i ∧ ∀ w ∈ ws, P w) (fun _ _ _ _ _ => trivial) (fun D hD => ⟨hD, .of (Evl.Ex.new hD), hb.ex (Evl.Ex.new hD), [], rfl, rfl, fun w hw => nomatch hw⟩) ?_ ?_⟩
  · rintro D i acc H' hD hi _ ha ⟨_, m, b, ws, rfl, hl, hP⟩ R _ r2
    refine r2 H' fun R2 rr => ?_
    have e0 : (0 : Int) + (i : Int) = (i : Int) := Int.zero_add _
    show te ((wipe σ vs).set j (some (.int (0 + (i : Int))))) H' R2
    rw [e0]
    refine he i H' (by omega) m b R2 fun v H2 hv m2 b2 => ?_
    have hD2 : H2 D = some (.lst (ws.map V.int)) := m2 _ _ (hDp D hD) ha
    have eA : ws.map V.int ++ [V.int v] = (ws ++ [v]).map V.int := by rw [List.map_append]; rfl
    refine rr (.int v) H2 hD2 ?_
    rw [eA]
    refine ⟨hD, fun c o hc ho => ?_, b2.updI (hDp D hD), ws ++ [v], rfl, by rw [List.length_append, hl]; rfl, fun w hw => ?_⟩
    · rw [upd_ne (ne_of_none ho hD)]
      exact m2 c o hc (m c o hc ho)
    · rcases List.mem_append.mp hw with h | h
      · exact hP w h
      · rw [List.mem_singleton.mp h]; exact hv
  · rintro D acc H2 hD _ ha ⟨_, m, b, ws, rfl, hl, hP⟩
    exact q D ws H2 hD m b ha (by rw [hl]) hP
theorem but_back {p l : Addr} {H H' : Hp} (m : Kit.ExBut p H H') (h : H' l = none) (n : l ≠ p) : H l = none := by
  cases e : H l with
  | none => rfl
  | some o => have := m l o n e; rw [h] at this; cases this
theorem cut_take {xs : List V} {n : Nat} (h : n ≤ xs.length) : cutV xs none (some (n : Int)) = xs.take n := by
  unfold cutV
  rw [HT.sIx_none]
  have e : HT.sIx xs.length xs.length (some (n : Int)) = n := by
    unfold HT.sIx
    simp
    rw [if_neg (by omega)]
    omega
  rw [e]
  simp
def sp_law_words : Sp := fun vs H Q _ => ∃ (p : Addr), vs = [.ref p] ∧ Bag5 H p ∧ ∀ t ws H', H t = none → Kit.ExBut p H H' → Bag5 H' p → H' t = some (.tup (iv ws)) → ws.length = 256 → (∀ w ∈ ws, IsW w) → Q (.ref t) H'
theorem ok_law_words (T : Txt K mg) : FnOk P w K mg base CX0 3 T.f_law_words.f T.f_law_words.fd ["bag"] (sp_law_words) := by
  have G_law_draw := ok_law_draw (P := P) (w := w) (base := base) T
  have G_law_word := ok_law_word (P := P) (w := w) (base := base) T
  refine T.f_law_words.F.ok sc_law_words (fun vs H Q E h => ?_) (fun cdv A outer s H vs Q E hr h => ?_)
  · obtain ⟨p, rfl, hb, q⟩ := h
    rfl
  obtain ⟨p, rfl, hb, q⟩ := h
  have nd := sc_law_words.nd
  have hr1 : Room 1 _ := hr.mono (by decide)
  have hr2 : Room 2 _ := hr.mono (by decide)
  refine Kit.ok_body (σ := [some _, none, none, none]) ((pss_cons (ps_set (i := 1) nd rfl (Or.inl rfl) (pe_ix (Kit.ixL K) (pe_lst (pa_cons pe_int (pa_cons pe_int (pa_cons pe_int pa_nil)))) (pe_call G_law_draw hr1 (by rfl) T.f_law_draw.g T.f_law_draw.F.kp T.f_law_draw.b .nil pass0 (pa_cons (pv 0) (pa_cons pe_int pa_nil))) (fun _ _ => rfl)))
    (pss_cons (ps_setLc (i := 2) (own := [("k", 3)]) (g := gName 3) (tt := tYes) (by rfl) nd rfl rfl (sw_true rfl rfl rfl (by decide +kernel)) (pi_range1 (by rfl) T.z_range (pa_cons (pv 1) pa_nil)) (blkOk_by (own := [("k", 3)]) (N := N_law_words) (sc := defScope s_law_words) (by decide +kernel)) (fun _ _ _ _ _ => pg_name (i := 3) nd rfl (Or.inl rfl)) (fun _ _ _ _ _ => pts_nil) (fun _ _ _ _ _ => (pe_call G_law_word hr2 (by rfl) T.f_law_word.g T.f_law_word.F.kp T.f_law_word.b .nil pass0 (pa_cons (pv 0) pa_nil))))
    (pss_one (ps_ret (pe_callTy (Kit.kTuple K) (by rfl) T.z_tuple (by decide +kernel) (pa_cons (pe_slice (Kit.kSlL K) (pe_op op_cat (pv 2) (pe_lc (own := [("k", 3)]) (g := gName 3) (tt := tYes) (by rfl) nd (pi_range1 (by rfl) T.z_range (pa_cons pe_int pa_nil)) (blkOk_by (own := [("k", 3)]) (N := N_law_words) (sc := defScope s_law_words) (by decide +kernel)) (fun _ _ _ _ _ => pg_name (i := 3) nd rfl (Or.inl rfl)) (fun _ _ _ _ _ => pts_nil) (fun _ _ _ _ _ => (pe_ix (Kit.ixL K) (pe_lst (pa_cons pe_int (pa_cons pe_int (pa_cons pe_int pa_nil)))) (pe_call G_law_draw hr1 (by rfl) T.f_law_draw.g T.f_law_draw.F.kp T.f_law_draw.b .nil pass0 (pa_cons (pv 0) (pa_cons pe_int pa_nil))) (fun _ _ => rfl))))) po_none (po_some pe_int)) pa_nil))))))) rfl ?_
  try dsimp only [L2.cxOf, L2.Cx.nox]
  walk_at "wp"
  rename_i pl H1 n1 e1 f1 i H2 i0 i1 m2 b2
  refine w_pick [16, 40, 256] (by walk_at "hpB") rfl i0 i1 fun sz hsz => ?_
  have hsz : 0 ≤ sz ∧ sz ≤ 256 := by
    simp only [List.mem_cons, List.not_mem_nil, or_false] at hsz
    omega
  walk_at "wp"
  refine l_bag b2 hsz.1 (by omega) (fun _ => rfl) IsW ?_ ?_
  · intro k H3 hk m3 b3 R rr
    walk_at "wp"
    rename_i v H4 hv m4 b4
    exact rr v H4 hv m4 b4
  intro row rs H3 n3 m3 b3 f3 hl3 hw3
  walk_at "wp"
  refine l_bag b3 (by decide) (by decide) (fun _ => rfl) IsW ?_ ?_
  · intro k H4 hk m4 b4 R rr
    walk_at "wp"
    rename_i pk H5 n5 e5 f5 j H6 j0 j1 m6 b6
    refine w_pick [0, 65535, 3000] (by walk_at "hpB") rfl j0 j1 fun v hv => ?_
    refine rr v H6 ?_ (by walk_at "but") b6
    simp only [List.mem_cons, List.not_mem_nil, or_false] at hv
    exact ⟨by omega, by omega⟩
  intro row2 rs2 H4 n4 m4 b4 f4 hl4 hw4
  have f3' : H4 row = some (.lst (rs.map V.int)) := m4 _ _ (b2.ne n3) f3
  have hlen : (rs.map V.int).length + (rs2.map V.int).length ≤ 100000 := by rw [List.length_map, List.length_map]; omega
  walk_at "wp"
  rename_i r3 H5 n5 e5 f5 r4 H6 n6 e6 f6 t H7 n7 e7 f7
  have hcut : cutV (rs.map V.int ++ rs2.map V.int) none (some 256) = iv ((rs ++ rs2).take 256) := by
    rw [show (256 : Int) = ((256 : Nat) : Int) from rfl, cut_take (by rw [List.length_append, List.length_map, List.length_map, hl4]; exact Nat.le_add_left _ _)]
    unfold iv
    rw [List.map_take, List.map_append]
  rw [hcut] at f7
  have bt : Bag5 H6 p := by walk_at "bag"
  refine q t _ H7 (but_back (show Kit.ExBut p H H6 from by walk_at "but") n7 (bt.ne n7)) (by walk_at "but") (by walk_at "bag") f7 ?_ ?_
  · rw [List.length_take, List.length_append, hl4]
    show min 256 (rs.length + 256) = 256
    omega
  · intro w hw
    have hw := List.mem_of_mem_take hw
    rcases List.mem_append.mp hw with h | h
    · exact hw3 w h
    · exact hw4 w h

/-! ### a drawn size of digests -/
theorem flat_ints : ∀ ss : List Int, (ss.map V.int).all flatV = true
  | [] => rfl
  | _ :: ss => by rw [List.map_cons, List.all_cons, flat_ints ss]; rfl
theorem w_indexI {K : PySem.W.Frag} {p : Addr} {H : Hp} {Q : VK} {ss : List Int} {j : Nat} {z : Int} (h : SqL K H p (ss.map V.int)) (hz : ss[j]? = some z) (hlt : ∀ m, m < j → ss[m]? ≠ some z) (q : Q (.int (j : Int)) H) : rIndex K (.ref p) [.int z] H Q := by
  refine ⟨p, ss.map V.int, .int z, j, .int z, rfl, rfl, h, rfl, flat_ints ss, by rw [List.getElem?_map, hz]; rfl, by show (z == z) = true; exact beq_self_eq_true z, fun m z' hm e => ?_, q⟩
  rw [List.getElem?_map] at e
  cases ht : ss[m]? with
  | none => rw [ht] at e; cases e
  | some t =>
    rw [ht] at e
    cases e
    show (t == z) = false
    exact beq_eq_false_iff_ne.mpr fun c => hlt m hm (by rw [ht, c])
def msV : List V := [.int (2 ^ (61 : Int).toNat - 1), .int (2 ^ (31 : Int).toNat - 1), .int (2 ^ (13 : Int).toNat - 1), .int (2 ^ (7 : Int).toNat - 1)]
def bits4 : List Int := [61, 31, 13, 7]
theorem bits_ix {z : Int} (h : z ∈ bits4) : IsBits z ∧ ∃ j : Nat, bits4[j]? = some z ∧ (∀ m : Nat, m < j → bits4[m]? ≠ some z) ∧ atI msV (j : Int) = some (.int (2 ^ z.toNat - 1)) := by
  have hd : ∀ j : Fin 4, ∀ m : Fin 4, m.1 < j.1 → bits4[m.1]? ≠ bits4[j.1]? := by decide
  have go : ∀ j : Fin 4, ∀ m, m < j.1 → bits4[m]? ≠ bits4[j.1]? := fun j m hm => hd j ⟨m, by omega⟩ hm
  simp only [bits4, List.mem_cons, List.not_mem_nil, or_false] at h
  rcases h with rfl | rfl | rfl | rfl
  · exact ⟨.b61, 0, rfl, go 0, L2.atI_nat (j := 0) rfl⟩
  · exact ⟨.b31, 1, rfl, go 1, L2.atI_nat (j := 1) rfl⟩
  · exact ⟨.b13, 2, rfl, go 2, L2.atI_nat (j := 2) rfl⟩
  · exact ⟨.b7, 3, rfl, go 3, L2.atI_nat (j := 3) rfl⟩
theorem IsBits.m100 {b : Int} (h : IsBits b) : 100 < 2 ^ b.toNat - (1 : Int) := by cases h <;> decide
def sp_law (K : PySem.W.Frag) : Sp := fun vs H Q _ => ∃ (a : Addr) (ns : List Int), vs = [.ref a] ∧ SqL K H a (ns.map V.int) ∧ ns.length ≤ 63 ∧ ∀ H', Q (.bl true) H'
theorem sp_law_of {K : PySem.W.Frag} {H : Hp} {a : Addr} {ns : List Int} (hl : ns.length ≤ 63) (hS : SqL K H a (ns.map V.int)) : sp_law K [.ref a] H (fun v _ => v = .bl true) fun _ _ _ => False := ⟨a, ns, rfl, hS, hl, fun _ => rfl⟩

def MakeM (C : Addr) (sp : Sp) (E : XK) (vs : List V) (H : Hp) (Q : VK) : Prop := Kit.MakeOf C sp E vs H Q
theorem mk_stop {C : Addr} {sp : Sp} {E : XK} {vs : List V} {H : Hp} {Q : VK} (h : MakeM C sp E vs H Q) : Kit.MakeOf C sp E vs H Q := h
local macro_rules | `(tactic| walk_at "wp1") => `(tactic| ((with_reducible show Kit.MakeOf _ (sp_Machine_init _ _ _ _) _ _ _ _); refine mk_stop ?_))

theorem kind1 {H : Hp} {p : Addr} (b : Bag5 H p) : KindF [p] H := fun x hx => by
  rw [List.mem_singleton] at hx
  subst hx
  obtain ⟨_, _, _, _, _, h1, _⟩ := b
  exact .inl ⟨_, h1⟩
theorem Bag5.by {F : List Addr} {H H' : Hp} {p : Addr} (b : Bag5 H p) (e : ExBy F H H') (n : p ∉ F) (c : ∀ x ∈ F, ∀ ns : List Int, H x = some (.lst (ns.map V.int)) → ∃ ns' : List Int, H' x = some (.lst (ns'.map V.int))) : Bag5 H' p := by
  obtain ⟨r, s, k, c0, cs, h1, h2, h3, h4⟩ := b
  by_cases hc : c0 ∈ F
  · obtain ⟨ns', h⟩ := c c0 hc cs h2
    exact ⟨r, s, k, c0, ns', e _ _ n h1, h, h3, h4⟩
  · exact ⟨r, s, k, c0, cs, e _ _ n h1, e _ _ hc h2, h3, h4⟩
theorem MacAt.cells {K : PySem.W.Frag} {C CM : Addr} {H H' : Hp} {p : Addr} {F : List Addr} {dg : Addr} {m : Int} {s s' : MSt} (h : MacAt K C CM H p F dg m s) (h' : MacAt K C CM H' p F dg m s') : ∀ x ∈ F, ∀ ns : List Int, H x = some (.lst (ns.map V.int)) → ∃ ns' : List Int, H' x = some (.lst (ns'.map V.int)) := by
  obtain ⟨dx, r, mp, ta, wa, la, ps, a, rfl⟩ := h.ex
  obtain ⟨dx', r', mp', ta', wa', la', ps', a', hF⟩ := h'.ex
  simp only [ownF, List.cons.injEq, true_and] at hF
  obtain ⟨rfl, rfl, rfl, rfl, rfl⟩ := hF
  intro x hx ns hn
  simp only [ownF, List.mem_cons] at hx
  rcases hx with rfl | rfl | rfl | rfl | rfl | hx
  · rw [a.at_] at hn; cases hn
  · obtain ⟨_, hm⟩ := a.mem.at_; rw [hm] at hn; cases hn
  · exact ⟨_, a'.told⟩
  · rw [a.mem.lvl] at hn
    injection hn with hn
    injection hn with hn
    have hl := a.mem.plen
    cases ps with
    | nil => cases hl
    | cons q qs =>
      cases ns with
      | nil => cases hn
      | cons n ns => injection hn with hn _; cases hn
  · exact ⟨_, a'.mem.wds⟩
  · obtain ⟨i, hi⟩ := List.mem_iff_getElem?.mp hx
    have hil : i < (KM.levs (foldI m) 8 (s'.mem.map (leafI m))).length := by
      rw [← a'.mem.rows.len]
      exact (List.getElem?_eq_some_iff.mp hi).1
    obtain ⟨q, h1, h2⟩ := a'.mem.row (List.getElem?_eq_getElem hil)
    rw [hi] at h1
    cases h1
    exact ⟨_, h2⟩
theorem DigN.bag {C g p : Addr} {m : Int} {H H' : Hp} (e : Kit.ExBut p H H') (b : Bag5 H p) (h : DigN C H g m) : DigN C H' g m := h.but e (by
  rintro rfl
  obtain ⟨_, _, _, _, _, h1, _⟩ := b
  obtain ⟨_, _, h2⟩ := h.at_
  rw [h1] at h2
  cases h2)

/-! ### odd values -/
local macro_rules | `(tactic| walk_at "wp1") => `(tactic| ((with_reducible refine Kit.w_dnew ?_); intro _ _ _ _ _))
mutual
def noL : PyData → Bool
  | .tuple ds => noLs ds
  | .list _ => false
  | .dict _ => false
  | _ => true
def noLs : List PyData → Bool
  | [] => true
  | d :: ds => noL d && noLs ds
end
mutual
theorem dv_map {K : PySem.W.Frag} {H H' : Hp} (f : ∀ p xs, SqT K H p xs → SqT K H' p xs) : ∀ (d : PyData) (v : V), noL d = true → Dv K H v d → Dv K H' v d
  | .none, _, _, h => by cases h; exact .non
  | .bool _, _, _, h => by cases h; exact .bl _
  | .int _, _, _, h => by cases h; exact .int _
  | .str _, _, _, h => by cases h; exact .str _
  | .list _, _, n, _ => by simp [noL] at n
  | .tuple ds, _, n, h => by
    cases h with
    | tup h1 h2 => exact .tup (f _ _ h1) (dvs_map f ds _ (by simpa [noL] using n) h2)
  | .dict _, _, n, _ => by simp [noL] at n
theorem dvs_map {K : PySem.W.Frag} {H H' : Hp} (f : ∀ p xs, SqT K H p xs → SqT K H' p xs) : ∀ (ds : List PyData) (vs : List V), noLs ds = true → DvAll K H vs ds → DvAll K H' vs ds
  | [], _, _, h => by cases h; exact .nil
  | d :: ds, _, n, h => by
    cases h with
    | cons h1 h2 =>
      rw [noLs, Bool.and_eq_true] at n
      exact .cons (dv_map f d _ n.1 h1) (dvs_map f ds _ n.2 h2)
end
theorem noLs_map {α : Type} {f : α → PyData} (h : ∀ x, noL (f x) = true) : ∀ l : List α, noLs (l.map f) = true
  | [] => by rw [List.map_nil, noLs]
  | x :: l => by rw [List.map_cons, noLs, h, noLs_map h l]; rfl
theorem noL_int (i : Int) : noL (.int i) = true := by rw [noL] <;> simp
theorem noL_part (m : Int) (s : MSt) (k : Int) : noL (partD m s k) = true := by
  rw [partD, noL, noLs, noL_int, noLs, noL, noLs_map noL_int, noLs]
  rfl
theorem tup_bag {K : PySem.W.Frag} {H H' : Hp} {p : Addr} (b : Bag5 H p) (m : Kit.ExBut p H H') : ∀ a xs, SqT K H a xs → SqT K H' a xs := fun a xs h => by
  obtain ⟨_, _, _, _, _, h1, _⟩ := b
  rcases h with (h | ⟨o, h⟩) | h
  · exact .inl (.inl (m _ _ (by rintro rfl; rw [h1] at h; cases h) h))
  · exact .inl (.inr ⟨o, m _ _ (by rintro rfl; rw [h1] at h; cases h) h⟩)
  · exact .inr h
theorem tup_bagM {K : PySem.W.Frag} {H H' : Hp} {p a : Addr} {xs : List V} (m : Kit.ExBut p H H') (b : Bag5 H p) (h : SqT K H a xs) : SqT K H' a xs := tup_bag b m a xs h
local macro_rules | `(tactic| walk_at "sqT") => `(tactic| first | with_reducible assumption | exact Evl.st_of (by with_reducible assumption) | exact Evl.ex_t (by with_reducible assumption) (by walk_at "sqT") | exact tup_bagM (by with_reducible assumption) (by walk_at "bag") (by walk_at "sqT") | fail)
theorem dvs_app {K : PySem.W.Frag} {H : Hp} : ∀ {vs us : List V} {ds es : List PyData}, DvAll K H vs ds → DvAll K H us es → DvAll K H (vs ++ us) (ds ++ es)
  | [], _, _, _, h, g => by cases h; exact g
  | v :: vs, _, d :: ds, _, h, g => by
    cases h with
    | cons h1 h2 => exact .cons h1 (dvs_app h2 g)
theorem dvs_take {K : PySem.W.Frag} {H : Hp} : ∀ (n : Nat) {vs : List V} {ds : List PyData}, DvAll K H vs ds → DvAll K H (vs.take n) (ds.take n)
  | 0, _, _, _ => by rw [List.take_zero, List.take_zero]; exact .nil
  | n + 1, _, _, h => by
    cases h with
    | nil => exact .nil
    | cons h1 h2 => exact .cons h1 (dvs_take n h2)
theorem dvs_drop {K : PySem.W.Frag} {H : Hp} : ∀ (n : Nat) {vs : List V} {ds : List PyData}, DvAll K H vs ds → DvAll K H (vs.drop n) (ds.drop n)
  | 0, _, _, h => h
  | n + 1, _, _, h => by
    cases h with
    | nil => exact .nil
    | cons h1 h2 => exact dvs_drop n h2
theorem cutT {xs : List V} {n : Nat} (h : n ≤ xs.length) : cutV xs none (some (n : Int)) = xs.take n := by
  unfold cutV
  rw [HT.sIx_none, HT.sIx_nat, Nat.min_eq_left h, List.drop_zero, Nat.sub_zero]
theorem cutD {xs : List V} {n : Nat} (h : n ≤ xs.length) : cutV xs (some (n : Int)) none = xs.drop n := by
  unfold cutV
  rw [HT.sIx_none, HT.sIx_nat, Nat.min_eq_left h, List.take_of_length_le (by rw [List.length_drop]; exact Nat.le_refl _)]
theorem cutTD {xs : List V} {n : Nat} (h : n < xs.length) : cutV xs (some (n : Int)) (some ((n : Int) + 1)) = (xs.drop n).take 1 := by
  unfold cutV
  rw [show ((n : Int) + 1) = ((n + 1 : Nat) : Int) from rfl, HT.sIx_nat, HT.sIx_nat, Nat.min_eq_left (by omega), Nat.min_eq_left (by omega)]
  rw [show n + 1 - n = 1 by omega]
/-- an item of a list or tuple by a place that was drawn -/
theorem pick_at {xs : List V} {i : Int} (h0 : 0 ≤ i) (h1 : i < (xs.length : Int)) : ∃ (j : Nat) (v : V), i = (j : Int) ∧ j < xs.length ∧ xs[j]? = some v ∧ atI xs i = some v := by
  obtain ⟨j, rfl⟩ := Int.eq_ofNat_of_zero_le h0
  have hj : j < xs.length := by omega
  exact ⟨j, xs[j], rfl, hj, List.getElem?_eq_getElem hj, atI_nat (j := j) (List.getElem?_eq_getElem hj)⟩
def sp_law_put (K : PySem.W.Frag) : Sp := fun vs H Q _ => ∃ (r : Addr) (j : Nat) (xs : List V) (y : V), vs = [.ref r, .int (j : Int), y] ∧ SqT K H r xs ∧ j < xs.length ∧ xs.length ≤ 1000 ∧ ∀ t H', Evl.Ex H H' → SqT K H' t (xs.take j ++ [y] ++ xs.drop (j + 1)) → Q (.ref t) H'
theorem ok_law_put (T : Txt K mg) : FnOk P w K mg base CX0 1 T.f_law_put.f T.f_law_put.fd ["row", "place", "value"] (sp_law_put K) := by
  refine T.f_law_put.F.ok sc_law_put (fun vs H Q E h => ?_) (fun cdv A outer s H vs Q E hr h => ?_)
  · obtain ⟨r, j, xs, y, rfl, hr6, hj, hl, q⟩ := h
    rfl
  obtain ⟨r, j, xs, y, rfl, hr6, hj, hl, q⟩ := h
  have nd := sc_law_put.nd
  refine Kit.ok_body (σ := [some _, some _, some _]) ((pss_one (ps_ret (pe_op (Kit.kCat K) (pe_op (Kit.kCat K) (pe_slice (Kit.kSlT K) (pv 0) po_none (po_some (pv 1))) (pe_tup (pa_cons (pv 2) pa_nil))) (pe_slice (Kit.kSlT K) (pv 0) (po_some (pe_op op_add (pv 1) pe_int)) po_none))))) rfl ?_
  try dsimp only [L2.cxOf, L2.Cx.nox]
  walk_at "wp"
  rename_i t1 H1 e1 s1 t2 H2 n2 e2 f2
  rw [cutT (by omega)] at s1
  refine Kit.w_catT (Evl.ex_t e2 s1) (Evl.st_of f2) (by rw [List.length_take]; simp; omega) fun t3 H3 e3 s3 => ?_
  walk_at "wp"
  rename_i t4 H4 e4 s4
  rw [show ((j : Int) + 1) = ((j + 1 : Nat) : Int) from rfl, cutD (by omega)] at s4
  refine Kit.w_catT (Evl.ex_t e4 s3) s4 (by rw [List.length_append, List.length_take, List.length_drop]; simp; omega) fun t5 H5 e5 s5 => ?_
  exact q _ _ (e1.trans (e2.trans (e3.trans (e4.trans e5)))) s5
def sp_law_bad_number (K : PySem.W.Frag) : Sp := fun vs H Q _ => ∃ (p : Addr) (most : Int), vs = [.ref p, .int most] ∧ Bag5 H p ∧ 0 ≤ most ∧ most < 2 ^ 62 ∧ ∀ v d H', Kit.ExBut p H H' → Bag5 H' p → Dv K H' v d → inI d 0 most = false → Q v H'
theorem inI_hi {most z : Int} (h : most < z) : inI (.int z) 0 most = false := by
  show (decide (0 ≤ z) && decide (z ≤ most)) = false
  rw [decide_eq_false (by omega : ¬ z ≤ most), Bool.and_false]
theorem ok_law_bad_number (T : Txt K mg) : FnOk P w K mg base CX0 2 T.f_law_bad_number.f T.f_law_bad_number.fd ["bag", "most"] (sp_law_bad_number K) := by
  have G_law_draw := ok_law_draw (P := P) (w := w) (base := base) T
  refine T.f_law_bad_number.F.ok sc_law_bad_number (fun vs H Q E h => ?_) (fun cdv A outer s H vs Q E hr h => ?_)
  · obtain ⟨p, most, rfl, hb, m0, m1, q⟩ := h
    rfl
  obtain ⟨p, most, rfl, hb, m0, m1, q⟩ := h
  have nd := sc_law_bad_number.nd
  have hr1 : Room 1 _ := hr.mono (by decide)
  refine Kit.ok_body (σ := [some _, some _]) ((pss_one (ps_ret (pe_ix (Kit.ixL K) (pe_lst (pa_cons (pe_un un_neg pe_int) (pa_cons (pe_op op_add (pv 1) pe_int) (pa_cons (pe_op op_add (pe_op op_add (pv 1) pe_int) (pe_call G_law_draw hr1 (by rfl) T.f_law_draw.g T.f_law_draw.F.kp T.f_law_draw.b .nil pass0 (pa_cons (pv 0) (pa_cons (pe_op op_pow pe_int pe_int) pa_nil)))) (pa_cons pe_bl (pa_cons pe_non (pa_cons pe_str (pa_cons (pe_tup (pa_cons pe_int pa_nil)) (pa_cons pe_bl pa_nil))))))))) (pe_call G_law_draw hr1 (by rfl) T.f_law_draw.g T.f_law_draw.F.kp T.f_law_draw.b .nil pass0 (pa_cons (pv 0) (pa_cons pe_int pa_nil))) (fun _ _ => rfl))))) rfl ?_
  walk_at "wp"
  rename_i z H1 c0 c1 m1' b1 t H2 n2 e2 f2 l H3 n3 e3 f3 i H4 i0 i1 m4 b4
  have b2 := b1.ex e2
  have hl : l ≠ p := b2.ne n3
  have ht : t ≠ p := b1.ne n2
  have s4 : SqT K H4 t [.int 1] := Evl.st_of (m4 _ _ ht (e3 _ _ f2))
  have M : Kit.ExBut p H H4 := by walk_at "but"
  obtain ⟨j, v, rfl, hj, hv, hat⟩ := pick_at (xs := [V.int (-1), V.int (most + 1), V.int (most + 1 + z), V.bl true, V.non, V.str (Str.ofString "1"), V.ref t, V.bl false]) i0 i1
  refine Kit.w_ixL (Evl.sq_of (m4 _ _ hl f3)) hat ?_
  match j, hv with
  | 0, hv => cases hv; exact q _ _ _ M b4 (.int _) rfl
  | 1, hv => cases hv; exact q _ _ _ M b4 (.int _) (inI_hi (by omega))
  | 2, hv => cases hv; exact q _ _ _ M b4 (.int _) (inI_hi (by omega))
  | 3, hv => cases hv; exact q _ _ _ M b4 (.bl _) rfl
  | 4, hv => cases hv; exact q _ _ _ M b4 .non rfl
  | 5, hv => cases hv; exact q _ _ _ M b4 (.str _) rfl
  | 6, hv => cases hv; exact q _ _ _ M b4 (.tup s4 (.cons (.int 1) .nil)) rfl
  | 7, hv => cases hv; exact q _ _ _ M b4 (.bl _) rfl
  | j + 8, hv => simp at hv
/-- no tuple of so many items -/
def NotT (n : Nat) (d : PyData) : Prop := ∀ es, d = .tuple es → es.length ≠ n
def sp_law_odd_row (K : PySem.W.Frag) : Sp := fun vs H Q _ => ∃ (p r : Addr) (xs : List V) (ds : List PyData), vs = [.ref p, .ref r] ∧ Bag5 H p ∧ SqT K H r xs ∧ DvAll K H xs ds ∧ noLs ds = true ∧ 0 < xs.length ∧ xs.length ≤ 1000 ∧ ∀ v d H', Kit.ExBut p H H' → Bag5 H' p → Dv K H' v d → NotT xs.length d → Q v H'
theorem ok_law_odd_row (T : Txt K mg) : FnOk P w K mg base CX0 2 T.f_law_odd_row.f T.f_law_odd_row.fd ["bag", "row"] (sp_law_odd_row K) := by
  have G_law_draw := ok_law_draw (P := P) (w := w) (base := base) T
  refine T.f_law_odd_row.F.ok sc_law_odd_row (fun vs H Q E h => ?_) (fun cdv A outer s H vs Q E hr h => ?_)
  · obtain ⟨p, r, xs, ds, rfl, hb, hr6, hds, hn, l0, l1, q⟩ := h
    rfl
  obtain ⟨p, r, xs, ds, rfl, hb, hr6, hds, hn, l0, l1, q⟩ := h
  have nd := sc_law_odd_row.nd
  have hr1 : Room 1 _ := hr.mono (by decide)
  refine Kit.ok_body (σ := [some _, some _, none, none]) ((pss_cons (ps_set (i := 2) nd rfl (Or.inl rfl) (pe_call G_law_draw hr1 (by rfl) T.f_law_draw.g T.f_law_draw.F.kp T.f_law_draw.b .nil pass0 (pa_cons (pv 0) (pa_cons pe_int pa_nil))))
    (pss_cons (ps_set (i := 3) nd rfl (Or.inl rfl) (pe_call G_law_draw hr1 (by rfl) T.f_law_draw.g T.f_law_draw.F.kp T.f_law_draw.b .nil pass0 (pa_cons (pv 0) (pa_cons (pe_callB (Kit.kLen K) (by rfl) T.z_len (by decide +kernel) (pa_cons (pv 1) pa_nil)) pa_nil))))
    (pss_cons (ps_if (pt_cmpR op_eq (pv 2) pe_int (nomark _))
    (pss_one (ps_ret (pe_callTy (Kit.kList K) (by rfl) T.z_list (by decide +kernel) (pa_cons (pv 1) pa_nil))))
    pss_nil)
    (pss_cons (ps_if (pt_cmpR op_eq (pv 2) pe_int (nomark _))
    (pss_one (ps_ret (pe_op (Kit.kCat K) (pe_slice (Kit.kSlT K) (pv 1) po_none (po_some (pv 3))) (pe_slice (Kit.kSlT K) (pv 1) (po_some (pe_op op_add (pv 3) pe_int)) po_none))))
    pss_nil)
    (pss_cons (ps_if (pt_cmpR op_eq (pv 2) pe_int (nomark _))
    (pss_one (ps_ret (pe_op (Kit.kCat K) (pv 1) (pe_slice (Kit.kSlT K) (pv 1) (po_some (pv 3)) (po_some (pe_op op_add (pv 3) pe_int))))))
    pss_nil)
    (pss_one (ps_ret (pe_ix (Kit.ixL K) (pe_lst (pa_cons pe_non (pa_cons pe_int (pa_cons pe_str (pa_cons pe_dnewK pa_nil))))) (pe_call G_law_draw hr1 (by rfl) T.f_law_draw.g T.f_law_draw.F.kp T.f_law_draw.b .nil pass0 (pa_cons (pv 0) (pa_cons pe_int pa_nil))) (fun _ _ => rfl)))))))))) rfl ?_
  try dsimp only [L2.cxOf, L2.Cx.nox]
  have hpos : (0 : Int) < (xs.length : Int) := by omega
  have hlen := dps_len hds
  walk_at "wp"
  · rename_i k1 Ha a0 a1 ma ba i Hb i0 i1 mb bb hk l Hc nc ec fc
    have hdb : DvAll K Hb xs ds := dvs_map (fun _ _ h => tup_bagM mb ba (tup_bagM ma hb h)) ds xs hn hds
    have hrb : SqT K Hb r xs := tup_bagM mb ba (tup_bagM ma hb hr6)
    have M : Kit.ExBut p H Hb := ma.trans mb
    obtain ⟨j, rfl⟩ := Int.eq_ofNat_of_zero_le i0
    exact q _ (.list ds) _ (M.trans (.of ec)) (bb.ex ec) (.lst (Evl.sq_of fc) (dps_ex ec _ _ hdb)) (fun es z => nomatch z)
  · rename_i k1 Ha a0 a1 ma ba i Hb i0 i1 mb bb hk1 hk2 t1 Hc ec s1 t2 Hd ed s2
    have hdb : DvAll K Hb xs ds := dvs_map (fun _ _ h => tup_bagM mb ba (tup_bagM ma hb h)) ds xs hn hds
    have hrb : SqT K Hb r xs := tup_bagM mb ba (tup_bagM ma hb hr6)
    have M : Kit.ExBut p H Hb := ma.trans mb
    obtain ⟨j, rfl⟩ := Int.eq_ofNat_of_zero_le i0
    rw [cutT (by omega)] at s1
    rw [show ((j : Int) + 1) = ((j + 1 : Nat) : Int) from rfl, cutD (by omega)] at s2
    refine Kit.w_catT (Evl.ex_t ed s1) s2 (by rw [List.length_take, List.length_drop]; omega) fun t He ee s => ?_
    have E := ec.trans (ed.trans ee)
    have D := dps_ex E _ _ hdb
    refine q _ (.tuple (ds.take j ++ ds.drop (j + 1))) _ (M.trans (.of E)) (bb.ex E) (.tup s (dvs_app (dvs_take j D) (dvs_drop (j + 1) D))) fun es z => ?_
    injection z with z
    rw [← z, List.length_append, List.length_take, List.length_drop]
    omega
  · rename_i k1 Ha a0 a1 ma ba i Hb i0 i1 mb bb hk1 hk2 hk3 t2 Hd ed s2
    have hdb : DvAll K Hb xs ds := dvs_map (fun _ _ h => tup_bagM mb ba (tup_bagM ma hb h)) ds xs hn hds
    have hrb : SqT K Hb r xs := tup_bagM mb ba (tup_bagM ma hb hr6)
    have M : Kit.ExBut p H Hb := ma.trans mb
    obtain ⟨j, rfl⟩ := Int.eq_ofNat_of_zero_le i0
    rw [cutTD (by omega)] at s2
    refine Kit.w_catT (Evl.ex_t ed hrb) s2 (by rw [List.length_take, List.length_drop]; omega) fun t He ee s => ?_
    have E := ed.trans ee
    have D := dps_ex E _ _ hdb
    refine q _ (.tuple (ds ++ (ds.drop j).take 1)) _ (M.trans (.of E)) (bb.ex E) (.tup s (dvs_app D (dvs_take 1 (dvs_drop j D)))) fun es z => ?_
    injection z with z
    rw [← z, List.length_append, List.length_take, List.length_drop]
    omega
  · rename_i k1 Ha a0 a1 ma ba i Hb i0 i1 mb bb hk1 hk2 hk3 da Hc nc ec fc l Hd nd' ed fd i2 He j0 j1 me be
    have hdb : DvAll K Hb xs ds := dvs_map (fun _ _ h => tup_bagM mb ba (tup_bagM ma hb h)) ds xs hn hds
    have hrb : SqT K Hb r xs := tup_bagM mb ba (tup_bagM ma hb hr6)
    have M : Kit.ExBut p H Hb := ma.trans mb
    obtain ⟨j, rfl⟩ := Int.eq_ofNat_of_zero_le i0
    have bc := bb.ex ec
    have hda : da ≠ p := bb.ne nc
    have hl : l ≠ p := bc.ne nd'
    have E : Kit.ExBut p H He := (M.trans (.of (ec.trans ed))).trans me
    obtain ⟨jj, v, rfl, hj, hv, hat⟩ := pick_at (xs := [V.non, V.int 7, V.str (Str.ofString "row"), V.ref da]) j0 j1
    refine Kit.w_ixL (Evl.sq_of (me _ _ hl fd)) hat ?_
    match jj, hv with
    | 0, hv => cases hv; exact q _ _ _ E be .non (fun es z => nomatch z)
    | 1, hv => cases hv; exact q _ _ _ E be (.int _) (fun es z => nomatch z)
    | 2, hv => cases hv; exact q _ _ _ E be (.str _) (fun es z => nomatch z)
    | 3, hv => cases hv; exact q _ _ _ E be (.dic (me _ _ hda (ed _ _ fc))) (fun es z => nomatch z)
    | jj + 4, hv => simp at hv
theorem regB_notT {m : Int} {d : PyData} (h : NotT 6 d) : regB m d = false := by
  cases d with
  | tuple ds => exact regB_ne (fun e => h _ rfl e)
  | _ => rfl
theorem partB_notT {m : Int} {d : PyData} (h : NotT 2 d) : partB m d = false := by
  cases d with
  | tuple ds => exact partB_ne (fun e => h _ rfl e)
  | _ => rfl
theorem openB_notT {m : Int} {d : PyData} (h : NotT 3 d) : openB m d = false := by
  cases d with
  | tuple ds => exact openB_ne (fun e => h _ rfl e)
  | _ => rfl
theorem few_notT {d : PyData} (h : NotT 3 d) : fewB d = true := by
  unfold fewB
  split
  · rename_i ps
    exact absurd rfl (h _ rfl)
  · rfl
def sp_law_odd_registers (K : PySem.W.Frag) : Sp := fun vs H Q _ => ∃ (p r : Addr) (m : Int) (s : MSt), vs = [.ref p, .int m, .ref r] ∧ Bag5 H p ∧ 100 < m ∧ m < 2 ^ 62 ∧ SqT K H r ((regsI s).map V.int) ∧ ∀ v d H', Kit.ExBut p H H' → Bag5 H' p → Dv K H' v d → regB m d = false → Q v H'
theorem ok_law_odd_registers (T : Txt K mg) : FnOk P w K mg base CX0 3 T.f_law_odd_registers.f T.f_law_odd_registers.fd ["bag", "m", "registers"] (sp_law_odd_registers K) := by
  have G_law_bad_number := ok_law_bad_number (P := P) (w := w) (base := base) T
  have G_law_draw := ok_law_draw (P := P) (w := w) (base := base) T
  have G_law_odd_row := ok_law_odd_row (P := P) (w := w) (base := base) T
  have G_law_put := ok_law_put (P := P) (w := w) (base := base) T
  refine T.f_law_odd_registers.F.ok sc_law_odd_registers (fun vs H Q E h => ?_) (fun cdv A outer s H vs Q E hr h => ?_)
  · obtain ⟨p, r, m, s, rfl, hb, m0, m1, hr6, q⟩ := h
    rfl
  obtain ⟨p, r, m, s, rfl, hb, m0, m1, hr6, q⟩ := h
  have nd := sc_law_odd_registers.nd
  have hr1 : Room 1 _ := hr.mono (by decide)
  have hr2 : Room 2 _ := hr.mono (by decide)
  refine Kit.ok_body (σ := [some _, some _, some _, none]) ((pss_cons (ps_if (pt_cmpR op_eq (pe_call G_law_draw hr1 (by rfl) T.f_law_draw.g T.f_law_draw.F.kp T.f_law_draw.b .nil pass0 (pa_cons (pv 0) (pa_cons pe_int pa_nil))) pe_int (nomark _))
    (pss_one (ps_ret (pe_call G_law_odd_row hr2 (by rfl) T.f_law_odd_row.g T.f_law_odd_row.F.kp T.f_law_odd_row.b .nil pass0 (pa_cons (pv 0) (pa_cons (pv 2) pa_nil)))))
    pss_nil)
    (pss_cons (ps_set (i := 3) nd rfl (Or.inl rfl) (pe_call G_law_draw hr1 (by rfl) T.f_law_draw.g T.f_law_draw.F.kp T.f_law_draw.b .nil pass0 (pa_cons (pv 0) (pa_cons pe_int pa_nil))))
    (pss_one (ps_ret (pe_call G_law_put hr1 (by rfl) T.f_law_put.g T.f_law_put.F.kp T.f_law_put.b .nil pass0 (pa_cons (pv 2) (pa_cons (pv 3) (pa_cons (pe_call G_law_bad_number hr2 (by rfl) T.f_law_bad_number.g T.f_law_bad_number.F.kp T.f_law_bad_number.b .nil pass0 (pa_cons (pv 0) (pa_cons (pe_ix (Kit.ixL K) (pe_lst (pa_cons pe_int (pa_cons pe_int (pa_cons pe_int (pa_cons pe_int (pa_cons (pe_op op_sub (pv 1) pe_int) (pa_cons pe_int pa_nil))))))) (pv 3) (fun _ _ => rfl)) pa_nil))) pa_nil))))))))) rfl ?_
  have hD : DvAll K H ((regsI s).map V.int) ((regsI s).map PyData.int) := dps_ints _
  have hlen : ((regsI s).map V.int).length = 6 := rfl
  walk_at "wp"
  · rename_i k1 Ha a0 a1 ma ba hk
    refine ⟨p, r, _, _, rfl, ba, tup_bagM ma hb hr6, dps_ints _, noLs_map noL_int _, (show 0 < 6 from by decide), (show 6 ≤ 1000 from by decide), fun v d H' m' b' dv hv => ?_⟩
    exact q v d H' (ma.trans m') b' dv (regB_notT hv)
  · rename_i k1 Ha a0 a1 ma ba hk i Hb i0 i1 mb bb l Hc nc ec fc
    have M : Kit.ExBut p H Hc := (ma.trans mb).trans (.of ec)
    have bc : Bag5 Hc p := bb.ex ec
    have hrc : SqT K Hc r ((regsI s).map V.int) := Evl.ex_t ec (tup_bagM mb ba (tup_bagM ma hb hr6))
    obtain ⟨j, v, rfl, hj, hv, hat⟩ := pick_at (xs := [V.int 255, V.int 65535, V.int 65535, V.int 6, V.int (m - 1), V.int 16]) i0 i1
    refine Kit.w_ixL (Evl.sq_of fc) hat ?_
    match j, hv with
    | 0, hv =>
      cases hv
      walk_at "wp"
      refine ⟨p, 255, rfl, bc, by omega, by omega, fun v d H' m' b' dv hv => ?_⟩
      walk_at "wp"
      refine ⟨r, 0, _, v, rfl, tup_bagM m' bc hrc, (show 0 < 6 from by decide), (show 6 ≤ 1000 from by decide), fun t H2 e2 s2 => ?_⟩
      refine q _ _ H2 ((M.trans m').trans (.of e2)) (b'.ex e2) (.tup s2 (dvs_app (dvs_app (dvs_take 0 (dps_ints (regsI s))) (.cons (dp_ex e2 _ _ dv) .nil)) (dvs_drop (0 + 1) (dps_ints (regsI s))))) ?_
      show (inI d 0 255 && (inI (.int s.acc) 0 65535 && (inI (.int s.x) 0 65535 && (inI (.int s.mark) 0 6 && (inI (.int s.out) 0 (m - 1) && inI (.int s.count) 0 16))))) = false
      simp only [hv, Bool.false_and, Bool.and_false]
    | 1, hv =>
      cases hv
      walk_at "wp"
      refine ⟨p, 65535, rfl, bc, by omega, by omega, fun v d H' m' b' dv hv => ?_⟩
      walk_at "wp"
      refine ⟨r, 1, _, v, rfl, tup_bagM m' bc hrc, (show 1 < 6 from by decide), (show 6 ≤ 1000 from by decide), fun t H2 e2 s2 => ?_⟩
      refine q _ _ H2 ((M.trans m').trans (.of e2)) (b'.ex e2) (.tup s2 (dvs_app (dvs_app (dvs_take 1 (dps_ints (regsI s))) (.cons (dp_ex e2 _ _ dv) .nil)) (dvs_drop (1 + 1) (dps_ints (regsI s))))) ?_
      show (inI (.int s.pc) 0 255 && (inI d 0 65535 && (inI (.int s.x) 0 65535 && (inI (.int s.mark) 0 6 && (inI (.int s.out) 0 (m - 1) && inI (.int s.count) 0 16))))) = false
      simp only [hv, Bool.false_and, Bool.and_false]
    | 2, hv =>
      cases hv
      walk_at "wp"
      refine ⟨p, 65535, rfl, bc, by omega, by omega, fun v d H' m' b' dv hv => ?_⟩
      walk_at "wp"
      refine ⟨r, 2, _, v, rfl, tup_bagM m' bc hrc, (show 2 < 6 from by decide), (show 6 ≤ 1000 from by decide), fun t H2 e2 s2 => ?_⟩
      refine q _ _ H2 ((M.trans m').trans (.of e2)) (b'.ex e2) (.tup s2 (dvs_app (dvs_app (dvs_take 2 (dps_ints (regsI s))) (.cons (dp_ex e2 _ _ dv) .nil)) (dvs_drop (2 + 1) (dps_ints (regsI s))))) ?_
      show (inI (.int s.pc) 0 255 && (inI (.int s.acc) 0 65535 && (inI d 0 65535 && (inI (.int s.mark) 0 6 && (inI (.int s.out) 0 (m - 1) && inI (.int s.count) 0 16))))) = false
      simp only [hv, Bool.false_and, Bool.and_false]
    | 3, hv =>
      cases hv
      walk_at "wp"
      refine ⟨p, 6, rfl, bc, by omega, by omega, fun v d H' m' b' dv hv => ?_⟩
      walk_at "wp"
      refine ⟨r, 3, _, v, rfl, tup_bagM m' bc hrc, (show 3 < 6 from by decide), (show 6 ≤ 1000 from by decide), fun t H2 e2 s2 => ?_⟩
      refine q _ _ H2 ((M.trans m').trans (.of e2)) (b'.ex e2) (.tup s2 (dvs_app (dvs_app (dvs_take 3 (dps_ints (regsI s))) (.cons (dp_ex e2 _ _ dv) .nil)) (dvs_drop (3 + 1) (dps_ints (regsI s))))) ?_
      show (inI (.int s.pc) 0 255 && (inI (.int s.acc) 0 65535 && (inI (.int s.x) 0 65535 && (inI d 0 6 && (inI (.int s.out) 0 (m - 1) && inI (.int s.count) 0 16))))) = false
      simp only [hv, Bool.false_and, Bool.and_false]
    | 4, hv =>
      cases hv
      walk_at "wp"
      refine ⟨p, (m - 1), rfl, bc, by omega, by omega, fun v d H' m' b' dv hv => ?_⟩
      walk_at "wp"
      refine ⟨r, 4, _, v, rfl, tup_bagM m' bc hrc, (show 4 < 6 from by decide), (show 6 ≤ 1000 from by decide), fun t H2 e2 s2 => ?_⟩
      refine q _ _ H2 ((M.trans m').trans (.of e2)) (b'.ex e2) (.tup s2 (dvs_app (dvs_app (dvs_take 4 (dps_ints (regsI s))) (.cons (dp_ex e2 _ _ dv) .nil)) (dvs_drop (4 + 1) (dps_ints (regsI s))))) ?_
      show (inI (.int s.pc) 0 255 && (inI (.int s.acc) 0 65535 && (inI (.int s.x) 0 65535 && (inI (.int s.mark) 0 6 && (inI d 0 (m - 1) && inI (.int s.count) 0 16))))) = false
      simp only [hv, Bool.false_and, Bool.and_false]
    | 5, hv =>
      cases hv
      walk_at "wp"
      refine ⟨p, 16, rfl, bc, by omega, by omega, fun v d H' m' b' dv hv => ?_⟩
      walk_at "wp"
      refine ⟨r, 5, _, v, rfl, tup_bagM m' bc hrc, (show 5 < 6 from by decide), (show 6 ≤ 1000 from by decide), fun t H2 e2 s2 => ?_⟩
      refine q _ _ H2 ((M.trans m').trans (.of e2)) (b'.ex e2) (.tup s2 (dvs_app (dvs_app (dvs_take 5 (dps_ints (regsI s))) (.cons (dp_ex e2 _ _ dv) .nil)) (dvs_drop (5 + 1) (dps_ints (regsI s))))) ?_
      show (inI (.int s.pc) 0 255 && (inI (.int s.acc) 0 65535 && (inI (.int s.x) 0 65535 && (inI (.int s.mark) 0 6 && (inI (.int s.out) 0 (m - 1) && inI d 0 16))))) = false
      simp only [hv, Bool.false_and, Bool.and_false]
    | j + 6, hv => simp at hv

def sp_law_odd_part (K : PySem.W.Frag) : Sp := fun vs H Q _ => ∃ (p t : Addr) (m w : Int) (pa : Addr) (pth : List Int), vs = [.ref p, .int m, .ref t] ∧ Bag5 H p ∧ 100 < m ∧ m < 2 ^ 62 ∧ SqT K H t [.int w, .ref pa] ∧ SqT K H pa (pth.map V.int) ∧ pth.length = 8 ∧ ∀ v d H', Kit.ExBut p H H' → Bag5 H' p → Dv K H' v d → partB m d = false → Q v H'
theorem partB_bad1 {m : Int} {d e : PyData} (h : inI d 0 65535 = false) : partB m (.tuple [d, e]) = false := by
  unfold partB
  split
  · rename_i hz
    injection hz with hz
    simp only [List.cons.injEq, and_true] at hz
    rw [← hz.1, h, Bool.false_and]
  · rfl
theorem partB_bad2 {m : Int} {d e : PyData} (h : NotT 8 e) : partB m (.tuple [d, e]) = false := by
  unfold partB
  split
  · rename_i hz
    injection hz with hz
    simp only [List.cons.injEq, and_true] at hz
    rw [decide_eq_false (fun z => h _ hz.2 z), Bool.false_and, Bool.and_false]
  · rfl
theorem partB_bad3 {m : Int} {d x : PyData} {es : List PyData} (hx : x ∈ es) (h : inI x 0 (m - 1) = false) : partB m (.tuple [d, .tuple es]) = false := by
  show (inI d 0 65535 && (decide (es.length = 8) && es.all fun d => inI d 0 (m - 1))) = false
  have h2 : (es.all fun d => inI d 0 (m - 1)) = false := by
    rw [List.all_eq_false]
    exact ⟨x, hx, by rw [h]; exact Bool.false_ne_true⟩
  rw [h2, Bool.and_false, Bool.and_false]
theorem ok_law_odd_part (T : Txt K mg) : FnOk P w K mg base CX0 3 T.f_law_odd_part.f T.f_law_odd_part.fd ["bag", "m", "part"] (sp_law_odd_part K) := by
  have G_law_bad_number := ok_law_bad_number (P := P) (w := w) (base := base) T
  have G_law_draw := ok_law_draw (P := P) (w := w) (base := base) T
  have G_law_odd_row := ok_law_odd_row (P := P) (w := w) (base := base) T
  have G_law_put := ok_law_put (P := P) (w := w) (base := base) T
  refine T.f_law_odd_part.F.ok sc_law_odd_part (fun vs H Q E h => ?_) (fun cdv A outer s H vs Q E hr h => ?_)
  · obtain ⟨p, t, m, w, pa, pth, rfl, hb, m0, m1, ht, hpa, hl, q⟩ := h
    rfl
  obtain ⟨p, t, m, w, pa, pth, rfl, hb, m0, m1, ht, hpa, hl, q⟩ := h
  have nd := sc_law_odd_part.nd
  have hr1 : Room 1 _ := hr.mono (by decide)
  have hr2 : Room 2 _ := hr.mono (by decide)
  refine Kit.ok_body (σ := [some _, some _, some _, none]) ((pss_cons (ps_set (i := 3) nd rfl (Or.inl rfl) (pe_call G_law_draw hr1 (by rfl) T.f_law_draw.g T.f_law_draw.F.kp T.f_law_draw.b .nil pass0 (pa_cons (pv 0) (pa_cons pe_int pa_nil))))
    (pss_cons (ps_if (pt_cmpR op_eq (pv 3) pe_int (nomark _))
    (pss_one (ps_ret (pe_call G_law_odd_row hr2 (by rfl) T.f_law_odd_row.g T.f_law_odd_row.F.kp T.f_law_odd_row.b .nil pass0 (pa_cons (pv 0) (pa_cons (pv 2) pa_nil)))))
    pss_nil)
    (pss_cons (ps_if (pt_cmpR op_eq (pv 3) pe_int (nomark _))
    (pss_one (ps_ret (pe_tup (pa_cons (pe_call G_law_bad_number hr2 (by rfl) T.f_law_bad_number.g T.f_law_bad_number.F.kp T.f_law_bad_number.b .nil pass0 (pa_cons (pv 0) (pa_cons pe_int pa_nil))) (pa_cons (pe_ix (Kit.ixT K) (pv 2) pe_int (fun _ _ => rfl)) pa_nil)))))
    pss_nil)
    (pss_cons (ps_if (pt_cmpR op_eq (pv 3) pe_int (nomark _))
    (pss_one (ps_ret (pe_tup (pa_cons (pe_ix (Kit.ixT K) (pv 2) pe_int (fun _ _ => rfl)) (pa_cons (pe_call G_law_odd_row hr2 (by rfl) T.f_law_odd_row.g T.f_law_odd_row.F.kp T.f_law_odd_row.b .nil pass0 (pa_cons (pv 0) (pa_cons (pe_ix (Kit.ixT K) (pv 2) pe_int (fun _ _ => rfl)) pa_nil))) pa_nil)))))
    pss_nil)
    (pss_one (ps_ret (pe_tup (pa_cons (pe_ix (Kit.ixT K) (pv 2) pe_int (fun _ _ => rfl)) (pa_cons (pe_call G_law_put hr1 (by rfl) T.f_law_put.g T.f_law_put.F.kp T.f_law_put.b .nil pass0 (pa_cons (pe_ix (Kit.ixT K) (pv 2) pe_int (fun _ _ => rfl)) (pa_cons (pe_call G_law_draw hr1 (by rfl) T.f_law_draw.g T.f_law_draw.F.kp T.f_law_draw.b .nil pass0 (pa_cons (pv 0) (pa_cons pe_int pa_nil))) (pa_cons (pe_call G_law_bad_number hr2 (by rfl) T.f_law_bad_number.g T.f_law_bad_number.F.kp T.f_law_bad_number.b .nil pass0 (pa_cons (pv 0) (pa_cons (pe_op op_sub (pv 1) pe_int) pa_nil))) pa_nil)))) pa_nil)))))))))) rfl ?_
  have hml : (pth.map V.int).length = 8 := by rw [List.length_map, hl]
  have hpd : DvAll K H (pth.map V.int) (pth.map PyData.int) := dps_ints _
  walk_at "wp"
  · rename_i k1 Ha a0 a1 ma ba hk
    refine ⟨p, t, _, _, rfl, ba, tup_bagM ma hb ht, .cons (.int w) (.cons (.tup (tup_bagM ma hb hpa) (dps_ints _)) .nil), ?_, (show 0 < 2 from by decide), (show 2 ≤ 1000 from by decide), fun v d H' m' b' dv hv => ?_⟩
    · rw [noLs, noL_int, noLs, noL, noLs_map noL_int, noLs]
      rfl
    · exact q v d H' (ma.trans m') b' dv (partB_notT hv)
  · rename_i k1 Ha a0 a1 ma ba hk hk2
    refine ⟨p, 65535, rfl, ba, by decide, by decide, fun v d H' m' b' dv hv => ?_⟩
    walk_at "wp"
    rename_i t2 H2 n2 e2 f2
    exact q _ _ H2 ((ma.trans m').trans (.of e2)) (b'.ex e2) (.tup (Evl.st_of f2) (.cons (dp_ex e2 _ _ dv) (.cons (.tup (Evl.ex_t e2 (tup_bagM m' ba (tup_bagM ma hb hpa))) (dps_ints _)) .nil))) (partB_bad1 hv)
  · rename_i k1 Ha a0 a1 ma ba hk hk2 hk3
    refine ⟨p, pa, _, _, rfl, ba, tup_bagM ma hb hpa, dps_ints _, noLs_map noL_int _, by rw [hml]; decide, by rw [hml]; decide, fun v d H' m' b' dv hv => ?_⟩
    rw [hml] at hv
    walk_at "wp"
    rename_i t2 H2 n2 e2 f2
    exact q _ _ H2 ((ma.trans m').trans (.of e2)) (b'.ex e2) (.tup (Evl.st_of f2) (.cons (.int w) (.cons (dp_ex e2 _ _ dv) .nil))) (partB_bad2 hv)
  · rename_i k1 Ha a0 a1 ma ba hk hk2 hk3 i Hb i0 i1 mb bb
    refine ⟨p, m - 1, rfl, bb, by omega, by omega, fun v d H' m' b' dv hv => ?_⟩
    obtain ⟨j, rfl⟩ := Int.eq_ofNat_of_zero_le i0
    walk_at "wp"
    refine ⟨pa, j, pth.map V.int, v, rfl, tup_bagM m' bb (tup_bagM mb ba (tup_bagM ma hb hpa)), by omega, by omega, fun t2 H2 e2 s2 => ?_⟩
    walk_at "wp"
    rename_i t3 H3 n3 e3 f3
    have E := e2.trans e3
    refine q _ _ H3 (((ma.trans mb).trans m').trans (.of E)) (b'.ex E) (.tup (Evl.st_of f3) (.cons (.int w) (.cons (.tup (Evl.ex_t e3 s2) (dvs_app (dvs_app (dvs_take j (dps_ints pth)) (.cons (dp_ex E _ _ dv) .nil)) (dvs_drop (j + 1) (dps_ints pth)))) .nil))) (partB_bad3 (x := d) ?_ hv)
    simp
def sp_law_odd (K : PySem.W.Frag) : Sp := fun vs H Q _ => ∃ (p : Addr) (m : Int) (s : MSt) (v : V), vs = [.ref p, .int m, v] ∧ Bag5 H p ∧ 100 < m ∧ m < 2 ^ 62 ∧ SOk m s ∧ Dv K H v (openD m s) ∧ ∀ v d H', Kit.ExBut p H H' → Bag5 H' p → Dv K H' v d → openB m d = false → fewB d = true → Q v H'
theorem openB_bad1 {m : Int} {d e f : PyData} (h : regB m d = false) : openB m (.tuple [d, e, f]) = false := by
  unfold openB
  split
  · rename_i hz
    injection hz with hz
    simp only [List.cons.injEq, and_true] at hz
    rw [← hz.1, h, Bool.false_and]
  · rfl
theorem openB_bad2 {m : Int} {d e f : PyData} (h : inI e 0 (m - 1) = false) : openB m (.tuple [d, e, f]) = false := by
  unfold openB
  split
  · rename_i hz
    injection hz with hz
    simp only [List.cons.injEq, and_true] at hz
    rw [← hz.2.1, h, Bool.false_and, Bool.and_false]
  · rfl
def badP (m : Int) (f : PyData) : Prop := ∀ es, f = .tuple es → ∃ x ∈ es, partB m x = false
theorem openB_bad3 {m : Int} {d e f : PyData} (h : badP m f) : openB m (.tuple [d, e, f]) = false := by
  unfold openB
  split
  · rename_i ps hz
    injection hz with hz
    simp only [List.cons.injEq, and_true] at hz
    obtain ⟨x, hx, hb⟩ := h ps hz.2.2
    have h2 : ps.all (partB m) = false := by
      rw [List.all_eq_false]
      exact ⟨x, hx, by rw [hb]; exact Bool.false_ne_true⟩
    rw [h2, Bool.and_false, Bool.and_false]
  · rfl
theorem few3 {d e f : PyData} (h : ∀ es, f = .tuple es → es.length ≤ 40000) : fewB (.tuple [d, e, f]) = true := by
  unfold fewB
  split
  · rename_i ps hz
    injection hz with hz
    simp only [List.cons.injEq, and_true] at hz
    exact decide_eq_true (h ps hz.2.2)
  · rfl
theorem ok_law_odd (T : Txt K mg) : FnOk P w K mg base CX0 4 T.f_law_odd.f T.f_law_odd.fd ["bag", "m", "opening"] (sp_law_odd K) := by
  have G_law_bad_number := ok_law_bad_number (P := P) (w := w) (base := base) T
  have G_law_draw := ok_law_draw (P := P) (w := w) (base := base) T
  have G_law_odd_part := ok_law_odd_part (P := P) (w := w) (base := base) T
  have G_law_odd_registers := ok_law_odd_registers (P := P) (w := w) (base := base) T
  have G_law_odd_row := ok_law_odd_row (P := P) (w := w) (base := base) T
  have G_law_put := ok_law_put (P := P) (w := w) (base := base) T
  refine T.f_law_odd.F.ok sc_law_odd (fun vs H Q E h => ?_) (fun cdv A outer s H vs Q E hr h => ?_)
  · obtain ⟨p, m, s, v, rfl, hb, m0, m1, ok, hv, q⟩ := h
    rfl
  obtain ⟨p, m, s, v, rfl, hb, m0, m1, ok, hv, q⟩ := h
  have nd := sc_law_odd.nd
  have hr1 : Room 1 _ := hr.mono (by decide)
  have hr2 : Room 2 _ := hr.mono (by decide)
  have hr3 : Room 3 _ := hr.mono (by decide)
  refine Kit.ok_body (σ := [some _, some _, some _, none, none, none, none, none]) ((pss_cons (ps_asg (pv 2) (Kit.kgTup K rfl (pgs_cons (pg_name (i := 3) nd rfl (Or.inl rfl)) (pgs_cons (pg_name (i := 4) nd rfl (Or.inl rfl)) (pgs_cons (pg_name (i := 5) nd rfl (Or.inl rfl)) pgs_nil)))))
    (pss_cons (ps_set (i := 6) nd rfl (Or.inl rfl) (pe_call G_law_draw hr1 (by rfl) T.f_law_draw.g T.f_law_draw.F.kp T.f_law_draw.b .nil pass0 (pa_cons (pv 0) (pa_cons pe_int pa_nil))))
    (pss_cons (ps_if (pt_cmpR op_eq (pv 6) pe_int (nomark _))
    (pss_one (ps_ret (pe_call G_law_odd_row hr2 (by rfl) T.f_law_odd_row.g T.f_law_odd_row.F.kp T.f_law_odd_row.b .nil pass0 (pa_cons (pv 0) (pa_cons (pv 2) pa_nil)))))
    pss_nil)
    (pss_cons (ps_if (pt_cmpR op_eq (pv 6) pe_int (nomark _))
    (pss_one (ps_ret (pe_tup (pa_cons (pe_call G_law_odd_registers hr3 (by rfl) T.f_law_odd_registers.g T.f_law_odd_registers.F.kp T.f_law_odd_registers.b .nil pass0 (pa_cons (pv 0) (pa_cons (pv 1) (pa_cons (pv 3) pa_nil)))) (pa_cons (pv 4) (pa_cons (pv 5) pa_nil))))))
    pss_nil)
    (pss_cons (ps_if (pt_cmpR op_eq (pv 6) pe_int (nomark _))
    (pss_one (ps_ret (pe_tup (pa_cons (pv 3) (pa_cons (pe_call G_law_bad_number hr2 (by rfl) T.f_law_bad_number.g T.f_law_bad_number.F.kp T.f_law_bad_number.b .nil pass0 (pa_cons (pv 0) (pa_cons (pe_op op_sub (pv 1) pe_int) pa_nil))) (pa_cons (pv 5) pa_nil))))))
    pss_nil)
    (pss_cons (ps_if (PW.pt (pw_or (pt_cmpR op_eq (pv 6) pe_int (nomark _)) (pw_or1 (pt_cmpR op_eq (pe_callB (Kit.kLen K) (by rfl) T.z_len (by decide +kernel) (pa_cons (pv 5) pa_nil)) pe_int (nomark _)))))
    (pss_one (ps_ret (pe_tup (pa_cons (pv 3) (pa_cons (pv 4) (pa_cons (pe_ix (Kit.ixL K) (pe_lst (pa_cons (pe_callTy (Kit.kList K) (by rfl) T.z_list (by decide +kernel) (pa_cons (pv 5) pa_nil)) (pa_cons pe_non (pa_cons pe_int (pa_cons (pe_op (Kit.kCat K) (pv 5) (pe_tup (pa_cons pe_non pa_nil))) (pa_cons (pe_op (Kit.kCat K) (pe_tup (pa_cons (pe_tup pa_nil) pa_nil)) (pv 5)) pa_nil)))))) (pe_call G_law_draw hr1 (by rfl) T.f_law_draw.g T.f_law_draw.F.kp T.f_law_draw.b .nil pass0 (pa_cons (pv 0) (pa_cons pe_int pa_nil))) (fun _ _ => rfl)) pa_nil))))))
    pss_nil)
    (pss_cons (ps_set (i := 7) nd rfl (Or.inl rfl) (pe_call G_law_draw hr1 (by rfl) T.f_law_draw.g T.f_law_draw.F.kp T.f_law_draw.b .nil pass0 (pa_cons (pv 0) (pa_cons (pe_callB (Kit.kLen K) (by rfl) T.z_len (by decide +kernel) (pa_cons (pv 5) pa_nil)) pa_nil))))
    (pss_one (ps_ret (pe_tup (pa_cons (pv 3) (pa_cons (pv 4) (pa_cons (pe_call G_law_put hr1 (by rfl) T.f_law_put.g T.f_law_put.F.kp T.f_law_put.b .nil pass0 (pa_cons (pv 5) (pa_cons (pv 7) (pa_cons (pe_call G_law_odd_part hr3 (by rfl) T.f_law_odd_part.g T.f_law_odd_part.F.kp T.f_law_odd_part.b .nil pass0 (pa_cons (pv 0) (pa_cons (pv 1) (pa_cons (pe_ix (Kit.ixT K) (pv 5) (pv 7) (fun _ _ => rfl)) pa_nil)))) pa_nil)))) pa_nil)))))))))))))) rfl ?_
  obtain ⟨t, r, pp, xs, rfl, ht, hr6, hp, hxs⟩ := open_of hv
  have hxl : xs.length ≤ 2 := by rw [dps_len hxs, List.length_map]; exact plsI_len s
  have hds2 : ((plsI s).map (partD m s)).length ≤ 2 := by rw [List.length_map]; exact plsI_len s
  have hnL : noLs ((plsI s).map (partD m s)) = true := noLs_map (noL_part m s) _
  walk_at "wp"
  · rename_i k1 Ha a0 a1 ma ba hk
    refine ⟨p, t, _, _, rfl, ba, tup_bagM ma hb ht, .cons (.tup (tup_bagM ma hb hr6) (dps_ints _)) (.cons (.int _) (.cons (.tup (tup_bagM ma hb hp) (dvs_map (fun _ _ h => tup_bagM ma hb h) _ _ hnL hxs)) .nil)), ?_, (show 0 < 3 from by decide), (show 3 ≤ 1000 from by decide), fun v d H' m' b' dv hv => ?_⟩
    · rw [noLs, noL, noLs_map noL_int, noLs, noL_int, noLs, noL, hnL, noLs]
      rfl
    · exact q v d H' (ma.trans m') b' dv (openB_notT hv) (few_notT hv)
  · rename_i k1 Ha a0 a1 ma ba hk0 hk
    refine ⟨p, r, m, s, rfl, ba, m0, m1, tup_bagM ma hb hr6, fun v d H' m' b' dv hv => ?_⟩
    walk_at "wp"
    rename_i t2 H2 n2 e2 f2
    have hp2 := Evl.ex_t e2 (tup_bagM m' ba (tup_bagM ma hb hp))
    have hx2 : DvAll K H2 xs ((plsI s).map (partD m s)) := dvs_map (fun _ _ h => Evl.ex_t e2 (tup_bagM m' ba (tup_bagM ma hb h))) _ _ hnL hxs
    exact q _ _ H2 ((ma.trans m').trans (.of e2)) (b'.ex e2) (.tup (Evl.st_of f2) (.cons (dp_ex e2 _ _ dv) (.cons (.int _) (.cons (.tup hp2 hx2) .nil)))) (openB_bad1 hv) (few3 fun es z => by injection z with z; rw [← z]; omega)
  · rename_i k1 Ha a0 a1 ma ba hk0 hk1 hk
    refine ⟨p, m - 1, rfl, ba, by omega, by omega, fun v d H' m' b' dv hv => ?_⟩
    walk_at "wp"
    rename_i t2 H2 n2 e2 f2
    have hp2 := Evl.ex_t e2 (tup_bagM m' ba (tup_bagM ma hb hp))
    have hr2 := Evl.ex_t e2 (tup_bagM m' ba (tup_bagM ma hb hr6))
    have hx2 : DvAll K H2 xs ((plsI s).map (partD m s)) := dvs_map (fun _ _ h => Evl.ex_t e2 (tup_bagM m' ba (tup_bagM ma hb h))) _ _ hnL hxs
    exact q _ _ H2 ((ma.trans m').trans (.of e2)) (b'.ex e2) (.tup (Evl.st_of f2) (.cons (.tup hr2 (dps_ints _)) (.cons (dp_ex e2 _ _ dv) (.cons (.tup hp2 hx2) .nil)))) (openB_bad2 hv) (few3 fun es z => by injection z with z; rw [← z]; omega)
  · rename_i k1 Ha a0 a1 ma ba hk0 hk1 hk2 hk3 l Hc nc ec fc t1 Hd nd' ed fd t2 He ee se t3 Hf nf ef ff t4 Hg ng eg fg t5 Hh eh sh lst Hi ni ei fi i Hj i0 i1 mj bj
    have hpa := tup_bagM ma hb hp
    have hra := tup_bagM ma hb hr6
    have hxa : DvAll K Ha xs ((plsI s).map (partD m s)) := dvs_map (fun _ _ h => tup_bagM ma hb h) _ _ hnL hxs
    have E : Evl.Ex Ha Hi := ec.trans (ed.trans (ee.trans (ef.trans (eg.trans (eh.trans ei)))))
    have bi := ba.ex E
    have hl : l ≠ p := ba.ne nc
    have hlst : lst ≠ p := (ba.ex (ec.trans (ed.trans (ee.trans (ef.trans (eg.trans eh)))))).ne ni
    have rj := tup_bagM mj bi (Evl.ex_t E hra)
    have pj := tup_bagM mj bi (Evl.ex_t E hpa)
    have xj : DvAll K Hj xs ((plsI s).map (partD m s)) := dvs_map (fun _ _ h => tup_bagM mj bi (Evl.ex_t E h)) _ _ hnL hxa
    have M : Kit.ExBut p H Hj := (ma.trans (.of E)).trans mj
    have fin : ∀ (y : V) (f : PyData) (tz : Addr) (Hz : Hp), Evl.Ex Hj Hz → Hz tz = some (.tup [.ref r, .int (memRoot m s.mem), y]) → Dv K Hj y f → badP m f → (∀ es, f = .tuple es → es.length ≤ 40000) → Q (.ref tz) Hz := fun y f tz Hz ez fz dv hb3 hf => q _ _ Hz (M.trans (.of ez)) (bj.ex ez) (.tup (Evl.st_of fz) (.cons (.tup (Evl.ex_t ez rj) (dps_ints _)) (.cons (.int _) (.cons (dp_ex ez _ _ dv) .nil)))) (openB_bad3 hb3) (few3 hf)
    obtain ⟨j, v, rfl, hj, hv, hat⟩ := pick_at (xs := [V.ref l, V.non, V.int 5, V.ref t2, V.ref t5]) i0 i1
    refine Kit.w_ixL (Evl.sq_of (mj _ _ hlst fi)) hat ?_
    match j, hv with
    | 0, hv =>
      cases hv
      walk_at "wp"
      rename_i tz Hz nz ez fz
      exact fin _ (.list _) tz Hz ez fz (.lst (Evl.sq_of (mj _ _ hl ((ed.trans (ee.trans (ef.trans (eg.trans (eh.trans ei))))) _ _ fc))) xj) (fun es z => nomatch z) (fun es z => nomatch z)
    | 1, hv =>
      cases hv
      walk_at "wp"
      rename_i tz Hz nz ez fz
      exact fin _ .none tz Hz ez fz .non (fun es z => nomatch z) (fun es z => nomatch z)
    | 2, hv =>
      cases hv
      walk_at "wp"
      rename_i tz Hz nz ez fz
      exact fin _ (.int 5) tz Hz ez fz (.int 5) (fun es z => nomatch z) (fun es z => nomatch z)
    | 3, hv =>
      cases hv
      walk_at "wp"
      rename_i tz Hz nz ez fz
      refine fin _ (.tuple ((plsI s).map (partD m s) ++ [.none])) tz Hz ez fz (.tup (tup_bagM mj bi (Evl.ex_t (ef.trans (eg.trans (eh.trans ei))) se)) (dvs_app xj (.cons .non .nil))) (fun es z => ?_) (fun es z => ?_)
      · injection z with z
        exact ⟨.none, by rw [← z]; simp, rfl⟩
      · injection z with z
        rw [← z, List.length_append]
        exact Nat.le_trans (Nat.add_le_add_right hds2 _) (by decide)
    | 4, hv =>
      cases hv
      walk_at "wp"
      rename_i tz Hz nz ez fz
      refine fin _ (.tuple ([.tuple []] ++ (plsI s).map (partD m s))) tz Hz ez fz (.tup (tup_bagM mj bi (Evl.ex_t ei sh)) (dvs_app (.cons (.tup (tup_bagM mj bi (Evl.st_of ((eg.trans (eh.trans ei)) _ _ ff))) .nil) .nil) xj)) (fun es z => ?_) (fun es z => ?_)
      · injection z with z
        exact ⟨.tuple [], by rw [← z]; simp, rfl⟩
      · injection z with z
        rw [← z, List.length_append]
        exact Nat.le_trans (Nat.add_le_add_left hds2 _) (by decide)
    | j + 5, hv => simp at hv
  · rename_i k1 Ha a0 a1 ma ba hk0 hk1 hk2 hk3 hk4 l Hc nc ec fc t1 Hd nd' ed fd t2 He ee se t3 Hf nf ef ff t4 Hg ng eg fg t5 Hh eh sh lst Hi ni ei fi i Hj i0 i1 mj bj
    have hpa := tup_bagM ma hb hp
    have hra := tup_bagM ma hb hr6
    have hxa : DvAll K Ha xs ((plsI s).map (partD m s)) := dvs_map (fun _ _ h => tup_bagM ma hb h) _ _ hnL hxs
    have E : Evl.Ex Ha Hi := ec.trans (ed.trans (ee.trans (ef.trans (eg.trans (eh.trans ei)))))
    have bi := ba.ex E
    have hl : l ≠ p := ba.ne nc
    have hlst : lst ≠ p := (ba.ex (ec.trans (ed.trans (ee.trans (ef.trans (eg.trans eh)))))).ne ni
    have rj := tup_bagM mj bi (Evl.ex_t E hra)
    have pj := tup_bagM mj bi (Evl.ex_t E hpa)
    have xj : DvAll K Hj xs ((plsI s).map (partD m s)) := dvs_map (fun _ _ h => tup_bagM mj bi (Evl.ex_t E h)) _ _ hnL hxa
    have M : Kit.ExBut p H Hj := (ma.trans (.of E)).trans mj
    have fin : ∀ (y : V) (f : PyData) (tz : Addr) (Hz : Hp), Evl.Ex Hj Hz → Hz tz = some (.tup [.ref r, .int (memRoot m s.mem), y]) → Dv K Hj y f → badP m f → (∀ es, f = .tuple es → es.length ≤ 40000) → Q (.ref tz) Hz := fun y f tz Hz ez fz dv hb3 hf => q _ _ Hz (M.trans (.of ez)) (bj.ex ez) (.tup (Evl.st_of fz) (.cons (.tup (Evl.ex_t ez rj) (dps_ints _)) (.cons (.int _) (.cons (dp_ex ez _ _ dv) .nil)))) (openB_bad3 hb3) (few3 hf)
    obtain ⟨j, v, rfl, hj, hv, hat⟩ := pick_at (xs := [V.ref l, V.non, V.int 5, V.ref t2, V.ref t5]) i0 i1
    refine Kit.w_ixL (Evl.sq_of (mj _ _ hlst fi)) hat ?_
    match j, hv with
    | 0, hv =>
      cases hv
      walk_at "wp"
      rename_i tz Hz nz ez fz
      exact fin _ (.list _) tz Hz ez fz (.lst (Evl.sq_of (mj _ _ hl ((ed.trans (ee.trans (ef.trans (eg.trans (eh.trans ei))))) _ _ fc))) xj) (fun es z => nomatch z) (fun es z => nomatch z)
    | 1, hv =>
      cases hv
      walk_at "wp"
      rename_i tz Hz nz ez fz
      exact fin _ .none tz Hz ez fz .non (fun es z => nomatch z) (fun es z => nomatch z)
    | 2, hv =>
      cases hv
      walk_at "wp"
      rename_i tz Hz nz ez fz
      exact fin _ (.int 5) tz Hz ez fz (.int 5) (fun es z => nomatch z) (fun es z => nomatch z)
    | 3, hv =>
      cases hv
      walk_at "wp"
      rename_i tz Hz nz ez fz
      refine fin _ (.tuple ((plsI s).map (partD m s) ++ [.none])) tz Hz ez fz (.tup (tup_bagM mj bi (Evl.ex_t (ef.trans (eg.trans (eh.trans ei))) se)) (dvs_app xj (.cons .non .nil))) (fun es z => ?_) (fun es z => ?_)
      · injection z with z
        exact ⟨.none, by rw [← z]; simp, rfl⟩
      · injection z with z
        rw [← z, List.length_append]
        exact Nat.le_trans (Nat.add_le_add_right hds2 _) (by decide)
    | 4, hv =>
      cases hv
      walk_at "wp"
      rename_i tz Hz nz ez fz
      refine fin _ (.tuple ([.tuple []] ++ (plsI s).map (partD m s))) tz Hz ez fz (.tup (tup_bagM mj bi (Evl.ex_t ei sh)) (dvs_app (.cons (.tup (tup_bagM mj bi (Evl.st_of ((eg.trans (eh.trans ei)) _ _ ff))) .nil) .nil) xj)) (fun es z => ?_) (fun es z => ?_)
      · injection z with z
        exact ⟨.tuple [], by rw [← z]; simp, rfl⟩
      · injection z with z
        rw [← z, List.length_append]
        exact Nat.le_trans (Nat.add_le_add_left hds2 _) (by decide)
    | j + 5, hv => simp at hv
  · rename_i k1 Ha a0 a1 ma ba hk0 hk1 hk2 hk3 hlen i Hb i0 i1 mb bb
    obtain ⟨j, v, rfl, hj, hv, hat⟩ := pick_at (xs := xs) i0 i1
    refine Kit.w_ixT (tup_bagM mb ba (tup_bagM ma hb hp)) hat ?_
    obtain ⟨d, hd, dv⟩ := dps_at hxs hv
    obtain ⟨k, hk, rfl⟩ : ∃ k, (plsI s)[j]? = some k ∧ d = partD m s k := by
      rw [List.getElem?_map] at hd
      cases e : (plsI s)[j]? with
      | none => rw [e] at hd; cases hd
      | some k => rw [e] at hd; exact ⟨k, rfl, (Option.some.inj hd).symm⟩
    obtain ⟨tt, pa, rfl, h1, h2⟩ := PartOf.of dv
    walk_at "wp"
    refine ⟨p, tt, m, s.at k, pa, memPath m s.mem k.toNat, rfl, bb, m0, m1, tup_bagM mb ba (tup_bagM ma hb h1), tup_bagM mb ba (tup_bagM ma hb h2), by unfold memPath; exact KM.path_len _ _ _, fun v2 d2 H' m' b' dv2 hv2 => ?_⟩
    walk_at "wp"
    refine ⟨pp, j, xs, v2, rfl, tup_bagM m' bb (tup_bagM mb ba (tup_bagM ma hb hp)), hj, by omega, fun t2 H2 e2 s2 => ?_⟩
    walk_at "wp"
    rename_i t3 H3 n3 e3 f3
    have E := e2.trans e3
    have hr3 := Evl.ex_t E (tup_bagM m' bb (tup_bagM mb ba (tup_bagM ma hb hr6)))
    have hx3 : DvAll K H3 xs ((plsI s).map (partD m s)) := dvs_map (fun _ _ h => Evl.ex_t E (tup_bagM m' bb (tup_bagM mb ba (tup_bagM ma hb h)))) _ _ hnL hxs
    refine q _ _ H3 (((ma.trans mb).trans m').trans (.of E)) (b'.ex E) (.tup (Evl.st_of f3) (.cons (.tup hr3 (dps_ints _)) (.cons (.int _) (.cons (.tup (Evl.ex_t e3 s2) (dvs_app (dvs_app (dvs_take j hx3) (.cons (dp_ex E _ _ dv2) .nil)) (dvs_drop (j + 1) hx3))) .nil)))) (openB_bad3 fun es z => ?_) (few3 fun es z => ?_)
    · injection z with z
      exact ⟨d2, by rw [← z]; simp, hv2⟩
    · injection z with z
      rw [← z, List.length_append, List.length_append, List.length_take, List.length_drop]
      show min j _ + 1 + (_ - (j + 1)) ≤ 40000
      omega

theorem kIndexL (K : PySem.W.Frag) {X : Cx} (h : X.K = K := by rfl) : MtR X "list.index" (rIndex K) := h ▸ mt_index

def sp_law_refused (K : PySem.W.Frag) (C : Addr) : Sp := fun vs H Q _ => ∃ (g : Addr) (m : Int) (s : MSt) (v : V) (d : PyData), vs = [.ref g, .int (digestM m s), v] ∧ DigN C H g m ∧ 100 < m ∧ SOk m s ∧ Dv K H v d ∧ fewB d = true ∧
  ((d = openD m s ∧ ∀ H', Evl.Ex H H' → Q (.bl false) H') ∨ (openB m d = false ∧ ∀ H', Evl.Ex H H' → Q (.bl true) H'))
theorem ok_law_refused (T : Txt K mg) : FnOk P w K mg base CX0 7 T.f_law_refused.f T.f_law_refused.fd ["digests", "digest", "value"] (sp_law_refused K T.c_Digests.C) := by
  have G_step_of := ok_step_of (P := P) (w := w) (base := base) T
  refine T.f_law_refused.F.ok sc_law_refused (fun vs H Q E h => ?_) (fun cdv A outer s H vs Q E hr h => ?_)
  · obtain ⟨g, m, s, v, d, rfl, hd, m1, ok, hv, hf, hq⟩ := h
    rfl
  obtain ⟨g, m, s, v, d, rfl, hd, m1, ok, hv, hf, hq⟩ := h
  have nd := sc_law_refused.nd
  have hr6 : Room 6 _ := hr.mono (by decide)
  refine Kit.ok_body (σ := [some _, some _, some _]) ((pss_cons (ps_try_only (tb := fun W => tDrop (tCallS (sp_step_of K T.c_Digests.C T.e_BadOpening.C) (WE W) (tCons (tVar 0) (tCons (tVar 1) (tCons (tVar 2) tNil))))) (ts := fun _ _ _ => tRet (tC (.bl true))) (Wout := fun _ _ _ _ => False) rfl rfl ⟨rfl, by decide, Or.inl T.e_BadOpening.g⟩ takes0 (fun W pn xe tk _ => pss_one (ps_expr (pe_callS G_step_of hr6 (by rfl) T.f_step_of.g T.f_step_of.F.kp T.f_step_of.b (fun σ => passAt tk σ) (by exact (pa_cons (pv 0) (pa_cons (pv 1) (pa_cons (pv 2) pa_nil))))))) (fun _ _ _ _ _ _ _ => pss_one (ps_ret pe_bl)))
    (pss_one (ps_ret pe_bl)))) rfl ?_
  refine Kit.m_seq ?_
  show Kit.Sm (Kit.tRefused K T.e_BadOpening.C (sp_step_of K T.c_Digests.C T.e_BadOpening.C) (tCons (tVar 0) (tCons (tVar 1) (tCons (tVar 2) tNil)))) _ _ _ _ _ _
  refine Kit.m_refused ?_
  walk_at "wp"
  refine ⟨g, m, s, v, d, rfl, hd, m1, ok, hv, hf, ?_⟩
  rcases hq with ⟨h, q⟩ | ⟨h, q⟩
  · refine .inl ⟨h, fun H' e => ?_⟩
    walk_at "wp"
    exact q _ e
  · exact .inr ⟨h, fun H' e => Kit.w_caught T.e_BadOpening.e (q _ e)⟩
theorem openD_few {m : Int} {s : MSt} : fewB (openD m s) = true := few_t
def bitsA : List Int := [61, 31, 13, 7]
def msA4V : List V := [.int (2 ^ (61 : Int).toNat - 1), .int (2 ^ (31 : Int).toNat - 1), .int (2 ^ (13 : Int).toNat - 1), .int (2 ^ (7 : Int).toNat - 1)]
theorem bitsA_ix {z : Int} (h : z ∈ bitsA) : IsBits z ∧ ∃ j : Nat, bitsA[j]? = some z ∧ (∀ m : Nat, m < j → bitsA[m]? ≠ some z) ∧ atI msA4V (j : Int) = some (.int (2 ^ z.toNat - 1)) := by
  have hd : ∀ j : Fin 4, ∀ m : Fin 4, m.1 < j.1 → bitsA[m.1]? ≠ bitsA[j.1]? := by decide
  have go : ∀ j : Fin 4, ∀ m, m < j.1 → bitsA[m]? ≠ bitsA[j.1]? := fun j m hm => hd j ⟨m, by omega⟩ hm
  simp only [bitsA, List.mem_cons, List.not_mem_nil, or_false] at h
  rcases h with rfl | rfl | rfl | rfl
  · exact ⟨.b61, 0, rfl, go 0, L2.atI_nat (j := 0) rfl⟩
  · exact ⟨.b31, 1, rfl, go 1, L2.atI_nat (j := 1) rfl⟩
  · exact ⟨.b13, 2, rfl, go 2, L2.atI_nat (j := 2) rfl⟩
  · exact ⟨.b7, 3, rfl, go 3, L2.atI_nat (j := 3) rfl⟩
theorem ok_law (T : Txt K mg) : FnOk P w K mg base CX0 8 T.f_law.f T.f_law.fd ["script"] (sp_law K) := by
  have G_Digests___init := ok_Digests___init (P := P) (w := w) (base := base) T
  have G_Machine___init := ok_Machine___init (P := P) (w := w) (base := base) T
  have G_Machine_digest := ok_Machine_digest (P := P) (w := w) (base := base) T
  have G_Machine_step := ok_Machine_step (P := P) (w := w) (base := base) T
  have G_law_bag := ok_law_bag (P := P) (w := w) (base := base) T
  have G_law_draw := ok_law_draw (P := P) (w := w) (base := base) T
  have G_law_odd := ok_law_odd (P := P) (w := w) (base := base) T
  have G_law_odd_registers := ok_law_odd_registers (P := P) (w := w) (base := base) T
  have G_law_refused := ok_law_refused (P := P) (w := w) (base := base) T
  have G_law_start := ok_law_start (P := P) (w := w) (base := base) T
  have G_law_words := ok_law_words (P := P) (w := w) (base := base) T
  have G_are_registers := ok_are_registers (P := P) (w := w) (base := base) T
  have G_opened := ok_opened (P := P) (w := w) (base := base) T
  refine T.f_law.F.ok sc_law (fun vs H Q E h => ?_) (fun cdv A outer s H vs Q E hr h => ?_)
  · obtain ⟨a, ns, rfl, hS, hns, q⟩ := h
    rfl
  obtain ⟨a, ns, rfl, hS, hns, q⟩ := h
  have nd := sc_law.nd
  have hr1 : Room 1 _ := hr.mono (by decide)
  have hr2 : Room 2 _ := hr.mono (by decide)
  have hr3 : Room 3 _ := hr.mono (by decide)
  have hr4 : Room 4 _ := hr.mono (by decide)
  have hr5 : Room 5 _ := hr.mono (by decide)
  have hr6 : Room 6 _ := hr.mono (by decide)
  have hr7 : Room 7 _ := hr.mono (by decide)
  refine Kit.ok_body (σ := [some _, none, none, none, none, none, none, none, none]) ((pss_cons (ps_set (i := 1) nd rfl (Or.inl rfl) (pe_call G_law_bag hr1 (by rfl) T.f_law_bag.g T.f_law_bag.F.kp T.f_law_bag.b .nil pass0 (pa_cons (pv 0) pa_nil)))
    (pss_cons (ps_set (i := 2) nd rfl (Or.inl rfl) (pe_ix (Kit.ixL K) (pe_lst (pa_cons pe_int (pa_cons pe_int (pa_cons pe_int (pa_cons pe_int pa_nil))))) (pe_call G_law_draw hr1 (by rfl) T.f_law_draw.g T.f_law_draw.F.kp T.f_law_draw.b .nil pass0 (pa_cons (pv 1) (pa_cons pe_int pa_nil))) (fun _ _ => rfl)))
    (pss_cons (ps_set (i := 3) nd rfl (Or.inl rfl) (pe_ix (Kit.ixL K) (pe_lst (pa_cons (pe_op op_sub (pe_op op_pow pe_int pe_int) pe_int) (pa_cons (pe_op op_sub (pe_op op_pow pe_int pe_int) pe_int) (pa_cons (pe_op op_sub (pe_op op_pow pe_int pe_int) pe_int) (pa_cons (pe_op op_sub (pe_op op_pow pe_int pe_int) pe_int) pa_nil))))) (pe_bm PySem.F.plainAttrs_list PySem.F.slot_list_index PySem.F.type_list_index (kIndexL K) (pe_lst (pa_cons pe_int (pa_cons pe_int (pa_cons pe_int (pa_cons pe_int pa_nil))))) (pa_cons (pv 2) pa_nil)) (fun _ _ => rfl)))
    (pss_cons (ps_set (i := 4) nd rfl (Or.inl rfl) (pe_make T.c_Digests.M G_Digests___init hr2 (by rfl) T.c_Digests.g T.f_Digests___init.b .nil pass0 (pa_cons (pv 2) (pa_cons pe_non pa_nil))))
    (pss_cons (ps_set (i := 5) nd rfl (Or.inl rfl) (pe_make T.c_Machine.M G_Machine___init hr7 (by rfl) T.c_Machine.g T.f_Machine___init.b .nil pass0 (pa_cons (pv 4) (pa_cons (pe_call G_law_start hr2 (by rfl) T.f_law_start.g T.f_law_start.F.kp T.f_law_start.b .nil pass0 (pa_cons (pv 1) (pa_cons (pv 3) pa_nil))) (pa_cons (pe_call G_law_words hr3 (by rfl) T.f_law_words.g T.f_law_words.F.kp T.f_law_words.b .nil pass0 (pa_cons (pv 1) pa_nil)) pa_nil)))))
    (pss_cons (ps_for PassesOwn.never rfl (pi_range1 (by rfl) T.z_range (pa_cons (pe_call G_law_draw hr1 (by rfl) T.f_law_draw.g T.f_law_draw.F.kp T.f_law_draw.b .nil pass0 (pa_cons (pv 1) (pa_cons pe_int pa_nil))) pa_nil)) (pg_name (i := 6) nd rfl (Or.inl rfl))
    (pss_one (ps_expr (pe_meth0 (pv 5) T.c_Machine.cl T.m_Machine_step G_Machine_step hr5 T.f_Machine_step.b .nil pass0))))
    (pss_cons (ps_set (i := 7) nd rfl (Or.inl rfl) (pe_call G_opened hr4 (by rfl) T.f_opened.g T.f_opened.F.kp T.f_opened.b .nil pass0 (pa_cons (pv 5) pa_nil)))
    (pss_cons (ps_set (i := 8) nd rfl (Or.inl rfl) (pe_meth0 (pv 5) T.c_Machine.cl T.m_Machine_digest G_Machine_digest hr3 T.f_Machine_digest.b .nil pass0))
    (pss_cons (ps_for PassesOwn.never rfl (pi_range1 (by rfl) T.z_range (pa_cons (pe_op op_add pe_int (pe_call G_law_draw hr1 (by rfl) T.f_law_draw.g T.f_law_draw.F.kp T.f_law_draw.b .nil pass0 (pa_cons (pv 1) (pa_cons pe_int pa_nil)))) pa_nil)) (pg_name (i := 6) nd rfl (Or.inl rfl))
    (pss_cons (ps_if (pt_not (pt_val (pe_call G_law_refused hr7 (by rfl) T.f_law_refused.g T.f_law_refused.F.kp T.f_law_refused.b .nil pass0 (pa_cons (pv 4) (pa_cons (pv 8) (pa_cons (pe_call G_law_odd hr4 (by rfl) T.f_law_odd.g T.f_law_odd.F.kp T.f_law_odd.b .nil pass0 (pa_cons (pv 1) (pa_cons (pv 3) (pa_cons (pv 7) pa_nil)))) pa_nil))))))
    (pss_one (ps_ret pe_bl))
    pss_nil)
    (pss_cons (ps_if (pt_cmpR op_notBl (pe_call G_are_registers hr3 (by rfl) T.f_are_registers.g T.f_are_registers.F.kp T.f_are_registers.b .nil pass0 (pa_cons (pv 4) (pa_cons (pe_call G_law_odd_registers hr3 (by rfl) T.f_law_odd_registers.g T.f_law_odd_registers.F.kp T.f_law_odd_registers.b .nil pass0 (pa_cons (pv 1) (pa_cons (pv 3) (pa_cons (pe_ix (Kit.ixT K) (pv 7) pe_int (fun _ _ => rfl)) pa_nil)))) pa_nil))) pe_bl (nomark _))
    (pss_one (ps_ret pe_bl))
    pss_nil)
    (pss_one (ps_if (pt_cmpR op_notBl (pe_call G_are_registers hr3 (by rfl) T.f_are_registers.g T.f_are_registers.F.kp T.f_are_registers.b .nil pass0 (pa_cons (pv 4) (pa_cons (pe_call G_law_start hr2 (by rfl) T.f_law_start.g T.f_law_start.F.kp T.f_law_start.b .nil pass0 (pa_cons (pv 1) (pa_cons (pv 3) pa_nil))) pa_nil))) pe_bl (nomark _))
    (pss_one (ps_ret pe_bl))
    pss_nil)))))
    (pss_one (ps_ret (pe_and (pe_cmpR op_isBl (pe_call G_are_registers hr3 (by rfl) T.f_are_registers.g T.f_are_registers.F.kp T.f_are_registers.b .nil pass0 (pa_cons (pv 4) (pa_cons (pe_ix (Kit.ixT K) (pv 7) pe_int (fun _ _ => rfl)) pa_nil))) pe_bl (nomark _)) (pe_one (pe_not (pe_call G_law_refused hr7 (by rfl) T.f_law_refused.g T.f_law_refused.F.kp T.f_law_refused.b .nil pass0 (pa_cons (pv 4) (pa_cons (pv 8) (pa_cons (pv 7) pa_nil))))))))))))))))))) rfl ?_
  try dsimp only [L2.cxOf, L2.Cx.nox]
  walk_at "wp"
  refine ⟨a, ns, rfl, hS, fun p H1 n1 e1 b1 => ?_⟩
  walk_at "wp"
  rename_i pl H2 n2 e2 f2 i H3 i0 i1 m3 b3
  refine w_pick bitsA (by walk_at "hpB") rfl i0 i1 fun b hb => ?_
  obtain ⟨hB, j, hj, hlt, hm⟩ := bitsA_ix hb
  have hm0 := hB.m100
  have hm1 := hB.m.2
  walk_at "wp"
  rename_i pm H4 n4 e4 f4 pb H5 n5 e5 f5
  refine w_indexI (ss := bitsA) (Evl.sq_of f5) hj hlt ?_
  refine Kit.w_ixL (Evl.sq_of (e5 _ _ f4)) hm ?_
  generalize hM : (2 ^ b.toNat - 1 : Int) = m at *
  walk_at "wp"
  rename_i g H8 n8 e8 d8
  rw [hM] at d8
  have b8 : Bag5 H8 p := by walk_at "bag"
  refine ⟨p, m, rfl, b8, hm0, hm1, fun r pc acc x mark out count H6 ok n6 m6 b6 f6 => ?_⟩
  walk_at "wp"
  refine ⟨p, rfl, b6, fun w ws H7 n7 m7 b7 f7 hl7 hw7 => ?_⟩
  have hrp : r ≠ p := fun z => by obtain ⟨o, ho⟩ := b8.is; rw [z] at n6; rw [n6] at ho; cases ho
  have f6' : H7 r = some (.tup [.int pc, .int acc, .int x, .int mark, .int out, .int count]) := m7 _ _ hrp f6
  have d7 : DigN T.c_Digests.C H7 g m := DigN.bag m7 b6 (DigN.bag m6 b8 d8)
  walk_at "wp"
  show Kit.MakeOf _ _ _ _ _ _
  refine use_Machine (pc := pc) (acc := acc) (x := x) (mark := mark) (out := out) (count := count) (ws := ws) d7 (Evl.st_of f6') (Evl.st_of f7) (by omega) fun mp F H9 hF e9 mac => ?_
  rw [padW_whole hl7] at mac
  have OK : SOk m ⟨pc, acc, x, mark, out, count, ws, []⟩ := ⟨ok.pc, ok.acc, ok.x, ok.mark, ok.out, ok.count, ok.count.1, hl7, hw7⟩
  generalize hs : (⟨pc, acc, x, mark, out, count, ws, []⟩ : MSt) = s at *
  have hp8 : ∃ o, H7 p = some o := b7.is
  obtain ⟨op, hp8⟩ := hp8
  have nPF : p ∉ F := fun z => by have := hF p z; rw [hp8] at this; cases this
  have d10 : DigN T.c_Digests.C H9 g m := d7.ex e9
  have b10 : Bag5 H9 p := b7.ex e9
  walk_at "wp"
  rename_i cnt H14 c0 c1 m14 b14
  have mac14 : MacAt K T.c_Machine.C T.c_Memory.C H14 mp F g m s := mac.by (G := [p]) (ExBy.len1 m14 (by simp)) (kind1 b10) (fun x hx z => nPF (by rw [List.mem_singleton] at z; rw [← z]; exact hx))
  have d14 : DigN T.c_Digests.C H14 g m := DigN.bag m14 b10 d10
  have m0 : 0 < m := by omega
  clear b1 b3 b6 b7 b8 b10 m3 m6 m7 m14 e1 e2 e4 e5 e8 e9 hs mac d7 d8 d10 f2 f4 f5 f6 f7 f6'
  refine Kit.f_rng1 (by omega) (by omega) (fun _ σ' H' => ∃ y6 s', σ' = [some (.ref a), some (.ref p), some (.int b), some (.int m), some (.ref g), some (.ref mp), y6, none, none] ∧ MacAt K T.c_Machine.C T.c_Memory.C H' mp F g m s' ∧ DigN T.c_Digests.C H' g m ∧ SOk m s' ∧ Bag5 H' p) ⟨_, s, rfl, mac14, d14, OK, b14⟩ ?_ ?_
  · rintro k σ' H15 hk ⟨y6, s1, rfl, mac1, d1, ok1, bg1⟩
    walk_at "wp"
    refine ⟨mp, F, g, m, s1, rfl, mac1, d1, hm0, ok1, fun H16 e16 mac2 => ?_⟩
    walk_at "wp"
    exact ⟨_, s1.stepM m, rfl, mac2, d1.by e16 (mac1.dig d1), ok1.step hm0, bg1.by e16 nPF (mac1.cells mac2)⟩
  · rintro σ' H15 ⟨y6, s1, rfl, mac1, d1, ok1, bg1⟩
    walk_at "wp"
    refine ⟨mp, F, g, m, s1, rfl, mac1, ok1, fun v H16 e16 dv => ?_⟩
    walk_at "wp"
    refine ⟨mp, F, g, m, s1, rfl, mac1.exE e16, d1.ex e16, hm0, ok1, fun H17 e17 => ?_⟩
    have E17 := e16.trans e17
    have d17 := d1.ex E17
    have bg17 := bg1.ex E17
    have dv17 := dp_ex e17 _ _ dv
    walk_at "wp"
    rename_i cnt2 H18 c20 c21 m18 b18
    have noO : noL (openD m s1) = true := by
      rw [openD, noL, noLs, noL, noLs_map noL_int, noLs, noL_int, noLs, noL, noLs_map (noL_part m s1), noLs]
      rfl
    have dv18 : Dv K H18 v (openD m s1) := dv_map (fun _ _ h => tup_bagM m18 bg17 h) _ _ noO dv17
    have d18 := DigN.bag m18 bg17 d17
    have hreg := regB_t ok1
    clear mac1 mac14 d1 d17 bg1 bg17 dv dv17 m18 e16 e17 E17 d14 b14
    refine Kit.f_rng1 (by omega) (by omega) (fun _ σ' H' => ∃ y6, σ' = [some (.ref a), some (.ref p), some (.int b), some (.int m), some (.ref g), some (.ref mp), y6, some v, some (.int (digestM m s1))] ∧ Dv K H' v (openD m s1) ∧ DigN T.c_Digests.C H' g m ∧ Bag5 H' p) ⟨_, rfl, dv18, d18, b18⟩ ?_ ?_
    · rintro k σ' H19 hk ⟨y6, rfl, dv1, d1, bg1⟩
      obtain ⟨t, r, pp, xs, rfl, ht, hr6, hp6, hxs⟩ := open_of dv1
      walk_at "wp"
      refine ⟨p, m, s1, .ref t, rfl, bg1, hm0, hm1, ok1, dv1, fun u d Ha ma ba du hno hfew => ?_⟩
      have da := DigN.bag ma bg1 d1
      walk_at "wp"
      refine ⟨g, m, s1, u, d, rfl, da, hm0, ok1, du, hfew, .inr ⟨hno, fun Hb eb => ?_⟩⟩
      have db := da.ex eb
      have bb := ba.ex eb
      have tb : SqT K Hb t [.ref r, .int (memRoot m s1.mem), .ref pp] := Evl.ex_t eb (tup_bagM ma bg1 ht)
      have rb : SqT K Hb r ((regsI s1).map V.int) := Evl.ex_t eb (tup_bagM ma bg1 hr6)
      have vb : Dv K Hb (.ref t) (openD m s1) := dp_ex eb _ _ (dv_map (fun _ _ h => tup_bagM ma bg1 h) _ _ noO dv1)
      clear ma ba du dv1 d1 bg1 da ht hr6 hp6 eb
      walk_at "wp"
      refine ⟨p, r, m, s1, rfl, bb, hm0, hm1, rb, fun u2 d2 Hc mc bc du2 hr2 => ?_⟩
      have dc := DigN.bag mc bb db
      obtain ⟨dxc, bbc, hgc⟩ := dc.at_
      have vc : Dv K Hc (.ref t) (openD m s1) := dv_map (fun _ _ h => tup_bagM mc bb h) _ _ noO vb
      walk_at "wp"
      all_goals first | (rename_i hz; exact absurd hr2 hz) | skip
      refine ⟨p, m, rfl, bc, hm0, hm1, fun r2 pc2 acc2 x2 mark2 out2 count2 Hd ok2 nd2 md bd fd => ?_⟩
      have dd := DigN.bag md bc dc
      obtain ⟨dxd, bbd, hgd⟩ := dd.at_
      have OK2 : SOk m ⟨pc2, acc2, x2, mark2, out2, count2, s1.mem, []⟩ := ⟨ok2.pc, ok2.acc, ok2.x, ok2.mark, ok2.out, ok2.count, ok2.count.1, ok1.len, ok1.mem⟩
      have dr2 : Dv K Hd (.ref r2) (.tuple ((regsI ⟨pc2, acc2, x2, mark2, out2, count2, s1.mem, []⟩).map PyData.int)) := dp_itup (Evl.st_of fd)
      have hreg2 := regB_t OK2
      walk_at "wp"
      all_goals first | (rename_i hz; exact absurd hreg2 hz) | skip
      exact ⟨_, rfl, dv_map (fun _ _ h => tup_bagM md bc h) _ _ noO vc, dd, bd⟩
    · rintro σ' H19 ⟨y6, rfl, dv1, d1, bg1⟩
      obtain ⟨t, r, pp, xs, rfl, ht, hr6, hp6, hxs⟩ := open_of dv1
      obtain ⟨dxc, bbc, hgc⟩ := d1.at_
      have dr : Dv K H19 (.ref r) (.tuple ((regsI s1).map PyData.int)) := dp_itup hr6
      walk_at "wp"
      all_goals first | (rename_i hz; exact absurd hreg hz) | skip
      refine ⟨g, m, s1, .ref t, _, rfl, d1, hm0, ok1, dv1, openD_few, .inl ⟨rfl, fun Hb eb => ?_⟩⟩
      walk_at "wp"
      exact q _

end
theorem all_mk {l : PySem.W.OpenLaw} {w : World} {K : PySem.W.Frag} {h : Heap} {mg : Str → Option Value} {fa : Addr} (X : K.In h) (G : h.Ns mainGlobals mg) (hfa : mg "law" = some (.ref fa))
    {od0 an0 : Option Addr} {sl0 : Array (Option Value)} {oc0 kV0 dc0 pm0 cd0 ct0 : Value} {f0 : Addr}
    {od1 an1 : Option Addr} {sl1 : Array (Option Value)} {oc1 kV1 dc1 pm1 cd1 ct1 : Value} {f1 : Addr}
    {od2 an2 : Option Addr} {sl2 : Array (Option Value)} {oc2 kV2 dc2 pm2 cd2 ct2 : Value} {f2 : Addr}
    {od3 an3 : Option Addr} {sl3 : Array (Option Value)} {oc3 kV3 dc3 pm3 cd3 ct3 : Value} {f3 : Addr}
    {od4 an4 : Option Addr} {sl4 : Array (Option Value)} {oc4 kV4 dc4 pm4 cd4 ct4 : Value} {f4 : Addr}
    {od5 an5 : Option Addr} {sl5 : Array (Option Value)} {oc5 kV5 dc5 pm5 cd5 ct5 : Value} {f5 : Addr}
    {od6 an6 : Option Addr} {sl6 : Array (Option Value)} {oc6 kV6 dc6 pm6 cd6 ct6 : Value} {f6 : Addr}
    {od7 an7 : Option Addr} {sl7 : Array (Option Value)} {oc7 kV7 dc7 pm7 cd7 ct7 : Value} {f7 : Addr}
    {od8 an8 : Option Addr} {sl8 : Array (Option Value)} {oc8 kV8 dc8 pm8 cd8 ct8 : Value} {f8 : Addr}
    {od9 an9 : Option Addr} {sl9 : Array (Option Value)} {oc9 kV9 dc9 pm9 cd9 ct9 : Value} {f9 : Addr}
    {od10 an10 : Option Addr} {sl10 : Array (Option Value)} {oc10 kV10 dc10 pm10 cd10 ct10 : Value} {f10 : Addr}
    {od11 an11 : Option Addr} {sl11 : Array (Option Value)} {oc11 kV11 dc11 pm11 cd11 ct11 : Value} {f11 : Addr}
    {od12 an12 : Option Addr} {sl12 : Array (Option Value)} {oc12 kV12 dc12 pm12 cd12 ct12 : Value} {f12 : Addr}
    {od13 an13 : Option Addr} {sl13 : Array (Option Value)} {oc13 kV13 dc13 pm13 cd13 ct13 : Value} {f13 : Addr}
    {od14 an14 : Option Addr} {sl14 : Array (Option Value)} {oc14 kV14 dc14 pm14 cd14 ct14 : Value} {f14 : Addr}
    {od15 an15 : Option Addr} {sl15 : Array (Option Value)} {oc15 kV15 dc15 pm15 cd15 ct15 : Value} {f15 : Addr}
    {od16 an16 : Option Addr} {sl16 : Array (Option Value)} {oc16 kV16 dc16 pm16 cd16 ct16 : Value} {f16 : Addr}
    {od17 an17 : Option Addr} {sl17 : Array (Option Value)} {oc17 kV17 dc17 pm17 cd17 ct17 : Value} {f17 : Addr}
    {od18 an18 : Option Addr} {sl18 : Array (Option Value)} {oc18 kV18 dc18 pm18 cd18 ct18 : Value} {f18 : Addr}
    {od19 an19 : Option Addr} {sl19 : Array (Option Value)} {oc19 kV19 dc19 pm19 cd19 ct19 : Value} {f19 : Addr}
    {od20 an20 : Option Addr} {sl20 : Array (Option Value)} {oc20 kV20 dc20 pm20 cd20 ct20 : Value} {f20 : Addr}
    {od21 an21 : Option Addr} {sl21 : Array (Option Value)} {oc21 kV21 dc21 pm21 cd21 ct21 : Value} {f21 : Addr}
    {od22 an22 : Option Addr} {sl22 : Array (Option Value)} {oc22 kV22 dc22 pm22 cd22 ct22 : Value} {f22 : Addr}
    {od23 an23 : Option Addr} {sl23 : Array (Option Value)} {oc23 kV23 dc23 pm23 cd23 ct23 : Value} {f23 : Addr}
    {od24 an24 : Option Addr} {sl24 : Array (Option Value)} {oc24 kV24 dc24 pm24 cd24 ct24 : Value} {f24 : Addr}
    {od25 an25 : Option Addr} {sl25 : Array (Option Value)} {oc25 kV25 dc25 pm25 cd25 ct25 : Value} {f25 : Addr}
    {od26 an26 : Option Addr} {sl26 : Array (Option Value)} {oc26 kV26 dc26 pm26 cd26 ct26 : Value} {f26 : Addr}
    {od27 an27 : Option Addr} {sl27 : Array (Option Value)} {oc27 kV27 dc27 pm27 cd27 ct27 : Value} {f27 : Addr}
    {od28 an28 : Option Addr} {sl28 : Array (Option Value)} {oc28 kV28 dc28 pm28 cd28 ct28 : Value} {f28 : Addr}
    {od29 an29 : Option Addr} {sl29 : Array (Option Value)} {oc29 kV29 dc29 pm29 cd29 ct29 : Value} {f29 : Addr}
    {od30 an30 : Option Addr} {sl30 : Array (Option Value)} {oc30 kV30 dc30 pm30 cd30 ct30 : Value} {f30 : Addr}
    {od31 an31 : Option Addr} {sl31 : Array (Option Value)} {oc31 kV31 dc31 pm31 cd31 ct31 : Value} {f31 : Addr}
    {od32 an32 : Option Addr} {sl32 : Array (Option Value)} {oc32 kV32 dc32 pm32 cd32 ct32 : Value} {f32 : Addr}
    {od33 an33 : Option Addr} {sl33 : Array (Option Value)} {oc33 kV33 dc33 pm33 cd33 ct33 : Value} {f33 : Addr}
    {od34 an34 : Option Addr} {sl34 : Array (Option Value)} {oc34 kV34 dc34 pm34 cd34 ct34 : Value} {f34 : Addr}
    {od35 an35 : Option Addr} {sl35 : Array (Option Value)} {oc35 kV35 dc35 pm35 cd35 ct35 : Value} {f35 : Addr}
    {od36 an36 : Option Addr} {sl36 : Array (Option Value)} {oc36 kV36 dc36 pm36 cd36 ct36 : Value} {f36 : Addr}
    {od37 an37 : Option Addr} {sl37 : Array (Option Value)} {oc37 kV37 dc37 pm37 cd37 ct37 : Value} {f37 : Addr}
    {od38 an38 : Option Addr} {sl38 : Array (Option Value)} {oc38 kV38 dc38 pm38 cd38 ct38 : Value} {f38 : Addr}
    {od39 an39 : Option Addr} {sl39 : Array (Option Value)} {oc39 kV39 dc39 pm39 cd39 ct39 : Value} {f39 : Addr}
    {od40 an40 : Option Addr} {sl40 : Array (Option Value)} {oc40 kV40 dc40 pm40 cd40 ct40 : Value} {f40 : Addr}
    {od41 an41 : Option Addr} {sl41 : Array (Option Value)} {oc41 kV41 dc41 pm41 cd41 ct41 : Value} {f41 : Addr}
    {od42 an42 : Option Addr} {sl42 : Array (Option Value)} {oc42 kV42 dc42 pm42 cd42 ct42 : Value} {f42 : Addr}
    {od43 an43 : Option Addr} {sl43 : Array (Option Value)} {oc43 kV43 dc43 pm43 cd43 ct43 : Value} {f43 : Addr}
    {od44 an44 : Option Addr} {sl44 : Array (Option Value)} {oc44 kV44 dc44 pm44 cd44 ct44 : Value} {f44 : Addr}
    {od45 an45 : Option Addr} {sl45 : Array (Option Value)} {oc45 kV45 dc45 pm45 cd45 ct45 : Value} {f45 : Addr}
    {od46 an46 : Option Addr} {sl46 : Array (Option Value)} {oc46 kV46 dc46 pm46 cd46 ct46 : Value} {f46 : Addr}
    {od47 an47 : Option Addr} {sl47 : Array (Option Value)} {oc47 kV47 dc47 pm47 cd47 ct47 : Value} {f47 : Addr}
    {od48 an48 : Option Addr} {sl48 : Array (Option Value)} {oc48 kV48 dc48 pm48 cd48 ct48 : Value} {f48 : Addr}
    {od49 an49 : Option Addr} {sl49 : Array (Option Value)} {oc49 kV49 dc49 pm49 cd49 ct49 : Value} {f49 : Addr}
    {od50 an50 : Option Addr} {sl50 : Array (Option Value)} {oc50 kV50 dc50 pm50 cd50 ct50 : Value} {f50 : Addr}
    {od51 an51 : Option Addr} {sl51 : Array (Option Value)} {oc51 kV51 dc51 pm51 cd51 ct51 : Value} {f51 : Addr}
    {od52 an52 : Option Addr} {sl52 : Array (Option Value)} {oc52 kV52 dc52 pm52 cd52 ct52 : Value} {f52 : Addr}
    {od53 an53 : Option Addr} {sl53 : Array (Option Value)} {oc53 kV53 dc53 pm53 cd53 ct53 : Value} {f53 : Addr}
    {od54 an54 : Option Addr} {sl54 : Array (Option Value)} {oc54 kV54 dc54 pm54 cd54 ct54 : Value} {f54 : Addr}
    {od55 an55 : Option Addr} {sl55 : Array (Option Value)} {oc55 kV55 dc55 pm55 cd55 ct55 : Value} {f55 : Addr}
    {od56 an56 : Option Addr} {sl56 : Array (Option Value)} {oc56 kV56 dc56 pm56 cd56 ct56 : Value} {f56 : Addr}
    {od57 an57 : Option Addr} {sl57 : Array (Option Value)} {oc57 kV57 dc57 pm57 cd57 ct57 : Value} {f57 : Addr}
    {od58 an58 : Option Addr} {sl58 : Array (Option Value)} {oc58 kV58 dc58 pm58 cd58 ct58 : Value} {f58 : Addr}
    {od59 an59 : Option Addr} {sl59 : Array (Option Value)} {oc59 kV59 dc59 pm59 cd59 ct59 : Value} {f59 : Addr}
    {od60 an60 : Option Addr} {sl60 : Array (Option Value)} {oc60 kV60 dc60 pm60 cd60 ct60 : Value} {f60 : Addr}
    {C_Digests : Addr}
    {C_Memory : Addr}
    {C_Machine : Addr}
    {C_BadOpening : Addr}
    {t_DEPTH : Tok}
    {a_MARKS : Addr} {o_MARKS : Obj}
    {t_MOST_TOLD : Tok}
    {t_MOST_WORD : Tok}
    {a_NAMES : Addr} {o_NAMES : Obj}
    {t_PLACES : Tok}
    {a_SIGNS : Addr} {o_SIGNS : Obj}
    (aC_Machine : PySem.W.nsIn K mainGlobals "Machine" = some (some (.ref C_Machine)))
    (aC_Memory : PySem.W.nsIn K mainGlobals "Memory" = some (some (.ref C_Memory)))
    (aC_Digests : PySem.W.nsIn K mainGlobals "Digests" = some (some (.ref C_Digests)))
    (a0 : PySem.W.nsIn K mainGlobals "is_integer" = some (some (.ref f0)))
    (l0 : K.lookup f0 = some ⟨oc0, od0, .func (PySem.W.fnOf "is_integer" "is_integer" (defArgs s_is_integer) (defBody s_is_integer) (defScope s_is_integer) .none kV0 dc0 pm0 an0 cd0 ct0), sl0⟩)
    (c0 : PySem.W.codeIn K cd0 "is_integer" = true)
    (k0 : PySem.W.keepIn K (.ref f0) = true)
    (a1 : PySem.W.nsIn K mainGlobals "is_word" = some (some (.ref f1)))
    (l1 : K.lookup f1 = some ⟨oc1, od1, .func (PySem.W.fnOf "is_word" "is_word" (defArgs s_is_word) (defBody s_is_word) (defScope s_is_word) .none kV1 dc1 pm1 an1 cd1 ct1), sl1⟩)
    (c1 : PySem.W.codeIn K cd1 "is_word" = true)
    (k1 : PySem.W.keepIn K (.ref f1) = true)
    (a2 : PySem.W.findIn K (.ref C_Digests) "__init__" = some (some (.ref f2)))
    (i2 : PySem.W.isFn K (.ref f2) = true)
    (l2 : K.lookup f2 = some ⟨oc2, od2, .func (PySem.W.fnOf "__init__" "Digests.__init__" (defArgs s_Digests___init) (defBody s_Digests___init) (defScope s_Digests___init) .none kV2 dc2 pm2 an2 cd2 ct2), sl2⟩)
    (c2 : PySem.W.codeIn K cd2 "Digests.__init__" = true)
    (k2 : PySem.W.keepIn K (.ref f2) = true)
    (a3 : PySem.W.findIn K (.ref C_Digests) "leaf" = some (some (.ref f3)))
    (i3 : PySem.W.isFn K (.ref f3) = true)
    (l3 : K.lookup f3 = some ⟨oc3, od3, .func (PySem.W.fnOf "leaf" "Digests.leaf" (defArgs s_Digests_leaf) (defBody s_Digests_leaf) (defScope s_Digests_leaf) .none kV3 dc3 pm3 an3 cd3 ct3), sl3⟩)
    (c3 : PySem.W.codeIn K cd3 "Digests.leaf" = true)
    (k3 : PySem.W.keepIn K (.ref f3) = true)
    (a4 : PySem.W.findIn K (.ref C_Digests) "fold" = some (some (.ref f4)))
    (i4 : PySem.W.isFn K (.ref f4) = true)
    (l4 : K.lookup f4 = some ⟨oc4, od4, .func (PySem.W.fnOf "fold" "Digests.fold" (defArgs s_Digests_fold) (defBody s_Digests_fold) (defScope s_Digests_fold) .none kV4 dc4 pm4 an4 cd4 ct4), sl4⟩)
    (c4 : PySem.W.codeIn K cd4 "Digests.fold" = true)
    (k4 : PySem.W.keepIn K (.ref f4) = true)
    (a5 : PySem.W.findIn K (.ref C_Digests) "state" = some (some (.ref f5)))
    (i5 : PySem.W.isFn K (.ref f5) = true)
    (l5 : K.lookup f5 = some ⟨oc5, od5, .func (PySem.W.fnOf "state" "Digests.state" (defArgs s_Digests_state) (defBody s_Digests_state) (defScope s_Digests_state) .none kV5 dc5 pm5 an5 cd5 ct5), sl5⟩)
    (c5 : PySem.W.codeIn K cd5 "Digests.state" = true)
    (k5 : PySem.W.keepIn K (.ref f5) = true)
    (a6 : PySem.W.findIn K (.ref C_Digests) "is_digest" = some (some (.ref f6)))
    (i6 : PySem.W.isFn K (.ref f6) = true)
    (l6 : K.lookup f6 = some ⟨oc6, od6, .func (PySem.W.fnOf "is_digest" "Digests.is_digest" (defArgs s_Digests_is_digest) (defBody s_Digests_is_digest) (defScope s_Digests_is_digest) .none kV6 dc6 pm6 an6 cd6 ct6), sl6⟩)
    (c6 : PySem.W.codeIn K cd6 "Digests.is_digest" = true)
    (k6 : PySem.W.keepIn K (.ref f6) = true)
    (a7 : PySem.W.findIn K (.ref C_Digests) "_noted" = some (some (.ref f7)))
    (i7 : PySem.W.isFn K (.ref f7) = true)
    (l7 : K.lookup f7 = some ⟨oc7, od7, .func (PySem.W.fnOf "_noted" "Digests._noted" (defArgs s_Digests__noted) (defBody s_Digests__noted) (defScope s_Digests__noted) .none kV7 dc7 pm7 an7 cd7 ct7), sl7⟩)
    (c7 : PySem.W.codeIn K cd7 "Digests._noted" = true)
    (k7 : PySem.W.keepIn K (.ref f7) = true)
    (a8 : PySem.W.nsIn K mainGlobals "root_by" = some (some (.ref f8)))
    (l8 : K.lookup f8 = some ⟨oc8, od8, .func (PySem.W.fnOf "root_by" "root_by" (defArgs s_root_by) (defBody s_root_by) (defScope s_root_by) .none kV8 dc8 pm8 an8 cd8 ct8), sl8⟩)
    (c8 : PySem.W.codeIn K cd8 "root_by" = true)
    (k8 : PySem.W.keepIn K (.ref f8) = true)
    (a9 : PySem.W.nsIn K mainGlobals "levels_of" = some (some (.ref f9)))
    (l9 : K.lookup f9 = some ⟨oc9, od9, .func (PySem.W.fnOf "levels_of" "levels_of" (defArgs s_levels_of) (defBody s_levels_of) (defScope s_levels_of) .none kV9 dc9 pm9 an9 cd9 ct9), sl9⟩)
    (c9 : PySem.W.codeIn K cd9 "levels_of" = true)
    (k9 : PySem.W.keepIn K (.ref f9) = true)
    (a10 : PySem.W.nsIn K mainGlobals "path_in" = some (some (.ref f10)))
    (l10 : K.lookup f10 = some ⟨oc10, od10, .func (PySem.W.fnOf "path_in" "path_in" (defArgs s_path_in) (defBody s_path_in) (defScope s_path_in) .none kV10 dc10 pm10 an10 cd10 ct10), sl10⟩)
    (c10 : PySem.W.codeIn K cd10 "path_in" = true)
    (k10 : PySem.W.keepIn K (.ref f10) = true)
    (a11 : PySem.W.findIn K (.ref C_Memory) "__init__" = some (some (.ref f11)))
    (i11 : PySem.W.isFn K (.ref f11) = true)
    (l11 : K.lookup f11 = some ⟨oc11, od11, .func (PySem.W.fnOf "__init__" "Memory.__init__" (defArgs s_Memory___init) (defBody s_Memory___init) (defScope s_Memory___init) .none kV11 dc11 pm11 an11 cd11 ct11), sl11⟩)
    (c11 : PySem.W.codeIn K cd11 "Memory.__init__" = true)
    (k11 : PySem.W.keepIn K (.ref f11) = true)
    (a12 : PySem.W.findIn K (.ref C_Memory) "word" = some (some (.ref f12)))
    (i12 : PySem.W.isFn K (.ref f12) = true)
    (l12 : K.lookup f12 = some ⟨oc12, od12, .func (PySem.W.fnOf "word" "Memory.word" (defArgs s_Memory_word) (defBody s_Memory_word) (defScope s_Memory_word) .none kV12 dc12 pm12 an12 cd12 ct12), sl12⟩)
    (c12 : PySem.W.codeIn K cd12 "Memory.word" = true)
    (k12 : PySem.W.keepIn K (.ref f12) = true)
    (a13 : PySem.W.findIn K (.ref C_Memory) "change" = some (some (.ref f13)))
    (i13 : PySem.W.isFn K (.ref f13) = true)
    (l13 : K.lookup f13 = some ⟨oc13, od13, .func (PySem.W.fnOf "change" "Memory.change" (defArgs s_Memory_change) (defBody s_Memory_change) (defScope s_Memory_change) .none kV13 dc13 pm13 an13 cd13 ct13), sl13⟩)
    (c13 : PySem.W.codeIn K cd13 "Memory.change" = true)
    (k13 : PySem.W.keepIn K (.ref f13) = true)
    (a14 : PySem.W.findIn K (.ref C_Memory) "words" = some (some (.ref f14)))
    (i14 : PySem.W.isFn K (.ref f14) = true)
    (l14 : K.lookup f14 = some ⟨oc14, od14, .func (PySem.W.fnOf "words" "Memory.words" (defArgs s_Memory_words) (defBody s_Memory_words) (defScope s_Memory_words) .none kV14 dc14 pm14 an14 cd14 ct14), sl14⟩)
    (c14 : PySem.W.codeIn K cd14 "Memory.words" = true)
    (k14 : PySem.W.keepIn K (.ref f14) = true)
    (a15 : PySem.W.findIn K (.ref C_Memory) "root" = some (some (.ref f15)))
    (i15 : PySem.W.isFn K (.ref f15) = true)
    (l15 : K.lookup f15 = some ⟨oc15, od15, .func (PySem.W.fnOf "root" "Memory.root" (defArgs s_Memory_root) (defBody s_Memory_root) (defScope s_Memory_root) .none kV15 dc15 pm15 an15 cd15 ct15), sl15⟩)
    (c15 : PySem.W.codeIn K cd15 "Memory.root" = true)
    (k15 : PySem.W.keepIn K (.ref f15) = true)
    (a16 : PySem.W.findIn K (.ref C_Memory) "path" = some (some (.ref f16)))
    (i16 : PySem.W.isFn K (.ref f16) = true)
    (l16 : K.lookup f16 = some ⟨oc16, od16, .func (PySem.W.fnOf "path" "Memory.path" (defArgs s_Memory_path) (defBody s_Memory_path) (defScope s_Memory_path) .none kV16 dc16 pm16 an16 cd16 ct16), sl16⟩)
    (c16 : PySem.W.codeIn K cd16 "Memory.path" = true)
    (k16 : PySem.W.keepIn K (.ref f16) = true)
    (a17 : PySem.W.nsIn K mainGlobals "op" = some (some (.ref f17)))
    (l17 : K.lookup f17 = some ⟨oc17, od17, .func (PySem.W.fnOf "op" "op" (defArgs s_op) (defBody s_op) (defScope s_op) .none kV17 dc17 pm17 an17 cd17 ct17), sl17⟩)
    (c17 : PySem.W.codeIn K cd17 "op" = true)
    (k17 : PySem.W.keepIn K (.ref f17) = true)
    (a18 : PySem.W.nsIn K mainGlobals "divided" = some (some (.ref f18)))
    (l18 : K.lookup f18 = some ⟨oc18, od18, .func (PySem.W.fnOf "divided" "divided" (defArgs s_divided) (defBody s_divided) (defScope s_divided) .none kV18 dc18 pm18 an18 cd18 ct18), sl18⟩)
    (c18 : PySem.W.codeIn K cd18 "divided" = true)
    (k18 : PySem.W.keepIn K (.ref f18) = true)
    (a19 : PySem.W.nsIn K mainGlobals "wrapped" = some (some (.ref f19)))
    (l19 : K.lookup f19 = some ⟨oc19, od19, .func (PySem.W.fnOf "wrapped" "wrapped" (defArgs s_wrapped) (defBody s_wrapped) (defScope s_wrapped) .none kV19 dc19 pm19 an19 cd19 ct19), sl19⟩)
    (c19 : PySem.W.codeIn K cd19 "wrapped" = true)
    (k19 : PySem.W.keepIn K (.ref f19) = true)
    (a20 : PySem.W.nsIn K mainGlobals "holds" = some (some (.ref f20)))
    (l20 : K.lookup f20 = some ⟨oc20, od20, .func (PySem.W.fnOf "holds" "holds" (defArgs s_holds) (defBody s_holds) (defScope s_holds) .none kV20 dc20 pm20 an20 cd20 ct20), sl20⟩)
    (c20 : PySem.W.codeIn K cd20 "holds" = true)
    (k20 : PySem.W.keepIn K (.ref f20) = true)
    (a21 : PySem.W.nsIn K mainGlobals "out_behind" = some (some (.ref f21)))
    (l21 : K.lookup f21 = some ⟨oc21, od21, .func (PySem.W.fnOf "out_behind" "out_behind" (defArgs s_out_behind) (defBody s_out_behind) (defScope s_out_behind) .none kV21 dc21 pm21 an21 cd21 ct21), sl21⟩)
    (c21 : PySem.W.codeIn K cd21 "out_behind" = true)
    (k21 : PySem.W.keepIn K (.ref f21) = true)
    (a22 : PySem.W.nsIn K mainGlobals "name_of" = some (some (.ref f22)))
    (l22 : K.lookup f22 = some ⟨oc22, od22, .func (PySem.W.fnOf "name_of" "name_of" (defArgs s_name_of) (defBody s_name_of) (defScope s_name_of) .none kV22 dc22 pm22 an22 cd22 ct22), sl22⟩)
    (c22 : PySem.W.codeIn K cd22 "name_of" = true)
    (k22 : PySem.W.keepIn K (.ref f22) = true)
    (a23 : PySem.W.nsIn K mainGlobals "behind" = some (some (.ref f23)))
    (l23 : K.lookup f23 = some ⟨oc23, od23, .func (PySem.W.fnOf "behind" "behind" (defArgs s_behind) (defBody s_behind) (defScope s_behind) .none kV23 dc23 pm23 an23 cd23 ct23), sl23⟩)
    (c23 : PySem.W.codeIn K cd23 "behind" = true)
    (k23 : PySem.W.keepIn K (.ref f23) = true)
    (a24 : PySem.W.nsIn K mainGlobals "data_of" = some (some (.ref f24)))
    (l24 : K.lookup f24 = some ⟨oc24, od24, .func (PySem.W.fnOf "data_of" "data_of" (defArgs s_data_of) (defBody s_data_of) (defScope s_data_of) .none kV24 dc24 pm24 an24 cd24 ct24), sl24⟩)
    (c24 : PySem.W.codeIn K cd24 "data_of" = true)
    (k24 : PySem.W.keepIn K (.ref f24) = true)
    (a25 : PySem.W.nsIn K mainGlobals "done_by" = some (some (.ref f25)))
    (l25 : K.lookup f25 = some ⟨oc25, od25, .func (PySem.W.fnOf "done_by" "done_by" (defArgs s_done_by) (defBody s_done_by) (defScope s_done_by) .none kV25 dc25 pm25 an25 cd25 ct25), sl25⟩)
    (c25 : PySem.W.codeIn K cd25 "done_by" = true)
    (k25 : PySem.W.keepIn K (.ref f25) = true)
    (a26 : PySem.W.nsIn K mainGlobals "halt_by" = some (some (.ref f26)))
    (l26 : K.lookup f26 = some ⟨oc26, od26, .func (PySem.W.fnOf "halt_by" "halt_by" (defArgs s_halt_by) (defBody s_halt_by) (defScope s_halt_by) .none kV26 dc26 pm26 an26 cd26 ct26), sl26⟩)
    (c26 : PySem.W.codeIn K cd26 "halt_by" = true)
    (k26 : PySem.W.keepIn K (.ref f26) = true)
    (a27 : PySem.W.nsIn K mainGlobals "pc_by" = some (some (.ref f27)))
    (l27 : K.lookup f27 = some ⟨oc27, od27, .func (PySem.W.fnOf "pc_by" "pc_by" (defArgs s_pc_by) (defBody s_pc_by) (defScope s_pc_by) .none kV27 dc27 pm27 an27 cd27 ct27), sl27⟩)
    (c27 : PySem.W.codeIn K cd27 "pc_by" = true)
    (k27 : PySem.W.keepIn K (.ref f27) = true)
    (a28 : PySem.W.nsIn K mainGlobals "acc_by" = some (some (.ref f28)))
    (l28 : K.lookup f28 = some ⟨oc28, od28, .func (PySem.W.fnOf "acc_by" "acc_by" (defArgs s_acc_by) (defBody s_acc_by) (defScope s_acc_by) .none kV28 dc28 pm28 an28 cd28 ct28), sl28⟩)
    (c28 : PySem.W.codeIn K cd28 "acc_by" = true)
    (k28 : PySem.W.keepIn K (.ref f28) = true)
    (a29 : PySem.W.nsIn K mainGlobals "x_by" = some (some (.ref f29)))
    (l29 : K.lookup f29 = some ⟨oc29, od29, .func (PySem.W.fnOf "x_by" "x_by" (defArgs s_x_by) (defBody s_x_by) (defScope s_x_by) .none kV29 dc29 pm29 an29 cd29 ct29), sl29⟩)
    (c29 : PySem.W.codeIn K cd29 "x_by" = true)
    (k29 : PySem.W.keepIn K (.ref f29) = true)
    (a30 : PySem.W.nsIn K mainGlobals "changed_by" = some (some (.ref f30)))
    (l30 : K.lookup f30 = some ⟨oc30, od30, .func (PySem.W.fnOf "changed_by" "changed_by" (defArgs s_changed_by) (defBody s_changed_by) (defScope s_changed_by) .none kV30 dc30 pm30 an30 cd30 ct30), sl30⟩)
    (c30 : PySem.W.codeIn K cd30 "changed_by" = true)
    (k30 : PySem.W.keepIn K (.ref f30) = true)
    (a31 : PySem.W.findIn K (.ref C_Machine) "__init__" = some (some (.ref f31)))
    (i31 : PySem.W.isFn K (.ref f31) = true)
    (l31 : K.lookup f31 = some ⟨oc31, od31, .func (PySem.W.fnOf "__init__" "Machine.__init__" (defArgs s_Machine___init) (defBody s_Machine___init) (defScope s_Machine___init) .none kV31 dc31 pm31 an31 cd31 ct31), sl31⟩)
    (c31 : PySem.W.codeIn K cd31 "Machine.__init__" = true)
    (k31 : PySem.W.keepIn K (.ref f31) = true)
    (a32 : PySem.W.findIn K (.ref C_Machine) "registers" = some (some (.ref f32)))
    (i32 : PySem.W.isFn K (.ref f32) = true)
    (l32 : K.lookup f32 = some ⟨oc32, od32, .func (PySem.W.fnOf "registers" "Machine.registers" (defArgs s_Machine_registers) (defBody s_Machine_registers) (defScope s_Machine_registers) .none kV32 dc32 pm32 an32 cd32 ct32), sl32⟩)
    (c32 : PySem.W.codeIn K cd32 "Machine.registers" = true)
    (k32 : PySem.W.keepIn K (.ref f32) = true)
    (a33 : PySem.W.findIn K (.ref C_Machine) "words" = some (some (.ref f33)))
    (i33 : PySem.W.isFn K (.ref f33) = true)
    (l33 : K.lookup f33 = some ⟨oc33, od33, .func (PySem.W.fnOf "words" "Machine.words" (defArgs s_Machine_words) (defBody s_Machine_words) (defScope s_Machine_words) .none kV33 dc33 pm33 an33 cd33 ct33), sl33⟩)
    (c33 : PySem.W.codeIn K cd33 "Machine.words" = true)
    (k33 : PySem.W.keepIn K (.ref f33) = true)
    (a34 : PySem.W.findIn K (.ref C_Machine) "word" = some (some (.ref f34)))
    (i34 : PySem.W.isFn K (.ref f34) = true)
    (l34 : K.lookup f34 = some ⟨oc34, od34, .func (PySem.W.fnOf "word" "Machine.word" (defArgs s_Machine_word) (defBody s_Machine_word) (defScope s_Machine_word) .none kV34 dc34 pm34 an34 cd34 ct34), sl34⟩)
    (c34 : PySem.W.codeIn K cd34 "Machine.word" = true)
    (k34 : PySem.W.keepIn K (.ref f34) = true)
    (a35 : PySem.W.findIn K (.ref C_Machine) "path" = some (some (.ref f35)))
    (i35 : PySem.W.isFn K (.ref f35) = true)
    (l35 : K.lookup f35 = some ⟨oc35, od35, .func (PySem.W.fnOf "path" "Machine.path" (defArgs s_Machine_path) (defBody s_Machine_path) (defScope s_Machine_path) .none kV35 dc35 pm35 an35 cd35 ct35), sl35⟩)
    (c35 : PySem.W.codeIn K cd35 "Machine.path" = true)
    (k35 : PySem.W.keepIn K (.ref f35) = true)
    (a36 : PySem.W.findIn K (.ref C_Machine) "root" = some (some (.ref f36)))
    (i36 : PySem.W.isFn K (.ref f36) = true)
    (l36 : K.lookup f36 = some ⟨oc36, od36, .func (PySem.W.fnOf "root" "Machine.root" (defArgs s_Machine_root) (defBody s_Machine_root) (defScope s_Machine_root) .none kV36 dc36 pm36 an36 cd36 ct36), sl36⟩)
    (c36 : PySem.W.codeIn K cd36 "Machine.root" = true)
    (k36 : PySem.W.keepIn K (.ref f36) = true)
    (a37 : PySem.W.findIn K (.ref C_Machine) "digest" = some (some (.ref f37)))
    (i37 : PySem.W.isFn K (.ref f37) = true)
    (l37 : K.lookup f37 = some ⟨oc37, od37, .func (PySem.W.fnOf "digest" "Machine.digest" (defArgs s_Machine_digest) (defBody s_Machine_digest) (defScope s_Machine_digest) .none kV37 dc37 pm37 an37 cd37 ct37), sl37⟩)
    (c37 : PySem.W.codeIn K cd37 "Machine.digest" = true)
    (k37 : PySem.W.keepIn K (.ref f37) = true)
    (a38 : PySem.W.findIn K (.ref C_Machine) "step" = some (some (.ref f38)))
    (i38 : PySem.W.isFn K (.ref f38) = true)
    (l38 : K.lookup f38 = some ⟨oc38, od38, .func (PySem.W.fnOf "step" "Machine.step" (defArgs s_Machine_step) (defBody s_Machine_step) (defScope s_Machine_step) .none kV38 dc38 pm38 an38 cd38 ct38), sl38⟩)
    (c38 : PySem.W.codeIn K cd38 "Machine.step" = true)
    (k38 : PySem.W.keepIn K (.ref f38) = true)
    (a39 : PySem.W.findIn K (.ref C_Machine) "told" = some (some (.ref f39)))
    (i39 : PySem.W.isFn K (.ref f39) = true)
    (l39 : K.lookup f39 = some ⟨oc39, od39, .func (PySem.W.fnOf "told" "Machine.told" (defArgs s_Machine_told) (defBody s_Machine_told) (defScope s_Machine_told) .none kV39 dc39 pm39 an39 cd39 ct39), sl39⟩)
    (c39 : PySem.W.codeIn K cd39 "Machine.told" = true)
    (k39 : PySem.W.keepIn K (.ref f39) = true)
    (a40 : PySem.W.nsIn K mainGlobals "opened" = some (some (.ref f40)))
    (l40 : K.lookup f40 = some ⟨oc40, od40, .func (PySem.W.fnOf "opened" "opened" (defArgs s_opened) (defBody s_opened) (defScope s_opened) .none kV40 dc40 pm40 an40 cd40 ct40), sl40⟩)
    (c40 : PySem.W.codeIn K cd40 "opened" = true)
    (k40 : PySem.W.keepIn K (.ref f40) = true)
    (a41 : PySem.W.nsIn K mainGlobals "places_of" = some (some (.ref f41)))
    (l41 : K.lookup f41 = some ⟨oc41, od41, .func (PySem.W.fnOf "places_of" "places_of" (defArgs s_places_of) (defBody s_places_of) (defScope s_places_of) .none kV41 dc41 pm41 an41 cd41 ct41), sl41⟩)
    (c41 : PySem.W.codeIn K cd41 "places_of" = true)
    (k41 : PySem.W.keepIn K (.ref f41) = true)
    (a42 : PySem.W.nsIn K mainGlobals "step_of" = some (some (.ref f42)))
    (l42 : K.lookup f42 = some ⟨oc42, od42, .func (PySem.W.fnOf "step_of" "step_of" (defArgs s_step_of) (defBody s_step_of) (defScope s_step_of) .none kV42 dc42 pm42 an42 cd42 ct42), sl42⟩)
    (c42 : PySem.W.codeIn K cd42 "step_of" = true)
    (k42 : PySem.W.keepIn K (.ref f42) = true)
    (a43 : PySem.W.nsIn K mainGlobals "step_by" = some (some (.ref f43)))
    (l43 : K.lookup f43 = some ⟨oc43, od43, .func (PySem.W.fnOf "step_by" "step_by" (defArgs s_step_by) (defBody s_step_by) (defScope s_step_by) .none kV43 dc43 pm43 an43 cd43 ct43), sl43⟩)
    (c43 : PySem.W.codeIn K cd43 "step_by" = true)
    (k43 : PySem.W.keepIn K (.ref f43) = true)
    (a44 : PySem.W.nsIn K mainGlobals "root_with" = some (some (.ref f44)))
    (l44 : K.lookup f44 = some ⟨oc44, od44, .func (PySem.W.fnOf "root_with" "root_with" (defArgs s_root_with) (defBody s_root_with) (defScope s_root_with) .none kV44 dc44 pm44 an44 cd44 ct44), sl44⟩)
    (c44 : PySem.W.codeIn K cd44 "root_with" = true)
    (k44 : PySem.W.keepIn K (.ref f44) = true)
    (a45 : PySem.W.nsIn K mainGlobals "is_opening" = some (some (.ref f45)))
    (l45 : K.lookup f45 = some ⟨oc45, od45, .func (PySem.W.fnOf "is_opening" "is_opening" (defArgs s_is_opening) (defBody s_is_opening) (defScope s_is_opening) .none kV45 dc45 pm45 an45 cd45 ct45), sl45⟩)
    (c45 : PySem.W.codeIn K cd45 "is_opening" = true)
    (k45 : PySem.W.keepIn K (.ref f45) = true)
    (a46 : PySem.W.nsIn K mainGlobals "is_part" = some (some (.ref f46)))
    (l46 : K.lookup f46 = some ⟨oc46, od46, .func (PySem.W.fnOf "is_part" "is_part" (defArgs s_is_part) (defBody s_is_part) (defScope s_is_part) .none kV46 dc46 pm46 an46 cd46 ct46), sl46⟩)
    (c46 : PySem.W.codeIn K cd46 "is_part" = true)
    (k46 : PySem.W.keepIn K (.ref f46) = true)
    (a47 : PySem.W.nsIn K mainGlobals "are_registers" = some (some (.ref f47)))
    (l47 : K.lookup f47 = some ⟨oc47, od47, .func (PySem.W.fnOf "are_registers" "are_registers" (defArgs s_are_registers) (defBody s_are_registers) (defScope s_are_registers) .none kV47 dc47 pm47 an47 cd47 ct47), sl47⟩)
    (c47 : PySem.W.codeIn K cd47 "are_registers" = true)
    (k47 : PySem.W.keepIn K (.ref f47) = true)
    (a48 : PySem.W.nsIn K mainGlobals "_law_bag" = some (some (.ref f48)))
    (l48 : K.lookup f48 = some ⟨oc48, od48, .func (PySem.W.fnOf "_law_bag" "_law_bag" (defArgs s_law_bag) (defBody s_law_bag) (defScope s_law_bag) .none kV48 dc48 pm48 an48 cd48 ct48), sl48⟩)
    (c48 : PySem.W.codeIn K cd48 "_law_bag" = true)
    (k48 : PySem.W.keepIn K (.ref f48) = true)
    (a49 : PySem.W.nsIn K mainGlobals "_law_draw" = some (some (.ref f49)))
    (l49 : K.lookup f49 = some ⟨oc49, od49, .func (PySem.W.fnOf "_law_draw" "_law_draw" (defArgs s_law_draw) (defBody s_law_draw) (defScope s_law_draw) .none kV49 dc49 pm49 an49 cd49 ct49), sl49⟩)
    (c49 : PySem.W.codeIn K cd49 "_law_draw" = true)
    (k49 : PySem.W.keepIn K (.ref f49) = true)
    (a50 : PySem.W.nsIn K mainGlobals "_law_word" = some (some (.ref f50)))
    (l50 : K.lookup f50 = some ⟨oc50, od50, .func (PySem.W.fnOf "_law_word" "_law_word" (defArgs s_law_word) (defBody s_law_word) (defScope s_law_word) .none kV50 dc50 pm50 an50 cd50 ct50), sl50⟩)
    (c50 : PySem.W.codeIn K cd50 "_law_word" = true)
    (k50 : PySem.W.keepIn K (.ref f50) = true)
    (a51 : PySem.W.nsIn K mainGlobals "_law_words" = some (some (.ref f51)))
    (l51 : K.lookup f51 = some ⟨oc51, od51, .func (PySem.W.fnOf "_law_words" "_law_words" (defArgs s_law_words) (defBody s_law_words) (defScope s_law_words) .none kV51 dc51 pm51 an51 cd51 ct51), sl51⟩)
    (c51 : PySem.W.codeIn K cd51 "_law_words" = true)
    (k51 : PySem.W.keepIn K (.ref f51) = true)
    (a52 : PySem.W.nsIn K mainGlobals "_law_start" = some (some (.ref f52)))
    (l52 : K.lookup f52 = some ⟨oc52, od52, .func (PySem.W.fnOf "_law_start" "_law_start" (defArgs s_law_start) (defBody s_law_start) (defScope s_law_start) .none kV52 dc52 pm52 an52 cd52 ct52), sl52⟩)
    (c52 : PySem.W.codeIn K cd52 "_law_start" = true)
    (k52 : PySem.W.keepIn K (.ref f52) = true)
    (a53 : PySem.W.nsIn K mainGlobals "_law_put" = some (some (.ref f53)))
    (l53 : K.lookup f53 = some ⟨oc53, od53, .func (PySem.W.fnOf "_law_put" "_law_put" (defArgs s_law_put) (defBody s_law_put) (defScope s_law_put) .none kV53 dc53 pm53 an53 cd53 ct53), sl53⟩)
    (c53 : PySem.W.codeIn K cd53 "_law_put" = true)
    (k53 : PySem.W.keepIn K (.ref f53) = true)
    (a54 : PySem.W.nsIn K mainGlobals "_law_bad_number" = some (some (.ref f54)))
    (l54 : K.lookup f54 = some ⟨oc54, od54, .func (PySem.W.fnOf "_law_bad_number" "_law_bad_number" (defArgs s_law_bad_number) (defBody s_law_bad_number) (defScope s_law_bad_number) .none kV54 dc54 pm54 an54 cd54 ct54), sl54⟩)
    (c54 : PySem.W.codeIn K cd54 "_law_bad_number" = true)
    (k54 : PySem.W.keepIn K (.ref f54) = true)
    (a55 : PySem.W.nsIn K mainGlobals "_law_odd_row" = some (some (.ref f55)))
    (l55 : K.lookup f55 = some ⟨oc55, od55, .func (PySem.W.fnOf "_law_odd_row" "_law_odd_row" (defArgs s_law_odd_row) (defBody s_law_odd_row) (defScope s_law_odd_row) .none kV55 dc55 pm55 an55 cd55 ct55), sl55⟩)
    (c55 : PySem.W.codeIn K cd55 "_law_odd_row" = true)
    (k55 : PySem.W.keepIn K (.ref f55) = true)
    (a56 : PySem.W.nsIn K mainGlobals "_law_odd_registers" = some (some (.ref f56)))
    (l56 : K.lookup f56 = some ⟨oc56, od56, .func (PySem.W.fnOf "_law_odd_registers" "_law_odd_registers" (defArgs s_law_odd_registers) (defBody s_law_odd_registers) (defScope s_law_odd_registers) .none kV56 dc56 pm56 an56 cd56 ct56), sl56⟩)
    (c56 : PySem.W.codeIn K cd56 "_law_odd_registers" = true)
    (k56 : PySem.W.keepIn K (.ref f56) = true)
    (a57 : PySem.W.nsIn K mainGlobals "_law_odd_part" = some (some (.ref f57)))
    (l57 : K.lookup f57 = some ⟨oc57, od57, .func (PySem.W.fnOf "_law_odd_part" "_law_odd_part" (defArgs s_law_odd_part) (defBody s_law_odd_part) (defScope s_law_odd_part) .none kV57 dc57 pm57 an57 cd57 ct57), sl57⟩)
    (c57 : PySem.W.codeIn K cd57 "_law_odd_part" = true)
    (k57 : PySem.W.keepIn K (.ref f57) = true)
    (a58 : PySem.W.nsIn K mainGlobals "_law_odd" = some (some (.ref f58)))
    (l58 : K.lookup f58 = some ⟨oc58, od58, .func (PySem.W.fnOf "_law_odd" "_law_odd" (defArgs s_law_odd) (defBody s_law_odd) (defScope s_law_odd) .none kV58 dc58 pm58 an58 cd58 ct58), sl58⟩)
    (c58 : PySem.W.codeIn K cd58 "_law_odd" = true)
    (k58 : PySem.W.keepIn K (.ref f58) = true)
    (a59 : PySem.W.nsIn K mainGlobals "_law_refused" = some (some (.ref f59)))
    (l59 : K.lookup f59 = some ⟨oc59, od59, .func (PySem.W.fnOf "_law_refused" "_law_refused" (defArgs s_law_refused) (defBody s_law_refused) (defScope s_law_refused) .none kV59 dc59 pm59 an59 cd59 ct59), sl59⟩)
    (c59 : PySem.W.codeIn K cd59 "_law_refused" = true)
    (k59 : PySem.W.keepIn K (.ref f59) = true)
    (a60 : PySem.W.nsIn K mainGlobals "law" = some (some (.ref f60)))
    (l60 : K.lookup f60 = some ⟨oc60, od60, .func (PySem.W.fnOf "law" "law" (defArgs s_law) (defBody s_law) (defScope s_law) .none kV60 dc60 pm60 an60 cd60 ct60), sl60⟩)
    (c60 : PySem.W.codeIn K cd60 "law" = true)
    (k60 : PySem.W.keepIn K (.ref f60) = true)
    (pg_Digests : PySem.W.plainGet K C_Digests Str.empty = true)
    (hd_Digests : PySem.W.hasDictIn K C_Digests = true)
    (po_Digests : PySem.W.plainOver K C_Digests = true)
    (sa_Digests : PySem.W.findIn K (.ref C_Digests) "__setattr__" = some (some (.builtin "object.__setattr__")))
    (mk_Digests : PySem.W.makesIn K C_Digests = true)
    (kc_Digests : PySem.W.keepIn K (.ref C_Digests) = true)
    (n_Digests_bits : PySem.W.findIn K (.ref C_Digests) "_bits" = some none)
    (n_Digests_book : PySem.W.findIn K (.ref C_Digests) "_book" = some none)
    (n_Digests_modulus : PySem.W.findIn K (.ref C_Digests) "_modulus" = some none)
    (pg_Memory : PySem.W.plainGet K C_Memory Str.empty = true)
    (hd_Memory : PySem.W.hasDictIn K C_Memory = true)
    (po_Memory : PySem.W.plainOver K C_Memory = true)
    (sa_Memory : PySem.W.findIn K (.ref C_Memory) "__setattr__" = some (some (.builtin "object.__setattr__")))
    (mk_Memory : PySem.W.makesIn K C_Memory = true)
    (kc_Memory : PySem.W.keepIn K (.ref C_Memory) = true)
    (n_Memory_digests : PySem.W.findIn K (.ref C_Memory) "_digests" = some none)
    (n_Memory_words : PySem.W.findIn K (.ref C_Memory) "_words" = some none)
    (n_Memory_levels : PySem.W.findIn K (.ref C_Memory) "_levels" = some none)
    (pg_Machine : PySem.W.plainGet K C_Machine Str.empty = true)
    (hd_Machine : PySem.W.hasDictIn K C_Machine = true)
    (po_Machine : PySem.W.plainOver K C_Machine = true)
    (sa_Machine : PySem.W.findIn K (.ref C_Machine) "__setattr__" = some (some (.builtin "object.__setattr__")))
    (mk_Machine : PySem.W.makesIn K C_Machine = true)
    (kc_Machine : PySem.W.keepIn K (.ref C_Machine) = true)
    (n_Machine_digests : PySem.W.findIn K (.ref C_Machine) "_digests" = some none)
    (n_Machine_registers : PySem.W.findIn K (.ref C_Machine) "_registers" = some none)
    (n_Machine_memory : PySem.W.findIn K (.ref C_Machine) "_memory" = some none)
    (n_Machine_told : PySem.W.findIn K (.ref C_Machine) "_told" = some none)
    (aX_BadOpening : PySem.W.nsIn K mainGlobals "BadOpening" = some (some (.ref C_BadOpening)))
    (xX_BadOpening : PySem.W.excIn K C_BadOpening [.type "ValueError", .type "Exception", .type "BaseException", .type "object"] "ValueError.__new__" = true)
    (kX_BadOpening : PySem.W.keepIn K (.ref C_BadOpening) = true)
    (bX_BadOpening : PySem.W.subIn K (.ref C_BadOpening) (.type "BaseException") = some true)
    (tX_BadOpening : PySem.W.typeIn K (.ref C_BadOpening) = some (.type "type"))
    (iX_BadOpening : PySem.W.isClsIn K C_BadOpening = true)
    (sX_BadOpening : PySem.W.subIn K (.ref C_BadOpening) (.ref C_BadOpening) = some true)
    (g_DEPTH : PySem.W.nsIn K mainGlobals "DEPTH" = some (some (.int 8 t_DEPTH)))
    (g_MARKS : PySem.W.nsIn K mainGlobals "MARKS" = some (some (.ref a_MARKS)))
    (w_MARKS : K.lookup a_MARKS = some o_MARKS)
    (v_MARKS : Kit.tupB o_MARKS [.str "long", .str "done", .str "divided", .str "place", .str "input", .str "full", .str "bad"] = true)
    (g_MOST_TOLD : PySem.W.nsIn K mainGlobals "MOST_TOLD" = some (some (.int 16 t_MOST_TOLD)))
    (g_MOST_WORD : PySem.W.nsIn K mainGlobals "MOST_WORD" = some (some (.int 65535 t_MOST_WORD)))
    (g_NAMES : PySem.W.nsIn K mainGlobals "NAMES" = some (some (.ref a_NAMES)))
    (w_NAMES : K.lookup a_NAMES = some o_NAMES)
    (v_NAMES : Kit.tupB o_NAMES [.str "bad", .str "halt", .str "lit", .str "load", .str "store", .str "loadx", .str "storex", .str "tox", .str "index", .str "bound", .str "within", .str "not", .str "+", .str "-", .str "*", .str "/", .str "mod", .str "==", .str "!=", .str "<", .str "<=", .str ">", .str ">=", .str "jump", .str "zero", .str "some", .str "call", .str "back", .str "tell"] = true)
    (g_PLACES : PySem.W.nsIn K mainGlobals "PLACES" = some (some (.int 256 t_PLACES)))
    (g_SIGNS : PySem.W.nsIn K mainGlobals "SIGNS" = some (some (.ref a_SIGNS)))
    (w_SIGNS : K.lookup a_SIGNS = some o_SIGNS)
    (v_SIGNS : Kit.tupB o_SIGNS [.str "+", .str "-", .str "*", .str "/", .str "mod", .str "==", .str "!=", .str "<", .str "<=", .str ">", .str ">="] = true)
    (v_cMARKS : o_MARKS.cls = .type "tuple")
    (v_dMARKS : o_MARKS.dict = none)
    (z_all : PySem.W.nsIn K mainGlobals "all" = some none)
    (z_bool : PySem.W.nsIn K mainGlobals "bool" = some none)
    (z_int : PySem.W.nsIn K mainGlobals "int" = some none)
    (z_isinstance : PySem.W.nsIn K mainGlobals "isinstance" = some none)
    (z_len : PySem.W.nsIn K mainGlobals "len" = some none)
    (z_list : PySem.W.nsIn K mainGlobals "list" = some none)
    (z_range : PySem.W.nsIn K mainGlobals "range" = some none)
    (z_tuple : PySem.W.nsIn K mainGlobals "tuple" = some none)
    (z_zip : PySem.W.nsIn K mainGlobals "zip" = some none)
    : ∃ fd : FuncData, (∀ (s : Shared) (v : Value), BindsTo s fd ⟨[v], []⟩ [("script", v)]) ∧ ∀ base : Heap, K.In base → base.Ns mainGlobals mg → FnOk l.prog w K mg base CX0 8 fa fd ["script"] (sp_law K) := by
  have e := hfa.symm.trans (PySem.W.mg_of X G a60)
  have e2 : f60 = fa := by
    injection e with e
    injection e with e
    exact e.symm
  subst e2
  have F0 := fun_mk (st := s_is_integer) l0 c0 k0
  have b0 := F0.binds (ps := ["value", "least", "greatest"]) fun _ _ _ _ _ _ us hl => match us, hl with | [_, _, _], _ => rfl
  have F1 := fun_mk (st := s_is_word) l1 c1 k1
  have b1 := F1.binds (ps := ["value"]) fun _ _ _ _ _ _ us hl => match us, hl with | [_], _ => rfl
  have F2 := fun_mk (st := s_Digests___init) l2 c2 k2
  have b2 := F2.binds (ps := ["self", "bits", "book"]) fun _ _ _ _ _ _ us hl => match us, hl with | [_, _, _], _ => rfl
  have F3 := fun_mk (st := s_Digests_leaf) l3 c3 k3
  have b3 := F3.binds (ps := ["self", "word"]) fun _ _ _ _ _ _ us hl => match us, hl with | [_, _], _ => rfl
  have F4 := fun_mk (st := s_Digests_fold) l4 c4 k4
  have b4 := F4.binds (ps := ["self", "left", "right"]) fun _ _ _ _ _ _ us hl => match us, hl with | [_, _, _], _ => rfl
  have F5 := fun_mk (st := s_Digests_state) l5 c5 k5
  have b5 := F5.binds (ps := ["self", "numbers"]) fun _ _ _ _ _ _ us hl => match us, hl with | [_, _], _ => rfl
  have F6 := fun_mk (st := s_Digests_is_digest) l6 c6 k6
  have b6 := F6.binds (ps := ["self", "value"]) fun _ _ _ _ _ _ us hl => match us, hl with | [_, _], _ => rfl
  have F7 := fun_mk (st := s_Digests__noted) l7 c7 k7
  have b7 := F7.binds (ps := ["self", "kind", "text", "digest"]) fun _ _ _ _ _ _ us hl => match us, hl with | [_, _, _, _], _ => rfl
  have F8 := fun_mk (st := s_root_by) l8 c8 k8
  have b8 := F8.binds (ps := ["digests", "place", "digest", "path"]) fun _ _ _ _ _ _ us hl => match us, hl with | [_, _, _, _], _ => rfl
  have F9 := fun_mk (st := s_levels_of) l9 c9 k9
  have b9 := F9.binds (ps := ["digests", "row"]) fun _ _ _ _ _ _ us hl => match us, hl with | [_, _], _ => rfl
  have F10 := fun_mk (st := s_path_in) l10 c10 k10
  have b10 := F10.binds (ps := ["levels", "place"]) fun _ _ _ _ _ _ us hl => match us, hl with | [_, _], _ => rfl
  have F11 := fun_mk (st := s_Memory___init) l11 c11 k11
  have b11 := F11.binds (ps := ["self", "digests", "words"]) fun _ _ _ _ _ _ us hl => match us, hl with | [_, _, _], _ => rfl
  have F12 := fun_mk (st := s_Memory_word) l12 c12 k12
  have b12 := F12.binds (ps := ["self", "place"]) fun _ _ _ _ _ _ us hl => match us, hl with | [_, _], _ => rfl
  have F13 := fun_mk (st := s_Memory_change) l13 c13 k13
  have b13 := F13.binds (ps := ["self", "place", "word"]) fun _ _ _ _ _ _ us hl => match us, hl with | [_, _, _], _ => rfl
  have F14 := fun_mk (st := s_Memory_words) l14 c14 k14
  have b14 := F14.binds (ps := ["self"]) fun _ _ _ _ _ _ us hl => match us, hl with | [_], _ => rfl
  have F15 := fun_mk (st := s_Memory_root) l15 c15 k15
  have b15 := F15.binds (ps := ["self"]) fun _ _ _ _ _ _ us hl => match us, hl with | [_], _ => rfl
  have F16 := fun_mk (st := s_Memory_path) l16 c16 k16
  have b16 := F16.binds (ps := ["self", "place"]) fun _ _ _ _ _ _ us hl => match us, hl with | [_, _], _ => rfl
  have F17 := fun_mk (st := s_op) l17 c17 k17
  have b17 := F17.binds (ps := ["sign", "a", "b"]) fun _ _ _ _ _ _ us hl => match us, hl with | [_, _, _], _ => rfl
  have F18 := fun_mk (st := s_divided) l18 c18 k18
  have b18 := F18.binds (ps := ["sign", "a", "b"]) fun _ _ _ _ _ _ us hl => match us, hl with | [_, _, _], _ => rfl
  have F19 := fun_mk (st := s_wrapped) l19 c19 k19
  have b19 := F19.binds (ps := ["sign", "a", "b"]) fun _ _ _ _ _ _ us hl => match us, hl with | [_, _, _], _ => rfl
  have F20 := fun_mk (st := s_holds) l20 c20 k20
  have b20 := F20.binds (ps := ["sign", "a", "b"]) fun _ _ _ _ _ _ us hl => match us, hl with | [_, _, _], _ => rfl
  have F21 := fun_mk (st := s_out_behind) l21 c21 k21
  have b21 := F21.binds (ps := ["digests", "out", "word"]) fun _ _ _ _ _ _ us hl => match us, hl with | [_, _, _], _ => rfl
  have F22 := fun_mk (st := s_name_of) l22 c22 k22
  have b22 := F22.binds (ps := ["word"]) fun _ _ _ _ _ _ us hl => match us, hl with | [_], _ => rfl
  have F23 := fun_mk (st := s_behind) l23 c23 k23
  have b23 := F23.binds (ps := ["place"]) fun _ _ _ _ _ _ us hl => match us, hl with | [_], _ => rfl
  have F24 := fun_mk (st := s_data_of) l24 c24 k24
  have b24 := F24.binds (ps := ["registers", "word"]) fun _ _ _ _ _ _ us hl => match us, hl with | [_, _], _ => rfl
  have F25 := fun_mk (st := s_done_by) l25 c25 k25
  have b25 := F25.binds (ps := ["digests", "registers", "word", "data"]) fun _ _ _ _ _ _ us hl => match us, hl with | [_, _, _, _], _ => rfl
  have F26 := fun_mk (st := s_halt_by) l26 c26 k26
  have b26 := F26.binds (ps := ["name", "registers", "word", "data"]) fun _ _ _ _ _ _ us hl => match us, hl with | [_, _, _, _], _ => rfl
  have F27 := fun_mk (st := s_pc_by) l27 c27 k27
  have b27 := F27.binds (ps := ["name", "registers", "word", "data"]) fun _ _ _ _ _ _ us hl => match us, hl with | [_, _, _, _], _ => rfl
  have F28 := fun_mk (st := s_acc_by) l28 c28 k28
  have b28 := F28.binds (ps := ["name", "registers", "word", "data"]) fun _ _ _ _ _ _ us hl => match us, hl with | [_, _, _, _], _ => rfl
  have F29 := fun_mk (st := s_x_by) l29 c29 k29
  have b29 := F29.binds (ps := ["name", "registers", "data"]) fun _ _ _ _ _ _ us hl => match us, hl with | [_, _, _], _ => rfl
  have F30 := fun_mk (st := s_changed_by) l30 c30 k30
  have b30 := F30.binds (ps := ["name", "registers"]) fun _ _ _ _ _ _ us hl => match us, hl with | [_, _], _ => rfl
  have F31 := fun_mk (st := s_Machine___init) l31 c31 k31
  have b31 := F31.binds (ps := ["self", "digests", "registers", "words"]) fun _ _ _ _ _ _ us hl => match us, hl with | [_, _, _, _], _ => rfl
  have F32 := fun_mk (st := s_Machine_registers) l32 c32 k32
  have b32 := F32.binds (ps := ["self"]) fun _ _ _ _ _ _ us hl => match us, hl with | [_], _ => rfl
  have F33 := fun_mk (st := s_Machine_words) l33 c33 k33
  have b33 := F33.binds (ps := ["self"]) fun _ _ _ _ _ _ us hl => match us, hl with | [_], _ => rfl
  have F34 := fun_mk (st := s_Machine_word) l34 c34 k34
  have b34 := F34.binds (ps := ["self", "place"]) fun _ _ _ _ _ _ us hl => match us, hl with | [_, _], _ => rfl
  have F35 := fun_mk (st := s_Machine_path) l35 c35 k35
  have b35 := F35.binds (ps := ["self", "place"]) fun _ _ _ _ _ _ us hl => match us, hl with | [_, _], _ => rfl
  have F36 := fun_mk (st := s_Machine_root) l36 c36 k36
  have b36 := F36.binds (ps := ["self"]) fun _ _ _ _ _ _ us hl => match us, hl with | [_], _ => rfl
  have F37 := fun_mk (st := s_Machine_digest) l37 c37 k37
  have b37 := F37.binds (ps := ["self"]) fun _ _ _ _ _ _ us hl => match us, hl with | [_], _ => rfl
  have F38 := fun_mk (st := s_Machine_step) l38 c38 k38
  have b38 := F38.binds (ps := ["self"]) fun _ _ _ _ _ _ us hl => match us, hl with | [_], _ => rfl
  have F39 := fun_mk (st := s_Machine_told) l39 c39 k39
  have b39 := F39.binds (ps := ["self"]) fun _ _ _ _ _ _ us hl => match us, hl with | [_], _ => rfl
  have F40 := fun_mk (st := s_opened) l40 c40 k40
  have b40 := F40.binds (ps := ["machine"]) fun _ _ _ _ _ _ us hl => match us, hl with | [_], _ => rfl
  have F41 := fun_mk (st := s_places_of) l41 c41 k41
  have b41 := F41.binds (ps := ["registers", "word"]) fun _ _ _ _ _ _ us hl => match us, hl with | [_, _], _ => rfl
  have F42 := fun_mk (st := s_step_of) l42 c42 k42
  have b42 := F42.binds (ps := ["digests", "digest", "opening"]) fun _ _ _ _ _ _ us hl => match us, hl with | [_, _, _], _ => rfl
  have F43 := fun_mk (st := s_step_by) l43 c43 k43
  have b43 := F43.binds (ps := ["digests", "registers", "root", "parts"]) fun _ _ _ _ _ _ us hl => match us, hl with | [_, _, _, _], _ => rfl
  have F44 := fun_mk (st := s_root_with) l44 c44 k44
  have b44 := F44.binds (ps := ["digests", "place", "word", "path"]) fun _ _ _ _ _ _ us hl => match us, hl with | [_, _, _, _], _ => rfl
  have F45 := fun_mk (st := s_is_opening) l45 c45 k45
  have b45 := F45.binds (ps := ["digests", "value"]) fun _ _ _ _ _ _ us hl => match us, hl with | [_, _], _ => rfl
  have F46 := fun_mk (st := s_is_part) l46 c46 k46
  have b46 := F46.binds (ps := ["digests", "value"]) fun _ _ _ _ _ _ us hl => match us, hl with | [_, _], _ => rfl
  have F47 := fun_mk (st := s_are_registers) l47 c47 k47
  have b47 := F47.binds (ps := ["digests", "value"]) fun _ _ _ _ _ _ us hl => match us, hl with | [_, _], _ => rfl
  have F48 := fun_mk (st := s_law_bag) l48 c48 k48
  have b48 := F48.binds (ps := ["script"]) fun _ _ _ _ _ _ us hl => match us, hl with | [_], _ => rfl
  have F49 := fun_mk (st := s_law_draw) l49 c49 k49
  have b49 := F49.binds (ps := ["bag", "many"]) fun _ _ _ _ _ _ us hl => match us, hl with | [_, _], _ => rfl
  have F50 := fun_mk (st := s_law_word) l50 c50 k50
  have b50 := F50.binds (ps := ["bag"]) fun _ _ _ _ _ _ us hl => match us, hl with | [_], _ => rfl
  have F51 := fun_mk (st := s_law_words) l51 c51 k51
  have b51 := F51.binds (ps := ["bag"]) fun _ _ _ _ _ _ us hl => match us, hl with | [_], _ => rfl
  have F52 := fun_mk (st := s_law_start) l52 c52 k52
  have b52 := F52.binds (ps := ["bag", "m"]) fun _ _ _ _ _ _ us hl => match us, hl with | [_, _], _ => rfl
  have F53 := fun_mk (st := s_law_put) l53 c53 k53
  have b53 := F53.binds (ps := ["row", "place", "value"]) fun _ _ _ _ _ _ us hl => match us, hl with | [_, _, _], _ => rfl
  have F54 := fun_mk (st := s_law_bad_number) l54 c54 k54
  have b54 := F54.binds (ps := ["bag", "most"]) fun _ _ _ _ _ _ us hl => match us, hl with | [_, _], _ => rfl
  have F55 := fun_mk (st := s_law_odd_row) l55 c55 k55
  have b55 := F55.binds (ps := ["bag", "row"]) fun _ _ _ _ _ _ us hl => match us, hl with | [_, _], _ => rfl
  have F56 := fun_mk (st := s_law_odd_registers) l56 c56 k56
  have b56 := F56.binds (ps := ["bag", "m", "registers"]) fun _ _ _ _ _ _ us hl => match us, hl with | [_, _, _], _ => rfl
  have F57 := fun_mk (st := s_law_odd_part) l57 c57 k57
  have b57 := F57.binds (ps := ["bag", "m", "part"]) fun _ _ _ _ _ _ us hl => match us, hl with | [_, _, _], _ => rfl
  have F58 := fun_mk (st := s_law_odd) l58 c58 k58
  have b58 := F58.binds (ps := ["bag", "m", "opening"]) fun _ _ _ _ _ _ us hl => match us, hl with | [_, _, _], _ => rfl
  have F59 := fun_mk (st := s_law_refused) l59 c59 k59
  have b59 := F59.binds (ps := ["digests", "digest", "value"]) fun _ _ _ _ _ _ us hl => match us, hl with | [_, _, _], _ => rfl
  have F60 := fun_mk (st := s_law) l60 c60 k60
  have b60 := F60.binds (ps := ["script"]) fun _ _ _ _ _ _ us hl => match us, hl with | [_], _ => rfl
  let T : Txt K mg := {
    f_is_integer := ⟨⟨f0, _, F0, b0⟩, PySem.W.mg_of X G a0⟩
    f_is_word := ⟨⟨f1, _, F1, b1⟩, PySem.W.mg_of X G a1⟩
    f_Digests___init := ⟨f2, _, F2, b2⟩
    f_Digests_leaf := ⟨f3, _, F3, b3⟩
    f_Digests_fold := ⟨f4, _, F4, b4⟩
    f_Digests_state := ⟨f5, _, F5, b5⟩
    f_Digests_is_digest := ⟨f6, _, F6, b6⟩
    f_Digests__noted := ⟨f7, _, F7, b7⟩
    f_root_by := ⟨⟨f8, _, F8, b8⟩, PySem.W.mg_of X G a8⟩
    f_levels_of := ⟨⟨f9, _, F9, b9⟩, PySem.W.mg_of X G a9⟩
    f_path_in := ⟨⟨f10, _, F10, b10⟩, PySem.W.mg_of X G a10⟩
    f_Memory___init := ⟨f11, _, F11, b11⟩
    f_Memory_word := ⟨f12, _, F12, b12⟩
    f_Memory_change := ⟨f13, _, F13, b13⟩
    f_Memory_words := ⟨f14, _, F14, b14⟩
    f_Memory_root := ⟨f15, _, F15, b15⟩
    f_Memory_path := ⟨f16, _, F16, b16⟩
    f_op := ⟨⟨f17, _, F17, b17⟩, PySem.W.mg_of X G a17⟩
    f_divided := ⟨⟨f18, _, F18, b18⟩, PySem.W.mg_of X G a18⟩
    f_wrapped := ⟨⟨f19, _, F19, b19⟩, PySem.W.mg_of X G a19⟩
    f_holds := ⟨⟨f20, _, F20, b20⟩, PySem.W.mg_of X G a20⟩
    f_out_behind := ⟨⟨f21, _, F21, b21⟩, PySem.W.mg_of X G a21⟩
    f_name_of := ⟨⟨f22, _, F22, b22⟩, PySem.W.mg_of X G a22⟩
    f_behind := ⟨⟨f23, _, F23, b23⟩, PySem.W.mg_of X G a23⟩
    f_data_of := ⟨⟨f24, _, F24, b24⟩, PySem.W.mg_of X G a24⟩
    f_done_by := ⟨⟨f25, _, F25, b25⟩, PySem.W.mg_of X G a25⟩
    f_halt_by := ⟨⟨f26, _, F26, b26⟩, PySem.W.mg_of X G a26⟩
    f_pc_by := ⟨⟨f27, _, F27, b27⟩, PySem.W.mg_of X G a27⟩
    f_acc_by := ⟨⟨f28, _, F28, b28⟩, PySem.W.mg_of X G a28⟩
    f_x_by := ⟨⟨f29, _, F29, b29⟩, PySem.W.mg_of X G a29⟩
    f_changed_by := ⟨⟨f30, _, F30, b30⟩, PySem.W.mg_of X G a30⟩
    f_Machine___init := ⟨f31, _, F31, b31⟩
    f_Machine_registers := ⟨f32, _, F32, b32⟩
    f_Machine_words := ⟨f33, _, F33, b33⟩
    f_Machine_word := ⟨f34, _, F34, b34⟩
    f_Machine_path := ⟨f35, _, F35, b35⟩
    f_Machine_root := ⟨f36, _, F36, b36⟩
    f_Machine_digest := ⟨f37, _, F37, b37⟩
    f_Machine_step := ⟨f38, _, F38, b38⟩
    f_Machine_told := ⟨f39, _, F39, b39⟩
    f_opened := ⟨⟨f40, _, F40, b40⟩, PySem.W.mg_of X G a40⟩
    f_places_of := ⟨⟨f41, _, F41, b41⟩, PySem.W.mg_of X G a41⟩
    f_step_of := ⟨⟨f42, _, F42, b42⟩, PySem.W.mg_of X G a42⟩
    f_step_by := ⟨⟨f43, _, F43, b43⟩, PySem.W.mg_of X G a43⟩
    f_root_with := ⟨⟨f44, _, F44, b44⟩, PySem.W.mg_of X G a44⟩
    f_is_opening := ⟨⟨f45, _, F45, b45⟩, PySem.W.mg_of X G a45⟩
    f_is_part := ⟨⟨f46, _, F46, b46⟩, PySem.W.mg_of X G a46⟩
    f_are_registers := ⟨⟨f47, _, F47, b47⟩, PySem.W.mg_of X G a47⟩
    f_law_bag := ⟨⟨f48, _, F48, b48⟩, PySem.W.mg_of X G a48⟩
    f_law_draw := ⟨⟨f49, _, F49, b49⟩, PySem.W.mg_of X G a49⟩
    f_law_word := ⟨⟨f50, _, F50, b50⟩, PySem.W.mg_of X G a50⟩
    f_law_words := ⟨⟨f51, _, F51, b51⟩, PySem.W.mg_of X G a51⟩
    f_law_start := ⟨⟨f52, _, F52, b52⟩, PySem.W.mg_of X G a52⟩
    f_law_put := ⟨⟨f53, _, F53, b53⟩, PySem.W.mg_of X G a53⟩
    f_law_bad_number := ⟨⟨f54, _, F54, b54⟩, PySem.W.mg_of X G a54⟩
    f_law_odd_row := ⟨⟨f55, _, F55, b55⟩, PySem.W.mg_of X G a55⟩
    f_law_odd_registers := ⟨⟨f56, _, F56, b56⟩, PySem.W.mg_of X G a56⟩
    f_law_odd_part := ⟨⟨f57, _, F57, b57⟩, PySem.W.mg_of X G a57⟩
    f_law_odd := ⟨⟨f58, _, F58, b58⟩, PySem.W.mg_of X G a58⟩
    f_law_refused := ⟨⟨f59, _, F59, b59⟩, PySem.W.mg_of X G a59⟩
    f_law := ⟨⟨f60, _, F60, b60⟩, PySem.W.mg_of X G a60⟩
    c_Digests := ⟨C_Digests, ⟨pg_Digests, hd_Digests, po_Digests, sa_Digests⟩, ⟨mk_Digests, a2, i2, kc_Digests⟩, PySem.W.mg_of X G aC_Digests⟩
    m_Digests_leaf := ⟨a3, i3, k3⟩
    m_Digests_fold := ⟨a4, i4, k4⟩
    m_Digests_state := ⟨a5, i5, k5⟩
    m_Digests_is_digest := ⟨a6, i6, k6⟩
    m_Digests__noted := ⟨a7, i7, k7⟩
    n_Digests_bits := n_Digests_bits
    n_Digests_book := n_Digests_book
    n_Digests_modulus := n_Digests_modulus
    c_Memory := ⟨C_Memory, ⟨pg_Memory, hd_Memory, po_Memory, sa_Memory⟩, ⟨mk_Memory, a11, i11, kc_Memory⟩, PySem.W.mg_of X G aC_Memory⟩
    m_Memory_word := ⟨a12, i12, k12⟩
    m_Memory_change := ⟨a13, i13, k13⟩
    m_Memory_words := ⟨a14, i14, k14⟩
    m_Memory_root := ⟨a15, i15, k15⟩
    m_Memory_path := ⟨a16, i16, k16⟩
    n_Memory_digests := n_Memory_digests
    n_Memory_words := n_Memory_words
    n_Memory_levels := n_Memory_levels
    c_Machine := ⟨C_Machine, ⟨pg_Machine, hd_Machine, po_Machine, sa_Machine⟩, ⟨mk_Machine, a31, i31, kc_Machine⟩, PySem.W.mg_of X G aC_Machine⟩
    m_Machine_registers := ⟨a32, i32, k32⟩
    m_Machine_words := ⟨a33, i33, k33⟩
    m_Machine_word := ⟨a34, i34, k34⟩
    m_Machine_path := ⟨a35, i35, k35⟩
    m_Machine_root := ⟨a36, i36, k36⟩
    m_Machine_digest := ⟨a37, i37, k37⟩
    m_Machine_step := ⟨a38, i38, k38⟩
    m_Machine_told := ⟨a39, i39, k39⟩
    n_Machine_digests := n_Machine_digests
    n_Machine_registers := n_Machine_registers
    n_Machine_memory := n_Machine_memory
    n_Machine_told := n_Machine_told
    t_DEPTH := t_DEPTH
    g_DEPTH := PySem.W.mg_of X G g_DEPTH
    a_MARKS := a_MARKS
    g_MARKS := PySem.W.mg_of X G g_MARKS
    w_MARKS := Kit.ktup_of w_MARKS v_MARKS
    t_MOST_TOLD := t_MOST_TOLD
    g_MOST_TOLD := PySem.W.mg_of X G g_MOST_TOLD
    t_MOST_WORD := t_MOST_WORD
    g_MOST_WORD := PySem.W.mg_of X G g_MOST_WORD
    a_NAMES := a_NAMES
    g_NAMES := PySem.W.mg_of X G g_NAMES
    w_NAMES := Kit.ktup_of w_NAMES v_NAMES
    t_PLACES := t_PLACES
    g_PLACES := PySem.W.mg_of X G g_PLACES
    a_SIGNS := a_SIGNS
    g_SIGNS := PySem.W.mg_of X G g_SIGNS
    w_SIGNS := Kit.ktup_of w_SIGNS v_SIGNS
    e_BadOpening := ⟨C_BadOpening, PySem.W.mg_of X G aX_BadOpening, xX_BadOpening, kX_BadOpening, bX_BadOpening, tX_BadOpening, Kit.exm_own bX_BadOpening iX_BadOpening tX_BadOpening sX_BadOpening⟩
    y_MARKS := ⟨o_MARKS, w_MARKS, v_cMARKS, v_dMARKS⟩
    z_all := PySem.W.mg_none_of X G z_all
    z_bool := PySem.W.mg_none_of X G z_bool
    z_int := PySem.W.mg_none_of X G z_int
    z_isinstance := PySem.W.mg_none_of X G z_isinstance
    z_len := PySem.W.mg_none_of X G z_len
    z_list := PySem.W.mg_none_of X G z_list
    z_range := PySem.W.mg_none_of X G z_range
    z_tuple := PySem.W.mg_none_of X G z_tuple
    z_zip := PySem.W.mg_none_of X G z_zip }
  exact ⟨PySem.W.fnOf "law" "law" (defArgs s_law) (defBody s_law) (defScope s_law) .none kV60 dc60 pm60 an60 cd60 ct60, fun s v => .of_eq rfl, fun base _ _ => ok_law T⟩
end My
open PySem PySem.W PyProof.Rows
set_option maxHeartbeats 0 in
theorem PySem.Challenge.cw_onestepcourt_k22_values_that_are_no_open_holds : PySem.Challenge.rw_onestepcourt_k22_values_that_are_no_open.Holds := by
  w_on; o_law; k_head; (case hw => w_witness2)
  k_fill
  refine L2.walk_of (l := PySem.Challenge.rw_onestepcourt_k22_values_that_are_no_open) (n := 63) (k := 8) (x := "script") (CX := fun _ => L2.CX0) (sp := fun w => My.sp_law _) rfl (by decide) rfl ⟨rfl, by decide, by decide⟩ (fun w h Y => PySem.W.kIn_of Y) ?F (fun _ _ a ns hl _ hS => My.sp_law_of hl hS) (fun _ _ _ _ _ h => h)
  case F =>
    intro w mg fa h KX G hmg
    refine' My.all_mk KX G hmg ?aC_Machine ?aC_Memory ?aC_Digests ?a0 ?l0 ?c0 ?k0 ?a1 ?l1 ?c1 ?k1 ?a2 ?i2 ?l2 ?c2 ?k2 ?a3 ?i3 ?l3 ?c3 ?k3 ?a4 ?i4 ?l4 ?c4 ?k4 ?a5 ?i5 ?l5 ?c5 ?k5 ?a6 ?i6 ?l6 ?c6 ?k6 ?a7 ?i7 ?l7 ?c7 ?k7 ?a8 ?l8 ?c8 ?k8 ?a9 ?l9 ?c9 ?k9 ?a10 ?l10 ?c10 ?k10 ?a11 ?i11 ?l11 ?c11 ?k11 ?a12 ?i12 ?l12 ?c12 ?k12 ?a13 ?i13 ?l13 ?c13 ?k13 ?a14 ?i14 ?l14 ?c14 ?k14 ?a15 ?i15 ?l15 ?c15 ?k15 ?a16 ?i16 ?l16 ?c16 ?k16 ?a17 ?l17 ?c17 ?k17 ?a18 ?l18 ?c18 ?k18 ?a19 ?l19 ?c19 ?k19 ?a20 ?l20 ?c20 ?k20 ?a21 ?l21 ?c21 ?k21 ?a22 ?l22 ?c22 ?k22 ?a23 ?l23 ?c23 ?k23 ?a24 ?l24 ?c24 ?k24 ?a25 ?l25 ?c25 ?k25 ?a26 ?l26 ?c26 ?k26 ?a27 ?l27 ?c27 ?k27 ?a28 ?l28 ?c28 ?k28 ?a29 ?l29 ?c29 ?k29 ?a30 ?l30 ?c30 ?k30 ?a31 ?i31 ?l31 ?c31 ?k31 ?a32 ?i32 ?l32 ?c32 ?k32 ?a33 ?i33 ?l33 ?c33 ?k33 ?a34 ?i34 ?l34 ?c34 ?k34 ?a35 ?i35 ?l35 ?c35 ?k35 ?a36 ?i36 ?l36 ?c36 ?k36 ?a37 ?i37 ?l37 ?c37 ?k37 ?a38 ?i38 ?l38 ?c38 ?k38 ?a39 ?i39 ?l39 ?c39 ?k39 ?a40 ?l40 ?c40 ?k40 ?a41 ?l41 ?c41 ?k41 ?a42 ?l42 ?c42 ?k42 ?a43 ?l43 ?c43 ?k43 ?a44 ?l44 ?c44 ?k44 ?a45 ?l45 ?c45 ?k45 ?a46 ?l46 ?c46 ?k46 ?a47 ?l47 ?c47 ?k47 ?a48 ?l48 ?c48 ?k48 ?a49 ?l49 ?c49 ?k49 ?a50 ?l50 ?c50 ?k50 ?a51 ?l51 ?c51 ?k51 ?a52 ?l52 ?c52 ?k52 ?a53 ?l53 ?c53 ?k53 ?a54 ?l54 ?c54 ?k54 ?a55 ?l55 ?c55 ?k55 ?a56 ?l56 ?c56 ?k56 ?a57 ?l57 ?c57 ?k57 ?a58 ?l58 ?c58 ?k58 ?a59 ?l59 ?c59 ?k59 ?a60 ?l60 ?c60 ?k60 ?pg_Digests ?hd_Digests ?po_Digests ?sa_Digests ?mk_Digests ?kc_Digests ?n_Digests_bits ?n_Digests_book ?n_Digests_modulus ?pg_Memory ?hd_Memory ?po_Memory ?sa_Memory ?mk_Memory ?kc_Memory ?n_Memory_digests ?n_Memory_words ?n_Memory_levels ?pg_Machine ?hd_Machine ?po_Machine ?sa_Machine ?mk_Machine ?kc_Machine ?n_Machine_digests ?n_Machine_registers ?n_Machine_memory ?n_Machine_told ?aX_BadOpening ?xX_BadOpening ?kX_BadOpening ?bX_BadOpening ?tX_BadOpening ?iX_BadOpening ?sX_BadOpening ?g_DEPTH ?g_MARKS ?w_MARKS ?v_MARKS ?g_MOST_TOLD ?g_MOST_WORD ?g_NAMES ?w_NAMES ?v_NAMES ?g_PLACES ?g_SIGNS ?w_SIGNS ?v_SIGNS ?v_cMARKS ?v_dMARKS ?z_all ?z_bool ?z_int ?z_isinstance ?z_len ?z_list ?z_range ?z_tuple ?z_zip
    (case aC_Machine => k_is)
    (case aC_Memory => k_is)
    (case aC_Digests => k_is)
    (case a0 => k_is)
    (case l0 => k_is)
    (case c0 => k_is)
    (case k0 => k_is)
    (case a1 => k_is)
    (case l1 => k_is)
    (case c1 => k_is)
    (case k1 => k_is)
    (case a2 => k_is)
    (case i2 => k_is)
    (case l2 => k_is)
    (case c2 => k_is)
    (case k2 => k_is)
    (case a3 => k_is)
    (case i3 => k_is)
    (case l3 => k_is)
    (case c3 => k_is)
    (case k3 => k_is)
    (case a4 => k_is)
    (case i4 => k_is)
    (case l4 => k_is)
    (case c4 => k_is)
    (case k4 => k_is)
    (case a5 => k_is)
    (case i5 => k_is)
    (case l5 => k_is)
    (case c5 => k_is)
    (case k5 => k_is)
    (case a6 => k_is)
    (case i6 => k_is)
    (case l6 => k_is)
    (case c6 => k_is)
    (case k6 => k_is)
    (case a7 => k_is)
    (case i7 => k_is)
    (case l7 => k_is)
    (case c7 => k_is)
    (case k7 => k_is)
    (case a8 => k_is)
    (case l8 => k_is)
    (case c8 => k_is)
    (case k8 => k_is)
    (case a9 => k_is)
    (case l9 => k_is)
    (case c9 => k_is)
    (case k9 => k_is)
    (case a10 => k_is)
    (case l10 => k_is)
    (case c10 => k_is)
    (case k10 => k_is)
    (case a11 => k_is)
    (case i11 => k_is)
    (case l11 => k_is)
    (case c11 => k_is)
    (case k11 => k_is)
    (case a12 => k_is)
    (case i12 => k_is)
    (case l12 => k_is)
    (case c12 => k_is)
    (case k12 => k_is)
    (case a13 => k_is)
    (case i13 => k_is)
    (case l13 => k_is)
    (case c13 => k_is)
    (case k13 => k_is)
    (case a14 => k_is)
    (case i14 => k_is)
    (case l14 => k_is)
    (case c14 => k_is)
    (case k14 => k_is)
    (case a15 => k_is)
    (case i15 => k_is)
    (case l15 => k_is)
    (case c15 => k_is)
    (case k15 => k_is)
    (case a16 => k_is)
    (case i16 => k_is)
    (case l16 => k_is)
    (case c16 => k_is)
    (case k16 => k_is)
    (case a17 => k_is)
    (case l17 => k_is)
    (case c17 => k_is)
    (case k17 => k_is)
    (case a18 => k_is)
    (case l18 => k_is)
    (case c18 => k_is)
    (case k18 => k_is)
    (case a19 => k_is)
    (case l19 => k_is)
    (case c19 => k_is)
    (case k19 => k_is)
    (case a20 => k_is)
    (case l20 => k_is)
    (case c20 => k_is)
    (case k20 => k_is)
    (case a21 => k_is)
    (case l21 => k_is)
    (case c21 => k_is)
    (case k21 => k_is)
    (case a22 => k_is)
    (case l22 => k_is)
    (case c22 => k_is)
    (case k22 => k_is)
    (case a23 => k_is)
    (case l23 => k_is)
    (case c23 => k_is)
    (case k23 => k_is)
    (case a24 => k_is)
    (case l24 => k_is)
    (case c24 => k_is)
    (case k24 => k_is)
    (case a25 => k_is)
    (case l25 => k_is)
    (case c25 => k_is)
    (case k25 => k_is)
    (case a26 => k_is)
    (case l26 => k_is)
    (case c26 => k_is)
    (case k26 => k_is)
    (case a27 => k_is)
    (case l27 => k_is)
    (case c27 => k_is)
    (case k27 => k_is)
    (case a28 => k_is)
    (case l28 => k_is)
    (case c28 => k_is)
    (case k28 => k_is)
    (case a29 => k_is)
    (case l29 => k_is)
    (case c29 => k_is)
    (case k29 => k_is)
    (case a30 => k_is)
    (case l30 => k_is)
    (case c30 => k_is)
    (case k30 => k_is)
    (case a31 => k_is)
    (case i31 => k_is)
    (case l31 => k_is)
    (case c31 => k_is)
    (case k31 => k_is)
    (case a32 => k_is)
    (case i32 => k_is)
    (case l32 => k_is)
    (case c32 => k_is)
    (case k32 => k_is)
    (case a33 => k_is)
    (case i33 => k_is)
    (case l33 => k_is)
    (case c33 => k_is)
    (case k33 => k_is)
    (case a34 => k_is)
    (case i34 => k_is)
    (case l34 => k_is)
    (case c34 => k_is)
    (case k34 => k_is)
    (case a35 => k_is)
    (case i35 => k_is)
    (case l35 => k_is)
    (case c35 => k_is)
    (case k35 => k_is)
    (case a36 => k_is)
    (case i36 => k_is)
    (case l36 => k_is)
    (case c36 => k_is)
    (case k36 => k_is)
    (case a37 => k_is)
    (case i37 => k_is)
    (case l37 => k_is)
    (case c37 => k_is)
    (case k37 => k_is)
    (case a38 => k_is)
    (case i38 => k_is)
    (case l38 => k_is)
    (case c38 => k_is)
    (case k38 => k_is)
    (case a39 => k_is)
    (case i39 => k_is)
    (case l39 => k_is)
    (case c39 => k_is)
    (case k39 => k_is)
    (case a40 => k_is)
    (case l40 => k_is)
    (case c40 => k_is)
    (case k40 => k_is)
    (case a41 => k_is)
    (case l41 => k_is)
    (case c41 => k_is)
    (case k41 => k_is)
    (case a42 => k_is)
    (case l42 => k_is)
    (case c42 => k_is)
    (case k42 => k_is)
    (case a43 => k_is)
    (case l43 => k_is)
    (case c43 => k_is)
    (case k43 => k_is)
    (case a44 => k_is)
    (case l44 => k_is)
    (case c44 => k_is)
    (case k44 => k_is)
    (case a45 => k_is)
    (case l45 => k_is)
    (case c45 => k_is)
    (case k45 => k_is)
    (case a46 => k_is)
    (case l46 => k_is)
    (case c46 => k_is)
    (case k46 => k_is)
    (case a47 => k_is)
    (case l47 => k_is)
    (case c47 => k_is)
    (case k47 => k_is)
    (case a48 => k_is)
    (case l48 => k_is)
    (case c48 => k_is)
    (case k48 => k_is)
    (case a49 => k_is)
    (case l49 => k_is)
    (case c49 => k_is)
    (case k49 => k_is)
    (case a50 => k_is)
    (case l50 => k_is)
    (case c50 => k_is)
    (case k50 => k_is)
    (case a51 => k_is)
    (case l51 => k_is)
    (case c51 => k_is)
    (case k51 => k_is)
    (case a52 => k_is)
    (case l52 => k_is)
    (case c52 => k_is)
    (case k52 => k_is)
    (case a53 => k_is)
    (case l53 => k_is)
    (case c53 => k_is)
    (case k53 => k_is)
    (case a54 => k_is)
    (case l54 => k_is)
    (case c54 => k_is)
    (case k54 => k_is)
    (case a55 => k_is)
    (case l55 => k_is)
    (case c55 => k_is)
    (case k55 => k_is)
    (case a56 => k_is)
    (case l56 => k_is)
    (case c56 => k_is)
    (case k56 => k_is)
    (case a57 => k_is)
    (case l57 => k_is)
    (case c57 => k_is)
    (case k57 => k_is)
    (case a58 => k_is)
    (case l58 => k_is)
    (case c58 => k_is)
    (case k58 => k_is)
    (case a59 => k_is)
    (case l59 => k_is)
    (case c59 => k_is)
    (case k59 => k_is)
    (case a60 => k_is)
    (case l60 => k_is)
    (case c60 => k_is)
    (case k60 => k_is)
    (case pg_Digests => k_is)
    (case hd_Digests => k_is)
    (case po_Digests => k_is)
    (case sa_Digests => k_is)
    (case mk_Digests => k_is)
    (case kc_Digests => k_is)
    (case n_Digests_bits => k_is)
    (case n_Digests_book => k_is)
    (case n_Digests_modulus => k_is)
    (case pg_Memory => k_is)
    (case hd_Memory => k_is)
    (case po_Memory => k_is)
    (case sa_Memory => k_is)
    (case mk_Memory => k_is)
    (case kc_Memory => k_is)
    (case n_Memory_digests => k_is)
    (case n_Memory_words => k_is)
    (case n_Memory_levels => k_is)
    (case pg_Machine => k_is)
    (case hd_Machine => k_is)
    (case po_Machine => k_is)
    (case sa_Machine => k_is)
    (case mk_Machine => k_is)
    (case kc_Machine => k_is)
    (case n_Machine_digests => k_is)
    (case n_Machine_registers => k_is)
    (case n_Machine_memory => k_is)
    (case n_Machine_told => k_is)
    (case aX_BadOpening => k_is)
    (case xX_BadOpening => k_exc)
    (case kX_BadOpening => k_is)
    (case bX_BadOpening => k_is)
    (case tX_BadOpening => k_is)
    (case iX_BadOpening => k_is)
    (case sX_BadOpening => first | rfl | k_is)
    (case g_DEPTH => k_is)
    (case g_MARKS => k_is)
    (case w_MARKS => k_is)
    (case v_MARKS => first | rfl | with_unfolding_all rfl | kernel_rfl)
    (case g_MOST_TOLD => k_is)
    (case g_MOST_WORD => k_is)
    (case g_NAMES => k_is)
    (case w_NAMES => k_is)
    (case v_NAMES => first | rfl | with_unfolding_all rfl | kernel_rfl)
    (case g_PLACES => k_is)
    (case g_SIGNS => k_is)
    (case w_SIGNS => k_is)
    (case v_SIGNS => first | rfl | with_unfolding_all rfl | kernel_rfl)
    (case v_cMARKS => first | rfl | with_unfolding_all rfl | kernel_rfl)
    (case v_dMARKS => first | rfl | with_unfolding_all rfl | kernel_rfl)
    (case z_all => k_is)
    (case z_bool => k_is)
    (case z_int => k_is)
    (case z_isinstance => k_is)
    (case z_len => k_is)
    (case z_list => k_is)
    (case z_range => k_is)
    (case z_tuple => k_is)
    (case z_zip => k_is)


