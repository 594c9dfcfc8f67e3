import PyProof.Rows.All
import Wide.All
import OpenK.AllK
import Wide.FinOn
import HandS.ForMost
import HandS.Wide
import HandS.Evl
import HandS.IsInst
import HandS.TupAny
import HandS.TupMul
import HandS.TupLe
import HandS.Dict
import HandS.Conv
import HandS.Zip
import HandS.More
import HandS.CallLocal
import HandS.DictComp
import PySem.Challenge.RW_onestepcourt_k52_letters
import HandS.Strs
set_option Elab.async false
set_option linter.all false
set_option maxRecDepth 100000
namespace Kit
open PySem PySem.Spec PyProof.Rows L2 Evl
abbrev St := L2.St
/-! ### facts of the text -/
structure GFn (K : PySem.W.Frag) (x qual : Str) (st : Stmt) (ps : List Str) where
  f : Addr
  fd : FuncData
  F : Fun K x qual st f fd
  b : Binds K fd ps []
structure GFn' (K : PySem.W.Frag) (mg : Str → Option Value) (x qual : Str) (st : Stmt) (ps : List Str) extends GFn K x qual st ps where
  g : mg x = some (.ref f)
structure GCl (K : PySem.W.Frag) (mg : Str → Option Value) (x : Str) (fI : Addr) where
  C : Addr
  cl : Cls K C
  M : Mk K C fI
  g : mg x = some (.ref C)
/-- an attribute read; a method's receiver; a new instance; an attribute stored -/
def FldOf (K : PySem.W.Frag) (f : Str) (x : V) (H : Hp) (Q : VK) : Prop := ∃ a C dx fs v, x = .ref a ∧ H a = some (.ins C dx fs) ∧ Cls K C ∧ NoAttr K C f ∧ fs.lookup f = some v ∧ Q v H
def InsOf (C : Addr) (m : Str) (x : V) (H : Hp) (R : Prop) : Prop := ∃ a dx fs, x = .ref a ∧ H a = some (.ins C dx fs) ∧ fs.lookup m = none ∧ R
def MakeOf (C : Addr) (sp : Sp) (E : XK) (vs : List V) (H : Hp) (Q : VK) : Prop := ∀ x dx, H x = none → H dx = none → dx ≠ x → sp (.ref x :: vs) (upd (upd H dx (.own x)) x (.ins C dx [])) (fun v H2 => v = .non ∧ Q (.ref x) H2) E
def PutOf (K : PySem.W.Frag) (f : Str) (y x : V) (H : Hp) (R : Hp → Prop) : Prop := ∃ a C dx fs, x = .ref a ∧ H a = some (.ins C dx fs) ∧ Cls K C ∧ NoAttr K C f ∧ fs.length < 1000 ∧ R (upd H a (.ins C dx (putF f y fs)))
/-- a new object of so many items -/
def Alloc (n : Nat) (o : HO) (H : Hp) (Q : VK) : Prop := n ≤ sizeLine ∧ ∀ p, H p = none → Q (.ref p) (upd H p o)
/-! ### a statement with its four ways out -/
def Sm (t : TS) (nx : St → Hp → Prop) (rt : VK) (bk ct : St → Hp → Prop) (σ : St) (H : Hp) : Prop := t ⟨nx, rt, bk, ct⟩ σ H
section
variable {σ : St} {H H1 H2 : Hp} {Q : VK} {R : Bool → Hp → Prop} {A : List V → Hp → Prop} {i n : Nat} {v x y : V} {ta tb te tv : TE} {tl tr : TA} {b : Bool} {K : PySem.W.Frag} {a C dx p : Addr} {fs : List (Str × V)} {f : Str} {t u c : TT}
theorem w_var (h : σ[i]? = some (some v)) (q : Q v H) : tVar i σ H Q := ⟨v, h, q⟩
theorem w_c (q : Q v H) : tC v σ H Q := q
theorem w_op {r : R2} (h : ta σ H fun x H1 => tb σ H1 fun y H2 => r x y H2 Q) : tOp r ta tb σ H Q := h
theorem w_un {r : V → Hp → VK → Prop} (h : ta σ H fun x H1 => r x H1 Q) : tUn r ta σ H Q := h
theorem w_cb {r : List V → Hp → VK → Prop} (h : tl σ H fun vs H1 => r vs H1 Q) : tCB r tl σ H Q := h
theorem w_nil (q : A [] H) : tNil σ H A := q
theorem w_cons (h : te σ H fun x H1 => tr σ H1 fun xs H2 => A (x :: xs) H2) : tCons te tr σ H A := h
theorem w_tup (h : tl σ H fun xs H1 => Alloc xs.length (.tup xs) H1 Q) : tTup tl σ H Q := h
theorem w_lst (h : tl σ H fun xs H1 => Alloc xs.length (.lst xs) H1 Q) : tLst tl σ H Q := h
theorem w_call {sp : Sp} {dvs : List V} {E : XK} (h : tl σ H fun vs H1 => sp (vs ++ dvs) H1 Q E) : tCall sp dvs E tl σ H Q := h
theorem w_test (h : te σ H fun x H' => ∃ k, x = .bl k ∧ R k H') : tTest te σ H R := h
theorem w_B (h : te σ H fun x H' => ∃ k, x = .bl k ∧ R k H') : tB te σ H R := h
theorem w_and (h : t σ H fun c H1 => if c = true then u σ H1 R else R false H1) : tAnd t u σ H R := h
theorem w_or (h : t σ H fun c H1 => if c = true then R true H1 else u σ H1 R) : tOr t u σ H R := h
theorem w_not (h : t σ H fun c H1 => R (!c) H1) : tNot t σ H R := h
theorem w_andV (h : ta σ H fun x H1 => ∃ c, x = .bl c ∧ if c = true then tb σ H1 Q else Q (.bl false) H1) : tAndV ta tb σ H Q := h
theorem w_orV (h : ta σ H fun x H1 => ∃ c, x = .bl c ∧ if c = true then Q (.bl true) H1 else tb σ H1 Q) : tOrV ta tb σ H Q := h
theorem w_notV (h : ta σ H fun x H1 => ∃ c, x = .bl c ∧ Q (.bl (!c)) H1) : tNotV ta σ H Q := h
theorem w_ifE (h : t σ H fun c H1 => if c = true then ta σ H1 Q else tb σ H1 Q) : tIf t ta tb σ H Q := h
theorem w_fld (h : ta σ H fun x H1 => FldOf K f x H1 Q) : tFld K ta f σ H Q := h
theorem w_rd {v : V} (h : H a = some (.ins C dx fs)) (cl : Cls K C) (n : NoAttr K C f) (l : fs.lookup f = some v) (q : Q v H) : FldOf K f (.ref a) H Q := ⟨a, C, dx, fs, v, rfl, h, cl, n, l, q⟩
theorem w_meth {m : Str} {sp : Sp} {E : XK} (h : ta σ H fun x H1 => InsOf C m x H1 (tl σ H1 fun vs H2 => sp (x :: vs) H2 Q E)) : tMeth C m sp [] E ta tl σ H Q := by
  have e : tMeth C m sp [] E ta tl σ H Q = (ta σ H fun x H1 => InsOf C m x H1 (tl σ H1 fun vs H2 => sp (x :: vs) H2 Q E)) := by unfold tMeth InsOf; simp only [List.append_nil]
  rw [e]; exact h
theorem w_ins {m : Str} {R : Prop} (h : H a = some (.ins C dx fs)) (l : fs.lookup m = none) (r : R) : InsOf C m (.ref a) H R := ⟨a, dx, fs, rfl, h, l, r⟩
theorem w_make {sp : Sp} {E : XK} (h : tl σ H fun vs H1 => MakeOf C sp E vs H1 Q) : tMake C sp [] E tl σ H Q := by
  have e : tMake C sp [] E tl σ H Q = (tl σ H fun vs H1 => MakeOf C sp E vs H1 Q) := by unfold tMake MakeOf; simp only [List.append_nil]
  rw [e]; exact h
theorem w_made {sp : Sp} {E : XK} {vs : List V} (h : ∀ x dx H2, H x = none → Ex H H2 → H2 x = some (.ins C dx []) → sp (.ref x :: vs) H2 (fun v H3 => v = .non ∧ Q (.ref x) H3) E) : MakeOf C sp E vs H Q :=
  fun x dx hx hd hn => h x dx _ hx (fun b o hb => by rw [upd_ne (ne_of_none hb hx), upd_ne (ne_of_none hb hd)]; exact hb) upd_same
theorem w_bl {k : Bool} (q : R k H) : ∃ k', V.bl k = .bl k' ∧ R k' H := ⟨k, rfl, q⟩
theorem w_blE {k : Bool} {P : Bool → Prop} (q : P k) : ∃ k', V.bl k = .bl k' ∧ P k' := ⟨k, rfl, q⟩
/-- operators -/
theorem w_I0 {g : Int → Int → V} {i j : Int} (q : Q (g i j) H) : rI0 g (.int i) (.int j) H Q := ⟨i, j, rfl, rfl, q⟩
theorem w_I {C : Int → Int → Prop} {g : Int → Int → V} {i j : Int} (hc : C i j) (q : Q (g i j) H) : rI C g (.int i) (.int j) H Q := ⟨i, j, rfl, rfl, hc, q⟩
theorem w_U {g : Int → V} {i : Int} (q : Q (g i) H) : rU g (.int i) H Q := ⟨i, rfl, q⟩
theorem w_eqI {i j : Int} (q : Q (.bl (decide (i = j))) H) : rEq (.int i) (.int j) H Q := ⟨rfl, by
  have e : decide (V.int i = V.int j) = decide (i = j) := by
    by_cases h : i = j
    · subst h; rw [decide_eq_true rfl, decide_eq_true rfl]
    · rw [decide_eq_false h, decide_eq_false (fun z => h (V.int.inj z))]
  rw [e]; exact q⟩
theorem w_neI {i j : Int} (q : Q (.bl (!decide (i = j))) H) : rNe (.int i) (.int j) H Q := ⟨rfl, by
  have e : decide (V.int i = V.int j) = decide (i = j) := by
    by_cases h : i = j
    · subst h; rw [decide_eq_true rfl, decide_eq_true rfl]
    · rw [decide_eq_false h, decide_eq_false (fun z => h (V.int.inj z))]
  rw [e]; exact q⟩
theorem w_eqB {i j : Bool} (q : Q (.bl (i == j)) H) : rEq (.bl i) (.bl j) H Q := ⟨rfl, by rw [dec_bl]; exact q⟩
theorem w_neB {i j : Bool} (q : Q (.bl (!(i == j))) H) : rNe (.bl i) (.bl j) H Q := ⟨rfl, by rw [dec_bl]; exact q⟩
theorem w_eqS {i : Str} (q : Q (.bl true) H) : rEq (.str i) (.str i) H Q := ⟨rfl, by rw [decide_eq_true rfl]; exact q⟩
theorem w_eqSF {i j : Str} (h : decide (i = j) = false) (q : Q (.bl false) H) : rEq (.str i) (.str j) H Q := ⟨rfl, by
  rw [decide_eq_false (fun z => of_decide_eq_false h (V.str.inj z))]; exact q⟩
theorem w_eqSd {i j : Str} (q : Q (.bl (decide (i = j))) H) : rEq (.str i) (.str j) H Q := ⟨rfl, by
  have e : decide (V.str i = V.str j) = decide (i = j) := by
    by_cases h : i = j
    · subst h; rw [decide_eq_true rfl, decide_eq_true rfl]
    · rw [decide_eq_false h, decide_eq_false (fun z => h (V.str.inj z))]
  rw [e]; exact q⟩
theorem w_neS {i : Str} (q : Q (.bl false) H) : rNe (.str i) (.str i) H Q := ⟨rfl, by rw [decide_eq_true rfl]; exact q⟩
theorem w_isN (q : Q (.bl (decide (x = .non))) H) : (fun (x y : V) (H : Hp) (Q : VK) => y = .non ∧ Q (.bl (decide (x = .non))) H) x .non H Q := ⟨rfl, q⟩
theorem w_ixL {p : Addr} {xs : List V} {i : Int} (h : SqL K H p xs) (ha : atI xs i = some v) (q : Q v H) : rIxL K (.ref p) (.int i) H Q := ⟨p, xs, i, v, rfl, rfl, h, ha, q⟩
theorem w_ixT {p : Addr} {xs : List V} {i : Int} (h : SqT K H p xs) (ha : atI xs i = some v) (q : Q v H) : rIxT K (.ref p) (.int i) H Q := ⟨p, xs, i, v, rfl, rfl, h, ha, q⟩
theorem w_inL {neg : Bool} {p : Addr} {xs : List V} (h : SqL K H p xs) (hx : flatV x = true) (ha : xs.all flatV = true) (q : Q (.bl (if neg then !inV x xs else inV x xs)) H) : rIn K neg x (.ref p) H Q := ⟨p, xs, rfl, Or.inl h, hx, ha, q⟩
theorem w_inT {neg : Bool} {p : Addr} {xs : List V} (h : SqT K H p xs) (hx : flatV x = true) (ha : xs.all flatV = true) (q : Q (.bl (if neg then !inV x xs else inV x xs)) H) : rIn K neg x (.ref p) H Q := ⟨p, xs, rfl, Or.inr h, hx, ha, q⟩
theorem w_call0 {sp : Sp} {E : XK} (h : tl σ H fun vs H1 => sp vs H1 Q E) : tCall sp [] E tl σ H Q := by
  have e : tCall sp [] E tl σ H Q = (tl σ H fun vs H1 => sp vs H1 Q E) := by unfold tCall; simp only [List.append_nil]
  rw [e]; exact h
theorem w_inLt {p : Addr} {xs : List V} (h : SqL K H p xs ∨ SqT K H p xs) (hb : (flatV x && xs.all flatV && inV x xs) = true) (q : Q (.bl true) H) : rIn K false x (.ref p) H Q := by
  simp only [Bool.and_eq_true] at hb
  exact ⟨p, xs, rfl, h, hb.1.1, hb.1.2, by rw [hb.2]; exact q⟩
theorem w_inLf {p : Addr} {xs : List V} (h : SqL K H p xs ∨ SqT K H p xs) (hb : (flatV x && xs.all flatV && !inV x xs) = true) (q : Q (.bl false) H) : rIn K false x (.ref p) H Q := by
  simp only [Bool.and_eq_true, Bool.not_eq_true'] at hb
  exact ⟨p, xs, rfl, h, hb.1.1, hb.1.2, by rw [hb.2]; exact q⟩
/-- built-ins by names -/
def rInt : List V → Hp → VK → Prop := fun xs H Q => (∃ i, xs = [.int i] ∧ Q (.int i) H) ∨ ∃ k, xs = [.bl k] ∧ Q (.int (if k then 1 else 0)) H
def rMax : List V → Hp → VK → Prop := fun xs H Q => ∃ i j, xs = [.int i, .int j] ∧ Q (.int (if j > i then j else i)) H
def rMin : List V → Hp → VK → Prop := fun xs H Q => ∃ i j, xs = [.int i, .int j] ∧ Q (.int (if j < i then j else i)) H
def rAbs : List V → Hp → VK → Prop := fun xs H Q => ∃ i, xs = [.int i] ∧ Q (.int (if i < 0 then -i else i)) H
def rTupS (K : PySem.W.Frag) : List V → Hp → VK → Prop := fun xs H Q => ∃ p ys, xs = [.ref p] ∧ ((SqL K H p ys ∧ ∀ l, H l = none → Q (.ref l) (upd H l (.tup ys))) ∨ (SqT K H p ys ∧ Q (.ref p) H))
theorem k_int {X : Cx} : CallR X (.type "int") rInt := call_int1
theorem k_max {X : Cx} (hc : X.calm = true) : CallR X (.builtin "max") rMax := call_max2 hc
theorem k_min {X : Cx} (hc : X.calm = true) : CallR X (.builtin "min") rMin := call_min2 hc
theorem k_abs {X : Cx} : CallR X (.builtin "abs") rAbs := call_abs
theorem k_len {X : Cx} : CallR X (.builtin "len") (rLenS X.K) := call_len_seq
theorem k_list {X : Cx} : CallR X (.type "list") (rListS X.K) := call_list_of
theorem k_tuple {X : Cx} : CallR X (.type "tuple") (rTupS X.K) := call_tuple_of
theorem w_int {i : Int} (q : Q (.int i) H) : rInt [.int i] H Q := .inl ⟨i, rfl, q⟩
theorem w_intB {k : Bool} (q : Q (.int (if k = true then 1 else 0)) H) : rInt [.bl k] H Q := .inr ⟨k, rfl, q⟩
theorem w_max {i j : Int} (q : Q (.int (if j > i then j else i)) H) : rMax [.int i, .int j] H Q := ⟨i, j, rfl, q⟩
theorem w_min {i j : Int} (q : Q (.int (if j < i then j else i)) H) : rMin [.int i, .int j] H Q := ⟨i, j, rfl, q⟩
theorem w_abs {i : Int} (q : Q (.int (if i < 0 then -i else i)) H) : rAbs [.int i] H Q := ⟨i, rfl, q⟩
theorem w_len {p : Addr} {xs : List V} (h : SqL K H p xs ∨ SqT K H p xs) (q : Q (.int (xs.length : Int)) H) : rLenS K [.ref p] H Q := ⟨p, xs, rfl, h, q⟩
theorem w_list {p : Addr} {xs : List V} (h : SqL K H p xs ∨ SqT K H p xs) (q : ∀ l H2, H l = none → Ex H H2 → H2 l = some (.lst xs) → Q (.ref l) H2) : rListS K [.ref p] H Q := ⟨p, xs, rfl, h, fun l hl => q l _ hl (Ex.new hl) upd_same⟩
theorem w_tuple {p : Addr} {xs : List V} (h : SqL K H p xs) (q : ∀ l H2, H l = none → Ex H H2 → H2 l = some (.tup xs) → Q (.ref l) H2) : rTupS K [.ref p] H Q := ⟨p, xs, rfl, .inl ⟨h, fun l hl => q l _ hl (Ex.new hl) upd_same⟩⟩
theorem w_tupleT {p : Addr} {xs : List V} (h : SqT K H p xs) (q : Q (.ref p) H) : rTupS K [.ref p] H Q := ⟨p, xs, rfl, .inr ⟨h, q⟩⟩
def rIsNo : R2 := fun x y H Q => y = .non ∧ Q (.bl (decide (x = .non))) H
def rNotNo : R2 := fun x y H Q => y = .non ∧ Q (.bl (!decide (x = .non))) H
theorem k_isN {X : Cx} : OpR X (compareOp .Is) rIsNo := op_isN
theorem k_notN {X : Cx} : OpR X (compareOp .IsNot) rNotNo := op_notN
theorem w_isNN (q : Q (.bl true) H) : rIsNo .non .non H Q := ⟨rfl, q⟩
theorem w_isNI {i : Int} (q : Q (.bl false) H) : rIsNo (.int i) .non H Q := ⟨rfl, q⟩
theorem w_isNB {i : Bool} (q : Q (.bl false) H) : rIsNo (.bl i) .non H Q := ⟨rfl, q⟩
theorem w_isNR {i : Addr} (q : Q (.bl false) H) : rIsNo (.ref i) .non H Q := ⟨rfl, q⟩
theorem w_notNN (q : Q (.bl false) H) : rNotNo .non .non H Q := ⟨rfl, q⟩
theorem w_notNI {i : Int} (q : Q (.bl true) H) : rNotNo (.int i) .non H Q := ⟨rfl, q⟩
theorem w_notNB {i : Bool} (q : Q (.bl true) H) : rNotNo (.bl i) .non H Q := ⟨rfl, q⟩
theorem w_notNR {i : Addr} (q : Q (.bl true) H) : rNotNo (.ref i) .non H Q := ⟨rfl, q⟩
theorem w_dget {td ty : TE} (h : td σ H fun x H1 => ty σ H1 fun y H2 => ∃ a v, x = .ref a ∧ DGet H2 a y (some v) ∧ Q v H2) : tDGet td ty σ H Q := h
theorem w_disp {trs : List (TE × TE)} (h : ∀ p H1, H p = none → Ex H H1 → H1 p = some (.dK []) → tPairs trs σ H1 fun ps H2 => H2 p = some (.dK []) ∧ ∃ kvs : List (Key × V), ps = kvs.map (fun kv => (kV kv.1, kv.2)) ∧ kvs.length ≤ 15 ∧ Q (.ref p) (upd H2 p (.dK (mergeK [] kvs)))) : tDisp trs σ H Q :=
  fun p hp => h p _ hp (Ex.new hp) upd_same
theorem w_pp {tk tv : TE} {r : List (TE × TE)} {B : List (V × V) → Hp → Prop} (h : tk σ H fun x H1 => tv σ H1 fun y H2 => tPairs r σ H2 fun ps H3 => B ((x, y) :: ps) H3) : tPairs ((tk, tv) :: r) σ H B := h
theorem w_pn {B : List (V × V) → Hp → Prop} (h : B [] H) : tPairs [] σ H B := h
theorem w_bm {T : String} {r : V → List V → Hp → VK → Prop} {to : TE} (h : to σ H fun x H1 => tyV K T x H1 ∧ tl σ H1 fun xs H2 => r x xs H2 Q) : tBM K T r to tl σ H Q := h
theorem w_bm0 {T : String} {r : V → List V → Hp → VK → Prop} {to : TE} (h : to σ H fun x H1 => tyV K T x H1 ∧ r x [] H1 Q) : tBM0 K T r to σ H Q := h
theorem w_tyL {p : Addr} {xs : List V} {W : Prop} (h : SqL K H p xs) (r : W) : tyV K "list" (.ref p) H ∧ W := ⟨Or.inl ⟨rfl, _, h⟩, r⟩
theorem w_app {l : Addr} {xs : List V} {y : V} (h : H l = some (.lst xs)) (hz : xs.length < 100000) (q : ∀ H2, (∀ b o, b ≠ l → H b = some o → H2 b = some o) → H2 l = some (.lst (xs ++ [y])) → Q .non H2) : rAppend (.ref l) [y] H Q :=
  ⟨l, xs, y, rfl, rfl, h, sz_lt hz, q _ (fun b o n hb => by rw [upd_ne n]; exact hb) upd_same⟩
theorem w_sl {r : V → Option Int → Option Int → Hp → VK → Prop} {to th : TO} (h : te σ H fun x H1 => to σ H1 fun l H2 => th σ H2 fun u H3 => r x l u H3 Q) : tSl r te to th σ H Q := h
theorem w_po {W : Option Int → Hp → Prop} (h : W none H) : tNoPart σ H W := h
def PartOf (W : Option Int → Hp → Prop) (x : V) (H : Hp) : Prop := ∃ i, x = .int i ∧ W (some i) H
theorem w_ps {W : Option Int → Hp → Prop} (h : te σ H fun x H1 => PartOf W x H1) : tPart te σ H W := h
theorem w_pi {W : Option Int → Hp → Prop} {i : Int} (h : W (some i) H) : PartOf W (.int i) H := ⟨i, rfl, h⟩
theorem w_slL {a : Addr} {xs : List V} {lo hi : Option Int} (h : SqL K H a xs) (q : ∀ p H2, H p = none → Ex H H2 → H2 p = some (.lst (cutV xs lo hi)) → Q (.ref p) H2) : rSlL K (.ref a) lo hi H Q := ⟨a, xs, rfl, h, fun p hp => q p _ hp (Ex.new hp) upd_same⟩
theorem cut_whole {xs : List V} {lo hi : Option Int} (h : HT.sIx xs.length 0 lo = 0 ∧ HT.sIx xs.length xs.length hi = xs.length) : cutV xs lo hi = xs := by
  unfold cutV
  rw [h.1, h.2]
  simp
theorem w_slT {a : Addr} {xs : List V} {lo hi : Option Int} (h : SqT K H a xs) (q : ∀ p H2, Ex H H2 → SqT K H2 p (cutV xs lo hi) → Q (.ref p) H2) : rSlA K (.ref a) lo hi H Q :=
  ⟨a, xs, rfl, h, fun e => q a H (Ex.refl H) (by rw [cut_whole e]; exact h), fun _ p hp => q p _ (Ex.new hp) (st_of upd_same)⟩
theorem w_catT {a b : Addr} {xs ys : List V} (h : SqT K H a xs) (h2 : SqT K H b ys) (hl : xs.length + ys.length ≤ 100000) (q : ∀ p H2, Ex H H2 → SqT K H2 p (xs ++ ys) → Q (.ref p) H2) : rCatA K (.ref a) (.ref b) H Q :=
  ⟨a, b, xs, ys, rfl, rfl, h, h2, sz_of hl, fun e => q b H (Ex.refl H) (by rw [e]; exact h2), fun _ e => q a H (Ex.refl H) (by rw [e, List.append_nil]; exact h), fun _ _ p hp => q p _ (Ex.new hp) (st_of upd_same)⟩
theorem w_catL {a b : Addr} {xs ys : List V} (h : H a = some (.lst xs)) (h2 : H b = some (.lst ys)) (hl : xs.length + ys.length ≤ 100000) (q : ∀ p H2, H p = none → Ex H H2 → H2 p = some (.lst (xs ++ ys)) → Q (.ref p) H2) : rCat (.ref a) (.ref b) H Q :=
  ⟨a, b, xs, ys, rfl, rfl, h, h2, sz_of hl, fun p hp => q p _ hp (Ex.new hp) upd_same⟩
theorem w_isi {x : V} {n : String} {t : String} {b : Bool} (ty : TyX K H x (.type t)) (e : kitB t n = some b) (q : Q (.bl b) H) : rIsi K [x, .ty n] H Q := ⟨x, .ty n, .type t, .type n, b, rfl, ClsV.ty n, ty, kit_ty e, q⟩
theorem w_isiInt {i : Int} {n : String} {b : Bool} (e : kitB "int" n = some b) (q : Q (.bl b) H) : rIsi K [.int i, .ty n] H Q := w_isi (.base (.int i)) e q
theorem w_isiNon {n : String} {b : Bool} (e : kitB "NoneType" n = some b) (q : Q (.bl b) H) : rIsi K [.non, .ty n] H Q := w_isi (.base .non) e q
theorem w_isiBl {i : Bool} {n : String} {b : Bool} (e : kitB "bool" n = some b) (q : Q (.bl b) H) : rIsi K [.bl i, .ty n] H Q := w_isi (.base (.bl i)) e q
theorem w_isiStr {i : Str} {n : String} {b : Bool} (e : kitB "str" n = some b) (q : Q (.bl b) H) : rIsi K [.str i, .ty n] H Q := w_isi (.base (.str i)) e q
theorem w_isiTup {p : Addr} {xs : List V} {n : String} {b : Bool} (h : SqT K H p xs) (e : kitB "tuple" n = some b) (q : Q (.bl b) H) : rIsi K [.ref p, .ty n] H Q := by
  rcases h with (h | ⟨o, h⟩) | ⟨o, _, _, h, c, _⟩
  · exact w_isi (.base (.tup h)) e q
  · exact w_isi (.fTuple h) e q
  · exact w_isi (.kTuple h c) e q
theorem w_isiLst {p : Addr} {xs : List V} {n : String} {b : Bool} (h : SqL K H p xs) (e : kitB "list" n = some b) (q : Q (.bl b) H) : rIsi K [.ref p, .ty n] H Q := by
  rcases h with (h | ⟨o, h⟩) | ⟨o, _, _, h, c, _⟩
  · exact w_isi (.base (.lst h)) e q
  · exact w_isi (.base (.frz h)) e q
  · exact w_isi (.kList h c) e q
theorem w_isiDK {p : Addr} {xs : List (Key × V)} {n : String} {b : Bool} (h : H p = some (.dK xs)) (e : kitB "dict" n = some b) (q : Q (.bl b) H) : rIsi K [.ref p, .ty n] H Q := w_isi (.base (.dK h)) e q
theorem w_neD {d e : PyData} (hx : Dp K H x d) (hy : Dp K H y e) (sd : SeqAt.shaped d = true) (se : SeqAt.shaped e = true) (q : Q (.bl (!PyData.eqv d e)) H) : rNeD K x y H Q := ⟨d, e, hx, hy, sd, se, q⟩
theorem w_eqD {d e : PyData} (hx : Dp K H x d) (hy : Dp K H y e) (sd : SeqAt.shaped d = true) (se : SeqAt.shaped e = true) (q : Q (.bl (PyData.eqv d e)) H) : rEqD K x y H Q := ⟨d, e, hx, hy, sd, se, q⟩
/-- a flat value as data -/
def flatD : V → PyData
  | .bl b => .bool b
  | .int i => .int i
  | .str x => .str x
  | _ => .none
def isFl : V → Bool
  | .non | .bl _ | .int _ | .str _ => true
  | _ => false
theorem dp_flat {v : V} (h : isFl v = true) : Dp K H v (flatD v) := by
  cases v <;> first | exact .non | exact .bl _ | exact .int _ | exact .str _ | cases h
theorem dp_flats : ∀ {vs : List V}, vs.all isFl = true → DpAll K H vs (vs.map flatD)
  | [], _ => .nil
  | v :: vs, h => by
    rw [List.all_cons, Bool.and_eq_true] at h
    exact .cons (dp_flat h.1) (dp_flats h.2)
theorem dp_lst {p : Addr} {vs : List V} (h : SqL K H p vs) (f : vs.all isFl = true) : Dp K H (.ref p) (.list (vs.map flatD)) := .lst h (dp_flats f)
theorem dp_tup {p : Addr} {vs : List V} (h : SqT K H p vs) (f : vs.all isFl = true) : Dp K H (.ref p) (.tuple (vs.map flatD)) := .tup h (dp_flats f)
theorem int_at {ns : List Int} {k : Int} (h0 : 0 ≤ k) (h : k < ((ns.map V.int).length : Int)) : ∃ c, atI (ns.map V.int) k = some (.int c) := by
  obtain ⟨j, rfl⟩ := Int.eq_ofNat_of_zero_le h0
  have hj : j < ns.length := by rw [List.length_map] at h; omega
  refine ⟨ns[j], atI_nat (j := j) ?_⟩
  rw [List.getElem?_map, List.getElem?_eq_getElem hj]
  rfl
/-- a new object -/
theorem w_new {m : Nat} {o : HO} (hm : m ≤ 100000) (k : ∀ p H2, H p = none → Ex H H2 → H2 p = some o → Q (.ref p) H2) : Alloc m o H Q :=
  ⟨sz_of hm, fun p hp => k p _ hp (Ex.new hp) upd_same⟩
/-- ifs over a known bool -/
theorem i_T {A B : Prop} (h : A) : if true = true then A else B := iteT h
theorem i_F {A B : Prop} (h : B) : if false = true then A else B := iteF h
theorem i_N {A B : Prop} {k : Bool} (h : if k = true then B else A) : if (!k) = true then A else B := by
  cases k
  · exact iteT (by rw [if_neg Bool.false_ne_true] at h; exact h)
  · exact iteF (by rw [if_pos rfl] at h; exact h)
theorem i_D {A B c : Prop} [Decidable c] (h1 : c → A) (h2 : ¬ c → B) : if decide c = true then A else B := by
  by_cases h : c
  · rw [decide_eq_true h]; exact iteT (h1 h)
  · rw [decide_eq_false h]; exact iteF (h2 h)
theorem i_R {A B : Prop} {α : Type} {x : α} [Decidable (x = x)] (h : A) : if decide (x = x) = true then A else B := by rw [decide_eq_true rfl]; exact iteT h
theorem i_DT {A B c : Prop} [Decidable c] (h : c) (h1 : A) : if decide c = true then A else B := by rw [decide_eq_true h]; exact iteT h1
theorem i_DF {A B c : Prop} [Decidable c] (h : ¬ c) (h1 : B) : if decide c = true then A else B := by rw [decide_eq_false h]; exact iteF h1
theorem i_B {A B : Prop} {k : Bool} (h1 : k = true → A) (h2 : k = false → B) : if k = true then A else B := by
  cases k
  · exact iteF (h2 rfl)
  · exact iteT (h1 rfl)
end
section
variable {σ : St} {H : Hp} {nx bk ct : St → Hp → Prop} {rt : VK} {t u : TS} {c : TT} {te : TE} {i : Nat} {K : PySem.W.Frag}
theorem m_norm {σ' : St} (e : σ = σ') (h : Sm t nx rt bk ct σ' H) : Sm t nx rt bk ct σ H := by rw [e]; exact h
theorem m_seq (h : Sm t (fun σ H => Sm u nx rt bk ct σ H) rt bk ct σ H) : Sm (tSeq t u) nx rt bk ct σ H := h
theorem m_cut (M : St → Hp → Prop) (h : Sm t M rt bk ct σ H) (k : ∀ σ H, M σ H → Sm u nx rt bk ct σ H) : Sm (tCut t u) nx rt bk ct σ H := ⟨M, h, k⟩
theorem m_asg (h : te σ H fun v H1 => nx (σ.set i (some v)) H1) : Sm (tAsg te (gName i)) nx rt bk ct σ H := h
theorem m_asgG {g : TG} (h : te σ H fun v H1 => g v σ H1 nx) : Sm (tAsg te g) nx rt bk ct σ H := h
theorem m_ret (h : te σ H rt) : Sm (tRet te) nx rt bk ct σ H := h
theorem m_retN (h : rt .non H) : Sm tRetN nx rt bk ct σ H := h
theorem m_drop (h : te σ H fun _ H1 => nx σ H1) : Sm (tDrop te) nx rt bk ct σ H := h
theorem m_next (h : nx σ H) : Sm tNext nx rt bk ct σ H := h
theorem m_brk (h : bk σ H) : Sm tBreak nx rt bk ct σ H := h
theorem m_cont (h : ct σ H) : Sm tCont nx rt bk ct σ H := h
theorem m_if (h : c σ H fun b H1 => if b = true then Sm t nx rt bk ct σ H1 else Sm u nx rt bk ct σ H1) : Sm (tIfS c t u) nx rt bk ct σ H := h
theorem m_fld {ta tv : TE} {f : Str} (h : tv σ H fun y H1 => ta σ H1 fun x H2 => PutOf K f y x H2 (nx σ)) : Sm (sFld K ta tv f) nx rt bk ct σ H := h
theorem m_aug {ti : TIp} {v : V} (hx : σ[i]? = some (some v)) (h : te σ H fun y H1 => ti v y H1 fun z H2 => nx (σ.set i (some z)) H2) : Sm (tAug i te ti) nx rt bk ct σ H := ⟨v, hx, h⟩
/-- o[i] = e over a list that stands in H by itself -/
theorem m_setL {p : Addr} {xs : List V} {k : Int} {j : Nat} {v : V} {Q : Hp → Prop} (h : H p = some (.lst xs)) (hj : ixN xs.length k = some j) (q : Q (upd H p (.lst (xs.set j v)))) : rSetL (.ref p) (.int k) v H Q := ⟨p, xs, k, j, rfl, rfl, h, hj, q⟩
theorem m_gsub {to ti : TE} {ts : TSet} {v : V} {Q : St → Hp → Prop} (h : to σ H fun o H1 => ti σ H1 fun i H2 => ts o i v H2 fun H3 => Q σ H3) : gSub to ti ts v σ H Q := h
/-- a loop over what J walks -/
def Fj (J : It) (g : TG) (t : TS) (nx : St → Hp → Prop) (rt : VK) (σ : St) (H : Hp) : Prop := ∃ W : Nat → Nat → St → Hp → Prop, (∃ m, W 0 m σ H) ∧ ∀ i m σ H, W i m σ H →
  (J.stop i H ∧ nx σ H) ∨ (J.go i H ∧ ∃ N : St → Hp → Prop, (∀ σ' H', N σ' H' → ∃ m', m' < m ∧ W (i + 1) m' σ' H') ∧ ∀ x H', J.yld i H x H' → g x σ H' fun σ2 H2 => t { nx := N, rt := rt, ct := N, bk := nx } σ2 H2)
theorem m_for {wi : TI} {g : TG} (h : wi σ H fun J H1 => Fj J g t nx rt σ H1) : Sm (tFor wi g t) nx rt bk ct σ H := h
theorem w_rng1 {tl : TA} {R : It → Hp → Prop} (h : tl σ H fun vs H1 => ∃ j : Int, vs = [.int j] ∧ -(2 ^ 62) ≤ j ∧ j < 2 ^ 62 ∧ R (Itr 0 j.toNat) H1) : iRng1 tl σ H R := h
theorem w_rng2 {tl : TA} {R : It → Hp → Prop} (h : tl σ H fun vs H1 => ∃ i j : Int, vs = [.int i, .int j] ∧ (-(2 ^ 62) ≤ i ∧ i < 2 ^ 62 ∧ -(2 ^ 62) ≤ j ∧ j < 2 ^ 62) ∧ R (Itr i (j - i).toNat) H1) : iRng2 tl σ H R := h
theorem w_itl {te : TE} {R : It → Hp → Prop} (h : te σ H fun x H1 => ∃ a, x = .ref a ∧ (∃ xs, SqL K H1 a xs) ∧ R (Itl K a) H1) : iList K te σ H R := h
theorem w_itt {te : TE} {R : It → Hp → Prop} (h : te σ H fun x H1 => ∃ a, x = .ref a ∧ (∃ xs, SqT K H1 a xs) ∧ R (Itt K a) H1) : iTup K te σ H R := h
theorem f_rng1 {j : Nat} {n : Int} (h0 : 0 ≤ n) (h1 : n ≤ 100000) (Pv : Nat → St → Hp → Prop) (p0 : Pv 0 σ H)
    (hs : ∀ (i : Nat) σ' H', (i : Int) < n → Pv i σ' H' → Sm t (Pv (i + 1)) rt nx (Pv (i + 1)) (σ'.set j (some (.int (i : Int)))) H') (hd : ∀ σ' H', Pv n.toNat σ' H' → nx σ' H') :
    ∃ k : Int, [V.int n] = [.int k] ∧ -(2 ^ 62) ≤ k ∧ k < 2 ^ 62 ∧ Fj (Itr 0 k.toNat) (gName j) t nx rt σ H := by
  refine ⟨n, rfl, by omega, by omega, for_range (D := ⟨nx, rt, nx, nx⟩) (lo := 0) (n := n.toNat) Pv p0 (fun i σ' H' hi p => ?_) hd⟩
  have e0 : (0 : Int) + (i : Int) = (i : Int) := Int.zero_add _
  show t { nx := Pv (i + 1), rt := rt, ct := Pv (i + 1), bk := nx } (σ'.set j (some (.int ((0 : Int) + (i : Int))))) H'
  rw [e0]
  exact hs i σ' H' (by omega) p
theorem f_rng2 {j : Nat} {lo n : Int} (h0 : -100000 ≤ lo ∧ lo ≤ 100000 ∧ -100000 ≤ n ∧ n ≤ 100000) (Pv : Nat → St → Hp → Prop) (p0 : Pv 0 σ H)
    (hs : ∀ (i : Nat) σ' H', lo + (i : Int) < n → Pv i σ' H' → Sm t (Pv (i + 1)) rt nx (Pv (i + 1)) (σ'.set j (some (.int (lo + (i : Int))))) H') (hd : ∀ σ' H', Pv (n - lo).toNat σ' H' → nx σ' H') :
    ∃ i k : Int, [V.int lo, V.int n] = [.int i, .int k] ∧ (-(2 ^ 62) ≤ i ∧ i < 2 ^ 62 ∧ -(2 ^ 62) ≤ k ∧ k < 2 ^ 62) ∧ Fj (Itr i (k - i).toNat) (gName j) t nx rt σ H :=
  ⟨lo, n, rfl, ⟨by omega, by omega, by omega, by omega⟩, for_range (D := ⟨nx, rt, nx, nx⟩) (lo := lo) (n := (n - lo).toNat) Pv p0 (fun i σ' H' hi p => hs i σ' H' (by omega) p) hd⟩
theorem f_list {g : TG} {a : Addr} {xs : List V} (hx : SqL K H a xs) (Pv : Nat → St → Hp → Prop) (p0 : Pv 0 σ H) (hl : ∀ i σ' H', i ≤ xs.length → Pv i σ' H' → SqL K H' a xs)
    (hs : ∀ i x σ' H', xs[i]? = some x → Pv i σ' H' → g x σ' H' fun σ2 H2 => Sm t (Pv (i + 1)) rt nx (Pv (i + 1)) σ2 H2) (hd : ∀ σ' H', Pv xs.length σ' H' → nx σ' H') :
    ∃ b, V.ref a = .ref b ∧ (∃ ys, SqL K H b ys) ∧ Fj (Itl K b) g t nx rt σ H := ⟨a, rfl, ⟨xs, hx⟩, for_list (D := ⟨nx, rt, nx, nx⟩) Pv p0 hl hs hd⟩
theorem f_tup {g : TG} {a : Addr} {xs : List V} (hx : SqT K H a xs) (Pv : Nat → St → Hp → Prop) (p0 : Pv 0 σ H) (hl : ∀ i σ' H', i ≤ xs.length → Pv i σ' H' → SqT K H' a xs)
    (hs : ∀ i x σ' H', xs[i]? = some x → Pv i σ' H' → g x σ' H' fun σ2 H2 => Sm t (Pv (i + 1)) rt nx (Pv (i + 1)) σ2 H2) (hd : ∀ σ' H', Pv xs.length σ' H' → nx σ' H') :
    ∃ b, V.ref a = .ref b ∧ (∃ ys, SqT K H b ys) ∧ Fj (Itt K b) g t nx rt σ H := ⟨a, rfl, ⟨xs, hx⟩, for_tup (D := ⟨nx, rt, nx, nx⟩) Pv p0 hl hs hd⟩
/-- a turn of a while -/
def Turn (W : Nat → St → Hp → Prop) (m : Nat) (t : TS) (nx : St → Hp → Prop) (rt : VK) (σ : St) (H : Hp) : Prop := ∃ N : St → Hp → Prop, (∀ σ' H', N σ' H' → ∃ m', m' < m ∧ W m' σ' H') ∧ t ⟨N, rt, nx, N⟩ σ H
theorem turn_go {W : Nat → St → Hp → Prop} {m : Nat} (h : Sm t (fun σ' H' => ∃ m', m' < m ∧ W m' σ' H') rt nx (fun σ' H' => ∃ m', m' < m ∧ W m' σ' H') σ H) : Turn W m t nx rt σ H := ⟨_, fun _ _ h => h, h⟩
theorem m_whileT (W : Nat → St → Hp → Prop) (m0 : Nat) (h0 : W m0 σ H) (hs : ∀ m σ' H', W m σ' H' → c σ' H' fun b H1 => if b = true then Turn W m t nx rt σ' H1 else nx σ' H1) : Sm (tWhile c t) nx rt bk ct σ H := ⟨W, ⟨m0, h0⟩, hs⟩
theorem m_while (W : Nat → St → Hp → Prop) (m0 : Nat) (h0 : W m0 σ H)
    (hs : ∀ m σ' H', W m σ' H' → c σ' H' fun b H1 => if b = true then Sm t (fun σ2 H2 => ∃ m', m' < m ∧ W m' σ2 H2) rt nx (fun σ2 H2 => ∃ m', m' < m ∧ W m' σ2 H2) σ' H1 else nx σ' H1)
    (mono : ∀ σ H (A B : Bool → Hp → Prop), (∀ b H, A b H → B b H) → c σ H A → c σ H B) : Sm (tWhile c t) nx rt bk ct σ H := by
  refine ⟨W, ⟨m0, h0⟩, fun m σ' H' hw => mono _ _ _ _ (fun b H1 h => ?_) (hs m σ' H' hw)⟩
  cases b
  · exact iteF (by rw [if_neg Bool.false_ne_true] at h; exact h)
  · refine iteT ⟨fun σ2 H2 => ∃ m', m' < m ∧ W m' σ2 H2, fun _ _ n => n, ?_⟩
    rw [if_pos rfl] at h
    exact h
end
theorem divW {i j : Int} (h : 0 < j) (hb : j < 2 ^ 250) : CDivW i j := wide_div (b := 250) h (by omega) (by decide) (by decide)
/-- a written tuple of texts and ints -/
def KTup (K : PySem.W.Frag) (a : Addr) (xs : List V) : Prop := ∃ (o : Obj) (its : Array Value) (n : Nat), K.lookup a = some o ∧ o.cls = .type "tuple" ∧ o.data = .seq its n ∧ its.size ≤ sizeLine ∧ Vals xs its.toList
def relB : V → Value → Bool
  | .int i, .int j _ => i == j
  | .str x, .str y _ => x == y
  | _, _ => false
def relsB : List V → List Value → Bool
  | [], [] => true
  | x :: xs, u :: us => relB x u && relsB xs us
  | _, _ => false
def tupB (o : Obj) (xs : List V) : Bool := (match o.cls with | .type t => t == "tuple" | _ => false) && match o.data with | .seq its _ => decide (its.size ≤ sizeLine) && relsB xs its.toList | _ => false
theorem relB_of : ∀ {x : V} {u : Value}, relB x u = true → RelV x u
  | .int i, .int j t, h => by
    have e : i = j := eq_of_beq h
    exact ⟨t, by rw [e]⟩
  | .str i, .str j t, h => by
    have e : i = j := eq_of_beq h
    exact ⟨t, by rw [e]⟩
theorem relsB_of : ∀ {xs : List V} {us : List Value}, relsB xs us = true → Vals xs us
  | [], [], _ => .nil
  | x :: xs, u :: us, h => by
    unfold relsB at h
    rw [Bool.and_eq_true] at h
    exact .cons (relB_of h.1) (relsB_of h.2)
theorem ktup_of {K : PySem.W.Frag} {a : Addr} {o : Obj} {xs : List V} (h : K.lookup a = some o) (t : tupB o xs = true) : KTup K a xs := by
  unfold tupB at t
  rw [Bool.and_eq_true] at t
  obtain ⟨t1, t2⟩ := t
  obtain ⟨cls, dd, data, sl⟩ := o
  cases data with
  | seq its n =>
    simp only [Bool.and_eq_true, decide_eq_true_eq] at t2
    cases cls with
    | type c =>
      have e : c = "tuple" := eq_of_beq t1
      subst e
      exact ⟨_, its, n, h, rfl, rfl, t2.1, relsB_of t2.2⟩
    | _ => cases t1
  | _ => cases t2
theorem KTup.sq {K : PySem.W.Frag} {a : Addr} {xs : List V} (h : KTup K a xs) (H : Hp) : SqT K H a xs := Or.inr h
theorem ok_body {X : Cx} {body : List Stmt} {t : TS} {Q : VK} {σ σ0 : St} {H : Hp} (h : PSs X body t) (e : σ0 = σ) (q : Sm t (fun _ H' => Q .non H') Q (fun _ _ => False) (fun _ _ => False) σ H) :
    ∃ t : TS, PSs X body t ∧ t { nx := fun _ H' => Q .non H', rt := Q } σ0 H := ⟨t, h, by subst e; exact q⟩
/-- all but one object as it was -/
def ExBut (p : Addr) (H H' : Hp) : Prop := ∀ b o, b ≠ p → H b = some o → H' b = some o
theorem ExBut.ex {p : Addr} {H0 H H' : Hp} (e : Ex H0 H) (h : H0 p = none) (m : ExBut p H H') : Ex H0 H' := fun b o hb => m b o (ne_of_none hb h) (e b o hb)
theorem ExBut.refl (p : Addr) (H : Hp) : ExBut p H H := fun _ _ _ h => h
theorem ExBut.trans {p : Addr} {H H1 H2 : Hp} (a : ExBut p H H1) (b : ExBut p H1 H2) : ExBut p H H2 := fun c o n h => b c o n (a c o n h)
theorem ExBut.of {p : Addr} {H H' : Hp} (e : Ex H H') : ExBut p H H' := fun b o _ h => e b o h
theorem ExBut.upd {p : Addr} {H H' : Hp} {o : HO} (e : ExBut p H H') : ExBut p H (upd H' p o) := fun b u n h => by rw [upd_ne n]; exact e b u n h
theorem ex_snoc {H H1 H2 : Hp} (b : Ex H1 H2) (a : Ex H H1) : Ex H H2 := a.trans b
theorem but_snoc {p : Addr} {H H1 H2 : Hp} (b : ExBut p H1 H2) (a : ExBut p H H1) : ExBut p H H2 := a.trans b
theorem but_snocE {p : Addr} {H H1 H2 : Hp} (b : Ex H1 H2) (a : ExBut p H H1) : ExBut p H H2 := a.trans (.of b)
theorem w_put {K : PySem.W.Frag} {H : Hp} {a C dx : Addr} {fs fs' : List (Str × V)} {f : Str} {y : V} {R : Hp → Prop} (h : H a = some (.ins C dx fs)) (cl : Cls K C) (n : NoAttr K C f) (hl : fs.length < 1000) (e : putF f y fs = fs') (q : ∀ H2, ExBut a H H2 → H2 a = some (.ins C dx fs') → R H2) : PutOf K f y (.ref a) H R :=
  ⟨a, C, dx, fs, rfl, h, cl, n, hl, q _ (ExBut.upd (ExBut.refl a H)) (by rw [e]; exact upd_same)⟩
theorem ex_but {p : Addr} {H0 H H' : Hp} (m : ExBut p H H') (h : H0 p = none) (e : Ex H0 H) : Ex H0 H' := ExBut.ex e h m
theorem but_get {p a : Addr} {H H' : Hp} {o : HO} (m : ExBut p H H') (n : a ≠ p) (h : H a = some o) : H' a = some o := m a o n h
theorem w_setL {p : Addr} {xs ys : List V} {k : Int} {j : Nat} {v : V} {H : Hp} {Q : Hp → Prop} (h : H p = some (.lst xs)) (hj : ixN xs.length k = some j) (e : xs.set j v = ys) (q : ∀ H2, ExBut p H H2 → H2 p = some (.lst ys) → Q H2) : rSetL (.ref p) (.int k) v H Q :=
  ⟨p, xs, k, j, rfl, rfl, h, hj, q _ (ExBut.upd (ExBut.refl p H)) (by rw [e]; exact upd_same)⟩
theorem ex_get {H1 H2 : Hp} {a : Addr} {o : HO} (e : Ex H1 H2) (h : H1 a = some o) : H2 a = some o := e a o h
theorem small {n m : Nat} (h : n ≤ m) (hm : m ≤ 1000) : n ≤ 1000 := Nat.le_trans h hm
end Kit

namespace Kit
open PySem PySem.Spec PyProof.Rows L2 Evl
/-! ### the walk by words: "wp" goes as far as it can, "wp1" one step; "hp": what stands at an address; "sq": a list, a tuple is there; "side": a side condition -/
end Kit

namespace Kit
open PySem PySem.Spec PyProof.Rows L2 Evl
/-! ### comprehensions -/
def Lcj (J : It) (g : TG) (tt : TT) (te : TE) (vs : List Nat) (σ : St) (H1 : Hp) (Q : VK) : Prop := ∀ D, H1 D = none → ∃ W : Nat → Nat → Hp → Prop, (∃ m, W 0 m (upd H1 D (.lst []))) ∧ ∀ i m H, W i m H →
  (J.stop i H ∧ Q (.ref D) H) ∨ (J.go i H ∧ ∃ Nx : Hp → Prop, (∀ H', Nx H' → ∃ m', m' < m ∧ W (i + 1) m' H') ∧ ∀ x H', J.yld i H x H' → g x (wipe σ vs) H' fun σ2 H2 => wipe σ2 vs = wipe σ vs ∧ tt σ2 H2 fun b H3 =>
    if b = true then te σ2 H3 fun y H4 => ∃ acc, H4 D = some (.lst acc) ∧ acc.length < sizeLine ∧ Nx (upd H4 D (.lst (acc ++ [y]))) else Nx H3)
section
variable {σ : St} {H : Hp} {Q : VK} {j : Nat} {vs : List Nat} {te : TE} {tt : TT} {K : PySem.W.Frag}
theorem w_lc {wi : TI} {g : TG} {tt : TT} (h : wi σ H fun J H1 => Lcj J g tt te vs σ H1 Q) : tLc wi g tt te vs σ H Q := h
theorem w_rng3 {tl : TA} {R : It → Hp → Prop} (h : tl σ H fun vs H1 => ∃ (i j c : Int) (n : Nat), vs = [.int i, .int j, .int c] ∧ RgC i j c n ∧ R (Itc i c n) H1) : iRng3 tl σ H R := h
/-- what J walks, while S stands -/
structure Walks (J : It) (n : Nat) (x : Nat → V) (S : Hp → Prop) : Prop where
  stop : ∀ H, S H → J.stop n H
  go : ∀ i H, S H → i < n → J.go i H
  yld : ∀ i H y H', S H → i < n → J.yld i H y H' → H' = H ∧ y = x i
theorem walks_rng {lo : Int} {n : Nat} : Walks (Itr lo n) n (fun i => .int (lo + i)) (fun _ => True) := ⟨fun _ _ => Nat.le_refl n, fun _ _ _ h => h, fun _ _ _ _ _ _ h => h⟩
theorem walks_rngC {lo c : Int} {n : Nat} : Walks (Itc lo c n) n (fun i => .int (lo + (i : Nat) * c)) (fun _ => True) := ⟨fun _ _ => Nat.le_refl n, fun _ _ _ h => h, fun _ _ _ _ _ _ h => h⟩
theorem walks_list {a : Addr} {xs : List V} : Walks (Itl K a) xs.length (fun i => (xs[i]?).getD .non) (fun H => SqL K H a xs) := by
  refine ⟨fun H h => ⟨xs, h, Nat.le_refl _⟩, fun i H h hi => ⟨xs, xs[i], h, List.getElem?_eq_getElem hi⟩, fun i H y H' h hi hy => ⟨hy.1, ?_⟩⟩
  rw [hy.2 xs h]
  rfl
theorem walks_tup {a : Addr} {xs : List V} : Walks (Itt K a) xs.length (fun i => (xs[i]?).getD .non) (fun H => SqT K H a xs) := by
  refine ⟨fun H h => ⟨xs, h, Nat.le_refl _⟩, fun i H h hi => ⟨xs, xs[i], h, List.getElem?_eq_getElem hi⟩, fun i H y H' h hi hy => ⟨hy.1, ?_⟩⟩
  rw [hy.2 xs h]
  rfl
/-- any turn's word: Iv by the new list's address, the turn, what it holds -/
theorem l_any {J : It} {n : Nat} {x : Nat → V} {S : Hp → Prop} (w : Walks J n x S) (hn : n ≤ 40000) (hw : ∀ v, wipe ((wipe σ vs).set j (some v)) vs = wipe σ vs)
    (Iv : Addr → Nat → List V → Hp → Prop) (hS : ∀ D i acc H', Iv D i acc H' → S H') (h0 : ∀ D, H D = none → Iv D 0 [] (upd H D (.lst [])))
    (he : ∀ D i acc H', H D = none → i < n → acc.length ≤ i → H' D = some (.lst acc) → Iv D i acc H' → ∀ R : Bool → Hp → Prop, (∀ H2, H2 D = some (.lst acc) → Iv D (i + 1) acc H2 → R false H2) →
      (∀ H2, (∀ R2 : VK, (∀ y H3, H3 D = some (.lst acc) → Iv D (i + 1) (acc ++ [y]) (upd H3 D (.lst (acc ++ [y]))) → R2 y H3) → te ((wipe σ vs).set j (some (x i))) H2 R2) → R true H2) → tt ((wipe σ vs).set j (some (x i))) H' R)
    (q : ∀ D acc H2, H D = none → acc.length ≤ n → H2 D = some (.lst acc) → Iv D n acc H2 → Q (.ref D) H2) : Lcj J (gName j) tt te vs σ H Q := by
  intro D hD
  refine ⟨fun i m H' => i ≤ n ∧ m = n - i ∧ ∃ acc, acc.length ≤ i ∧ H' D = some (.lst acc) ∧ Iv D i acc H', ⟨n, Nat.zero_le _, by omega, [], Nat.le_refl 0, upd_same, h0 D hD⟩, fun i m H' ⟨hi, hm, acc, ha, hd, iv⟩ => ?_⟩
  by_cases hlt : i < n
  · refine .inr ⟨w.go i H' (hS _ _ _ _ iv) hlt, fun H'' => ∃ acc, acc.length ≤ i + 1 ∧ H'' D = some (.lst acc) ∧ Iv D (i + 1) acc H'', fun H'' h => ⟨n - (i + 1), by omega, by omega, rfl, h⟩, fun y H'' hy => ?_⟩
    obtain ⟨rfl, rfl⟩ := w.yld i H' y H'' (hS _ _ _ _ iv) hlt hy
    refine ⟨hw _, ?_⟩
    refine he D i acc H'' hD hlt ha hd iv _ (fun H2 h2 iv2 => ?_) fun H2 h => ?_
    · exact iteF ⟨acc, by omega, h2, iv2⟩
    · refine iteT (h _ fun v H3 h3 iv3 => ?_)
      exact ⟨acc, h3, sz_lt (by omega), acc ++ [v], by rw [List.length_append]; exact Nat.succ_le_succ ha, upd_same, iv3⟩
  · have e : i = n := by omega
    subst e
    exact .inl ⟨w.stop H' (hS _ _ _ _ iv), q D acc H' hD ha hd iv⟩
/-- items that only make new objects, no test: Pe says what the i-th is -/
theorem l_grow {J : It} {n : Nat} {x : Nat → V} {S : Hp → Prop} (w : Walks J n x S) (hn : n ≤ 40000) (hw : ∀ v, wipe ((wipe σ vs).set j (some v)) vs = wipe σ vs)
    (s0 : S H) (sm : ∀ H1 H2, Ex H1 H2 → S H1 → S H2) (Pe : Addr → Nat → V → Hp → Prop) (pm : ∀ D i v H1 H2, ExBut D H1 H2 → Pe D i v H1 → Pe D i v H2)
    (he : ∀ D i acc H', H D = none → i < n → Ex H H' → H' D = some (.lst acc) → ∀ R : VK, (∀ v H2, Ex H' H2 → Pe D i v H2 → R v H2) → te ((wipe σ vs).set j (some (x i))) H' R)
    (q : ∀ D ys H2, H D = none → Ex H H2 → H2 D = some (.lst ys) → ys.length = n → (∀ i y, ys[i]? = some y → Pe D i y H2) → Q (.ref D) H2) : Lcj J (gName j) tYes te vs σ H Q := by
  refine l_any w hn hw (fun D i acc H' => H D = none ∧ Ex H H' ∧ acc.length = i ∧ ∀ k y, acc[k]? = some y → Pe D k y H') (fun D i acc H' h => sm _ _ h.2.1 s0) (fun D hD => ⟨hD, Ex.new hD, rfl, fun k y h => by simp at h⟩) ?_ ?_
  · intro D i acc H' hD hi ha hd ⟨_, e, hl, hp⟩ R r1 r2
    refine r2 H' fun R2 r => ?_
    refine he D i acc H' hD hi e hd R2 fun v H2 e2 pv => ?_
    have m1 : ExBut D H' (upd H2 D (.lst (acc ++ [v]))) := ExBut.upd (.of e2)
    have m2 : ExBut D H2 (upd H2 D (.lst (acc ++ [v]))) := ExBut.upd (.refl D H2)
    refine r v H2 (e2 D _ hd) ⟨hD, ExBut.ex e hD m1, by rw [List.length_append, hl]; rfl, fun k y hk => ?_⟩
    by_cases h : k < acc.length
    · rw [List.getElem?_append_left h] at hk
      exact pm D k y _ _ m1 (hp k y hk)
    · have hlen : k < (acc ++ [v]).length := (List.getElem?_eq_some_iff.mp hk).1
      rw [List.length_append] at hlen
      have e : k = acc.length := by simp at hlen; omega
      rw [e, List.getElem?_concat_length] at hk
      cases hk
      rw [e, hl]
      exact pm D i v _ _ m2 pv
  · intro D acc H2 hD _ hd ⟨_, e, hl, hp⟩
    exact q D acc H2 hD e hd hl hp
theorem eq_map {ys : List V} {n : Nat} {v : Nat → V} (hl : ys.length = n) (h : ∀ i y, ys[i]? = some y → y = v i) : ys = (List.range n).map v := by
  apply List.ext_getElem?
  intro i
  by_cases hi : i < n
  · rw [List.getElem?_map, List.getElem?_range hi, List.getElem?_eq_getElem (by omega)]
    exact congrArg some (h i _ (List.getElem?_eq_getElem (by omega)))
  · rw [List.getElem?_eq_none (by omega), List.getElem?_eq_none (by rw [List.length_map, List.length_range]; omega)]
/-- items that are told: the i-th is v i -/
theorem l_val {J : It} {n : Nat} {x : Nat → V} {S : Hp → Prop} (w : Walks J n x S) (hn : n ≤ 40000) (hw : ∀ v, wipe ((wipe σ vs).set j (some v)) vs = wipe σ vs)
    (s0 : S H) (sm : ∀ H1 H2, Ex H1 H2 → S H1 → S H2) (v : Nat → V)
    (he : ∀ i H', i < n → Ex H H' → ∀ R : VK, (∀ H2, Ex H' H2 → R (v i) H2) → te ((wipe σ vs).set j (some (x i))) H' R)
    (q : ∀ p H2, H p = none → Ex H H2 → H2 p = some (.lst ((List.range n).map v)) → Q (.ref p) H2) : Lcj J (gName j) tYes te vs σ H Q :=
  l_grow w hn hw s0 sm (fun _ i y _ => y = v i) (fun _ _ _ _ _ _ h => h) (fun D i acc H' hD hi e hd R r => he i H' hi e R fun H2 e2 => r _ H2 e2 rfl)
    fun D ys H2 hD e hd hl hp => q D H2 hD e (by rw [hd, eq_map hl hp])
/-- over range(n) -/
theorem l_rng1 {n : Int} (h0 : 0 ≤ n) (hn : n ≤ 40000) (hw : ∀ v, wipe ((wipe σ vs).set j (some v)) vs = wipe σ vs) (v : Nat → V)
    (he : ∀ (i : Nat) H', (i : Int) < n → Ex H H' → ∀ R : VK, (∀ H2, Ex H' H2 → R (v i) H2) → te ((wipe σ vs).set j (some (.int (i : Int)))) H' R)
    (q : ∀ p H2, H p = none → Ex H H2 → H2 p = some (.lst ((List.range n.toNat).map v)) → Q (.ref p) H2) :
    ∃ k : Int, [V.int n] = [.int k] ∧ -(2 ^ 62) ≤ k ∧ k < 2 ^ 62 ∧ Lcj (Itr 0 k.toNat) (gName j) tYes te vs σ H Q :=
  ⟨n, rfl, by omega, by omega, l_val walks_rng (by omega) hw trivial (fun _ _ _ h => h) v (fun i H' hi e R r => by
    have e0 : (0 : Int) + (i : Int) = (i : Int) := Int.zero_add _
    show te ((wipe σ vs).set j (some (.int (0 + (i : Int))))) H' R
    rw [e0]
    exact he i H' (by omega) e R r) q⟩
/-- over range(0, n, 2) -/
theorem l_rng2 {n : Int} {m : Nat} (h0 : n = 2 * m) (hn : m ≤ 40000) (hw : ∀ v, wipe ((wipe σ vs).set j (some v)) vs = wipe σ vs) (v : Nat → V)
    (he : ∀ (i : Nat) H', i < m → Ex H H' → ∀ R : VK, (∀ H2, Ex H' H2 → R (v i) H2) → te ((wipe σ vs).set j (some (.int (2 * (i : Int))))) H' R)
    (q : ∀ p H2, H p = none → Ex H H2 → H2 p = some (.lst ((List.range m).map v)) → Q (.ref p) H2) :
    ∃ (a b c : Int) (k : Nat), [V.int 0, V.int n, V.int 2] = [.int a, .int b, .int c] ∧ RgC a b c k ∧ Lcj (Itc a c k) (gName j) tYes te vs σ H Q := by
  have hr : RgC 0 n 2 m := by
    refine ⟨by decide, by decide, ?_, ?_⟩
    · subst h0
      unfold Builtin.Range.small Builtin.Range.rangeSize
      rw [if_pos (show (2 : Int) > 0 by decide), if_pos (show (2 : Int) > 0 by decide)]
      have hf : ∀ x : Int, 0 ≤ x → x ≤ 100000 → Builtin.Range.rangeFitsLong x = true := fun x h1 h2 => by
        unfold Builtin.Range.rangeFitsLong
        simp only [Bool.and_eq_true, decide_eq_true_eq]
        omega
      have h3 : (0 : Int) ≤ (if (0 : Int) < 2 * (m : Int) then (2 * (m : Int) - 0 - 1) / 2 + 1 else 0) ∧ (if (0 : Int) < 2 * (m : Int) then (2 * (m : Int) - 0 - 1) / 2 + 1 else 0) ≤ 100000 := by split <;> omega
      rw [hf 0 (by omega) (by omega), hf (2 * (m : Int)) (by omega) (by omega), hf 2 (by omega) (by omega), hf _ h3.1 h3.2, hf (2 * (m : Int) + (2 - 1)) (by omega) (by omega)]
      simp
    · subst h0
      unfold Builtin.Range.rangeSize
      split <;> omega
  refine ⟨0, n, 2, m, rfl, hr, l_val walks_rngC hn hw trivial (fun _ _ _ h => h) v (fun i H' hi e R r => ?_) q⟩
  have e0 : (0 : Int) + (i : Int) * 2 = 2 * (i : Int) := by omega
  show te ((wipe σ vs).set j (some (.int (0 + (i : Int) * 2)))) H' R
  rw [e0]
  exact he i H' hi e R r
/-- over a list -/
theorem l_list {a : Addr} {xs : List V} (hx : SqL K H a xs) (hn : xs.length ≤ 40000) (hw : ∀ v, wipe ((wipe σ vs).set j (some v)) vs = wipe σ vs) (v : Nat → V)
    (he : ∀ (i : Nat) x H', xs[i]? = some x → Ex H H' → ∀ R : VK, (∀ H2, Ex H' H2 → R (v i) H2) → te ((wipe σ vs).set j (some x)) H' R)
    (q : ∀ p H2, H p = none → Ex H H2 → H2 p = some (.lst ((List.range xs.length).map v)) → Q (.ref p) H2) :
    ∃ b, V.ref a = .ref b ∧ (∃ ys, SqL K H b ys) ∧ Lcj (Itl K b) (gName j) tYes te vs σ H Q :=
  ⟨a, rfl, ⟨xs, hx⟩, l_val walks_list hn hw hx (fun _ _ e h => ex_l e h) v (fun i H' hi e R r => by
    have z : xs[i]? = some xs[i] := List.getElem?_eq_getElem hi
    show te ((wipe σ vs).set j (some ((xs[i]?).getD .non))) H' R
    rw [z]
    exact he i xs[i] H' z e R r) q⟩
theorem l_tup {a : Addr} {xs : List V} (hx : SqT K H a xs) (hn : xs.length ≤ 40000) (hw : ∀ v, wipe ((wipe σ vs).set j (some v)) vs = wipe σ vs) (v : Nat → V)
    (he : ∀ (i : Nat) x H', xs[i]? = some x → Ex H H' → ∀ R : VK, (∀ H2, Ex H' H2 → R (v i) H2) → te ((wipe σ vs).set j (some x)) H' R)
    (q : ∀ p H2, H p = none → Ex H H2 → H2 p = some (.lst ((List.range xs.length).map v)) → Q (.ref p) H2) :
    ∃ b, V.ref a = .ref b ∧ (∃ ys, SqT K H b ys) ∧ Lcj (Itt K b) (gName j) tYes te vs σ H Q :=
  ⟨a, rfl, ⟨xs, hx⟩, l_val walks_tup hn hw hx (fun _ _ e h => ex_t e h) v (fun i H' hi e R r => by
    have z : xs[i]? = some xs[i] := List.getElem?_eq_getElem hi
    show te ((wipe σ vs).set j (some ((xs[i]?).getD .non))) H' R
    rw [z]
    exact he i xs[i] H' z e R r) q⟩
end
end Kit

namespace Kit
open PySem PySem.Spec PyProof.Rows L2 Evl
/-! ### the rules that speak of the written part, with it named -/
section
variable (K : PySem.W.Frag) {X : Cx}
theorem ixL (h : X.K = K := by rfl) : IxR X (rIxL K) := h ▸ ix_list
theorem ixT (h : X.K = K := by rfl) : IxR X (rIxT K) := h ▸ ix_tup
theorem kLen (h : X.K = K := by rfl) : CallR X (.builtin "len") (rLenS K) := h ▸ call_len_seq
theorem kList (h : X.K = K := by rfl) : CallR X (.type "list") (rListS K) := h ▸ call_list_of
theorem kTuple (h : X.K = K := by rfl) : CallR X (.type "tuple") (rTupS K) := h ▸ call_tuple_of
theorem kIn (h : X.K = K := by rfl) : OpR X (compareOp .In) (rIn K false) := h ▸ op_in_seq
theorem kNotIn (h : X.K = K := by rfl) : OpR X (compareOp .NotIn) (rIn K true) := h ▸ op_notIn_seq
theorem kEqD (hu : X.A.units + 64 < cLine) (h : X.K = K := by rfl) : OpR X (compareOp .Eq) (rEqD K) := h ▸ op_eqD hu
theorem kNeD (hu : X.A.units + 64 < cLine) (h : X.K = K := by rfl) : OpR X (compareOp .NotEq) (rNeD K) := h ▸ op_neD hu
theorem kCat (h : X.K = K := by rfl) : OpR X (binaryOp .Add) (rCatA K) := h ▸ op_catA
theorem kRepT (h : X.K = K := by rfl) : OpR X (binaryOp .Mult) (rRepT K) := h ▸ op_repT
theorem kSlL (h : X.K = K := by rfl) : SlR X (rSlL K) := h ▸ sl_list
theorem kSlT (h : X.K = K := by rfl) : SlR X (rSlA K) := h ▸ sl_tupA
theorem kIsi (h : X.K = K := by rfl) : CallR X (.builtin "isinstance") (rIsi K) := h ▸ call_isi
theorem kFld {e : Expr} {ta : TE} {f : Str} {pos : Pos} (he : PE X e ta) (hb : attributeBase e f X.env (eval e X.env) = eval e X.env) (h : X.K = K := by rfl) : PE X (.Attribute e f pos) (tFld K ta f) := h ▸ pe_fld he hb
theorem kSet {o value : Expr} {ta tv : TE} {f : Str} {pos pos' : Pos} (ha : PE X o ta) (hv : PE X value tv) (hs : swapsWith value (some (.Attribute o f pos')) pos.line X.env = pure false) (h : X.K = K := by rfl) : PS X (.Assign [.Attribute o f pos'] value pos) (sFld K ta tv f) := h ▸ ps_fld ha hv hs
theorem kpList {tg l : Expr} {tl : TE} (hl : PE X l tl) (h : X.K = K := by rfl) : PI X tg l (iList K tl) := h ▸ pi_list hl
theorem kpTup {tg l : Expr} {tl : TE} (hl : PE X l tl) (h : X.K = K := by rfl) : PI X tg l (iTup K tl) := h ▸ pi_tup hl
theorem kgTup {es : List Expr} {k : Nat} {t : TGs} {n : Nat} {pos : Pos} (hc : X.calm = true) (hg : PGs X es t) (hn : (assignEach es X.env).length = n := by rfl) (hst : (assignEach es X.env).findIdx? (·.1) = none := by rfl) (h : X.K = K := by rfl) : PG X (.Tuple es k pos) (gTup K n t) := h ▸ pg_tup hc hg hn hst
end
end Kit

namespace Kit
open PySem PySem.Spec PyProof.Rows L2 Evl
/-! ### == of data -/
def isFlN : V → Bool
  | .non | .bl _ | .int _ => true
  | _ => false
theorem fln_fl : ∀ {vs : List V}, vs.all isFlN = true → vs.all isFl = true
  | [], _ => rfl
  | v :: vs, h => by
    rw [List.all_cons, Bool.and_eq_true] at h ⊢
    refine ⟨?_, fln_fl h.2⟩
    cases v <;> first | rfl | cases h.1
theorem flats_ok : ∀ {vs : List V}, vs.all isFlN = true → PyData.canLayAll0 (vs.map flatD) = true ∧ PyData.depthAll (vs.map flatD) = 0
  | [], _ => ⟨rfl, rfl⟩
  | v :: vs, h => by
    rw [List.all_cons, Bool.and_eq_true] at h
    obtain ⟨h1, h2⟩ := flats_ok h.2
    have h3 : (flatD v).canLay0 = true ∧ PyData.depth (flatD v) = 0 := by
      cases v <;> first | (cases h.1; done) | exact ⟨by simp [flatD, PyData.canLay0], by simp [flatD, PyData.depth]⟩
    rw [List.map_cons, PyData.canLayAll0, PyData.depthAll, h1, h2, h3.1, h3.2]
    exact ⟨rfl, rfl⟩
theorem shaped_tup {vs : List V} (h : vs.all isFlN = true) : SeqAt.shaped (.tuple (vs.map flatD)) = true := by
  obtain ⟨h1, h2⟩ := flats_ok h
  unfold SeqAt.shaped
  rw [PyData.canLay0, PyData.depth, h1, h2]
  rfl
theorem shaped_lst {vs : List V} (h : vs.all isFlN = true) : SeqAt.shaped (.list (vs.map flatD)) = true := by
  obtain ⟨h1, h2⟩ := flats_ok h
  unfold SeqAt.shaped
  rw [PyData.canLay0, PyData.depth, h1, h2]
  rfl
theorem ints_fln : ∀ r : List Int, (r.map V.int).all isFlN = true
  | [] => rfl
  | _ :: r => by
    rw [List.map_cons, List.all_cons, ints_fln r]
    rfl
theorem eqvAll_ints : ∀ r s : List Int, PyData.eqvAll ((r.map V.int).map flatD) ((s.map V.int).map flatD) = decide (r = s)
  | [], [] => by simp [PyData.eqvAll]
  | [], _ :: _ => by simp [PyData.eqvAll]
  | _ :: _, [] => by simp [PyData.eqvAll]
  | x :: r, y :: s => by
    show PyData.eqvAll (.int x :: (r.map V.int).map flatD) (.int y :: (s.map V.int).map flatD) = _
    rw [PyData.eqvAll, eqvAll_ints r s]
    by_cases h : x = y
    · subst h
      simp [PyData.eqv]
    · simp [PyData.eqv, h]
section
variable {H : Hp} {Q : VK} {K : PySem.W.Frag} {a b : Addr} {r s : List Int}
theorem w_neTT (h1 : SqT K H a (r.map V.int)) (h2 : SqT K H b (s.map V.int)) (q : Q (.bl (!decide (r = s))) H) : rNeD K (.ref a) (.ref b) H Q :=
  w_neD (dp_tup h1 (fln_fl (ints_fln r))) (dp_tup h2 (fln_fl (ints_fln s))) (shaped_tup (ints_fln r)) (shaped_tup (ints_fln s)) (by rw [PyData.eqv, eqvAll_ints]; exact q)
theorem w_eqTT (h1 : SqT K H a (r.map V.int)) (h2 : SqT K H b (s.map V.int)) (q : Q (.bl (decide (r = s))) H) : rEqD K (.ref a) (.ref b) H Q :=
  w_eqD (dp_tup h1 (fln_fl (ints_fln r))) (dp_tup h2 (fln_fl (ints_fln s))) (shaped_tup (ints_fln r)) (shaped_tup (ints_fln s)) (by rw [PyData.eqv, eqvAll_ints]; exact q)
theorem w_neLL (h1 : SqL K H a (r.map V.int)) (h2 : SqL K H b (s.map V.int)) (q : Q (.bl (!decide (r = s))) H) : rNeD K (.ref a) (.ref b) H Q :=
  w_neD (dp_lst h1 (fln_fl (ints_fln r))) (dp_lst h2 (fln_fl (ints_fln s))) (shaped_lst (ints_fln r)) (shaped_lst (ints_fln s)) (by rw [PyData.eqv, eqvAll_ints]; exact q)
theorem w_eqLL (h1 : SqL K H a (r.map V.int)) (h2 : SqL K H b (s.map V.int)) (q : Q (.bl (decide (r = s))) H) : rEqD K (.ref a) (.ref b) H Q :=
  w_eqD (dp_lst h1 (fln_fl (ints_fln r))) (dp_lst h2 (fln_fl (ints_fln s))) (shaped_lst (ints_fln r)) (shaped_lst (ints_fln s)) (by rw [PyData.eqv, eqvAll_ints]; exact q)
end
end Kit
namespace Kit
open PySem PySem.Spec PyProof.Rows L2 Evl
/-! ### steps of the walk that ask nothing: found by the goal's head -/
class Step (G : Prop) (G' : outParam Prop) : Prop where
  go : G' → G
theorem step {G G' : Prop} [h : Step G G'] (x : G') : G := h.go x
class GetN (l : St) (i : Nat) (v : outParam V) : Prop where
  eq : l[i]? = some (some v)
class SetN (l : St) (i : Nat) (f : outParam (V → St)) : Prop where
  eq : ∀ v, l.set i (some v) = f v
section
variable {l : St} {a : Option V} {v : V} {n : Nat} {f : V → St}
instance : GetN (some v :: l) 0 v := ⟨rfl⟩
instance [h : GetN l n v] : GetN (a :: l) (n + 1) v := ⟨h.eq⟩
instance : SetN (a :: l) 0 (fun v => some v :: l) := ⟨fun _ => rfl⟩
instance [h : SetN l n f] : SetN (a :: l) (n + 1) (fun v => a :: f v) := ⟨fun v => congrArg (a :: ·) (h.eq v)⟩
end
section
variable {σ : St} {H H1 H2 : Hp} {Q : VK} {R : Bool → Hp → Prop} {A : List V → Hp → Prop} {i n : Nat} {v x y : V} {ta tb te tv : TE} {tl tr : TA} {b : Bool} {K : PySem.W.Frag} {C dx p : Addr} {fs : List (Str × V)} {f : Str} {t u c : TT}
instance [h : GetN σ i v] : Step (tVar i σ H Q) (Q v H) := ⟨fun q => w_var h.eq q⟩
instance : Step (tC v σ H Q) (Q v H) := ⟨w_c⟩
instance {r : R2} : Step (tOp r ta tb σ H Q) (ta σ H fun x H1 => tb σ H1 fun y H2 => r x y H2 Q) := ⟨w_op⟩
instance {r : V → Hp → VK → Prop} : Step (tUn r ta σ H Q) (ta σ H fun x H1 => r x H1 Q) := ⟨w_un⟩
instance {r : List V → Hp → VK → Prop} : Step (tCB r tl σ H Q) (tl σ H fun vs H1 => r vs H1 Q) := ⟨w_cb⟩
instance : Step (tNil σ H A) (A [] H) := ⟨w_nil⟩
instance : Step (tCons te tr σ H A) (te σ H fun x H1 => tr σ H1 fun xs H2 => A (x :: xs) H2) := ⟨w_cons⟩
instance : Step (tTup tl σ H Q) (tl σ H fun xs H1 => Alloc xs.length (.tup xs) H1 Q) := ⟨w_tup⟩
instance : Step (tLst tl σ H Q) (tl σ H fun xs H1 => Alloc xs.length (.lst xs) H1 Q) := ⟨w_lst⟩
instance {sp : Sp} {E : XK} : Step (tCall sp [] E tl σ H Q) (tl σ H fun vs H1 => sp vs H1 Q E) := ⟨w_call0⟩
instance : Step (tTest te σ H R) (te σ H fun x H' => ∃ k, x = .bl k ∧ R k H') := ⟨w_test⟩
instance : Step (tB te σ H R) (te σ H fun x H' => ∃ k, x = .bl k ∧ R k H') := ⟨w_B⟩
instance : Step (tAnd t u σ H R) (t σ H fun c H1 => if c = true then u σ H1 R else R false H1) := ⟨w_and⟩
instance : Step (tOr t u σ H R) (t σ H fun c H1 => if c = true then R true H1 else u σ H1 R) := ⟨w_or⟩
instance : Step (tNot t σ H R) (t σ H fun c H1 => R (!c) H1) := ⟨w_not⟩
instance : Step (tAndV ta tb σ H Q) (ta σ H fun x H1 => ∃ c, x = .bl c ∧ if c = true then tb σ H1 Q else Q (.bl false) H1) := ⟨w_andV⟩
instance : Step (tOrV ta tb σ H Q) (ta σ H fun x H1 => ∃ c, x = .bl c ∧ if c = true then Q (.bl true) H1 else tb σ H1 Q) := ⟨w_orV⟩
instance : Step (tNotV ta σ H Q) (ta σ H fun x H1 => ∃ c, x = .bl c ∧ Q (.bl (!c)) H1) := ⟨w_notV⟩
instance : Step (tIf t ta tb σ H Q) (t σ H fun c H1 => if c = true then ta σ H1 Q else tb σ H1 Q) := ⟨w_ifE⟩
instance : Step (tFld K ta f σ H Q) (ta σ H fun x H1 => FldOf K f x H1 Q) := ⟨w_fld⟩
instance {m : Str} {sp : Sp} {E : XK} : Step (tMeth C m sp [] E ta tl σ H Q) (ta σ H fun x H1 => InsOf C m x H1 (tl σ H1 fun vs H2 => sp (x :: vs) H2 Q E)) := ⟨w_meth⟩
instance {sp : Sp} {E : XK} : Step (tMake C sp [] E tl σ H Q) (tl σ H fun vs H1 => MakeOf C sp E vs H1 Q) := ⟨w_make⟩
instance {k : Bool} {P : Bool → Prop} : Step (∃ k', V.bl k = V.bl k' ∧ P k') (P k) := ⟨w_blE⟩
instance {g : Int → Int → V} {i j : Int} : Step (rI0 g (.int i) (.int j) H Q) (Q (g i j) H) := ⟨w_I0⟩
instance {g : Int → V} {i : Int} : Step (rU g (.int i) H Q) (Q (g i) H) := ⟨w_U⟩
instance {i j : Int} : Step (rEq (.int i) (.int j) H Q) (Q (.bl (decide (i = j))) H) := ⟨w_eqI⟩
instance {i j : Int} : Step (rNe (.int i) (.int j) H Q) (Q (.bl (!decide (i = j))) H) := ⟨w_neI⟩
instance {i j : Bool} : Step (rEq (.bl i) (.bl j) H Q) (Q (.bl (i == j)) H) := ⟨w_eqB⟩
instance {i : Int} : Step (rInt [.int i] H Q) (Q (.int i) H) := ⟨w_int⟩
instance {i j : Int} : Step (rMax [.int i, .int j] H Q) (Q (.int (if j > i then j else i)) H) := ⟨w_max⟩
instance {i j : Int} : Step (rMin [.int i, .int j] H Q) (Q (.int (if j < i then j else i)) H) := ⟨w_min⟩
instance {i : Int} : Step (rAbs [.int i] H Q) (Q (.int (if i < 0 then -i else i)) H) := ⟨w_abs⟩
instance : Step (rIsNo .non .non H Q) (Q (.bl true) H) := ⟨w_isNN⟩
instance {i : Int} : Step (rIsNo (.int i) .non H Q) (Q (.bl false) H) := ⟨w_isNI⟩
instance {i : Bool} : Step (rIsNo (.bl i) .non H Q) (Q (.bl false) H) := ⟨w_isNB⟩
instance {i : Addr} : Step (rIsNo (.ref i) .non H Q) (Q (.bl false) H) := ⟨w_isNR⟩
instance : Step (rNotNo .non .non H Q) (Q (.bl false) H) := ⟨w_notNN⟩
instance {i : Int} : Step (rNotNo (.int i) .non H Q) (Q (.bl true) H) := ⟨w_notNI⟩
instance {i : Bool} : Step (rNotNo (.bl i) .non H Q) (Q (.bl true) H) := ⟨w_notNB⟩
instance {i : Addr} : Step (rNotNo (.ref i) .non H Q) (Q (.bl true) H) := ⟨w_notNR⟩
instance {T : String} {r : V → List V → Hp → VK → Prop} {to : TE} : Step (tBM K T r to tl σ H Q) (to σ H fun x H1 => tyV K T x H1 ∧ tl σ H1 fun xs H2 => r x xs H2 Q) := ⟨w_bm⟩
instance {T : String} {r : V → List V → Hp → VK → Prop} {to : TE} : Step (tBM0 K T r to σ H Q) (to σ H fun x H1 => tyV K T x H1 ∧ r x [] H1 Q) := ⟨w_bm0⟩
instance {r : V → Option Int → Option Int → Hp → VK → Prop} {to th : TO} : Step (L2.tSl r te to th σ H Q) (te σ H fun x H1 => to σ H1 fun l H2 => th σ H2 fun u H3 => r x l u H3 Q) := ⟨w_sl⟩
instance {W : Option Int → Hp → Prop} : Step (tNoPart σ H W) (W none H) := ⟨w_po⟩
instance {W : Option Int → Hp → Prop} : Step (tPart te σ H W) (te σ H fun x H1 => PartOf W x H1) := ⟨w_ps⟩
instance {W : Option Int → Hp → Prop} {i : Int} : Step (PartOf W (.int i) H) (W (some i) H) := ⟨w_pi⟩
instance {A B : Prop} : Step (if true = true then A else B) A := ⟨i_T⟩
instance {A B : Prop} : Step (if false = true then A else B) B := ⟨i_F⟩
instance {A B : Prop} {k : Bool} : Step (if (!k) = true then A else B) (if k = true then B else A) := ⟨i_N⟩
end
section
variable {σ : St} {H : Hp} {nx bk ct : St → Hp → Prop} {rt : VK} {t u : TS} {c : TT} {te : TE} {i : Nat} {K : PySem.W.Frag} {vs : List Nat} {Q : VK}
instance (priority := 2000) {l : St} {v : V} {f : V → St} [h : SetN l i f] : Step (Sm t nx rt bk ct (l.set i (some v)) H) (Sm t nx rt bk ct (f v) H) := ⟨fun q => by rw [h.eq]; exact q⟩
instance : Step (Sm (tSeq t u) nx rt bk ct σ H) (Sm t (fun σ H => Sm u nx rt bk ct σ H) rt bk ct σ H) := ⟨m_seq⟩
instance (priority := high) {f : V → St} [h : SetN σ i f] : Step (Sm (tAsg te (gName i)) nx rt bk ct σ H) (te σ H fun v H1 => nx (f v) H1) := ⟨fun q => m_asg (by simp only [h.eq]; exact q)⟩
instance (priority := low) {g : TG} : Step (Sm (tAsg te g) nx rt bk ct σ H) (te σ H fun v H1 => g v σ H1 nx) := ⟨m_asgG⟩
instance : Step (Sm (tRet te) nx rt bk ct σ H) (te σ H rt) := ⟨m_ret⟩
instance : Step (Sm tRetN nx rt bk ct σ H) (rt .non H) := ⟨m_retN⟩
instance : Step (Sm (tDrop te) nx rt bk ct σ H) (te σ H fun _ H1 => nx σ H1) := ⟨m_drop⟩
instance : Step (Sm tNext nx rt bk ct σ H) (nx σ H) := ⟨m_next⟩
instance : Step (Sm tBreak nx rt bk ct σ H) (bk σ H) := ⟨m_brk⟩
instance : Step (Sm tCont nx rt bk ct σ H) (ct σ H) := ⟨m_cont⟩
instance : Step (Sm (tIfS c t u) nx rt bk ct σ H) (c σ H fun b H1 => if b = true then Sm t nx rt bk ct σ H1 else Sm u nx rt bk ct σ H1) := ⟨m_if⟩
instance {ta tv : TE} {f : Str} : Step (Sm (sFld K ta tv f) nx rt bk ct σ H) (tv σ H fun y H1 => ta σ H1 fun x H2 => PutOf K f y x H2 (nx σ)) := ⟨m_fld⟩
instance {wi : TI} {g : TG} : Step (Sm (tFor wi g t) nx rt bk ct σ H) (wi σ H fun J H1 => Fj J g t nx rt σ H1) := ⟨m_for⟩
instance {tl : TA} {R : It → Hp → Prop} : Step (iRng1 tl σ H R) (tl σ H fun vs H1 => ∃ j : Int, vs = [.int j] ∧ -(2 ^ 62) ≤ j ∧ j < 2 ^ 62 ∧ R (Itr 0 j.toNat) H1) := ⟨w_rng1⟩
instance {tl : TA} {R : It → Hp → Prop} : Step (iRng2 tl σ H R) (tl σ H fun vs H1 => ∃ i j : Int, vs = [.int i, .int j] ∧ (-(2 ^ 62) ≤ i ∧ i < 2 ^ 62 ∧ -(2 ^ 62) ≤ j ∧ j < 2 ^ 62) ∧ R (Itr i (j - i).toNat) H1) := ⟨w_rng2⟩
instance {tl : TA} {R : It → Hp → Prop} : Step (iRng3 tl σ H R) (tl σ H fun vs H1 => ∃ (i j c : Int) (n : Nat), vs = [.int i, .int j, .int c] ∧ RgC i j c n ∧ R (Itc i c n) H1) := ⟨w_rng3⟩
instance {R : It → Hp → Prop} : Step (iList K te σ H R) (te σ H fun x H1 => ∃ a, x = .ref a ∧ (∃ xs, SqL K H1 a xs) ∧ R (Itl K a) H1) := ⟨w_itl⟩
instance {R : It → Hp → Prop} : Step (iTup K te σ H R) (te σ H fun x H1 => ∃ a, x = .ref a ∧ (∃ xs, SqT K H1 a xs) ∧ R (Itt K a) H1) := ⟨w_itt⟩
instance {wi : TI} {g : TG} {tt : TT} : Step (tLc wi g tt te vs σ H Q) (wi σ H fun J H1 => Lcj J g tt te vs σ H1 Q) := ⟨w_lc⟩
end
end Kit

set_option Elab.async false
set_option linter.all false
set_option maxRecDepth 100000
namespace Kit
open PySem PySem.Spec PyProof.Rows L2 Evl
/-! ### a dict of the module: text keys, tuples as values -/
def keyStr (e : DictEntry) : Option Str := match e.key with
  | .str x _ => some x
  | _ => none
inductive KTabs (K : PySem.W.Frag) (a : Addr) : List (Str × List V) → Prop
  | nil : KTabs K a []
  | cons {k : Str} {xs : List V} {t : Addr} {r : List (Str × List V)} : PySem.W.nsIn K a k = some (some (.ref t)) → KTup K t xs → KTabs K a r → KTabs K a ((k, xs) :: r)
theorem KTabs.get {K : PySem.W.Frag} {a : Addr} {k : Str} {xs : List V} : ∀ {r : List (Str × List V)}, KTabs K a r → (k, xs) ∈ r → ∃ t, PySem.W.nsIn K a k = some (some (.ref t)) ∧ KTup K t xs
  | _, .nil, h => by cases h
  | _, .cons h1 h2 r, h => by
    rcases List.mem_cons.mp h with e | h
    · cases e; exact ⟨_, h1, h2⟩
    · exact r.get h
structure KTab (w : World) (K : PySem.W.Frag) (a : Addr) (rows : List (Str × List V)) : Prop where
  dict : ∃ es n, KDict K w a es n
  tabs : KTabs K a rows
  miss : ∀ z, (∀ r ∈ rows, r.1 ≠ z) → PySem.W.nsIn K a z = some none
theorem keys_miss {z : Str} : ∀ {l : List DictEntry} {ks : List Str}, l.map keyStr = ks.map some → z ∉ ks → l.find? (·.key.isStr z) = none ∧ l.any (·.refKey) = false
  | [], _, _, _ => ⟨rfl, rfl⟩
  | e :: l, [], h, _ => by cases h
  | e :: l, k :: ks, h, n => by
    rw [List.map_cons, List.map_cons] at h
    injection h with h1 h2
    obtain ⟨i1, i2⟩ := keys_miss h2 (fun z => n (List.mem_cons_of_mem _ z))
    have hk : k ≠ z := fun e => n (e ▸ List.mem_cons_self)
    obtain ⟨t, ht⟩ : ∃ t, e.key = .str k t := by
      unfold keyStr at h1
      split at h1
      · rename_i x t q
        cases h1
        exact ⟨t, q⟩
      · cases h1
    have e1 : e.key.isStr z = false := by
      rw [ht]
      show (k == z) = false
      exact beq_eq_false_iff_ne.mpr hk
    have e2 : e.refKey = false := by
      unfold DictEntry.refKey
      rw [ht]
    exact ⟨by rw [List.find?_cons_of_neg (by rw [e1]; exact Bool.false_ne_true), i1], by rw [List.any_cons, e2, i2]; rfl⟩
theorem ktab_mk {w : World} {K : PySem.W.Frag} {a : Addr} {es : Array DictEntry} {n : Nat} {rows : List (Str × List V)} (hl : K.lookup a = some ⟨.type "dict", none, .dict es n, #[]⟩) (lit : PySem.W.KeysLit w.params es.toList) (low : (a == sysModules) = false)
    (hk : es.toList.map keyStr = (rows.map (·.1)).map some) (r : KTabs K a rows) : KTab w K a rows := by
  refine ⟨⟨es, n, hl, lit, low⟩, r, fun z hz => ?_⟩
  obtain ⟨h1, h2⟩ := keys_miss (z := z) hk (fun m => by
    obtain ⟨r, hr, e⟩ := List.mem_map.mp m
    exact hz r hr e)
  unfold PySem.W.nsIn
  rw [hl]
  dsimp only
  rw [h1]
  dsimp only
  rw [h2]
  rfl
/-- not in -/
def rNotInKd (K : PySem.W.Frag) (d : Addr) : R2 := fun x y H Q => ∃ (z : Str) (r : Option Value), x = .str z ∧ y = .ref d ∧ PySem.W.nsIn K d z = some r ∧ Q (.bl (!r.isSome)) H
theorem kNotInKd {X : Cx} {w : World} {K : PySem.W.Frag} {d : Addr} {rows : List (Str × List V)} (t : KTab w K d rows) (h : X.K = K := by rfl) (hw : X.w = w := by rfl) : OpR X (compareOp .NotIn) (rNotInKd K d) := by
  subst h
  subst hw
  obtain ⟨es, n, D⟩ := t.dict
  exact op_notIn_kd D
theorem kIxKd {X : Cx} (w : World) (K : PySem.W.Frag) (h : X.K = K := by rfl) (hw : X.w = w := by rfl) : IxR X (rIxD K w) := by
  subst h
  subst hw
  exact ix_kdict
section
variable {w : World} {K : PySem.W.Frag} {d : Addr} {rows : List (Str × List V)} {z : Str} {xs : List V} {H : Hp} {Q : VK}
theorem w_notInKd_t (t : KTab w K d rows) (h : ∀ r ∈ rows, r.1 ≠ z) (q : Q (.bl true) H) : rNotInKd K d (.str z) (.ref d) H Q := ⟨z, none, rfl, rfl, t.miss z h, q⟩
theorem w_notInKd_f (t : KTab w K d rows) (h : (z, xs) ∈ rows) (q : Q (.bl false) H) : rNotInKd K d (.str z) (.ref d) H Q := by
  obtain ⟨p, h1, _⟩ := t.tabs.get h
  exact ⟨z, _, rfl, rfl, h1, q⟩
theorem w_ixKd (t : KTab w K d rows) (h : (z, xs) ∈ rows) (q : ∀ p, KTup K p xs → Q (.ref p) H) : rIxD K w (.ref d) (.str z) H Q := by
  obtain ⟨p, h1, h2⟩ := t.tabs.get h
  obtain ⟨es, n, D⟩ := t.dict
  exact ⟨d, z, .ref p, rfl, rfl, ⟨es, n, .ref p, D.at_, D.lit, h1, rfl⟩, q p h2⟩
end
/-! ### a comprehension over zip of two tuples -/
theorem kpZipA (K : PySem.W.Frag) {X : Cx} {e e2 : Expr} {ta : TA} {p pos tpos : Pos} {elts : List Expr} {kk : Nat} (hg : Gl X "zip") (hm : X.mg "zip" = none) (ha : PA X [e, e2] ta)
    (hs : starEach [e, e2] X.env = (false, eval e X.env) :: starEach [e2] X.env := by rfl) (hpl : (backTo pos (starEach [e2] X.env)).any (·.1) = false := by rfl) (hK : X.K = K := by rfl) :
    PI X (.Tuple elts kk tpos) (.Call (.Name "zip" p) [e, e2] [] pos) (RZ.iZipA K ta) := by
  subst hK
  exact RZ.pi_zipA hg hm ha hs hpl
theorem w_zipA {K : PySem.W.Frag} {tl : TA} {σ : St} {H : Hp} {R : It → Hp → Prop} (h : tl σ H fun vs H1 => ∃ a b xs ys, vs = [.ref a, .ref b] ∧ ((SqL K H1 a xs ∧ SqL K H1 b ys ∧ R (Itz K a b) H1) ∨ (SqT K H1 a xs ∧ SqT K H1 b ys ∧ R (RZ.ItzT K a b) H1))) : RZ.iZipA K tl σ H R := h
section
variable {σ : St} {H : Hp} {Q : VK} {i j : Nat} {vs : List Nat} {te : TE} {K : PySem.W.Frag}
theorem l_zip {a b : Addr} {xs ys : List V} (hx : SqT K H a xs) (hy : SqT K H b ys) (hn : xs.length = ys.length) (hm : xs.length ≤ 40000) (hw : ∀ u v, wipe (((wipe σ vs).set i (some u)).set j (some v)) vs = wipe σ vs) (v : Nat → V)
    (he : ∀ k x y H', xs[k]? = some x → ys[k]? = some y → Ex H H' → ∀ R : VK, (∀ H2, Ex H' H2 → R (v k) H2) → te (((wipe σ vs).set i (some x)).set j (some y)) H' R)
    (q : ∀ p H2, H p = none → Ex H H2 → H2 p = some (.lst ((List.range xs.length).map v)) → Q (.ref p) H2) : Lcj (RZ.ItzT K a b) (gTup K 2 (gCons (gName i) (gCons (gName j) gNil))) tYes te vs σ H Q := by
  intro D hD
  refine ⟨fun k m H' => k ≤ xs.length ∧ m = xs.length - k ∧ Ex H H' ∧ H' D = some (.lst ((List.range k).map v)), ⟨xs.length, Nat.zero_le _, by omega, Ex.new hD, upd_same⟩, fun k m H' ⟨hk, hm', e, hd⟩ => ?_⟩
  by_cases hlt : k < xs.length
  · have hlt2 : k < ys.length := by omega
    have hx1 : xs[k]? = some xs[k] := List.getElem?_eq_getElem hlt
    have hy1 : ys[k]? = some ys[k] := List.getElem?_eq_getElem hlt2
    refine .inr ⟨⟨xs, ys, xs[k], ys[k], ex_t e hx, ex_t e hy, hx1, hy1⟩, fun H'' => Ex H H'' ∧ H'' D = some (.lst ((List.range (k + 1)).map v)), fun H'' h => ⟨xs.length - (k + 1), by omega, by omega, rfl, h⟩, fun y H'' hyld => ?_⟩
    obtain ⟨T, x1, y1, rfl, hT, rfl, e1, e2⟩ := hyld
    have g1 := e1 xs (ex_t e hx)
    have g2 := e2 ys (ex_t e hy)
    have e3 : Ex H' (upd H' T (.tup [x1, y1])) := Ex.new hT
    have hDT : D ≠ T := by rintro rfl; rw [hT] at hd; cases hd
    refine ⟨T, [x1, y1], rfl, .inl (.inl upd_same), rfl, x1, _, rfl, y1, _, rfl, rfl, hw _ _, ?_⟩
    refine he k x1 y1 _ g1 g2 (e.trans e3) _ fun H2 e4 => ?_
    have hd2 := e4 _ _ (e3 _ _ hd)
    refine ⟨_, hd2, sz_lt (by rw [List.length_map, List.length_range]; omega), ?_, ?_⟩
    · exact ExBut.ex ((e.trans e3).trans e4) hD (ExBut.upd (.refl D H2))
    · rw [upd_same, List.range_succ, List.map_append]
      rfl
  · have ek : k = xs.length := by omega
    subst ek
    exact .inl ⟨⟨xs, ys, ex_t e hx, ex_t e hy, .inl (Nat.le_refl _)⟩, q D H' hD e hd⟩
end
end Kit

set_option Elab.async false
set_option linter.all false
set_option maxRecDepth 100000
set_option maxHeartbeats 4000000
namespace Mi
open PySem PySem.Spec PyProof.Rows L2 Evl Kit
/-- data: what a value tells, at any depth (seq: a list that is read alone) -/
inductive D where
  | non | bl (b : Bool) | int (i : Int) | str (s : Str) | tup (ds : List D) | lst (ds : List D) | seq (ds : List D)
/-- a value: data, an object that may change, one that never changes, by its attributes; a def; a built-in class -/
inductive E where
  | d (d : D) | adr (a : Addr) | ins (c : Nat) (es : List E) | ty (n : String)
/-- the written part, the classes' places and their attributes' names -/
structure G where
  K : PySem.W.Frag
  cl : Nat → Addr
  fn : Nat → List Str
abbrev ZS := Addr → Prop
def SqLz (g : G) (Z : ZS) (H : Hp) (a : Addr) (xs : List V) : Prop := SqL g.K H a xs ∧ (Z a ∨ ∀ H', SqL g.K H' a xs)
def SqTz (g : G) (Z : ZS) (H : Hp) (a : Addr) (xs : List V) : Prop := SqT g.K H a xs ∧ (Z a ∨ ∀ H', SqT g.K H' a xs)
mutual
inductive Dat (g : G) (Z : ZS) (H : Hp) : V → D → Prop
  | non : Dat g Z H .non .non
  | bl (b : Bool) : Dat g Z H (.bl b) (.bl b)
  | int (i : Int) : Dat g Z H (.int i) (.int i)
  | str (s : Str) : Dat g Z H (.str s) (.str s)
  | tup {a : Addr} {vs : List V} {ds : List D} (h : SqTz g Z H a vs) (t : Dats g Z H vs ds) : Dat g Z H (.ref a) (.tup ds)
  | lst {a : Addr} {vs : List V} {ds : List D} (h : H a = some (.lst vs)) (z : Z a) (t : Dats g Z H vs ds) : Dat g Z H (.ref a) (.lst ds)
  | seq {a : Addr} {vs : List V} {ds : List D} (h : SqLz g Z H a vs) (t : Dats g Z H vs ds) : Dat g Z H (.ref a) (.seq ds)
inductive Dats (g : G) (Z : ZS) (H : Hp) : List V → List D → Prop
  | nil : Dats g Z H [] []
  | cons {v : V} {vs : List V} {d : D} {ds : List D} (h : Dat g Z H v d) (t : Dats g Z H vs ds) : Dats g Z H (v :: vs) (d :: ds)
end
mutual
inductive Val (g : G) (Z : ZS) (H : Hp) : V → E → Prop
  | d {v : V} {d : D} (h : Dat g Z H v d) : Val g Z H v (.d d)
  | adr (a : Addr) : Val g Z H (.ref a) (.adr a)
  | ty (n : String) : Val g Z H (.ty n) (.ty n)
  | ins {a dx : Addr} {c : Nat} {vs : List V} {es : List E} (h : H a = some (.ins (g.cl c) dx ((g.fn c).zip vs))) (z : Z a) (n : (g.fn c).length = es.length) (t : Vals g Z H vs es) : Val g Z H (.ref a) (.ins c es)
inductive Vals (g : G) (Z : ZS) (H : Hp) : List V → List E → Prop
  | nil : Vals g Z H [] []
  | cons {v : V} {vs : List V} {d : E} {ds : List E} (h : Val g Z H v d) (t : Vals g Z H vs ds) : Vals g Z H (v :: vs) (d :: ds)
end
/-- what is kept: the things that never change, and where something stands -/
structure Le (Z : ZS) (H : Hp) (Z' : ZS) (H' : Hp) : Prop where
  z : ∀ a, Z a → Z' a
  h : ∀ a, Z a → H' a = H a
theorem Le.refl {Z : ZS} {H : Hp} : Le Z H Z H := ⟨fun _ h => h, fun _ _ => rfl⟩
theorem Le.trans {Z Z1 Z2 : ZS} {H H1 H2 : Hp} (a : Le Z H Z1 H1) (b : Le Z1 H1 Z2 H2) : Le Z H Z2 H2 := ⟨fun x h => b.z x (a.z x h), fun x h => (b.h x (a.z x h)).trans (a.h x h)⟩
section
variable {g : G} {Z Z' : ZS} {H H' : Hp}
theorem sqL_keep {K : PySem.W.Frag} {a : Addr} {xs : List V} (e : H' a = H a) (h : SqL K H a xs) : SqL K H' a xs := by
  unfold SqL Rd at *
  rw [e]; exact h
theorem sqT_keep {K : PySem.W.Frag} {a : Addr} {xs : List V} (e : H' a = H a) (h : SqT K H a xs) : SqT K H' a xs := by
  unfold SqT Rd at *
  rw [e]; exact h
theorem SqLz.up {a : Addr} {xs : List V} (l : Le Z H Z' H') (h : SqLz g Z H a xs) : SqLz g Z' H' a xs := by
  obtain ⟨h, z | z⟩ := h
  · exact ⟨sqL_keep (l.h a z) h, .inl (l.z a z)⟩
  · exact ⟨z H', .inr z⟩
theorem SqTz.up {a : Addr} {xs : List V} (l : Le Z H Z' H') (h : SqTz g Z H a xs) : SqTz g Z' H' a xs := by
  obtain ⟨h, z | z⟩ := h
  · exact ⟨sqT_keep (l.h a z) h, .inl (l.z a z)⟩
  · exact ⟨z H', .inr z⟩
mutual
theorem Dat.up (l : Le Z H Z' H') : ∀ {v : V} {d : D}, Dat g Z H v d → Dat g Z' H' v d
  | _, _, .non => .non
  | _, _, .bl b => .bl b
  | _, _, .int i => .int i
  | _, _, .str s => .str s
  | _, _, .tup h t => .tup (h.up l) (Dats.up l t)
  | _, _, .lst h z t => .lst ((l.h _ z).trans h) (l.z _ z) (Dats.up l t)
  | _, _, .seq h t => .seq (h.up l) (Dats.up l t)
theorem Dats.up (l : Le Z H Z' H') : ∀ {vs : List V} {ds : List D}, Dats g Z H vs ds → Dats g Z' H' vs ds
  | _, _, .nil => .nil
  | _, _, .cons h t => .cons (Dat.up l h) (Dats.up l t)
end
mutual
theorem Val.up (l : Le Z H Z' H') : ∀ {v : V} {d : E}, Val g Z H v d → Val g Z' H' v d
  | _, _, .d h => .d (h.up l)
  | _, _, .adr a => .adr a
  | _, _, .ty n => .ty n
  | _, _, .ins h z n t => .ins ((l.h _ z).trans h) (l.z _ z) n (Vals.up l t)
theorem Vals.up (l : Le Z H Z' H') : ∀ {vs : List V} {ds : List E}, Vals g Z H vs ds → Vals g Z' H' vs ds
  | _, _, .nil => .nil
  | _, _, .cons h t => .cons (Val.up l h) (Vals.up l t)
end
theorem Vals.length : ∀ {vs : List V} {ds : List E}, Vals g Z H vs ds → vs.length = ds.length
  | _, _, .nil => rfl
  | _, _, .cons _ t => congrArg (· + 1) t.length
theorem Dats.length : ∀ {vs : List V} {ds : List D}, Dats g Z H vs ds → vs.length = ds.length
  | _, _, .nil => rfl
  | _, _, .cons _ t => congrArg (· + 1) t.length
theorem Dats.get : ∀ {vs : List V} {ds : List D} {i : Nat} {d : D}, Dats g Z H vs ds → ds[i]? = some d → ∃ v, vs[i]? = some v ∧ Dat g Z H v d
  | _, _, _, _, .nil, e => by simp at e
  | _, _, 0, _, .cons h _, e => by simp at e; subst e; exact ⟨_, rfl, h⟩
  | _, _, i + 1, _, .cons _ t, e => by
    obtain ⟨v, h1, h2⟩ := t.get (i := i) (by simpa using e)
    exact ⟨v, by simpa using h1, h2⟩
theorem Dats.append : ∀ {vs ws : List V} {ds es : List D}, Dats g Z H vs ds → Dats g Z H ws es → Dats g Z H (vs ++ ws) (ds ++ es)
  | _, _, _, _, .nil, s => s
  | _, _, _, _, .cons h t, s => .cons h (t.append s)
theorem Dats.take : ∀ {vs : List V} {ds : List D} (n : Nat), Dats g Z H vs ds → Dats g Z H (vs.take n) (ds.take n)
  | _, _, 0, _ => .nil
  | _, _, _ + 1, .nil => .nil
  | _, _, n + 1, .cons h t => .cons h (t.take n)
theorem Dats.drop : ∀ {vs : List V} {ds : List D} (n : Nat), Dats g Z H vs ds → Dats g Z H (vs.drop n) (ds.drop n)
  | _, _, 0, r => r
  | _, _, _ + 1, .nil => .nil
  | _, _, n + 1, .cons _ t => t.drop n
theorem Dats.set {v : V} {d : D} (h : Dat g Z H v d) : ∀ {vs : List V} {ds : List D} (n : Nat), Dats g Z H vs ds → Dats g Z H (vs.set n v) (ds.set n d)
  | _, _, _, .nil => .nil
  | _, _, 0, .cons _ t => .cons h t
  | _, _, n + 1, .cons q t => .cons q (t.set h n)
theorem Dats.rep : ∀ {vs : List V} {ds : List D} (n : Nat), Dats g Z H vs ds → Dats g Z H (List.replicate n vs).flatten (List.replicate n ds).flatten
  | _, _, 0, _ => .nil
  | _, _, n + 1, t => by
    rw [List.replicate_succ, List.replicate_succ, List.flatten_cons, List.flatten_cons]
    exact t.append (t.rep n)
end
/-- what an object that may change holds -/
inductive OC where
  | lst (ds : List D) | refs (es : List Addr) | ins (c : Nat) (fs : List (Str × E)) | dk (kvs : List (Key × E)) | raw (o : HO)
inductive Flds (g : G) (Z : ZS) (H : Hp) : List (Str × V) → List (Str × E) → Prop
  | nil : Flds g Z H [] []
  | cons {f : Str} {v : V} {d : E} {vs : List (Str × V)} {ds : List (Str × E)} (h : Val g Z H v d) (t : Flds g Z H vs ds) : Flds g Z H ((f, v) :: vs) ((f, d) :: ds)
inductive KVals (g : G) (Z : ZS) (H : Hp) : List (Key × V) → List (Key × E) → Prop
  | nil : KVals g Z H [] []
  | cons {f : Key} {v : V} {d : E} {vs : List (Key × V)} {ds : List (Key × E)} (h : Val g Z H v d) (t : KVals g Z H vs ds) : KVals g Z H ((f, v) :: vs) ((f, d) :: ds)
def OcOk (g : G) (Z : ZS) (H : Hp) (a : Addr) : OC → Prop
  | .lst ds => ∃ vs, H a = some (.lst vs) ∧ Dats g Z H vs ds
  | .refs as => H a = some (.lst (as.map V.ref))
  | .ins c fs => ∃ dx vs, H a = some (.ins (g.cl c) dx vs) ∧ Flds g Z H vs fs
  | .dk kvs => ∃ vs, H a = some (.dK vs) ∧ KVals g Z H vs kvs
  | .raw o => H a = some o
abbrev SH := List (Addr × OC)
structure Own (g : G) (Z : ZS) (L : SH) (H : Hp) : Prop where
  nd : (L.map (·.1)).Nodup
  nz : ∀ p ∈ L, ¬ Z p.1
  ok : ∀ p ∈ L, OcOk g Z H p.1 p.2
  za : ∀ a, Z a → H a ≠ none
abbrev As := SH → Prop
def pt (a : Addr) (o : OC) : As := fun L => L = [(a, o)]
/-- an object's parts, some of them without a name outside -/
inductive Sat : List As → SH → Prop
  | nil : Sat [] []
  | cons {P : As} {Ps : List As} {L M : SH} : P L → Sat Ps M → Sat (P :: Ps) (L ++ M)
def Hs (g : G) (Z : ZS) (Ps : List As) (H : Hp) : Prop := ∃ L, Sat Ps L ∧ Own g Z L H
section
variable {g : G} {Z Z' : ZS} {H H' : Hp} {Ps Qs : List As} {a : Addr} {o : OC}
theorem Flds.up (l : Le Z H Z' H') : ∀ {vs : List (Str × V)} {ds : List (Str × E)}, Flds g Z H vs ds → Flds g Z' H' vs ds
  | _, _, .nil => .nil
  | _, _, .cons h t => .cons (h.up l) (t.up l)
theorem KVals.up (l : Le Z H Z' H') : ∀ {vs : List (Key × V)} {ds : List (Key × E)}, KVals g Z H vs ds → KVals g Z' H' vs ds
  | _, _, .nil => .nil
  | _, _, .cons h t => .cons (h.up l) (t.up l)
theorem Flds.look {f : Str} {d : E} : ∀ {vs : List (Str × V)} {ds : List (Str × E)}, Flds g Z H vs ds → ds.lookup f = some d → ∃ v, vs.lookup f = some v ∧ Val g Z H v d
  | _, _, .nil, e => by simp at e
  | _, _, .cons (f := f1) (vs := vs) (ds := ds) h t, e => by
    rw [List.lookup_cons] at e ⊢
    cases q : f == f1 with
    | true => rw [q] at e; cases e; exact ⟨_, rfl, h⟩
    | false => rw [q] at e; exact t.look e
theorem Flds.miss {f : Str} : ∀ {vs : List (Str × V)} {ds : List (Str × E)}, Flds g Z H vs ds → ds.lookup f = none → vs.lookup f = none
  | _, _, .nil, e => rfl
  | _, _, .cons (f := f1) (vs := vs) (ds := ds) h t, e => by
    rw [List.lookup_cons] at e ⊢
    cases q : f == f1 with
    | true => rw [q] at e; cases e
    | false => rw [q] at e; exact t.miss e
theorem Flds.length : ∀ {vs : List (Str × V)} {ds : List (Str × E)}, Flds g Z H vs ds → vs.length = ds.length
  | _, _, .nil => rfl
  | _, _, .cons _ t => congrArg (· + 1) t.length
theorem OcOk.up (l : Le Z H Z' H') (e : H' a = H a) (h : OcOk g Z H a o) : OcOk g Z' H' a o := by
  cases o with
  | lst ds => obtain ⟨vs, h1, h2⟩ := h; exact ⟨vs, e.trans h1, h2.up l⟩
  | ins c fs => obtain ⟨dx, vs, h1, h2⟩ := h; exact ⟨dx, vs, e.trans h1, h2.up l⟩
  | refs as => exact e.trans h
  | dk kvs => obtain ⟨vs, h1, h2⟩ := h; exact ⟨vs, e.trans h1, h2.up l⟩
  | raw o => exact e.trans h
theorem OcOk.some (h : OcOk g Z H a o) : H a ≠ none := by
  cases o with
  | lst ds => obtain ⟨vs, h1, h2⟩ := h; rw [h1]; exact nofun
  | ins c fs => obtain ⟨dx, vs, h1, h2⟩ := h; rw [h1]; exact nofun
  | dk kvs => obtain ⟨vs, h1, h2⟩ := h; rw [h1]; exact nofun
  | refs as => show H a ≠ none; rw [show H a = _ from h]; exact nofun
  | raw o => show H a ≠ none; rw [show H a = _ from h]; exact nofun
theorem Sat.append : ∀ {Ps Qs : List As} {L M : SH}, Sat Ps L → Sat Qs M → Sat (Ps ++ Qs) (L ++ M)
  | _, _, _, _, .nil, s => s
  | _, _, _, _, .cons h t, s => by rw [List.append_assoc]; exact .cons h (t.append s)
theorem Sat.split : ∀ {Ps Qs : List As} {L : SH}, Sat (Ps ++ Qs) L → ∃ M N, Sat Ps M ∧ Sat Qs N ∧ L = M ++ N
  | [], _, L, s => ⟨[], L, .nil, s, rfl⟩
  | P :: Ps, Qs, _, .cons (L := L1) h t => by
    obtain ⟨M, N, h1, h2, e⟩ := Sat.split t
    subst e
    exact ⟨L1 ++ M, N, .cons h h1, h2, (List.append_assoc _ _ _).symm⟩
theorem Own.perm {L M : SH} (p : L.Perm M) (h : Own g Z L H) : Own g Z M H :=
  ⟨(p.map (·.1)).nodup_iff.mp h.nd, fun x hx => h.nz x (p.mem_iff.mpr hx), fun x hx => h.ok x (p.mem_iff.mpr hx), h.za⟩
theorem Sat.perm {Ps Qs : List As} (p : Ps.Perm Qs) : ∀ {L : SH}, Sat Ps L → ∃ M, L.Perm M ∧ Sat Qs M := by
  induction p with
  | nil => exact fun s => ⟨_, .refl _, s⟩
  | cons P _ ih =>
    intro L s
    cases s with
    | cons h t =>
      obtain ⟨M, p, q⟩ := ih t
      exact ⟨_, p.append_left _, .cons h q⟩
  | swap P Q r =>
    intro L s
    cases s with
    | @cons _ _ L1 M1 h t =>
      cases t with
      | @cons _ _ L2 M2 h2 t2 =>
        refine ⟨L2 ++ (L1 ++ M2), ?_, .cons h2 (.cons h t2)⟩
        rw [← List.append_assoc, ← List.append_assoc]
        exact List.perm_append_comm.append_right _
  | trans _ _ ih1 ih2 =>
    intro L s
    obtain ⟨M, p1, s1⟩ := ih1 s
    obtain ⟨N, p2, s2⟩ := ih2 s1
    exact ⟨N, p1.trans p2, s2⟩
theorem Sat.inv {P : As} {L : SH} (h : Sat (P :: Ps) L) : ∃ L1 M, L = L1 ++ M ∧ P L1 ∧ Sat Ps M := by
  cases h with
  | cons h t => exact ⟨_, _, rfl, h, t⟩
theorem Hs.perm (p : Ps.Perm Qs) (h : Hs g Z Ps H) : Hs g Z Qs H := by
  obtain ⟨L, s, o⟩ := h
  obtain ⟨M, q, s2⟩ := s.perm p
  exact ⟨M, s2, o.perm q⟩
/-- some parts are forgotten -/
theorem Own.left {L M : SH} (h : Own g Z (L ++ M) H) : Own g Z L H :=
  ⟨by have := h.nd; rw [List.map_append] at this; exact (List.nodup_append.mp this).1, fun x hx => h.nz x (List.mem_append_left _ hx), fun x hx => h.ok x (List.mem_append_left _ hx), h.za⟩
theorem Own.right {L M : SH} (h : Own g Z (L ++ M) H) : Own g Z M H :=
  ⟨by have := h.nd; rw [List.map_append] at this; exact (List.nodup_append.mp this).2.1, fun x hx => h.nz x (List.mem_append_right _ hx), fun x hx => h.ok x (List.mem_append_right _ hx), h.za⟩
theorem Hs.tail {P : As} (h : Hs g Z (P :: Ps) H) : Hs g Z Ps H := by
  obtain ⟨L, s, o⟩ := h
  obtain ⟨L1, M, rfl, _, t⟩ := s.inv
  exact ⟨_, t, o.right⟩
/-- the heap has grown -/
def Grow (H H' : Hp) : Prop := ∀ a, H a ≠ none → H' a = H a
theorem Grow.new {p : Addr} {u : HO} (h : H p = none) : Grow H (upd H p u) := fun a ha => upd_ne fun e => ha (e ▸ h)
theorem Own.grow {L : SH} (h : Own g Z L H) (z : Z' = fun a => Z a ∨ (H a = none ∧ Z' a)) (w : ∀ a, Z' a → H' a ≠ none) (gr : Grow H H') : Own g Z' L H' := by
  have l : Le Z H Z' H' := ⟨fun a ha => by rw [z]; exact .inl ha, fun a ha => gr a (h.za a ha)⟩
  refine ⟨h.nd, fun p hp zp => ?_, fun p hp => (h.ok p hp).up l (gr _ (h.ok p hp).some), w⟩
  rw [z] at zp
  rcases zp with zp | ⟨zp, _⟩
  · exact h.nz p hp zp
  · exact (h.ok p hp).some zp
/-- a new thing that never changes -/
def zadd (Z : ZS) (p : Addr) : ZS := fun a => Z a ∨ a = p
theorem le_zadd {p : Addr} {u : HO} (hz : ∀ a, Z a → H a ≠ none) (h : H p = none) : Le Z H (zadd Z p) (upd H p u) := ⟨fun _ h => .inl h, fun a ha => upd_ne fun e => hz a ha (e ▸ h)⟩
theorem Hs.za (h : Hs g Z Ps H) : ∀ a, Z a → H a ≠ none := by obtain ⟨_, _, o⟩ := h; exact o.za
theorem Hs.zadd {p : Addr} {u : HO} (h : Hs g Z Ps H) (hp : H p = none) : Hs g (zadd Z p) Ps (upd H p u) := by
  obtain ⟨L, s, o⟩ := h
  refine ⟨L, s, o.grow ?_ ?_ (Grow.new hp)⟩
  · funext a
    apply propext
    constructor
    · rintro (h | rfl)
      · exact .inl h
      · exact .inr ⟨hp, .inr rfl⟩
    · rintro (h | ⟨_, h⟩)
      · exact .inl h
      · exact h
  · rintro a (h | rfl)
    · rw [Grow.new hp a (o.za a h)]; exact o.za a h
    · rw [upd_same]; exact nofun
/-- a new thing that may change -/
theorem Hs.new {p : Addr} {u : HO} {oc : OC} (h : Hs g Z Ps H) (hp : H p = none) (ok : OcOk g Z (upd H p u) p oc) : Hs g Z (pt p oc :: Ps) (upd H p u) := by
  obtain ⟨L, s, o⟩ := h
  refine ⟨[(p, oc)] ++ L, .cons rfl s, ?_⟩
  have ho : Own g Z L (upd H p u) := o.grow (by funext a; exact propext ⟨.inl, fun z => z.elim id (·.2)⟩) (fun a z => by rw [Grow.new hp a (o.za a z)]; exact o.za a z) (Grow.new hp)
  refine ⟨?_, ?_, ?_, ho.za⟩
  · rw [List.map_append]
    show (p :: _).Nodup
    refine List.nodup_cons.mpr ⟨fun hm => ?_, ho.nd⟩
    obtain ⟨x, hx, e⟩ := List.mem_map.mp hm
    exact (o.ok x hx).some (by rw [e]; exact hp)
  · intro x hx
    rcases List.mem_append.mp hx with hx | hx
    · rw [List.mem_singleton.mp hx]; exact fun z => o.za p z hp
    · exact ho.nz x hx
  · intro x hx
    rcases List.mem_append.mp hx with hx | hx
    · rw [List.mem_singleton.mp hx]; exact ok
    · exact ho.ok x hx
/-- a thing that may change is changed -/
theorem Hs.put {u : HO} {oc oc' : OC} (h : Hs g Z (pt a oc :: Ps) H) (ok : Le Z H Z (upd H a u) → OcOk g Z (upd H a u) a oc') : Hs g Z (pt a oc' :: Ps) (upd H a u) ∧ Le Z H Z (upd H a u) := by
  obtain ⟨L, s, o⟩ := h
  obtain ⟨L1, M, rfl, h1, s2⟩ := s.inv
  have h1' : L1 = [(a, oc)] := h1
  subst h1'
  have l : Le Z H Z (upd H a u) := ⟨fun _ h => h, fun b hb => upd_ne fun e => o.nz (a, oc) (by simp) (by subst e; exact hb)⟩
  refine ⟨⟨[(a, oc')] ++ M, .cons rfl s2, ?_⟩, l⟩
  have nd := o.nd
  rw [List.map_append] at nd
  refine ⟨by rw [List.map_append]; exact nd, ?_, ?_, fun b hb => by rw [l.h b hb]; exact o.za b hb⟩
  · intro x hx
    rcases List.mem_append.mp hx with hx | hx
    · rw [List.mem_singleton.mp hx]; exact o.nz (a, oc) (by simp)
    · exact o.nz x (List.mem_append_right _ hx)
  · intro x hx
    rcases List.mem_append.mp hx with hx | hx
    · rw [List.mem_singleton.mp hx]; exact ok l
    · refine (o.ok x (List.mem_append_right _ hx)).up l (upd_ne fun e => ?_)
      have : a ∉ M.map (·.1) := by
        have := List.nodup_append.mp nd
        exact fun hm => this.2.2 a (by simp) a hm rfl
      exact this (e ▸ List.mem_map_of_mem hx)
theorem Hs.get (h : Hs g Z (pt a o :: Ps) H) : OcOk g Z H a o ∧ ¬ Z a := by
  obtain ⟨L, s, ow⟩ := h
  obtain ⟨L1, M, rfl, h1, s2⟩ := s.inv
  have h1' : L1 = [(a, o)] := h1
  subst h1'
  exact ⟨ow.ok (a, o) (by simp), ow.nz (a, o) (by simp)⟩
/-- a thing that won't change any more -/
theorem Hs.freeze {ds : List D} (h : Hs g Z (pt a (.lst ds) :: Ps) H) : ∃ Z', Hs g Z' Ps H ∧ Le Z H Z' H ∧ Dat g Z' H (.ref a) (.lst ds) := by
  obtain ⟨⟨vs, h1, h2⟩, nz⟩ := h.get
  obtain ⟨L, s, o⟩ := h
  obtain ⟨L1, M, rfl, hh, s2⟩ := s.inv
  have h1' : L1 = [(a, .lst ds)] := hh
  subst h1'
  have l : Le Z H (Mi.zadd Z a) H := ⟨fun _ h => .inl h, fun _ _ => rfl⟩
  refine ⟨Mi.zadd Z a, ⟨M, s2, ?_⟩, l, .lst h1 (.inr rfl) (h2.up l)⟩
  have nd := o.nd
  rw [List.map_append] at nd
  refine ⟨(List.nodup_append.mp nd).2.1, ?_, fun x hx => (o.ok x (List.mem_append_right _ hx)).up l rfl, ?_⟩
  · rintro x hx (z | z)
    · exact o.nz x (List.mem_append_right _ hx) z
    · have := List.nodup_append.mp nd
      exact this.2.2 a (by simp) x.1 (List.mem_map_of_mem hx) z.symm
  · rintro b (z | rfl)
    · exact o.za b z
    · rw [h1]; exact nofun
end
end Mi

set_option Elab.async false
set_option linter.all false
set_option maxRecDepth 100000
set_option maxHeartbeats 4000000
namespace Mi
open PySem PySem.Spec PyProof.Rows L2 Evl Kit
abbrev St := L2.St
/-! ### what a def's mirror gives -/
structure Exc where
  c : Nat
  ds : List E
inductive R (α : Type) where
  | ok (a : α) | exc (e : Exc) | fail
namespace R
variable {α β : Type}
def bind (o : R α) (f : α → R β) : R β := match o with
  | ok a => f a
  | exc e => exc e
  | fail => fail
def All (o : R α) (k : α → Prop) (x : Exc → Prop) : Prop := match o with
  | ok a => k a
  | exc e => x e
  | fail => False
@[simp] theorem bind_ok (a : α) (f : α → R β) : (ok a).bind f = f a := rfl
@[simp] theorem bind_exc (e : Exc) (f : α → R β) : (exc e : R α).bind f = exc e := rfl
@[simp] theorem bind_fail (f : α → R β) : (fail : R α).bind f = fail := rfl
theorem bind_assoc {γ : Type} (o : R α) (f : α → R β) (k : β → R γ) : (o.bind f).bind k = o.bind fun a => (f a).bind k := by cases o <;> rfl
theorem all_bind {o : R α} {f : α → R β} {k : β → Prop} {x : Exc → Prop} (h : (o.bind f).All k x) : o.All (fun a => (f a).All k x) x := by cases o <;> exact h
theorem All.mono {o : R α} {k k' : α → Prop} {x x' : Exc → Prop} (h : o.All k x) (hk : ∀ a, k a → k' a) (hx : ∀ e, x e → x' e) : o.All k' x' := by
  cases o
  · exact hk _ h
  · exact hx _ h
  · exact h
/-- a check -/
def req (b : Bool) : R Unit := match b with
  | true => ok ()
  | false => fail
@[simp] theorem req_true : req true = ok () := rfl
@[simp] theorem req_false : req false = fail := rfl
theorem all_req {b : Bool} {f : Unit → R β} {k : β → Prop} {x : Exc → Prop} (h : ((req b).bind f).All k x) : b = true ∧ (f ()).All k x := by
  cases b
  · exact False.elim h
  · exact ⟨rfl, h⟩
def ofO (o : Option α) : R α := match o with
  | some a => ok a
  | none => fail
@[simp] theorem ofO_some (a : α) : ofO (some a) = ok a := rfl
@[simp] theorem ofO_none : ofO (none : Option α) = fail := rfl
theorem all_ofO {o : Option α} {f : α → R β} {k : β → Prop} {x : Exc → Prop} (h : ((ofO o).bind f).All k x) : ∃ a, o = some a ∧ (f a).All k x := by
  cases o
  · exact False.elim h
  · exact ⟨_, rfl, h⟩
end R
/-! ### where one stands -/
structure Bs where
  g : G
  Z : ZS
  H : Hp
inductive Slots (g : G) (Z : ZS) (H : Hp) : List (Option E) → St → Prop
  | nil : Slots g Z H [] []
  | no {x : Option V} {γ : List (Option E)} {σ : St} (t : Slots g Z H γ σ) : Slots g Z H (none :: γ) (x :: σ)
  | so {v : V} {d : E} {γ : List (Option E)} {σ : St} (h : Val g Z H v d) (t : Slots g Z H γ σ) : Slots g Z H (some d :: γ) (some v :: σ)
def Stk (g : G) (Z : ZS) (H : Hp) : List (V × E) → Prop
  | [] => True
  | p :: r => Val g Z H p.1 p.2 ∧ Stk g Z H r
/-- the slots' values, the values at hand, the things that may change -/
def Bd (B : Bs) (γ : List (Option E)) (st : List (V × E)) (Ps : List As) (σ : St) (H : Hp) : Prop :=
  ∃ Z, Le B.Z B.H Z H ∧ Slots B.g Z H γ σ ∧ Stk B.g Z H st ∧ Hs B.g Z Ps H
/-- what follows a def -/
def Ret (B : Bs) (Q : VK) (d : E) (Ps : List As) : Prop := ∀ v Z' H', Le B.Z B.H Z' H' → Val B.g Z' H' v d → Hs B.g Z' Ps H' → Q v H'
section
variable {g : G} {Z Z' : ZS} {H H' : Hp} {B : Bs} {γ γ' : List (Option E)} {st st' : List (V × E)} {Ps Qs : List As} {σ : St} {Q : VK} {d : E} {v w : V} {i : Nat} {a : Addr} {o : OC}
theorem Slots.up (l : Le Z H Z' H') : ∀ {γ : List (Option E)} {σ : St}, Slots g Z H γ σ → Slots g Z' H' γ σ
  | _, _, .nil => .nil
  | _, _, .no t => .no (t.up l)
  | _, _, .so h t => .so (h.up l) (t.up l)
theorem Stk.up (l : Le Z H Z' H') : ∀ {st : List (V × E)}, Stk g Z H st → Stk g Z' H' st
  | [], _ => trivial
  | _ :: _, h => ⟨h.1.up l, h.2.up l⟩
theorem Slots.get : ∀ {γ : List (Option E)} {σ : St} {i : Nat} {d : E}, Slots g Z H γ σ → γ[i]? = some (some d) → ∃ v, σ[i]? = some (some v) ∧ Val g Z H v d
  | _, _, _, _, .nil, e => by simp at e
  | _, _, 0, _, .no _, e => by simp at e
  | _, _, 0, _, .so h _, e => by simp at e; subst e; exact ⟨_, rfl, h⟩
  | _, _, i + 1, _, .no t, e => by
    obtain ⟨v, h1, h2⟩ := t.get (i := i) (by simpa using e)
    exact ⟨v, by simpa using h1, h2⟩
  | _, _, i + 1, _, .so _ t, e => by
    obtain ⟨v, h1, h2⟩ := t.get (i := i) (by simpa using e)
    exact ⟨v, by simpa using h1, h2⟩
theorem Slots.set {v : V} {d : E} (h : Val g Z H v d) : ∀ {γ : List (Option E)} {σ : St} (i : Nat), Slots g Z H γ σ → Slots g Z H (γ.set i (some d)) (σ.set i (some v))
  | _, _, _, .nil => .nil
  | _, _, 0, .no t => .so h t
  | _, _, 0, .so _ t => .so h t
  | _, _, i + 1, .no t => .no (t.set h i)
  | _, _, i + 1, .so q t => .so q (t.set h i)
theorem Slots.wipe1 {x : Option V} : ∀ {γ : List (Option E)} {σ : St} (i : Nat), Slots g Z H γ σ → Slots g Z H (γ.set i none) (σ.set i x)
  | _, _, _, .nil => .nil
  | _, _, 0, .no t => .no t
  | _, _, 0, .so _ t => .no t
  | _, _, i + 1, .no t => .no (t.wipe1 i)
  | _, _, i + 1, .so q t => .so q (t.wipe1 i)
/-- less is known of the slots -/
inductive Less : List (Option E) → List (Option E) → Prop
  | nil : Less [] []
  | no {x : Option E} {γ δ : List (Option E)} (t : Less γ δ) : Less (none :: γ) (x :: δ)
  | same {x : Option E} {γ δ : List (Option E)} (t : Less γ δ) : Less (x :: γ) (x :: δ)
theorem Less.refl : ∀ γ : List (Option E), Less γ γ
  | [] => .nil
  | _ :: γ => .same (Less.refl γ)
theorem Slots.less : ∀ {γ δ : List (Option E)} {σ : St}, Less γ δ → Slots g Z H δ σ → Slots g Z H γ σ
  | _, _, _, .nil, .nil => .nil
  | _, _, _, .no l, .no t => .no (t.less l)
  | _, _, _, .no l, .so _ t => .no (t.less l)
  | _, _, _, .same l, .no t => .no (t.less l)
  | _, _, _, .same l, .so h t => .so h (t.less l)
/-! #### Bd -/
theorem Bd.perm (p : Ps.Perm Qs) (s : Bd B γ st Ps σ H) : Bd B γ st Qs σ H := by
  obtain ⟨Z, l, a, b, c⟩ := s; exact ⟨Z, l, a, b, c.perm p⟩
theorem Bd.less (l : Less γ' γ) (s : Bd B γ st Ps σ H) : Bd B γ' st Ps σ H := by
  obtain ⟨Z, l1, a, b, c⟩ := s; exact ⟨Z, l1, a.less l, b, c⟩
theorem Bd.pop {p : V × E} (s : Bd B γ (p :: st) Ps σ H) : Bd B γ st Ps σ H := by
  obtain ⟨Z, l, a, b, c⟩ := s; exact ⟨Z, l, a, b.2, c⟩
theorem Bd.drop {P : As} (s : Bd B γ st (P :: Ps) σ H) : Bd B γ st Ps σ H := by
  obtain ⟨Z, l, a, b, c⟩ := s; exact ⟨Z, l, a, b, c.tail⟩
/-- the value is told by the data alone -/
def toV : E → Option V
  | .d .non => some .non
  | .d (.bl b) => some (.bl b)
  | .d (.int i) => some (.int i)
  | .d (.str s) => some (.str s)
  | .ty n => some (.ty n)
  | .adr a => some (.ref a)
  | _ => none
theorem Val.toV {v w : V} {d : E} (h : Val g Z H v d) (e : Mi.toV d = some w) : v = w := by
  cases h with
  | d h => cases h <;> simp [Mi.toV] at e <;> exact e
  | adr => simp [Mi.toV] at e; exact e
  | ty => simp [Mi.toV] at e; exact e
  | ins => simp [Mi.toV] at e
theorem val_of {w : V} {d : E} (e : Mi.toV d = some w) : Val g Z H w d := by
  cases d with
  | d d =>
    cases d <;> simp [Mi.toV] at e <;> subst e
    · exact .d .non
    · exact .d (.bl _)
    · exact .d (.int _)
    · exact .d (.str _)
  | adr => simp [Mi.toV] at e; subst e; exact .adr _
  | ty => simp [Mi.toV] at e; subst e; exact .ty _
  | ins => simp [Mi.toV] at e
/-- a slot is read -/
theorem e_var (s : Bd B γ st Ps σ H) (h : γ[i]? = some (some d)) (k : ∀ v, Bd B γ ((v, d) :: st) Ps σ H → Q v H) : tVar i σ H Q := by
  obtain ⟨Z, l, a, b, c⟩ := s
  obtain ⟨v, h1, h2⟩ := a.get h
  exact ⟨v, h1, k v ⟨Z, l, a, ⟨h2, b⟩, c⟩⟩
theorem e_varS (s : Bd B γ st Ps σ H) (h : γ[i]? = some (some d)) (e : toV d = some w) (k : Q w H) : tVar i σ H Q := by
  obtain ⟨Z, l, a, b, c⟩ := s
  obtain ⟨v, h1, h2⟩ := a.get h
  exact ⟨v, h1, by rw [h2.toV e]; exact k⟩
/-- a slot is written -/
class SetG (γ : List (Option E)) (i : Nat) (f : outParam (Option E → List (Option E))) : Prop where
  eq : ∀ d, γ.set i d = f d
instance {x : Option E} : SetG (x :: γ) 0 (fun d => d :: γ) := ⟨fun _ => rfl⟩
instance {x : Option E} {n : Nat} {f : Option E → List (Option E)} [h : SetG γ n f] : SetG (x :: γ) (n + 1) (fun d => x :: f d) := ⟨fun d => congrArg (x :: ·) (h.eq d)⟩
def AsgK (i : Nat) (nx : St → Hp → Prop) (σ : St) : VK := fun v H => nx (σ.set i (some v)) H
theorem k_asg {nx : St → Hp → Prop} {f : Option E → List (Option E)} [h : SetG γ i f] (s : Bd B γ ((v, d) :: st) Ps σ H) (k : ∀ σ, Bd B (f (some d)) st Ps σ H → nx σ H) : AsgK i nx σ v H := by
  obtain ⟨Z, l, a, b, c⟩ := s
  exact k _ ⟨Z, l, by rw [← h.eq]; exact a.set b.1 i, b.2, c⟩
theorem k_asgS {nx : St → Hp → Prop} {f : Option E → List (Option E)} [h : SetG γ i f] (s : Bd B γ st Ps σ H) (d : E) (e : toV d = some w) (k : ∀ σ, Bd B (f (some d)) st Ps σ H → nx σ H) : AsgK i nx σ w H := by
  obtain ⟨Z, l, a, b, c⟩ := s
  exact k _ ⟨Z, l, by rw [← h.eq]; exact a.set (val_of e) i, b, c⟩
theorem m_asgK {te : TE} {nx bk ct : St → Hp → Prop} {rt : VK} (h : te σ H (AsgK i nx σ)) : Sm (tAsg te (gName i)) nx rt bk ct σ H := h
/-! #### calls -/
theorem slots_start {n : Nat} : ∀ {vs : List V} {es : List E}, Vals g Z H vs es → Slots g Z H (es.map some ++ List.replicate n none) (vs.map some ++ List.replicate n none)
  | _, _, .nil => by
    show Slots g Z H (List.replicate n none) (List.replicate n none)
    induction n with
    | zero => exact .nil
    | succ n ih => exact .no ih
  | _, _, .cons h t => .so h (slots_start t)
def SpOf (g : G) {α β : Type} (ins : α → List E) (pin : α → List As) (m : α → R β) (out : α → β → E) (pout : α → β → List As) : Sp := fun vs H Q _ =>
  ∃ a F Z, Vals g Z H vs (ins a) ∧ Hs g Z (pin a ++ F) H ∧ (m a).All (fun r => Ret ⟨g, Z, H⟩ Q (out a r) (pout a r ++ F)) (fun _ => True)
section
variable {α β ρ : Type} {ins : α → List E} {pin : α → List As} {m : α → R β} {out : α → β → E} {pout : α → β → List As} {a : α} {vs : List V} {f : β → R ρ} {K : ρ → Prop} {X : Exc → Prop} {E : XK} {F : List As}
theorem c_call (a : α) (s : Bd B γ st' Ps σ H) (h : ((m a).bind f).All K X) (da : ∀ Z H, Stk B.g Z H st' → Vals B.g Z H vs (ins a) ∧ Stk B.g Z H st) (p : Ps.Perm (pin a ++ F))
    (k : ∀ r v H', Bd B γ ((v, out a r) :: st) (pout a r ++ F) σ H' → (f r).All K X → Q v H') : SpOf B.g ins pin m out pout vs H Q E := by
  obtain ⟨Z, l, sl, b, c⟩ := s
  obtain ⟨d1, d2⟩ := da Z H b
  refine ⟨a, F, Z, d1, c.perm p, (R.all_bind h).mono (fun r hr v Z' H' l' hd hs => ?_) fun _ _ => trivial⟩
  exact k r v H' ⟨Z', l.trans l', sl.up l', ⟨hd, d2.up l'⟩, hs⟩ hr
theorem c_callS (a : α) (s : Bd B γ st' Ps σ H) (h : ((m a).bind f).All K X) (da : ∀ Z H, Stk B.g Z H st' → Vals B.g Z H vs (ins a) ∧ Stk B.g Z H st) (p : Ps.Perm (pin a ++ F)) {w : β → V} (e : ∀ r, toV (out a r) = some (w r))
    (k : ∀ r H', Bd B γ st (pout a r ++ F) σ H' → (f r).All K X → Q (w r) H') : SpOf B.g ins pin m out pout vs H Q E :=
  c_call a s h da p fun r v H' s' h' => by
    have := s'
    obtain ⟨Z, l, sl, b, c⟩ := this
    have ev : v = w r := Val.toV b.1 (e r)
    rw [ev]
    exact k r H' s'.pop h'
/-- a def's body: where it begins -/
theorem c_start {n : Nat} (h : SpOf g ins pin m out pout vs H Q E) : ∃ (a : α) (F : List As) (Z : ZS), Bd ⟨g, Z, H⟩ ((ins a).map some ++ List.replicate n none) [] (pin a ++ F) (vs.map some ++ List.replicate n none) H ∧ (m a).All (fun r => Ret ⟨g, Z, H⟩ Q (out a r) (pout a r ++ F)) (fun _ => True) := by
  obtain ⟨a, F, Z, hd, hs, hm⟩ := h
  exact ⟨a, F, Z, ⟨Z, .refl, slots_start hd, trivial, hs⟩, hm⟩
theorem c_len (h : SpOf g ins pin m out pout vs H Q E) : ∃ a, vs.length = (ins a).length := by
  obtain ⟨a, F, Z, hd, hs, hm⟩ := h
  exact ⟨a, hd.length⟩
end
theorem k_ret {B : Bs} (s : Bd B γ ((v, d) :: st) Ps σ H) (h : Ret B Q d Ps) : Q v H := by
  obtain ⟨Z, l, sl, b, c⟩ := s
  exact h v Z H l b.1 c
theorem k_retS {B : Bs} (s : Bd B γ st Ps σ H) (h : Ret B Q d Ps) (e : toV d = some w) : Q w H := by
  obtain ⟨Z, l, sl, b, c⟩ := s
  exact h w Z H l (val_of e) c
/-! #### ways -/
section
variable {α : Type} {A C : R α} {K : α → Prop} {X : Exc → Prop} {G1 G2 : Prop} {b : Bool}
theorem r_if (h : (if b = true then A else C).All K X) (h1 : b = true → A.All K X → G1) (h2 : b = false → C.All K X → G2) : if b = true then G1 else G2 := by
  cases b
  · exact iteF (h2 rfl h)
  · exact iteT (h1 rfl h)
variable {Rr : Bool → Hp → Prop} {u : TT} {c : Bool}
theorem j_or (k : ∀ H', Bd B γ st Ps σ H' → Rr (b || c) H') (s : Bd B γ st Ps σ H) (sec : b = false → (∀ H', Bd B γ st Ps σ H' → Rr c H') → u σ H Rr) : if b = true then Rr true H else u σ H Rr := by
  cases b
  · exact iteF (sec rfl k)
  · exact iteT (k H s)
theorem j_and (k : ∀ H', Bd B γ st Ps σ H' → Rr (b && c) H') (s : Bd B γ st Ps σ H) (sec : b = true → (∀ H', Bd B γ st Ps σ H' → Rr c H') → u σ H Rr) : if b = true then u σ H Rr else Rr false H := by
  cases b
  · exact iteF (k H s)
  · exact iteT (sec rfl k)
end
end
end Mi

set_option Elab.async false
set_option linter.all false
set_option maxRecDepth 100000
set_option maxHeartbeats 4000000
namespace Mi
open PySem PySem.Spec PyProof.Rows L2 Evl Kit
/-! ### the order of the things that may change -/
section
variable {α : Type} {a b c d e f g h i j : α} {r : List α}
theorem pk0 : r.Perm r := .refl _
theorem pk1 : (a :: b :: r).Perm (b :: a :: r) := .swap _ _ _
theorem pk2 : (a :: b :: c :: r).Perm (c :: a :: b :: r) := (List.perm_middle (l₁ := [a, b]))
theorem pk3 : (a :: b :: c :: d :: r).Perm (d :: a :: b :: c :: r) := (List.perm_middle (l₁ := [a, b, c]))
theorem pk4 : (a :: b :: c :: d :: e :: r).Perm (e :: a :: b :: c :: d :: r) := (List.perm_middle (l₁ := [a, b, c, d]))
theorem pk5 : (a :: b :: c :: d :: e :: f :: r).Perm (f :: a :: b :: c :: d :: e :: r) := (List.perm_middle (l₁ := [a, b, c, d, e]))
theorem pk6 : (a :: b :: c :: d :: e :: f :: g :: r).Perm (g :: a :: b :: c :: d :: e :: f :: r) := (List.perm_middle (l₁ := [a, b, c, d, e, f]))
theorem pk7 : (a :: b :: c :: d :: e :: f :: g :: h :: r).Perm (h :: a :: b :: c :: d :: e :: f :: g :: r) := (List.perm_middle (l₁ := [a, b, c, d, e, f, g]))
theorem pk8 : (a :: b :: c :: d :: e :: f :: g :: h :: i :: r).Perm (i :: a :: b :: c :: d :: e :: f :: g :: h :: r) := (List.perm_middle (l₁ := [a, b, c, d, e, f, g, h]))
end
/-! ### data by its kinds -/
namespace D
@[simp] def int? : D → Option Int
  | .int i => some i
  | _ => none
@[simp] def str? : D → Option Str
  | .str i => some i
  | _ => none
@[simp] def bl? : D → Option Bool
  | .bl i => some i
  | _ => none
@[simp] def tup? : D → Option (List D)
  | .tup i => some i
  | _ => none
@[simp] def isInt : D → Bool
  | .int _ => true
  | .bl _ => true
  | _ => false
@[simp] def isBl : D → Bool
  | .bl _ => true
  | _ => false
@[simp] def isStr : D → Bool
  | .str _ => true
  | _ => false
@[simp] def isTup : D → Bool
  | .tup _ => true
  | _ => false
@[simp] def isLst : D → Bool
  | .lst _ => true
  | .seq _ => true
  | _ => false
@[simp] def isNon : D → Bool
  | .non => true
  | _ => false
/-- len of a list or tuple -/
@[simp] def len? : D → Option Int
  | .tup ds => some ds.length
  | .lst ds => some ds.length
  | .seq ds => some ds.length
  | _ => none
@[simp] def at? (d : D) (i : Int) : Option D := match d with
  | .tup ds => atI ds i
  | _ => none
end D
theorem D.int?_eq {d : D} {i : Int} (h : d.int? = some i) : d = .int i := by cases d <;> simp [D.int?] at h; rw [h]
theorem D.str?_eq {d : D} {i : Str} (h : d.str? = some i) : d = .str i := by cases d <;> simp [D.str?] at h; rw [h]
theorem D.bl?_eq {d : D} {i : Bool} (h : d.bl? = some i) : d = .bl i := by cases d <;> simp [D.bl?] at h; rw [h]
theorem D.tup?_eq {d : D} {i : List D} (h : d.tup? = some i) : d = .tup i := by cases d <;> simp [D.tup?] at h; rw [h]
/-- an optional value -/
def emO {α : Type} (f : α → D) : Option α → D
  | none => .non
  | some a => f a
def mulOk (i j : Int) : Bool := (decide (-(2 ^ 64) < i) && decide (i < 2 ^ 64)) || (decide (-(2 ^ 64) < j) && decide (j < 2 ^ 64))
theorem mulOk_of {i j : Int} (h : mulOk i j = true) : CMul i j := by
  unfold mulOk at h
  simp only [Bool.or_eq_true, Bool.and_eq_true, decide_eq_true_eq] at h
  exact h
def cutL {α : Type} (xs : List α) (lo hi : Option Int) : List α := (xs.drop (HT.sIx xs.length 0 lo)).take (HT.sIx xs.length xs.length hi - HT.sIx xs.length 0 lo)
theorem atI_map {α β : Type} (f : α → β) (xs : List α) (i : Int) : atI (xs.map f) i = (atI xs i).map f := by
  unfold atI
  rw [List.length_map]
  cases ixN xs.length i <;> simp
theorem cutL_map {α β : Type} (f : α → β) (xs : List α) (lo hi : Option Int) : cutL (xs.map f) lo hi = (cutL xs lo hi).map f := by
  unfold cutL
  rw [List.length_map, List.map_take, List.map_drop]
section
variable {g : G} {Z Z' : ZS} {H H' : Hp} {B : Bs} {γ γ' : List (Option E)} {st st' : List (V × E)} {Ps Qs F : List As} {σ : St} {Q : VK} {d : D} {e : E} {v w x y : V} {i : Nat} {a : Addr} {o : OC} {ds : List D}
/-! #### the value at hand -/
theorem Bd.top (s : Bd B γ ((v, e) :: st) Ps σ H) {w : V} (he : toV e = some w) : v = w := by
  obtain ⟨Z, l, sl, b, c⟩ := s
  exact Val.toV b.1 he
theorem Bd.asInt {n : Int} (s : Bd B γ ((v, .d d) :: st) Ps σ H) (e : d.int? = some n) : v = .int n ∧ Bd B γ st Ps σ H := ⟨s.top (by rw [D.int?_eq e]; rfl), s.pop⟩
theorem Bd.asStr {n : Str} (s : Bd B γ ((v, .d d) :: st) Ps σ H) (e : d.str? = some n) : v = .str n ∧ Bd B γ st Ps σ H := ⟨s.top (by rw [D.str?_eq e]; rfl), s.pop⟩
theorem Bd.asBl {n : Bool} (s : Bd B γ ((v, .d d) :: st) Ps σ H) (e : d.bl? = some n) : v = .bl n ∧ Bd B γ st Ps σ H := ⟨s.top (by rw [D.bl?_eq e]; rfl), s.pop⟩
theorem Bd.asTup (s : Bd B γ ((v, .d d) :: st) Ps σ H) (e : d.tup? = some ds) : Bd B γ ((v, .d (.tup ds)) :: st) Ps σ H := by rw [← D.tup?_eq e]; exact s
theorem Bd.asO {α : Type} {f : α → D} {o : Option α} {n : α} (s : Bd B γ ((v, .d (emO f o)) :: st) Ps σ H) (e : o = some n) (he : toV (.d (f n)) = some w) : v = w ∧ Bd B γ st Ps σ H := ⟨s.top (by rw [e]; exact he), s.pop⟩
theorem Bd.scal (s : Bd B γ ((v, e) :: st) Ps σ H) (he : toV e = some w) (k : Bd B γ st Ps σ H → Q w H) : Q v H := by rw [s.top he]; exact k s.pop
theorem Bd.dat (s : Bd B γ ((v, .d d) :: st) Ps σ H) : ∃ Z, Dat B.g Z H v d := by
  obtain ⟨Z, l, sl, b, c⟩ := s
  cases b.1 with
  | d h => exact ⟨Z, h⟩
/-- the name of a value's class -/
def tyN : D → String
  | .non => "NoneType" | .bl _ => "bool" | .int _ => "int" | .str _ => "str" | .tup _ => "tuple" | .lst _ => "list" | .seq _ => "list"
theorem dat_tyX (h : Dat g Z H v d) {n : String} {b : Bool} (e : kitB (tyN d) n = some b) (q : Q (.bl b) H) : rIsi g.K [v, .ty n] H Q := by
  cases h with
  | non => exact w_isiNon e q
  | bl _ => exact w_isiBl e q
  | int _ => exact w_isiInt e q
  | str _ => exact w_isiStr e q
  | tup h _ => exact w_isiTup h.1 e q
  | lst h _ => exact w_isiLst (SqL.of h) e q
  | seq h _ => exact w_isiLst h.1 e q
theorem o_isi (n : String) (f : D → Bool) (hf : ∀ d, kitB (tyN d) n = some (f d)) (s : Bd B γ ((v, .d d) :: st) Ps σ H) (k : Bd B γ st Ps σ H → Q (.bl (f d)) H) : rIsi B.g.K [v, .ty n] H Q := by
  obtain ⟨Z, h⟩ := s.dat
  exact dat_tyX h (hf d) (k s.pop)
theorem o_isiTup (s : Bd B γ ((v, .d d) :: st) Ps σ H) (k : Bd B γ st Ps σ H → Q (.bl d.isTup) H) : rIsi B.g.K [v, .ty "tuple"] H Q := o_isi "tuple" D.isTup (by intro d; cases d <;> first | rfl | decide +kernel) s k
theorem o_isiLst (s : Bd B γ ((v, .d d) :: st) Ps σ H) (k : Bd B γ st Ps σ H → Q (.bl d.isLst) H) : rIsi B.g.K [v, .ty "list"] H Q := o_isi "list" D.isLst (by intro d; cases d <;> first | rfl | decide +kernel) s k
theorem o_isiInt (s : Bd B γ ((v, .d d) :: st) Ps σ H) (k : Bd B γ st Ps σ H → Q (.bl d.isInt) H) : rIsi B.g.K [v, .ty "int"] H Q := o_isi "int" D.isInt (by intro d; cases d <;> first | rfl | decide +kernel) s k
theorem o_isiBl (s : Bd B γ ((v, .d d) :: st) Ps σ H) (k : Bd B γ st Ps σ H → Q (.bl d.isBl) H) : rIsi B.g.K [v, .ty "bool"] H Q := o_isi "bool" D.isBl (by intro d; cases d <;> first | rfl | decide +kernel) s k
theorem o_isiStr (s : Bd B γ ((v, .d d) :: st) Ps σ H) (k : Bd B γ st Ps σ H → Q (.bl d.isStr) H) : rIsi B.g.K [v, .ty "str"] H Q := o_isi "str" D.isStr (by intro d; cases d <;> first | rfl | decide +kernel) s k
/-- is None -/
theorem Dat.non_iff (h : Dat g Z H v d) : decide (v = .non) = d.isNon := by
  cases h <;> rfl
theorem o_isN (s : Bd B γ ((v, .d d) :: st) Ps σ H) (k : Bd B γ st Ps σ H → Q (.bl d.isNon) H) : rIsNo v .non H Q := by
  obtain ⟨Z, h⟩ := s.dat
  refine ⟨rfl, ?_⟩
  rw [h.non_iff]
  exact k s.pop
theorem o_notN (s : Bd B γ ((v, .d d) :: st) Ps σ H) (k : Bd B γ st Ps σ H → Q (.bl (!d.isNon)) H) : rNotNo v .non H Q := by
  obtain ⟨Z, h⟩ := s.dat
  refine ⟨rfl, ?_⟩
  rw [h.non_iff]
  exact k s.pop
theorem emO_non {α : Type} {f : α → D} (hf : ∀ a, (f a).isNon = false) (o : Option α) : (emO f o).isNon = !o.isSome := by
  cases o
  · rfl
  · exact hf _
theorem o_isNO {α : Type} {f : α → D} {o : Option α} (hf : ∀ a, (f a).isNon = false) (s : Bd B γ ((v, .d (emO f o)) :: st) Ps σ H) (k : Bd B γ st Ps σ H → Q (.bl (!o.isSome)) H) : rIsNo v .non H Q := o_isN s fun s => by rw [emO_non hf]; exact k s
theorem o_notNO {α : Type} {f : α → D} {o : Option α} (hf : ∀ a, (f a).isNon = false) (s : Bd B γ ((v, .d (emO f o)) :: st) Ps σ H) (k : Bd B γ st Ps σ H → Q (.bl o.isSome) H) : rNotNo v .non H Q := o_notN s fun s => by rw [emO_non hf, Bool.not_not]; exact k s
/-! #### lists and tuples at hand -/
theorem Dat.tupI (h : Dat g Z H v (.tup ds)) : ∃ a vs, v = .ref a ∧ SqTz g Z H a vs ∧ Dats g Z H vs ds := by
  cases h with
  | tup h t => exact ⟨_, _, rfl, h, t⟩
theorem Dat.lstI (h : Dat g Z H v (.lst ds)) : ∃ a vs, v = .ref a ∧ H a = some (.lst vs) ∧ Z a ∧ Dats g Z H vs ds := by
  cases h with
  | lst h z t => exact ⟨_, _, rfl, h, z, t⟩
theorem Dat.seqI (h : Dat g Z H v (.seq ds)) : ∃ a vs, v = .ref a ∧ SqLz g Z H a vs ∧ Dats g Z H vs ds := by
  cases h with
  | seq h t => exact ⟨_, _, rfl, h, t⟩
/-- something at hand, with all that stands there -/
theorem Bd.tupI (s : Bd B γ ((v, .d (.tup ds)) :: st) Ps σ H) : ∃ Z a vs, v = .ref a ∧ SqTz B.g Z H a vs ∧ Dats B.g Z H vs ds ∧ Le B.Z B.H Z H ∧ Slots B.g Z H γ σ ∧ Stk B.g Z H st ∧ Hs B.g Z Ps H := by
  obtain ⟨Z, l, sl, b, c⟩ := s
  obtain ⟨b1, b2⟩ := b
  cases b1 with
  | d h =>
    obtain ⟨a, vs, e, h1, h2⟩ := Dat.tupI h
    exact ⟨Z, a, vs, e, h1, h2, l, sl, b2, c⟩
theorem Bd.lstI (s : Bd B γ ((v, .d (.lst ds)) :: st) Ps σ H) : ∃ Z a vs, v = .ref a ∧ H a = some (.lst vs) ∧ Dats B.g Z H vs ds ∧ Le B.Z B.H Z H ∧ Slots B.g Z H γ σ ∧ Stk B.g Z H st ∧ Hs B.g Z Ps H := by
  obtain ⟨Z, l, sl, b, c⟩ := s
  obtain ⟨b1, b2⟩ := b
  cases b1 with
  | d h =>
    obtain ⟨a, vs, e, h1, _, h2⟩ := Dat.lstI h
    exact ⟨Z, a, vs, e, h1, h2, l, sl, b2, c⟩
theorem Bd.seqI (s : Bd B γ ((v, .d (.seq ds)) :: st) Ps σ H) : ∃ Z a vs, v = .ref a ∧ SqLz B.g Z H a vs ∧ Dats B.g Z H vs ds ∧ Le B.Z B.H Z H ∧ Slots B.g Z H γ σ ∧ Stk B.g Z H st ∧ Hs B.g Z Ps H := by
  obtain ⟨Z, l, sl, b, c⟩ := s
  obtain ⟨b1, b2⟩ := b
  cases b1 with
  | d h =>
    obtain ⟨a, vs, e, h1, h2⟩ := Dat.seqI h
    exact ⟨Z, a, vs, e, h1, h2, l, sl, b2, c⟩
/-- len -/
theorem o_lenT {n : Nat} (hn : ds.length = n) (s : Bd B γ ((v, .d (.tup ds)) :: st) Ps σ H) (k : Bd B γ st Ps σ H → Q (.int n) H) : rLenS B.g.K [v] H Q := by
  obtain ⟨Z, a, vs, rfl, h1, h2, _⟩ := s.tupI
  refine w_len (.inr h1.1) ?_
  rw [h2.length, hn]
  exact k s.pop
theorem o_lenL {n : Nat} (hn : ds.length = n) (s : Bd B γ ((v, .d (.lst ds)) :: st) Ps σ H) (k : Bd B γ st Ps σ H → Q (.int n) H) : rLenS B.g.K [v] H Q := by
  obtain ⟨Z, a, vs, rfl, h1, h2, _⟩ := s.lstI
  refine w_len (.inl (SqL.of h1)) ?_
  rw [h2.length, hn]
  exact k s.pop
theorem o_lenQ {n : Nat} (hn : ds.length = n) (s : Bd B γ ((v, .d (.seq ds)) :: st) Ps σ H) (k : Bd B γ st Ps σ H → Q (.int n) H) : rLenS B.g.K [v] H Q := by
  obtain ⟨Z, a, vs, rfl, h1, h2, _⟩ := s.seqI
  refine w_len (.inl h1.1) ?_
  rw [h2.length, hn]
  exact k s.pop
theorem o_lenD {n : Int} (hn : d.len? = some n) (s : Bd B γ ((v, .d d) :: st) Ps σ H) (k : Bd B γ st Ps σ H → Q (.int n) H) : rLenS B.g.K [v] H Q := by
  cases d with
  | tup ds => cases hn; exact o_lenT rfl s k
  | lst ds => cases hn; exact o_lenL rfl s k
  | seq ds => cases hn; exact o_lenQ rfl s k
  | _ => cases hn
/-- [i] -/
theorem atI_dats {vs : List V} {n : Int} {d : D} (h : Dats g Z H vs ds) (e : atI ds n = some d) : ∃ v, atI vs n = some v ∧ Dat g Z H v d := by
  unfold atI at e ⊢
  rw [h.length]
  cases q : ixN ds.length n with
  | none => rw [q] at e; cases e
  | some j =>
    rw [q] at e
    exact h.get e
theorem o_ixT {n : Int} (hn : atI ds n = some d) (s : Bd B γ ((v, .d (.tup ds)) :: st) Ps σ H) (k : ∀ v, Bd B γ ((v, .d d) :: st) Ps σ H → Q v H) : rIxT B.g.K v (.int n) H Q := by
  obtain ⟨Z, a, vs, rfl, h1, h2, l, sl, b, c⟩ := s.tupI
  obtain ⟨u, e, hd⟩ := atI_dats h2 hn
  exact w_ixT h1.1 e (k u ⟨Z, l, sl, ⟨.d hd, b⟩, c⟩)
theorem o_ixL {n : Int} (hn : atI ds n = some d) (s : Bd B γ ((v, .d (.lst ds)) :: st) Ps σ H) (k : ∀ v, Bd B γ ((v, .d d) :: st) Ps σ H → Q v H) : rIxL B.g.K v (.int n) H Q := by
  obtain ⟨Z, a, vs, rfl, h1, h2, l, sl, b, c⟩ := s.lstI
  obtain ⟨u, e, hd⟩ := atI_dats h2 hn
  exact w_ixL (SqL.of h1) e (k u ⟨Z, l, sl, ⟨.d hd, b⟩, c⟩)
theorem o_ixQ {n : Int} (hn : atI ds n = some d) (s : Bd B γ ((v, .d (.seq ds)) :: st) Ps σ H) (k : ∀ v, Bd B γ ((v, .d d) :: st) Ps σ H → Q v H) : rIxL B.g.K v (.int n) H Q := by
  obtain ⟨Z, a, vs, rfl, h1, h2, l, sl, b, c⟩ := s.seqI
  obtain ⟨u, e, hd⟩ := atI_dats h2 hn
  exact w_ixL h1.1 e (k u ⟨Z, l, sl, ⟨.d hd, b⟩, c⟩)
theorem o_ixD {n : Int} {d' : D} (hn : d.at? n = some d') (s : Bd B γ ((v, .d d) :: st) Ps σ H) (k : ∀ v, Bd B γ ((v, .d d') :: st) Ps σ H → Q v H) : rIxT B.g.K v (.int n) H Q := by
  cases d with
  | tup ds => exact o_ixT hn s k
  | _ => cases hn
theorem at_map {α : Type} {f : α → D} {xs : List α} {n : Int} {x : α} (h : atI xs n = some x) : atI (xs.map f) n = some (f x) := by rw [atI_map, h]; rfl
/-- a new thing that won't change -/
theorem Bd.laid {p : Addr} {vs : List V} (s : Bd B γ st' Ps σ H) (hp : H p = none) (da : ∀ Z H, Stk B.g Z H st' → Dats B.g Z H vs ds ∧ Stk B.g Z H st) : Bd B γ ((.ref p, .d (.tup ds)) :: st) Ps σ (upd H p (.tup vs)) ∧ Bd B γ ((.ref p, .d (.lst ds)) :: st) Ps σ (upd H p (.lst vs)) := by
  obtain ⟨Z, l, sl, b, c⟩ := s
  obtain ⟨d1, d2⟩ := da Z H b
  have l2 : ∀ u, Le Z H (zadd Z p) (upd H p u) := fun u => le_zadd c.za hp
  exact ⟨⟨zadd Z p, l.trans (l2 _), sl.up (l2 _), ⟨.d (.tup ⟨SqT.of upd_same, .inl (.inr rfl)⟩ (d1.up (l2 _))), d2.up (l2 _)⟩, c.zadd hp⟩,
    ⟨zadd Z p, l.trans (l2 _), sl.up (l2 _), ⟨.d (.lst upd_same (.inr rfl) (d1.up (l2 _))), d2.up (l2 _)⟩, c.zadd hp⟩⟩
theorem o_newT {vs : List V} (ds : List D) (s : Bd B γ st' Ps σ H) (hm : vs.length ≤ 100000) (da : ∀ Z H, Stk B.g Z H st' → Dats B.g Z H vs ds ∧ Stk B.g Z H st) (k : ∀ v H', Bd B γ ((v, .d (.tup ds)) :: st) Ps σ H' → Q v H') : Alloc vs.length (.tup vs) H Q :=
  ⟨sz_of hm, fun p hp => k _ _ (s.laid hp da).1⟩
theorem o_newL {vs : List V} (ds : List D) (s : Bd B γ st' Ps σ H) (hm : vs.length ≤ 100000) (da : ∀ Z H, Stk B.g Z H st' → Dats B.g Z H vs ds ∧ Stk B.g Z H st) (k : ∀ v H', Bd B γ ((v, .d (.lst ds)) :: st) Ps σ H' → Q v H') : Alloc vs.length (.lst vs) H Q :=
  ⟨sz_of hm, fun p hp => k _ _ (s.laid hp da).2⟩
/-- a new list that may change -/
theorem o_newO {vs : List V} (ds : List D) (s : Bd B γ st' Ps σ H) (hm : vs.length ≤ 100000) (da : ∀ Z H, Stk B.g Z H st' → Dats B.g Z H vs ds ∧ Stk B.g Z H st) (k : ∀ p H', Bd B γ st (pt p (.lst ds) :: Ps) σ H' → Q (.ref p) H') : Alloc vs.length (.lst vs) H Q :=
  ⟨sz_of hm, fun p hp => by
    obtain ⟨Z, l, sl, b, c⟩ := s
    obtain ⟨d1, d2⟩ := da Z H b
    have l2 : Le Z H Z (upd H p (.lst vs)) := ⟨fun _ h => h, fun a ha => upd_ne fun e => c.za a ha (e ▸ hp)⟩
    exact k p _ ⟨Z, l.trans l2, sl.up l2, d2.up l2, c.new hp ⟨vs, upd_same, d1.up l2⟩⟩⟩
/-- a slice -/
theorem cut_dats {vs : List V} {lo hi : Option Int} (h : Dats g Z H vs ds) : Dats g Z H (cutV vs lo hi) (cutL ds lo hi) := by
  unfold cutV cutL
  rw [h.length]
  exact (h.drop _).take _
theorem Bd.push {Z : ZS} (l : Le B.Z B.H Z H) (sl : Slots B.g Z H γ σ) (b : Stk B.g Z H st) (c : Hs B.g Z Ps H) (h : Dat B.g Z H v d) : Bd B γ ((v, .d d) :: st) Ps σ H := ⟨Z, l, sl, ⟨.d h, b⟩, c⟩
theorem Bd.newT {Z : ZS} {p : Addr} {vs : List V} (l : Le B.Z B.H Z H) (sl : Slots B.g Z H γ σ) (b : Stk B.g Z H st) (c : Hs B.g Z Ps H) (hp : H p = none) (h : Dats B.g Z H vs ds) : Bd B γ ((.ref p, .d (.tup ds)) :: st) Ps σ (upd H p (.tup vs)) := by
  have l2 : Le Z H (zadd Z p) (upd H p (.tup vs)) := le_zadd c.za hp
  exact ⟨zadd Z p, l.trans l2, sl.up l2, ⟨.d (.tup ⟨SqT.of upd_same, .inl (.inr rfl)⟩ (h.up l2)), b.up l2⟩, c.zadd hp⟩
theorem Bd.newL {Z : ZS} {p : Addr} {vs : List V} (l : Le B.Z B.H Z H) (sl : Slots B.g Z H γ σ) (b : Stk B.g Z H st) (c : Hs B.g Z Ps H) (hp : H p = none) (h : Dats B.g Z H vs ds) : Bd B γ ((.ref p, .d (.lst ds)) :: st) Ps σ (upd H p (.lst vs)) := by
  have l2 : Le Z H (zadd Z p) (upd H p (.lst vs)) := le_zadd c.za hp
  exact ⟨zadd Z p, l.trans l2, sl.up l2, ⟨.d (.lst upd_same (.inr rfl) (h.up l2)), b.up l2⟩, c.zadd hp⟩
theorem o_slT {lo hi : Option Int} {ds' : List D} (he : cutL ds lo hi = ds') (s : Bd B γ ((v, .d (.tup ds)) :: st) Ps σ H) (k : ∀ v H', Bd B γ ((v, .d (.tup ds')) :: st) Ps σ H' → Q v H') : rSlA B.g.K v lo hi H Q := by
  obtain ⟨Z, a, vs, rfl, h1, h2, l, sl, b, c⟩ := s.tupI
  have hd := cut_dats (lo := lo) (hi := hi) h2
  rw [he] at hd
  refine ⟨a, vs, rfl, h1.1, fun e => k _ _ ?_, fun _ p hp => k _ _ (.newT l sl b c hp hd)⟩
  refine .push l sl b c (.tup h1 ?_)
  rw [cut_whole e] at hd
  exact hd
theorem o_slL {lo hi : Option Int} {ds' : List D} (he : cutL ds lo hi = ds') (s : Bd B γ ((v, .d (.lst ds)) :: st) Ps σ H) (k : ∀ v H', Bd B γ ((v, .d (.lst ds')) :: st) Ps σ H' → Q v H') : rSlL B.g.K v lo hi H Q := by
  obtain ⟨Z, a, vs, rfl, h1, h2, l, sl, b, c⟩ := s.lstI
  have hd := cut_dats (lo := lo) (hi := hi) h2
  rw [he] at hd
  exact ⟨a, vs, rfl, SqL.of h1, fun p hp => k _ _ (.newL l sl b c hp hd)⟩
theorem o_slQ {lo hi : Option Int} {ds' : List D} (he : cutL ds lo hi = ds') (s : Bd B γ ((v, .d (.seq ds)) :: st) Ps σ H) (k : ∀ v H', Bd B γ ((v, .d (.lst ds')) :: st) Ps σ H' → Q v H') : rSlL B.g.K v lo hi H Q := by
  obtain ⟨Z, a, vs, rfl, h1, h2, l, sl, b, c⟩ := s.seqI
  have hd := cut_dats (lo := lo) (hi := hi) h2
  rw [he] at hd
  exact ⟨a, vs, rfl, h1.1, fun p hp => k _ _ (.newL l sl b c hp hd)⟩
/-- + of tuples, of lists -/
def fits (n m : Nat) : Bool := decide (n + m ≤ 16000000)
theorem fits_of {n m : Nat} (h : fits n m = true) : n + m ≤ sizeLine := Nat.le_trans (of_decide_eq_true h) (by decide)
theorem o_catT {es ds' : List D} (hf : fits ds.length es.length = true) (he : ds ++ es = ds') (s : Bd B γ ((w, .d (.tup es)) :: (v, .d (.tup ds)) :: st) Ps σ H) (k : ∀ v H', Bd B γ ((v, .d (.tup ds')) :: st) Ps σ H' → Q v H') : rCatA B.g.K v w H Q := by
  obtain ⟨Z, a, vs, rfl, h1, h2, l, sl, b, c⟩ := s.tupI
  obtain ⟨b1, b⟩ := b
  cases b1 with
  | d hx =>
    obtain ⟨a', us, e', h1', h2'⟩ := Dat.tupI hx
    have e'' : v = .ref a' := e'
    subst e''
    have hd := h2'.append h2
    rw [he] at hd
    have hl : us.length + vs.length ≤ sizeLine := by rw [h2'.length, h2.length]; exact fits_of hf
    refine ⟨a', a, us, vs, rfl, rfl, h1'.1, h1.1, hl, ?_, ?_, ?_⟩
    · intro e
      refine k _ _ (.push l sl b c (.tup h1 ?_))
      rw [e] at hd
      exact hd
    · intro _ e
      refine k _ _ (.push l sl b c (.tup h1' ?_))
      rw [e, List.append_nil] at hd
      exact hd
    · exact fun _ _ p hp => k _ _ (.newT l sl b c hp hd)
theorem o_catL {es ds' : List D} (hf : fits ds.length es.length = true) (he : ds ++ es = ds') (s : Bd B γ ((w, .d (.lst es)) :: (v, .d (.lst ds)) :: st) Ps σ H) (k : ∀ v H', Bd B γ ((v, .d (.lst ds')) :: st) Ps σ H' → Q v H') : rCat v w H Q := by
  obtain ⟨Z, a, vs, rfl, h1, h2, l, sl, b, c⟩ := s.lstI
  obtain ⟨b1, b⟩ := b
  cases b1 with
  | d hx =>
    obtain ⟨a', us, e', h1', _, h2'⟩ := Dat.lstI hx
    have e'' : v = .ref a' := e'
    subst e''
    have hd := h2'.append h2
    rw [he] at hd
    have hl : us.length + vs.length ≤ sizeLine := by rw [h2'.length, h2.length]; exact fits_of hf
    exact ⟨a', a, us, vs, rfl, rfl, h1', h1, hl, fun p hp => k _ _ (.newL l sl b c hp hd)⟩
/-- list(..), tuple(..) -/
theorem o_listL (s : Bd B γ ((v, .d (.lst ds)) :: st) Ps σ H) (k : ∀ v H', Bd B γ ((v, .d (.lst ds)) :: st) Ps σ H' → Q v H') : rListS B.g.K [v] H Q := by
  obtain ⟨Z, a, vs, rfl, h1, h2, l, sl, b, c⟩ := s.lstI
  exact ⟨a, vs, rfl, .inl (SqL.of h1), fun p hp => k _ _ (.newL l sl b c hp h2)⟩
theorem o_listT (s : Bd B γ ((v, .d (.tup ds)) :: st) Ps σ H) (k : ∀ v H', Bd B γ ((v, .d (.lst ds)) :: st) Ps σ H' → Q v H') : rListS B.g.K [v] H Q := by
  obtain ⟨Z, a, vs, rfl, h1, h2, l, sl, b, c⟩ := s.tupI
  exact ⟨a, vs, rfl, .inr h1.1, fun p hp => k _ _ (.newL l sl b c hp h2)⟩
theorem o_tupleL (s : Bd B γ ((v, .d (.lst ds)) :: st) Ps σ H) (k : ∀ v H', Bd B γ ((v, .d (.tup ds)) :: st) Ps σ H' → Q v H') : rTupS B.g.K [v] H Q := by
  obtain ⟨Z, a, vs, rfl, h1, h2, l, sl, b, c⟩ := s.lstI
  exact ⟨a, vs, rfl, .inl ⟨SqL.of h1, fun p hp => k _ _ (.newT l sl b c hp h2)⟩⟩
theorem o_tupleQ (s : Bd B γ ((v, .d (.seq ds)) :: st) Ps σ H) (k : ∀ v H', Bd B γ ((v, .d (.tup ds)) :: st) Ps σ H' → Q v H') : rTupS B.g.K [v] H Q := by
  obtain ⟨Z, a, vs, rfl, h1, h2, l, sl, b, c⟩ := s.seqI
  exact ⟨a, vs, rfl, .inl ⟨h1.1, fun p hp => k _ _ (.newT l sl b c hp h2)⟩⟩
theorem o_tupleT (s : Bd B γ ((v, .d (.tup ds)) :: st) Ps σ H) (k : ∀ v H', Bd B γ ((v, .d (.tup ds)) :: st) Ps σ H' → Q v H') : rTupS B.g.K [v] H Q := by
  obtain ⟨Z, a, vs, rfl, h1, h2, l, sl, b, c⟩ := s.tupI
  exact ⟨a, vs, rfl, .inr ⟨h1.1, k _ _ (.push l sl b c (.tup h1 h2))⟩⟩
/-! #### lists that may change -/
/-- the front thing's object -/
theorem Bd.front (s : Bd B γ st (pt a o :: Ps) σ H) : ∃ Z, OcOk B.g Z H a o ∧ ¬ Z a ∧ Le B.Z B.H Z H ∧ Slots B.g Z H γ σ ∧ Stk B.g Z H st ∧ Hs B.g Z (pt a o :: Ps) H := by
  obtain ⟨Z, l, sl, b, c⟩ := s
  obtain ⟨h1, h2⟩ := c.get
  exact ⟨Z, h1, h2, l, sl, b, c⟩
theorem o_ixO {n : Int} (p : Ps.Perm (pt a (.lst ds) :: F)) (hn : atI ds n = some d) (s : Bd B γ st Ps σ H) (k : ∀ v, Bd B γ ((v, .d d) :: st) Ps σ H → Q v H) : rIxL B.g.K (.ref a) (.int n) H Q := by
  obtain ⟨Z, ⟨vs, h1, h2⟩, _, l, sl, b, c⟩ := (s.perm p).front
  obtain ⟨u, e, hd⟩ := atI_dats h2 hn
  exact w_ixL (SqL.of h1) e (k u ⟨Z, l, sl, ⟨.d hd, b⟩, c.perm p.symm⟩)
theorem o_lenO {n : Nat} (p : Ps.Perm (pt a (.lst ds) :: F)) (hn : ds.length = n) (s : Bd B γ st Ps σ H) (k : Q (.int n) H) : rLenS B.g.K [.ref a] H Q := by
  obtain ⟨Z, ⟨vs, h1, h2⟩, _, l, sl, b, c⟩ := (s.perm p).front
  refine w_len (.inl (SqL.of h1)) ?_
  rw [h2.length, hn]
  exact k
theorem Bd.putL {Z : ZS} {vs : List V} (l : Le B.Z B.H Z H) (sl : Slots B.g Z H γ σ) (b : Stk B.g Z H st) (c : Hs B.g Z (pt a o :: Ps) H) (h : Dats B.g Z H vs ds) : Bd B γ st (pt a (.lst ds) :: Ps) σ (upd H a (.lst vs)) := by
  obtain ⟨c', l2⟩ := c.put (oc' := .lst ds) (u := .lst vs) fun l2 => ⟨vs, upd_same, h.up l2⟩
  exact ⟨Z, l.trans l2, sl.up l2, b.up l2, c'⟩
/-- a told value is a value at hand -/
theorem Bd.hand (s : Bd B γ st Ps σ H) (e : E) (he : toV e = some w) : Bd B γ ((w, e) :: st) Ps σ H := by
  obtain ⟨Z, l, sl, b, c⟩ := s
  exact ⟨Z, l, sl, ⟨val_of he, b⟩, c⟩
theorem Dats.one (h : Dat g Z H v d) : Dats g Z H [v] [d] := .cons h .nil
theorem o_app {ds' : List D} (p : Ps.Perm (pt a (.lst ds) :: F)) (hf : fits ds.length 1 = true) (he : ds ++ [d] = ds') (s : Bd B γ ((v, .d d) :: st) Ps σ H) (k : ∀ H', Bd B γ st (pt a (.lst ds') :: F) σ H' → Q .non H') : rAppend (.ref a) [v] H Q := by
  obtain ⟨Z, ⟨vs, h1, h2⟩, _, l, sl, b, c⟩ := (s.perm p).front
  have hl : vs.length + 1 ≤ sizeLine := by rw [h2.length]; exact fits_of hf
  obtain ⟨b1, b2⟩ := b
  cases b1 with
  | d hd => exact ⟨a, vs, v, rfl, rfl, h1, hl, k _ (.putL l sl b2 c (by rw [← he]; exact h2.append (.one hd)))⟩
theorem o_setL {ds' : List D} {n : Int} {j : Nat} {W : Hp → Prop} (p : Ps.Perm (pt a (.lst ds) :: F)) (hj : ixN ds.length n = some j) (he : ds.set j d = ds') (s : Bd B γ ((v, .d d) :: st) Ps σ H) (k : ∀ H', Bd B γ st (pt a (.lst ds') :: F) σ H' → W H') : rSetL (.ref a) (.int n) v H W := by
  obtain ⟨Z, ⟨vs, h1, h2⟩, _, l, sl, b, c⟩ := (s.perm p).front
  obtain ⟨b1, b2⟩ := b
  cases b1 with
  | d hd => exact ⟨a, vs, n, j, rfl, rfl, h1, by rw [h2.length]; exact hj, k _ (.putL l sl b2 c (by rw [← he]; exact h2.set hd j))⟩
theorem o_ext {es ds' : List D} (p : Ps.Perm (pt a (.lst ds) :: F)) (hf : fits ds.length es.length = true) (he : ds ++ es = ds') (s : Bd B γ ((v, .d (.lst es)) :: st) Ps σ H) (k : ∀ H', Bd B γ st (pt a (.lst ds') :: F) σ H' → Q .non H') : rExtend (.ref a) [v] H Q := by
  obtain ⟨Z, ⟨vs, h1, h2⟩, nz, l, sl, b, c⟩ := (s.perm p).front
  obtain ⟨b1, b2⟩ := b
  cases b1 with
  | d hx =>
    obtain ⟨a', us, rfl, h1', _, h2'⟩ := Dat.lstI hx
    have hl : vs.length + us.length ≤ sizeLine := by rw [h2'.length, h2.length]; exact fits_of hf
    exact ⟨a, a', vs, us, rfl, rfl, h1, h1', hl, k _ (.putL l sl b2 c (by rw [← he]; exact h2.append h2'))⟩
/-- a list won't change any more: its place is at hand -/
theorem k_freeze (p : Ps.Perm (pt a (.lst ds) :: F)) (s : Bd B γ st Ps σ H) : Bd B γ ((.ref a, .d (.lst ds)) :: st) F σ H := by
  obtain ⟨Z, l, sl, b, c⟩ := s.perm p
  obtain ⟨Z', c', l2, h⟩ := c.freeze
  exact ⟨Z', l.trans l2, sl.up l2, ⟨.d h, b.up l2⟩, c'⟩
theorem o_tupleO (p : Ps.Perm (pt a (.lst ds) :: F)) (s : Bd B γ st Ps σ H) (k : ∀ v H', Bd B γ ((v, .d (.tup ds)) :: st) Ps σ H' → Q v H') : rTupS B.g.K [.ref a] H Q := by
  obtain ⟨Z, ⟨vs, h1, h2⟩, _, l, sl, b, c⟩ := (s.perm p).front
  exact ⟨a, vs, rfl, .inl ⟨SqL.of h1, fun q hq => k _ _ ((Bd.newT l sl b c hq h2).perm p.symm)⟩⟩
end
/-! #### calls that give a new list -/
def RetN (B : Bs) (Q : VK) (P : Addr → As) (Ps : List As) : Prop := ∀ p Z' H', Le B.Z B.H Z' H' → Hs B.g Z' (P p :: Ps) H' → Q (.ref p) H'
def SpNew (g : G) {α β : Type} (ins : α → List E) (pin : α → List As) (m : α → R β) (new : α → β → Addr → As) (pout : α → β → List As) : Sp := fun vs H Q _ =>
  ∃ a F Z, Vals g Z H vs (ins a) ∧ Hs g Z (pin a ++ F) H ∧ (m a).All (fun r => RetN ⟨g, Z, H⟩ Q (new a r) (pout a r ++ F)) (fun _ => True)
section
variable {g : G} {Z Z' : ZS} {H H' : Hp} {B : Bs} {γ γ' : List (Option E)} {st st' : List (V × E)} {Ps Qs F : List As} {σ : St} {Q : VK} {v w : V} {p : Addr}
variable {α β ρ : Type} {ins : α → List E} {pin : α → List As} {m : α → R β} {new : α → β → Addr → As} {pout : α → β → List As} {a : α} {vs : List V} {f : β → R ρ} {K : ρ → Prop} {X : Exc → Prop} {Ex : XK}
theorem c_callN (a : α) (s : Bd B γ st' Ps σ H) (h : ((m a).bind f).All K X) (da : ∀ Z H, Stk B.g Z H st' → Vals B.g Z H vs (ins a) ∧ Stk B.g Z H st) (p : Ps.Perm (pin a ++ F))
    (k : ∀ r p H', Bd B γ st (new a r p :: (pout a r ++ F)) σ H' → (f r).All K X → Q (.ref p) H') : SpNew B.g ins pin m new pout vs H Q Ex := by
  obtain ⟨Z, l, sl, b, c⟩ := s
  obtain ⟨d1, d2⟩ := da Z H b
  refine ⟨a, F, Z, d1, c.perm p, (R.all_bind h).mono (fun r hr q Z' H' l' hs => ?_) fun _ _ => trivial⟩
  exact k r q H' ⟨Z', l.trans l', sl.up l', d2.up l', hs⟩ hr
theorem c_startN {n : Nat} (h : SpNew g ins pin m new pout vs H Q Ex) : ∃ (a : α) (F : List As) (Z : ZS), Bd ⟨g, Z, H⟩ ((ins a).map some ++ List.replicate n none) [] (pin a ++ F) (vs.map some ++ List.replicate n none) H ∧ (m a).All (fun r => RetN ⟨g, Z, H⟩ Q (new a r) (pout a r ++ F)) (fun _ => True) := by
  obtain ⟨a, F, Z, hd, hs, hm⟩ := h
  refine ⟨a, F, Z, ⟨Z, .refl, ?_, trivial, hs⟩, hm⟩
  exact slots_start hd
theorem c_lenN (h : SpNew g ins pin m new pout vs H Q Ex) : ∃ a, vs.length = (ins a).length := by
  obtain ⟨a, F, Z, hd, hs, hm⟩ := h
  exact ⟨a, hd.length⟩
theorem k_retN {B : Bs} {P : Addr → As} (s : Bd B γ st (P p :: Ps) σ H) (h : RetN B Q P Ps) : Q (.ref p) H := by
  obtain ⟨Z, l, sl, b, c⟩ := s
  exact h p Z H l c
end
end Mi

set_option Elab.async false
set_option linter.all false
set_option maxRecDepth 100000
set_option maxHeartbeats 4000000
namespace Mi
open PySem PySem.Spec PyProof.Rows L2 Evl Kit
/-! ### loops as functions -/
def forR {τ S : Type} : List τ → S → (τ → S → R S) → R S
  | [], s, _ => .ok s
  | x :: xs, s, f => (f x s).bind fun s => forR xs s f
inductive Fl (ρ S : Type) where
  | go (s : S) | brk (s : S) | ret (r : ρ)
def forE {τ S ρ : Type} : List τ → S → (τ → S → R (Fl ρ S)) → R (Fl ρ S)
  | [], s, _ => .ok (.go s)
  | x :: xs, s, f => (f x s).bind fun
    | .go s => forE xs s f
    | .brk s => .ok (.go s)
    | .ret r => .ok (.ret r)
def whileR {S : Type} : Nat → S → (S → R Bool) → (S → R S) → R S
  | 0, _, _, _ => .fail
  | n + 1, s, c, f => (c s).bind fun b => if b = true then (f s).bind fun s => whileR n s c f else .ok s
def whileE {S ρ : Type} : Nat → S → (S → R Bool) → (S → R (Fl ρ S)) → R (Fl ρ S)
  | 0, _, _, _ => .fail
  | n + 1, s, c, f => (c s).bind fun b => if b = true then (f s).bind fun
    | .go s => whileE n s c f
    | .brk s => .ok (.go s)
    | .ret r => .ok (.ret r) else .ok (.go s)
def mapR {τ S β : Type} : List τ → S → (τ → S → R (β × S)) → R (List β × S)
  | [], s, _ => .ok ([], s)
  | x :: xs, s, f => (f x s).bind fun p => (mapR xs p.2 f).bind fun q => .ok (p.1 :: q.1, q.2)
/-- with a test -/
def filR {τ S β : Type} : List τ → S → (τ → S → R (Option β × S)) → R (List β × S)
  | [], s, _ => .ok ([], s)
  | x :: xs, s, f => (f x s).bind fun p => (filR xs p.2 f).bind fun q => .ok ((match p.1 with | some y => y :: q.1 | none => q.1), q.2)
theorem mapR_ok {τ S β : Type} {f : τ → S → R (β × S)} {e : τ → β} (h : ∀ x s, f x s = .ok (e x, s)) : ∀ (xs : List τ) (s : S), mapR xs s f = .ok (xs.map e, s)
  | [], s => rfl
  | x :: xs, s => by
    unfold mapR
    rw [h, R.bind_ok, mapR_ok h xs]
    rfl
theorem forR_append {τ S : Type} (f : τ → S → R S) : ∀ (xs ys : List τ) (s : S), forR (xs ++ ys) s f = (forR xs s f).bind fun s => forR ys s f
  | [], ys, s => rfl
  | x :: xs, ys, s => by
    show (f x s).bind (fun s => forR (xs ++ ys) s f) = ((f x s).bind fun s => forR xs s f).bind _
    rw [R.bind_assoc]
    congr 1
    funext s
    exact forR_append f xs ys s
/-- what J walks: the items, while the things at hand stand -/
structure Walk (g : G) (J : It) (ds : List E) (st0 : List (V × E)) : Prop where
  stop : ∀ {Z : ZS} {H : Hp}, Stk g Z H st0 → J.stop ds.length H
  go : ∀ {Z : ZS} {H : Hp} {i : Nat}, Stk g Z H st0 → i < ds.length → J.go i H
  yld : ∀ {Z : ZS} {H : Hp} {i : Nat} {x : V} {H' : Hp} {d : E}, Stk g Z H st0 → ds[i]? = some d → J.yld i H x H' → (H' = H ∧ Val g Z H x d) ∨ ∃ p u, H p = none ∧ H' = upd H p u ∧ ((∀ a, Z a → H a ≠ none) → Val g (zadd Z p) H' x d)
section
variable {g : G} {Z Z' : ZS} {H H' : Hp} {B : Bs} {γ γ' : List (Option E)} {st st' st0 : List (V × E)} {Ps Qs F : List As} {σ : St} {Q : VK} {d : D} {e : E} {v w x y : V} {i j : Nat} {a b : Addr} {o : OC} {ds es : List D}
theorem Stk.app : ∀ {l m : List (V × E)}, Stk g Z H l → Stk g Z H m → Stk g Z H (l ++ m)
  | [], _, _, h => h
  | _ :: _, _, h1, h => ⟨h1.1, h1.2.app h⟩
theorem Stk.left : ∀ {l m : List (V × E)}, Stk g Z H (l ++ m) → Stk g Z H l
  | [], _, _ => trivial
  | _ :: _, _, h => ⟨h.1, h.2.left⟩
theorem Stk.right : ∀ {l m : List (V × E)}, Stk g Z H (l ++ m) → Stk g Z H m
  | [], _, h => h
  | _ :: _, _, h => h.2.right
theorem walk_tup : Walk g (Itt g.K a) (ds.map E.d) [(.ref a, .d (.tup ds))] := by
  have I : ∀ {Z : ZS} {H : Hp}, Stk g Z H [(.ref a, .d (.tup ds))] → ∃ vs, SqT g.K H a vs ∧ Dats g Z H vs ds := fun {Z H} h => by
    cases h.1 with
    | d h =>
      obtain ⟨a', vs, e, h1, h2⟩ := Dat.tupI h
      cases e
      exact ⟨vs, h1.1, h2⟩
  refine ⟨fun {Z H} h => ?_, fun {Z H i} h hi => ?_, fun {Z H i x H' d} h hi hy => ?_⟩
  · obtain ⟨vs, h1, h2⟩ := I h
    exact ⟨vs, h1, by rw [List.length_map, h2.length]; exact Nat.le_refl _⟩
  · obtain ⟨vs, h1, h2⟩ := I h
    rw [List.length_map, ← h2.length] at hi
    exact ⟨vs, vs[i], h1, List.getElem?_eq_getElem hi⟩
  · obtain ⟨vs, h1, h2⟩ := I h
    rw [List.getElem?_map] at hi
    cases q : ds[i]? with
    | none => rw [q] at hi; cases hi
    | some d0 =>
      rw [q] at hi
      cases hi
      obtain ⟨v, e1, e2⟩ := h2.get q
      have := hy.2 vs h1
      rw [e1] at this
      cases this
      obtain rfl := hy.1
      exact .inl ⟨rfl, .d e2⟩
theorem walk_seq (I : ∀ {Z : ZS} {H : Hp}, Stk g Z H st0 → ∃ vs, SqL g.K H a vs ∧ Dats g Z H vs ds) : Walk g (Itl g.K a) (ds.map E.d) st0 := by
  refine ⟨fun {Z H} h => ?_, fun {Z H i} h hi => ?_, fun {Z H i x H' d} h hi hy => ?_⟩
  · obtain ⟨vs, h1, h2⟩ := I h
    exact ⟨vs, h1, by rw [List.length_map, h2.length]; exact Nat.le_refl _⟩
  · obtain ⟨vs, h1, h2⟩ := I h
    rw [List.length_map, ← h2.length] at hi
    exact ⟨vs, vs[i], h1, List.getElem?_eq_getElem hi⟩
  · obtain ⟨vs, h1, h2⟩ := I h
    rw [List.getElem?_map] at hi
    cases q : ds[i]? with
    | none => rw [q] at hi; cases hi
    | some d0 =>
      rw [q] at hi
      cases hi
      obtain ⟨v, e1, e2⟩ := h2.get q
      have := hy.2 vs h1
      rw [e1] at this
      cases this
      obtain rfl := hy.1
      exact .inl ⟨rfl, .d e2⟩
theorem walk_lst : Walk g (Itl g.K a) (ds.map E.d) [(.ref a, .d (.lst ds))] := walk_seq fun {Z H} h => by
  cases h.1 with
  | d h =>
    obtain ⟨a', vs, e, h1, _, h2⟩ := Dat.lstI h
    cases e
    exact ⟨vs, SqL.of h1, h2⟩
theorem walk_sq : Walk g (Itl g.K a) (ds.map E.d) [(.ref a, .d (.seq ds))] := walk_seq fun {Z H} h => by
  cases h.1 with
  | d h =>
    obtain ⟨a', vs, e, h1, h2⟩ := Dat.seqI h
    cases e
    exact ⟨vs, h1.1, h2⟩
/-- range -/
def rng (lo : Int) (n : Nat) : List Int := (List.range n).map fun i : Nat => lo + (i : Int)
theorem walk_rng {lo : Int} {n : Nat} : Walk g (Itr lo n) ((rng lo n).map fun i => .d (.int i)) [] := by
  have hl : ((rng lo n).map fun i => E.d (.int i)).length = n := by simp [rng]
  refine ⟨fun {Z H} _ => ?_, fun {Z H i} _ hi => ?_, fun {Z H i x H' d} _ hi hy => ?_⟩
  · rw [hl]; exact Nat.le_refl n
  · rw [hl] at hi; exact hi
  · obtain ⟨rfl, rfl⟩ := hy
    refine .inl ⟨rfl, ?_⟩
    have hin : i < n := by
      have := (List.getElem?_eq_some_iff.mp hi).1
      rwa [hl] at this
    rw [List.getElem?_map, rng, List.getElem?_map, List.getElem?_range hin] at hi
    cases hi
    exact .d (.int _)
def rngC (lo c : Int) (n : Nat) : List Int := (List.range n).map fun i : Nat => lo + (i : Nat) * c
theorem walk_rngC {lo c : Int} {n : Nat} : Walk g (Itc lo c n) ((rngC lo c n).map fun i => .d (.int i)) [] := by
  have hl : ((rngC lo c n).map fun i => E.d (.int i)).length = n := by simp [rngC]
  refine ⟨fun {Z H} _ => ?_, fun {Z H i} _ hi => ?_, fun {Z H i x H' d} _ hi hy => ?_⟩
  · rw [hl]; exact Nat.le_refl n
  · rw [hl] at hi; exact hi
  · obtain ⟨rfl, rfl⟩ := hy
    refine .inl ⟨rfl, ?_⟩
    have hin : i < n := by
      have := (List.getElem?_eq_some_iff.mp hi).1
      rwa [hl] at this
    rw [List.getElem?_map, rngC, List.getElem?_map, List.getElem?_range hin] at hi
    cases hi
    exact .d (.int _)
end
/-- a turn's value is at hand -/
theorem Bd.yld {g : G} {B : Bs} {γ : List (Option E)} {st st0 : List (V × E)} {Ps : List As} {σ : St} {H H' : Hp} {J : It} {ds : List E} {i : Nat} {x : V} {d : E} (hg : B.g = g) (W : Walk g J ds st0) (s : Bd B γ (st0 ++ st) Ps σ H) (hi : ds[i]? = some d) (hy : J.yld i H x H') :
    Bd B γ ((x, d) :: (st0 ++ st)) Ps σ H' := by
  subst hg
  obtain ⟨Z, l, sl, b, c⟩ := s
  rcases W.yld b.left hi hy with ⟨rfl, h⟩ | ⟨p, u, hp, rfl, h⟩
  · exact ⟨Z, l, sl, ⟨h, b⟩, c⟩
  · have l2 : Le Z H (zadd Z p) (upd H p u) := le_zadd c.za hp
    exact ⟨_, l.trans l2, sl.up l2, ⟨h c.za, b.up l2⟩, c.zadd hp⟩
section
variable {B : Bs} {γ : List (Option E)} {st st0 : List (V × E)} {Ps : List As} {σ : St} {H : Hp} {Q : VK} {g : TG} {t : TS} {nx bk ct : St → Hp → Prop} {rt : VK} {J : It}
variable {τ S ρ ρ' : Type} {γS : S → List (Option E)} {PsS : S → List As} {em : τ → E} {xs : List τ} {s0 : S} {K : ρ → Prop} {X : Exc → Prop}
/-- for: the loop never leaves the def -/
theorem m_forR (γS : S → List (Option E)) (PsS : S → List As) {f : τ → S → R S} {k : S → R ρ} (W : Walk B.g J (xs.map em) st0) (s : Bd B (γS s0) (st0 ++ st) (PsS s0) σ H) (h : ((forR xs s0 f).bind k).All K X)
    (body : ∀ x s1 v σ H N KK, Bd B (γS s1) ((v, em x) :: (st0 ++ st)) (PsS s1) σ H → (f x s1).All KK X → (∀ s2 σ H, Bd B (γS s2) (st0 ++ st) (PsS s2) σ H → KK s2 → N σ H) → g v σ H fun σ2 H2 => Sm t N rt nx N σ2 H2)
    (done : ∀ s1 σ H, Bd B (γS s1) st (PsS s1) σ H → (k s1).All K X → nx σ H) : Fj J g t nx rt σ H := by
  refine ⟨fun i m σ H => i ≤ xs.length ∧ m = xs.length - i ∧ ∃ s1, Bd B (γS s1) (st0 ++ st) (PsS s1) σ H ∧ (forR (xs.drop i) s1 f).All (fun s => (k s).All K X) X, ⟨xs.length, Nat.zero_le _, rfl, s0, s, by rw [List.drop_zero]; exact R.all_bind h⟩, fun i m σ H ⟨hi, hm, s1, b, q⟩ => ?_⟩
  by_cases hlt : i < xs.length
  · have hl : (xs.map em).length = xs.length := List.length_map _
    rw [List.drop_eq_getElem_cons hlt] at q
    have q' := R.all_bind q
    obtain ⟨Z, l, sl, bb, c⟩ := id b
    refine .inr ⟨W.go bb.left (by rw [hl]; exact hlt), fun σ' H' => ∃ s2, Bd B (γS s2) (st0 ++ st) (PsS s2) σ' H' ∧ (forR (xs.drop (i + 1)) s2 f).All (fun s => (k s).All K X) X, fun σ' H' ⟨s2, b2, q2⟩ => ⟨xs.length - (i + 1), by omega, by omega, rfl, s2, b2, q2⟩, fun x H' hy => ?_⟩
    refine body xs[i] s1 x σ H' _ _ (Bd.yld rfl W b (d := em xs[i]) (by rw [List.getElem?_map, List.getElem?_eq_getElem hlt]; rfl) hy) q' fun s2 σ2 H2 b2 q2 => ⟨s2, b2, q2⟩
  · have e : i = xs.length := by omega
    subst e
    obtain ⟨Z, l, sl, bb, c⟩ := id b
    refine .inl ⟨by have := W.stop bb.left; rw [List.length_map] at this; exact this, ?_⟩
    rw [List.drop_length] at q
    exact done s1 σ H ⟨Z, l, sl, bb.right, c⟩ q
/-- for: the loop may leave the def, or be left -/
theorem m_forE (γS : S → List (Option E)) (PsS : S → List As) {f : τ → S → R (Fl ρ' S)} {k : Fl ρ' S → R ρ} (W : Walk B.g J (xs.map em) st0) (s : Bd B (γS s0) (st0 ++ st) (PsS s0) σ H) (h : ((forE xs s0 f).bind k).All K X)
    (body : ∀ x s1 v σ H N KK, Bd B (γS s1) ((v, em x) :: (st0 ++ st)) (PsS s1) σ H → (f x s1).All KK X → (∀ s2 σ H, Bd B (γS s2) (st0 ++ st) (PsS s2) σ H → KK (.go s2) → N σ H) → (∀ s2 σ H, Bd B (γS s2) (st0 ++ st) (PsS s2) σ H → KK (.brk s2) → nx σ H) → (∀ r, KK (.ret r) → (k (.ret r)).All K X) → g v σ H fun σ2 H2 => Sm t N rt nx N σ2 H2)
    (done : ∀ s1 σ H, Bd B (γS s1) st (PsS s1) σ H → (k (.go s1)).All K X → nx σ H) : Fj J g t nx rt σ H := by
  refine ⟨fun i m σ H => i ≤ xs.length ∧ m = xs.length - i ∧ ∃ s1, Bd B (γS s1) (st0 ++ st) (PsS s1) σ H ∧ (forE (xs.drop i) s1 f).All (fun s => (k s).All K X) X, ⟨xs.length, Nat.zero_le _, rfl, s0, s, by rw [List.drop_zero]; exact R.all_bind h⟩, fun i m σ H ⟨hi, hm, s1, b, q⟩ => ?_⟩
  by_cases hlt : i < xs.length
  · have hl : (xs.map em).length = xs.length := List.length_map _
    rw [List.drop_eq_getElem_cons hlt] at q
    have q' := R.all_bind q
    obtain ⟨Z, l, sl, bb, c⟩ := id b
    refine .inr ⟨W.go bb.left (by rw [hl]; exact hlt), fun σ' H' => ∃ s2, Bd B (γS s2) (st0 ++ st) (PsS s2) σ' H' ∧ (forE (xs.drop (i + 1)) s2 f).All (fun s => (k s).All K X) X, fun σ' H' ⟨s2, b2, q2⟩ => ⟨xs.length - (i + 1), by omega, by omega, rfl, s2, b2, q2⟩, fun x H' hy => ?_⟩
    refine body xs[i] s1 x σ H' _ _ (Bd.yld rfl W b (d := em xs[i]) (by rw [List.getElem?_map, List.getElem?_eq_getElem hlt]; rfl) hy) q' (fun s2 σ2 H2 b2 q2 => ⟨s2, b2, q2⟩) (fun s2 σ2 H2 b2 q2 => ?_) fun r q => q
    obtain ⟨Z2, l2, sl2, bb2, c2⟩ := b2
    exact done s2 σ2 H2 ⟨Z2, l2, sl2, bb2.right, c2⟩ q2
  · have e : i = xs.length := by omega
    subst e
    obtain ⟨Z, l, sl, bb, c⟩ := id b
    refine .inl ⟨by have := W.stop bb.left; rw [List.length_map] at this; exact this, ?_⟩
    rw [List.drop_length] at q
    exact done s1 σ H ⟨Z, l, sl, bb.right, c⟩ q
end
/-- a target that is a name -/
theorem k_gname {B : Bs} {γ : List (Option E)} {st : List (V × E)} {Ps : List As} {σ : St} {H : Hp} {v : V} {e : E} {i : Nat} {Q : St → Hp → Prop} {f : Option E → List (Option E)} [h : SetG γ i f] (s : Bd B γ ((v, e) :: st) Ps σ H) (k : ∀ σ, Bd B (f (some e)) st Ps σ H → Q σ H) : gName i v σ H Q := by
  obtain ⟨Z, l, a, b, c⟩ := s
  exact k _ ⟨Z, l, by rw [← h.eq]; exact a.set b.1 i, b.2, c⟩
end Mi

set_option Elab.async false
set_option linter.all false
set_option maxRecDepth 100000
set_option maxHeartbeats 4000000
namespace Mi
open PySem PySem.Spec PyProof.Rows L2 Evl Kit
theorem Dats.inv {g : G} {Z : ZS} {H : Hp} {vs : List V} {d : D} {ds : List D} (h : Dats g Z H vs (d :: ds)) : ∃ v ws, vs = v :: ws ∧ Dat g Z H v d ∧ Dats g Z H ws ds := by
  cases h with
  | cons h t => exact ⟨_, _, rfl, h, t⟩
theorem Dats.nil' {g : G} {Z : ZS} {H : Hp} {vs : List V} (h : Dats g Z H vs []) : vs = [] := by
  cases h; rfl
theorem k_gtup1 {B : Bs} {γ : List (Option E)} {st : List (V × E)} {Ps : List As} {σ : St} {H : Hp} {v : V} {d0 : D} {i0 : Nat} {Q : St → Hp → Prop} {f0 : Option E → List (Option E)} [h0 : SetG γ i0 f0] (s : Bd B γ ((v, .d (.tup [d0])) :: st) Ps σ H) (k : ∀ σ, Bd B (f0 (some (.d d0))) st Ps σ H → Q σ H) : gTup B.g.K 1 (gCons (gName i0) gNil) v σ H Q := by
  obtain ⟨Z, a, vs, rfl, h, hd, l, sl, b, c⟩ := s.tupI
  obtain ⟨u0, vs, rfl, q0, hd⟩ := hd.inv
  cases hd.nil'
  refine ⟨a, _, rfl, h.1, rfl, ⟨_, _, rfl, ⟨rfl, k _ ⟨Z, l, ?_, b, c⟩⟩⟩⟩
  rw [← h0.eq]
  exact (Slots.set (.d q0) i0 sl)
theorem k_gtup2 {B : Bs} {γ : List (Option E)} {st : List (V × E)} {Ps : List As} {σ : St} {H : Hp} {v : V} {d0 d1 : D} {i0 i1 : Nat} {Q : St → Hp → Prop} {f0 f1 : Option E → List (Option E)} [h0 : SetG γ i0 f0] [h1 : SetG (f0 (some (.d d0))) i1 f1] (s : Bd B γ ((v, .d (.tup [d0, d1])) :: st) Ps σ H) (k : ∀ σ, Bd B (f1 (some (.d d1))) st Ps σ H → Q σ H) : gTup B.g.K 2 (gCons (gName i0) (gCons (gName i1) gNil)) v σ H Q := by
  obtain ⟨Z, a, vs, rfl, h, hd, l, sl, b, c⟩ := s.tupI
  obtain ⟨u0, vs, rfl, q0, hd⟩ := hd.inv
  obtain ⟨u1, vs, rfl, q1, hd⟩ := hd.inv
  cases hd.nil'
  refine ⟨a, _, rfl, h.1, rfl, ⟨_, _, rfl, ⟨_, _, rfl, ⟨rfl, k _ ⟨Z, l, ?_, b, c⟩⟩⟩⟩⟩
  rw [← h1.eq, ← h0.eq]
  exact (Slots.set (.d q1) i1 (Slots.set (.d q0) i0 sl))
theorem k_gtup3 {B : Bs} {γ : List (Option E)} {st : List (V × E)} {Ps : List As} {σ : St} {H : Hp} {v : V} {d0 d1 d2 : D} {i0 i1 i2 : Nat} {Q : St → Hp → Prop} {f0 f1 f2 : Option E → List (Option E)} [h0 : SetG γ i0 f0] [h1 : SetG (f0 (some (.d d0))) i1 f1] [h2 : SetG (f1 (some (.d d1))) i2 f2] (s : Bd B γ ((v, .d (.tup [d0, d1, d2])) :: st) Ps σ H) (k : ∀ σ, Bd B (f2 (some (.d d2))) st Ps σ H → Q σ H) : gTup B.g.K 3 (gCons (gName i0) (gCons (gName i1) (gCons (gName i2) gNil))) v σ H Q := by
  obtain ⟨Z, a, vs, rfl, h, hd, l, sl, b, c⟩ := s.tupI
  obtain ⟨u0, vs, rfl, q0, hd⟩ := hd.inv
  obtain ⟨u1, vs, rfl, q1, hd⟩ := hd.inv
  obtain ⟨u2, vs, rfl, q2, hd⟩ := hd.inv
  cases hd.nil'
  refine ⟨a, _, rfl, h.1, rfl, ⟨_, _, rfl, ⟨_, _, rfl, ⟨_, _, rfl, ⟨rfl, k _ ⟨Z, l, ?_, b, c⟩⟩⟩⟩⟩⟩
  rw [← h2.eq, ← h1.eq, ← h0.eq]
  exact (Slots.set (.d q2) i2 (Slots.set (.d q1) i1 (Slots.set (.d q0) i0 sl)))
theorem k_gtup4 {B : Bs} {γ : List (Option E)} {st : List (V × E)} {Ps : List As} {σ : St} {H : Hp} {v : V} {d0 d1 d2 d3 : D} {i0 i1 i2 i3 : Nat} {Q : St → Hp → Prop} {f0 f1 f2 f3 : Option E → List (Option E)} [h0 : SetG γ i0 f0] [h1 : SetG (f0 (some (.d d0))) i1 f1] [h2 : SetG (f1 (some (.d d1))) i2 f2] [h3 : SetG (f2 (some (.d d2))) i3 f3] (s : Bd B γ ((v, .d (.tup [d0, d1, d2, d3])) :: st) Ps σ H) (k : ∀ σ, Bd B (f3 (some (.d d3))) st Ps σ H → Q σ H) : gTup B.g.K 4 (gCons (gName i0) (gCons (gName i1) (gCons (gName i2) (gCons (gName i3) gNil)))) v σ H Q := by
  obtain ⟨Z, a, vs, rfl, h, hd, l, sl, b, c⟩ := s.tupI
  obtain ⟨u0, vs, rfl, q0, hd⟩ := hd.inv
  obtain ⟨u1, vs, rfl, q1, hd⟩ := hd.inv
  obtain ⟨u2, vs, rfl, q2, hd⟩ := hd.inv
  obtain ⟨u3, vs, rfl, q3, hd⟩ := hd.inv
  cases hd.nil'
  refine ⟨a, _, rfl, h.1, rfl, ⟨_, _, rfl, ⟨_, _, rfl, ⟨_, _, rfl, ⟨_, _, rfl, ⟨rfl, k _ ⟨Z, l, ?_, b, c⟩⟩⟩⟩⟩⟩⟩
  rw [← h3.eq, ← h2.eq, ← h1.eq, ← h0.eq]
  exact (Slots.set (.d q3) i3 (Slots.set (.d q2) i2 (Slots.set (.d q1) i1 (Slots.set (.d q0) i0 sl))))
theorem k_gtup5 {B : Bs} {γ : List (Option E)} {st : List (V × E)} {Ps : List As} {σ : St} {H : Hp} {v : V} {d0 d1 d2 d3 d4 : D} {i0 i1 i2 i3 i4 : Nat} {Q : St → Hp → Prop} {f0 f1 f2 f3 f4 : Option E → List (Option E)} [h0 : SetG γ i0 f0] [h1 : SetG (f0 (some (.d d0))) i1 f1] [h2 : SetG (f1 (some (.d d1))) i2 f2] [h3 : SetG (f2 (some (.d d2))) i3 f3] [h4 : SetG (f3 (some (.d d3))) i4 f4] (s : Bd B γ ((v, .d (.tup [d0, d1, d2, d3, d4])) :: st) Ps σ H) (k : ∀ σ, Bd B (f4 (some (.d d4))) st Ps σ H → Q σ H) : gTup B.g.K 5 (gCons (gName i0) (gCons (gName i1) (gCons (gName i2) (gCons (gName i3) (gCons (gName i4) gNil))))) v σ H Q := by
  obtain ⟨Z, a, vs, rfl, h, hd, l, sl, b, c⟩ := s.tupI
  obtain ⟨u0, vs, rfl, q0, hd⟩ := hd.inv
  obtain ⟨u1, vs, rfl, q1, hd⟩ := hd.inv
  obtain ⟨u2, vs, rfl, q2, hd⟩ := hd.inv
  obtain ⟨u3, vs, rfl, q3, hd⟩ := hd.inv
  obtain ⟨u4, vs, rfl, q4, hd⟩ := hd.inv
  cases hd.nil'
  refine ⟨a, _, rfl, h.1, rfl, ⟨_, _, rfl, ⟨_, _, rfl, ⟨_, _, rfl, ⟨_, _, rfl, ⟨_, _, rfl, ⟨rfl, k _ ⟨Z, l, ?_, b, c⟩⟩⟩⟩⟩⟩⟩⟩
  rw [← h4.eq, ← h3.eq, ← h2.eq, ← h1.eq, ← h0.eq]
  exact (Slots.set (.d q4) i4 (Slots.set (.d q3) i3 (Slots.set (.d q2) i2 (Slots.set (.d q1) i1 (Slots.set (.d q0) i0 sl)))))
theorem k_gtup6 {B : Bs} {γ : List (Option E)} {st : List (V × E)} {Ps : List As} {σ : St} {H : Hp} {v : V} {d0 d1 d2 d3 d4 d5 : D} {i0 i1 i2 i3 i4 i5 : Nat} {Q : St → Hp → Prop} {f0 f1 f2 f3 f4 f5 : Option E → List (Option E)} [h0 : SetG γ i0 f0] [h1 : SetG (f0 (some (.d d0))) i1 f1] [h2 : SetG (f1 (some (.d d1))) i2 f2] [h3 : SetG (f2 (some (.d d2))) i3 f3] [h4 : SetG (f3 (some (.d d3))) i4 f4] [h5 : SetG (f4 (some (.d d4))) i5 f5] (s : Bd B γ ((v, .d (.tup [d0, d1, d2, d3, d4, d5])) :: st) Ps σ H) (k : ∀ σ, Bd B (f5 (some (.d d5))) st Ps σ H → Q σ H) : gTup B.g.K 6 (gCons (gName i0) (gCons (gName i1) (gCons (gName i2) (gCons (gName i3) (gCons (gName i4) (gCons (gName i5) gNil)))))) v σ H Q := by
  obtain ⟨Z, a, vs, rfl, h, hd, l, sl, b, c⟩ := s.tupI
  obtain ⟨u0, vs, rfl, q0, hd⟩ := hd.inv
  obtain ⟨u1, vs, rfl, q1, hd⟩ := hd.inv
  obtain ⟨u2, vs, rfl, q2, hd⟩ := hd.inv
  obtain ⟨u3, vs, rfl, q3, hd⟩ := hd.inv
  obtain ⟨u4, vs, rfl, q4, hd⟩ := hd.inv
  obtain ⟨u5, vs, rfl, q5, hd⟩ := hd.inv
  cases hd.nil'
  refine ⟨a, _, rfl, h.1, rfl, ⟨_, _, rfl, ⟨_, _, rfl, ⟨_, _, rfl, ⟨_, _, rfl, ⟨_, _, rfl, ⟨_, _, rfl, ⟨rfl, k _ ⟨Z, l, ?_, b, c⟩⟩⟩⟩⟩⟩⟩⟩⟩
  rw [← h5.eq, ← h4.eq, ← h3.eq, ← h2.eq, ← h1.eq, ← h0.eq]
  exact (Slots.set (.d q5) i5 (Slots.set (.d q4) i4 (Slots.set (.d q3) i3 (Slots.set (.d q2) i2 (Slots.set (.d q1) i1 (Slots.set (.d q0) i0 sl))))))
theorem k_gtup7 {B : Bs} {γ : List (Option E)} {st : List (V × E)} {Ps : List As} {σ : St} {H : Hp} {v : V} {d0 d1 d2 d3 d4 d5 d6 : D} {i0 i1 i2 i3 i4 i5 i6 : Nat} {Q : St → Hp → Prop} {f0 f1 f2 f3 f4 f5 f6 : Option E → List (Option E)} [h0 : SetG γ i0 f0] [h1 : SetG (f0 (some (.d d0))) i1 f1] [h2 : SetG (f1 (some (.d d1))) i2 f2] [h3 : SetG (f2 (some (.d d2))) i3 f3] [h4 : SetG (f3 (some (.d d3))) i4 f4] [h5 : SetG (f4 (some (.d d4))) i5 f5] [h6 : SetG (f5 (some (.d d5))) i6 f6] (s : Bd B γ ((v, .d (.tup [d0, d1, d2, d3, d4, d5, d6])) :: st) Ps σ H) (k : ∀ σ, Bd B (f6 (some (.d d6))) st Ps σ H → Q σ H) : gTup B.g.K 7 (gCons (gName i0) (gCons (gName i1) (gCons (gName i2) (gCons (gName i3) (gCons (gName i4) (gCons (gName i5) (gCons (gName i6) gNil))))))) v σ H Q := by
  obtain ⟨Z, a, vs, rfl, h, hd, l, sl, b, c⟩ := s.tupI
  obtain ⟨u0, vs, rfl, q0, hd⟩ := hd.inv
  obtain ⟨u1, vs, rfl, q1, hd⟩ := hd.inv
  obtain ⟨u2, vs, rfl, q2, hd⟩ := hd.inv
  obtain ⟨u3, vs, rfl, q3, hd⟩ := hd.inv
  obtain ⟨u4, vs, rfl, q4, hd⟩ := hd.inv
  obtain ⟨u5, vs, rfl, q5, hd⟩ := hd.inv
  obtain ⟨u6, vs, rfl, q6, hd⟩ := hd.inv
  cases hd.nil'
  refine ⟨a, _, rfl, h.1, rfl, ⟨_, _, rfl, ⟨_, _, rfl, ⟨_, _, rfl, ⟨_, _, rfl, ⟨_, _, rfl, ⟨_, _, rfl, ⟨_, _, rfl, ⟨rfl, k _ ⟨Z, l, ?_, b, c⟩⟩⟩⟩⟩⟩⟩⟩⟩⟩
  rw [← h6.eq, ← h5.eq, ← h4.eq, ← h3.eq, ← h2.eq, ← h1.eq, ← h0.eq]
  exact (Slots.set (.d q6) i6 (Slots.set (.d q5) i5 (Slots.set (.d q4) i4 (Slots.set (.d q3) i3 (Slots.set (.d q2) i2 (Slots.set (.d q1) i1 (Slots.set (.d q0) i0 sl)))))))
end Mi

set_option Elab.async false
set_option linter.all false
set_option maxRecDepth 100000
set_option maxHeartbeats 4000000
namespace Mi
open PySem PySem.Spec PyProof.Rows L2 Evl Kit
/-! ### == of data -/
mutual
def D.py : D → PyData
  | .non => .none
  | .bl b => .bool b
  | .int i => .int i
  | .str s => .str s
  | .tup ds => .tuple (D.pys ds)
  | .lst ds => .list (D.pys ds)
  | .seq ds => .list (D.pys ds)
def D.pys : List D → List PyData
  | [] => []
  | d :: ds => d.py :: D.pys ds
end
def D.eqv (a b : D) : Bool := PyData.eqv a.py b.py
def D.eqOk (a b : D) : Bool := SeqAt.shaped a.py && SeqAt.shaped b.py
section
variable {g : G} {Z Z' : ZS} {H H' : Hp} {B : Bs} {γ γ' : List (Option E)} {st st' st0 : List (V × E)} {Ps Qs F : List As} {σ : St} {Q : VK} {d d1 d2 : D} {e : E} {v w x y : V} {i j : Nat} {a b : Addr} {o : OC} {ds es : List D}
mutual
theorem Dat.dp : ∀ {v : V} {d : D}, Dat g Z H v d → Dp g.K H v d.py
  | _, _, .non => .non
  | _, _, .bl b => .bl b
  | _, _, .int i => .int i
  | _, _, .str s => .str s
  | _, _, .tup h t => .tup h.1 (Dats.dp t)
  | _, _, .lst h _ t => .lst (SqL.of h) (Dats.dp t)
  | _, _, .seq h t => .lst h.1 (Dats.dp t)
theorem Dats.dp : ∀ {vs : List V} {ds : List D}, Dats g Z H vs ds → DpAll g.K H vs (D.pys ds)
  | _, _, .nil => .nil
  | _, _, .cons h t => .cons (Dat.dp h) (Dats.dp t)
end
theorem Bd.two (s : Bd B γ ((w, .d d2) :: (v, .d d1) :: st) Ps σ H) : ∃ Z, Dat B.g Z H v d1 ∧ Dat B.g Z H w d2 := by
  obtain ⟨Z, l, sl, ⟨b1, b2, b3⟩, c⟩ := s
  cases b1 with
  | d h1 => cases b2 with
    | d h2 => exact ⟨Z, h2, h1⟩
theorem o_eqD (he : D.eqOk d1 d2 = true) (s : Bd B γ ((w, .d d2) :: (v, .d d1) :: st) Ps σ H) (k : Bd B γ st Ps σ H → Q (.bl (D.eqv d1 d2)) H) : rEqD B.g.K v w H Q := by
  obtain ⟨Z, h1, h2⟩ := s.two
  unfold D.eqOk at he
  rw [Bool.and_eq_true] at he
  exact w_eqD h1.dp h2.dp he.1 he.2 (k s.pop.pop)
theorem o_neD (he : D.eqOk d1 d2 = true) (s : Bd B γ ((w, .d d2) :: (v, .d d1) :: st) Ps σ H) (k : Bd B γ st Ps σ H → Q (.bl (!D.eqv d1 d2)) H) : rNeD B.g.K v w H Q := by
  obtain ⟨Z, h1, h2⟩ := s.two
  unfold D.eqOk at he
  rw [Bool.and_eq_true] at he
  exact w_neD h1.dp h2.dp he.1 he.2 (k s.pop.pop)
/-! ### in -/
def D.flat : D → Bool
  | .non => true | .bl _ => true | .int _ => true | .str _ => true | _ => false
/-- == of flat data -/
def D.eqF : D → D → Bool
  | .non, .non => true
  | .bl a, .bl b => a == b
  | .bl a, .int b => (if a then 1 else 0) == b
  | .int a, .bl b => a == (if b then 1 else 0)
  | .int a, .int b => a == b
  | .str a, .str b => a == b
  | _, _ => false
theorem Dat.flatV (h : Dat g Z H v d) (f : d.flat = true) : L2.flatV v = true := by
  cases h <;> first | rfl | cases f
theorem dat_eqV (h1 : Dat g Z H v d1) (h2 : Dat g Z H w d2) (f1 : d1.flat = true) (f2 : d2.flat = true) : eqV v w = D.eqF d1 d2 := by
  cases h1 <;> cases h2 <;> first | rfl | cases f1 | cases f2
def inF (x : D) (ds : List D) : Bool := ds.any fun y => D.eqF y x
theorem dats_in (h : Dat g Z H v d) (f : d.flat = true) : ∀ {vs : List V} {ds : List D}, Dats g Z H vs ds → ds.all D.flat = true → inV v vs = inF d ds ∧ vs.all L2.flatV = true
  | _, _, .nil, _ => ⟨rfl, rfl⟩
  | _, _, .cons h1 t, fs => by
    rw [List.all_cons, Bool.and_eq_true] at fs
    obtain ⟨e1, e2⟩ := dats_in h f t fs.2
    unfold inV inF at *
    rw [List.any_cons, List.any_cons, List.all_cons, dat_eqV h1 h fs.1 f, e1, h1.flatV fs.1, e2]
    exact ⟨rfl, rfl⟩
theorem o_inT (f : d.flat = true) (fs : ds.all D.flat = true) (s : Bd B γ ((w, .d (.tup ds)) :: (v, .d d) :: st) Ps σ H) (k : Bd B γ st Ps σ H → Q (.bl (inF d ds)) H) : rIn B.g.K false v w H Q := by
  obtain ⟨Z, h1, h2⟩ := s.two
  obtain ⟨a, vs, rfl, q1, q2⟩ := Dat.tupI h2
  obtain ⟨e1, e2⟩ := dats_in h1 f q2 fs
  exact w_inT q1.1 (h1.flatV f) e2 (by rw [e1]; exact k s.pop.pop)
theorem o_ninT (f : d.flat = true) (fs : ds.all D.flat = true) (s : Bd B γ ((w, .d (.tup ds)) :: (v, .d d) :: st) Ps σ H) (k : Bd B γ st Ps σ H → Q (.bl (!inF d ds)) H) : rIn B.g.K true v w H Q := by
  obtain ⟨Z, h1, h2⟩ := s.two
  obtain ⟨a, vs, rfl, q1, q2⟩ := Dat.tupI h2
  obtain ⟨e1, e2⟩ := dats_in h1 f q2 fs
  exact w_inT q1.1 (h1.flatV f) e2 (by rw [e1]; exact k s.pop.pop)
theorem o_inL (f : d.flat = true) (fs : ds.all D.flat = true) (s : Bd B γ ((w, .d (.lst ds)) :: (v, .d d) :: st) Ps σ H) (k : Bd B γ st Ps σ H → Q (.bl (inF d ds)) H) : rIn B.g.K false v w H Q := by
  obtain ⟨Z, h1, h2⟩ := s.two
  obtain ⟨a, vs, rfl, q1, _, q2⟩ := Dat.lstI h2
  obtain ⟨e1, e2⟩ := dats_in h1 f q2 fs
  exact w_inL (SqL.of q1) (h1.flatV f) e2 (by rw [e1]; exact k s.pop.pop)
theorem o_ninL (f : d.flat = true) (fs : ds.all D.flat = true) (s : Bd B γ ((w, .d (.lst ds)) :: (v, .d d) :: st) Ps σ H) (k : Bd B γ st Ps σ H → Q (.bl (!inF d ds)) H) : rIn B.g.K true v w H Q := by
  obtain ⟨Z, h1, h2⟩ := s.two
  obtain ⟨a, vs, rfl, q1, _, q2⟩ := Dat.lstI h2
  obtain ⟨e1, e2⟩ := dats_in h1 f q2 fs
  exact w_inL (SqL.of q1) (h1.flatV f) e2 (by rw [e1]; exact k s.pop.pop)
/-- all, any, sum of a list at hand -/
theorem dats_bls : ∀ {bs : List Bool} {vs : List V}, Dats g Z H vs (bs.map D.bl) → vs = bs.map V.bl
  | [], _, .nil => rfl
  | b :: bs, _, .cons h t => by
    cases h
    rw [dats_bls t]
    rfl
theorem dats_ints : ∀ {bs : List Int} {vs : List V}, Dats g Z H vs (bs.map D.int) → vs = bs.map V.int
  | [], _, .nil => rfl
  | b :: bs, _, .cons h t => by
    cases h
    rw [dats_ints t]
    rfl
theorem dats_strs : ∀ {bs : List Str} {vs : List V}, Dats g Z H vs (bs.map D.str) → vs = bs.map V.str
  | [], _, .nil => rfl
  | b :: bs, _, .cons h t => by
    cases h
    rw [dats_strs t]
    rfl
theorem o_all {bs : List Bool} (s : Bd B γ ((v, .d (.lst (bs.map D.bl))) :: st) Ps σ H) (k : Bd B γ st Ps σ H → Q (.bl (bs.all id)) H) : L2.rAll B.g.K [v] H Q := by
  obtain ⟨Z, a, vs, rfl, h1, h2, _⟩ := s.lstI
  exact ⟨a, bs, rfl, SqL.of (by rw [h1, dats_bls h2]), k s.pop⟩
theorem o_any {bs : List Bool} (s : Bd B γ ((v, .d (.lst (bs.map D.bl))) :: st) Ps σ H) (k : Bd B γ st Ps σ H → Q (.bl (bs.any id)) H) : L2.rAny B.g.K [v] H Q := by
  obtain ⟨Z, a, vs, rfl, h1, h2, _⟩ := s.lstI
  exact ⟨a, bs, rfl, SqL.of (by rw [h1, dats_bls h2]), k s.pop⟩
theorem o_sum {bs : List Int} (s : Bd B γ ((v, .d (.lst (bs.map D.int))) :: st) Ps σ H) (k : Bd B γ st Ps σ H → Q (.int bs.sum) H) : L2.rSum B.g.K [v] H Q := by
  obtain ⟨Z, a, vs, rfl, h1, h2, _⟩ := s.lstI
  exact ⟨a, bs, rfl, SqL.of (by rw [h1, dats_ints h2]), k s.pop⟩
/-! ### comprehensions -/
def mapC {τ S β : Type} (xs : List τ) (s : S) (f : τ → S → R (β × S)) : R (List β × S) := if decide (xs.length ≤ 40000) = true then mapR xs s f else .fail
def filC {τ S β : Type} (xs : List τ) (s : S) (f : τ → S → R (Option β × S)) : R (List β × S) := if decide (xs.length ≤ 40000) = true then filR xs s f else .fail
end
theorem Slots.unset {g : G} {Z : ZS} {H : Hp} {x : Option V} : ∀ {γ : List (Option E)} {σ : St} {i : Nat}, Slots g Z H (γ.set i none) (σ.set i x) → Slots g Z H (γ.set i none) σ
  | [], [], _, _ => .nil
  | [], _ :: _, 0, h => nomatch h
  | [], _ :: _, _ + 1, h => nomatch h
  | _ :: _, [], 0, h => nomatch h
  | _ :: _, [], _ + 1, h => nomatch h
  | none :: γ, y :: σ, 0, .no t => .no t
  | some e :: γ, y :: σ, 0, .no t => .no t
  | none :: γ, y :: σ, i + 1, .no t => .no (Slots.unset t)
  | some e :: γ, some y :: σ, i + 1, .so h t => .so h (Slots.unset t)
theorem Bd.slots {B : Bs} {γ δ : List (Option E)} {st : List (V × E)} {Ps : List As} {σ τ : St} {H : Hp} (s : Bd B γ st Ps σ H) (h : ∀ Z, Slots B.g Z H γ σ → Slots B.g Z H δ τ) : Bd B δ st Ps τ H := by
  obtain ⟨Z, l, a, b, c⟩ := s
  exact ⟨Z, l, h Z a, b, c⟩
/-- the slots of a block's own names, forgotten -/
def wipeG (γ : List (Option E)) : List Nat → List (Option E)
  | [] => γ
  | v :: vs => (wipeG γ vs).set v none
theorem Slots.wipe {g : G} {Z : ZS} {H : Hp} {γ : List (Option E)} {σ : St} (h : Slots g Z H γ σ) : ∀ vs : List Nat, Slots g Z H (wipeG γ vs) (L2.wipe σ vs)
  | [] => h
  | v :: vs => (Slots.wipe h vs).wipe1 v
theorem set_none_comm {α : Type} {l : List (Option α)} {i j : Nat} : (l.set i none).set j none = (l.set j none).set i none := by
  by_cases h : i = j
  · subst h; rfl
  · exact List.set_comm _ _ h
theorem set_wipeG {γ : List (Option E)} {i : Nat} : ∀ {vs : List Nat}, (wipeG γ vs).set i none = wipeG (γ.set i none) vs
  | [] => rfl
  | v :: vs => by
    unfold wipeG
    rw [set_none_comm, set_wipeG]
theorem set_wipe {σ : St} {i : Nat} : ∀ {vs : List Nat}, (L2.wipe σ vs).set i none = L2.wipe (σ.set i none) vs
  | [] => rfl
  | v :: vs => by
    unfold L2.wipe
    rw [set_none_comm, set_wipe]
theorem Slots.unwipe {g : G} {Z : ZS} {H : Hp} : ∀ {vs : List Nat} {γ : List (Option E)} {σ : St}, Slots g Z H (wipeG γ vs) (L2.wipe σ vs) → Slots g Z H (wipeG γ vs) σ
  | [], _, _, h => h
  | v :: vs, γ, σ, h => by
    unfold wipeG L2.wipe at *
    rw [set_wipeG, set_wipe] at h
    have h2 := Slots.unwipe h
    rw [← set_wipeG] at h2
    exact h2.unset
section
variable {B : Bs} {γ : List (Option E)} {st st0 : List (V × E)} {Ps : List As} {σ : St} {H : Hp} {Q : VK} {te : TE} {tt : TT} {J : It} {j : Nat} {g : TG} {vs : List Nat}
variable {τ S ρ β : Type} {em : τ → E} {xs : List τ} {s0 : S} {K : ρ → Prop} {X : Exc → Prop}
/-- [te for .. in J if tt] -/
theorem l_filG (γ1 : τ → List (Option E)) (h1 : ∀ x, wipeG (γ1 x) vs = wipeG γ vs)
    (tg : ∀ {σ : St} {H : Hp} {v : V} {x : τ} {st : List (V × E)} {Ps : List As} {Qs : St → Hp → Prop}, Bd B (wipeG γ vs) ((v, em x) :: st) Ps (wipe σ vs) H → (∀ σ2, wipe σ2 vs = wipe σ vs → Bd B (γ1 x) st Ps σ2 H → Qs σ2 H) → g v (wipe σ vs) H Qs)
    (eb : β → D) (PsS : S → List As) {f : τ → S → R (Option β × S)} {k : List β × S → R ρ} (W : Walk B.g J (xs.map em) st0) (s : Bd B γ (st0 ++ st) (PsS s0) σ H) (h : ((filC xs s0 f).bind k).All K X)
    (body : ∀ D (acc : List β) (x : τ) (s1 : S) σ2 H KK (Nn : VK) (No : Hp → Prop), Bd B (γ1 x) (st0 ++ st) (pt D (.lst (acc.map eb)) :: PsS s1) σ2 H → (f x s1).All KK X → (∀ y s2 w H, Bd B (γ1 x) ((w, .d (eb y)) :: (st0 ++ st)) (pt D (.lst (acc.map eb)) :: PsS s2) σ2 H → KK (some y, s2) → Nn w H) →
      (∀ s2 H, Bd B (γ1 x) (st0 ++ st) (pt D (.lst (acc.map eb)) :: PsS s2) σ2 H → KK (none, s2) → No H) → tt σ2 H fun b H3 => if b = true then te σ2 H3 Nn else No H3)
    (done : ∀ p (r : List β × S) H, Bd B (wipeG γ vs) st (pt p (.lst (r.1.map eb)) :: PsS r.2) σ H → (k r).All K X → Q (.ref p) H) : Lcj J g tt te vs σ H Q := by
  unfold filC at h
  by_cases hx : xs.length ≤ 40000
  case neg => rw [decide_eq_false hx, if_neg Bool.false_ne_true] at h; exact False.elim h
  rw [decide_eq_true hx, if_pos rfl] at h
  intro D hD
  have s0' : Bd B (wipeG γ vs) (st0 ++ st) (pt D (.lst ([].map eb)) :: PsS s0) (wipe σ vs) (upd H D (.lst [])) := by
    obtain ⟨Z, l, sl, b, c⟩ := s
    have l2 : Le Z H Z (upd H D (.lst [])) := ⟨fun _ h => h, fun a ha => upd_ne fun e => c.za a ha (e ▸ hD)⟩
    exact ⟨Z, l.trans l2, (sl.wipe vs).up l2, b.up l2, c.new hD ⟨[], upd_same, .nil⟩⟩
  have hlen : (xs.map em).length = xs.length := List.length_map _
  refine ⟨fun i m H' => i ≤ xs.length ∧ m = xs.length - i ∧ ∃ (acc : List β) (s1 : S), acc.length ≤ i ∧ Bd B (wipeG γ vs) (st0 ++ st) (pt D (.lst (acc.map eb)) :: PsS s1) (wipe σ vs) H' ∧ (filR (xs.drop i) s1 f).All (fun q => (k (acc ++ q.1, q.2)).All K X) X,
    ⟨xs.length, Nat.zero_le _, rfl, [], s0, Nat.le_refl 0, s0', by rw [List.drop_zero]; exact R.all_bind h⟩, fun i m H' ⟨hi, hm, acc, s1, ha, b, q⟩ => ?_⟩
  by_cases hlt : i < xs.length
  · rw [List.drop_eq_getElem_cons hlt] at q
    have q' := R.all_bind q
    obtain ⟨Z, l, sl, bb, c⟩ := id b
    refine .inr ⟨W.go bb.left (by rw [hlen]; exact hlt), fun H'' => ∃ (acc : List β) (s1 : S), acc.length ≤ i + 1 ∧ Bd B (wipeG γ vs) (st0 ++ st) (pt D (.lst (acc.map eb)) :: PsS s1) (wipe σ vs) H'' ∧ (filR (xs.drop (i + 1)) s1 f).All (fun q => (k (acc ++ q.1, q.2)).All K X) X,
      fun H'' ⟨acc, s1, h1, h2, h3⟩ => ⟨xs.length - (i + 1), by omega, by omega, rfl, acc, s1, h1, h2, h3⟩, fun x H'' hy => ?_⟩
    have b1 := Bd.yld rfl W b (d := em xs[i]) (by rw [List.getElem?_map, List.getElem?_eq_getElem hlt]; rfl) hy
    refine tg b1 fun σ2 ew b2 => ⟨ew, ?_⟩
    have back : ∀ {H st Ps}, Bd B (γ1 xs[i]) st Ps σ2 H → Bd B (wipeG γ vs) st Ps (wipe σ vs) H := fun {H st Ps} b => b.slots fun Z sl => by
      have := sl.wipe vs
      rw [h1, ew] at this
      exact this
    refine body D acc xs[i] s1 _ H'' _ (fun y H4 => ∃ acc, H4 D = some (.lst acc) ∧ acc.length < sizeLine ∧ _) _ b2 q' (fun y s2 w H3 b3 q3 => ?_) fun s2 H3 b3 q3 => ?_
    · obtain ⟨Z, ⟨vs, h1, h2⟩, _, l, sl, bb, c⟩ := (back b3).front
      refine ⟨vs, h1, by rw [h2.length, List.length_map]; exact Nat.lt_of_le_of_lt (Nat.le_trans ha (Nat.le_of_lt hlt)) (Nat.lt_of_le_of_lt hx (by decide)), acc ++ [y], s2, by rw [List.length_append]; simp; omega, ?_, ?_⟩
      · obtain ⟨bb1, bb2⟩ := bb
        cases bb1 with
        | d hd => exact .putL l sl bb2 c (by rw [List.map_append]; exact h2.append (.one hd))
      · have q3' := R.all_bind q3
        refine q3'.mono (fun q hq => ?_) fun _ h => h
        rw [List.append_assoc]
        exact hq
    · refine ⟨acc, s2, by omega, back b3, ?_⟩
      have q3' := R.all_bind q3
      exact q3'.mono (fun q hq => hq) fun _ h => h
  · have e : i = xs.length := by omega
    subst e
    obtain ⟨Z, l, sl, bb, c⟩ := id b
    refine .inl ⟨by have := W.stop bb.left; rw [hlen] at this; exact this, ?_⟩
    rw [List.drop_length] at q
    have q2 : (k (acc ++ [], s1)).All K X := q
    rw [List.append_nil] at q2
    exact done D (acc, s1) H' ⟨Z, l, sl.unwipe, bb.right, c⟩ q2
theorem mapC_fil {f : τ → S → R (β × S)} : filC xs s0 (fun x s => (f x s).bind fun p => .ok (some p.1, p.2)) = mapC xs s0 f := by
  have e : ∀ (xs : List τ) (s : S), filR xs s (fun x s => (f x s).bind fun p => .ok (some p.1, p.2)) = mapR xs s f := by
    intro xs
    induction xs with
    | nil => intro s; rfl
    | cons x xs ih =>
      intro s
      show ((f x s).bind fun p => R.ok (some p.1, p.2)).bind _ = (f x s).bind _
      rw [R.bind_assoc]
      congr 1
      funext p
      show (filR xs p.2 _).bind _ = _
      rw [ih]
  unfold filC mapC
  rw [e]
theorem tg_name {fj : Option E → List (Option E)} [hj : SetG γ j fj] {σ : St} {H : Hp} {v : V} {x : τ} {st : List (V × E)} {Ps : List As} {Qs : St → Hp → Prop} (b : Bd B (wipeG γ [j]) ((v, em x) :: st) Ps (wipe σ [j]) H)
    (k : ∀ σ2, wipe σ2 [j] = wipe σ [j] → Bd B (fj (some (em x))) st Ps σ2 H → Qs σ2 H) : gName j v (wipe σ [j]) H Qs := by
  refine k _ (by show (((σ.set j none).set j (some v)).set j none) = σ.set j none; rw [List.set_set, List.set_set]) ?_
  obtain ⟨Z, l, sl, bb, c⟩ := b
  refine ⟨Z, l, ?_, bb.2, c⟩
  rw [← hj.eq]
  have := sl.set bb.1 j
  unfold wipeG wipeG at this
  rw [List.set_set] at this
  exact this
section
variable {fj : Option E → List (Option E)} [hj : SetG γ j fj]
theorem l_fil (eb : β → D) (PsS : S → List As) {f : τ → S → R (Option β × S)} {k : List β × S → R ρ} (W : Walk B.g J (xs.map em) st0) (s : Bd B γ (st0 ++ st) (PsS s0) σ H) (h : ((filC xs s0 f).bind k).All K X)
    (body : ∀ D (acc : List β) (x : τ) (s1 : S) σ2 H KK (Nn : VK) (No : Hp → Prop), Bd B (fj (some (em x))) (st0 ++ st) (pt D (.lst (acc.map eb)) :: PsS s1) σ2 H → (f x s1).All KK X → (∀ y s2 w H, Bd B (fj (some (em x))) ((w, .d (eb y)) :: (st0 ++ st)) (pt D (.lst (acc.map eb)) :: PsS s2) σ2 H → KK (some y, s2) → Nn w H) →
      (∀ s2 H, Bd B (fj (some (em x))) (st0 ++ st) (pt D (.lst (acc.map eb)) :: PsS s2) σ2 H → KK (none, s2) → No H) → tt σ2 H fun b H3 => if b = true then te σ2 H3 Nn else No H3)
    (done : ∀ p (r : List β × S) H, Bd B (fj none) st (pt p (.lst (r.1.map eb)) :: PsS r.2) σ H → (k r).All K X → Q (.ref p) H) : Lcj J (gName j) tt te [j] σ H Q :=
  l_filG (fun x => fj (some (em x))) (fun x => by rw [← hj.eq]; unfold wipeG wipeG; rw [List.set_set]) tg_name eb PsS W s h body fun p r H b q => done p r H (by rw [← hj.eq]; exact b) q
theorem l_map (eb : β → D) (PsS : S → List As) {f : τ → S → R (β × S)} {k : List β × S → R ρ} (W : Walk B.g J (xs.map em) st0) (s : Bd B γ (st0 ++ st) (PsS s0) σ H) (h : ((mapC xs s0 f).bind k).All K X)
    (body : ∀ D (acc : List β) (x : τ) (s1 : S) σ2 H KK (Nn : VK), Bd B (fj (some (em x))) (st0 ++ st) (pt D (.lst (acc.map eb)) :: PsS s1) σ2 H → (f x s1).All KK X → (∀ y s2 w H, Bd B (fj (some (em x))) ((w, .d (eb y)) :: (st0 ++ st)) (pt D (.lst (acc.map eb)) :: PsS s2) σ2 H → KK (y, s2) → Nn w H) → te σ2 H Nn)
    (done : ∀ p (r : List β × S) H, Bd B (fj none) st (pt p (.lst (r.1.map eb)) :: PsS r.2) σ H → (k r).All K X → Q (.ref p) H) : Lcj J (gName j) tYes te [j] σ H Q := by
  refine l_fil eb PsS W s (by rw [mapC_fil]; exact h) (fun D acc x s1 σ2 H KK Nn No b q y n => ?_) done
  show (if true = true then te σ2 H Nn else No H)
  rw [if_pos rfl]
  exact body D acc x s1 σ2 H (fun p => KK (some p.1, p.2)) Nn b (R.all_bind q) y
end
/-! two names -/
section
variable {i : Nat} {d1 d2 : τ → D} {fi fj fj0 : Option E → List (Option E)} {fij : τ → Option E → List (Option E)}
theorem tg_two [hj : SetG γ j fj] [hi : ∀ x, SetG (fj (some (.d (d2 x)))) i (fij x)] {σ : St} {H : Hp} {v : V} {x : τ} {st : List (V × E)} {Ps : List As} {Qs : St → Hp → Prop} (ij : i ≠ j) (b : Bd B (wipeG γ [i, j]) ((v, .d (.tup [d1 x, d2 x])) :: st) Ps (wipe σ [i, j]) H)
    (k : ∀ σ2, wipe σ2 [i, j] = wipe σ [i, j] → Bd B (fij x (some (.d (d1 x)))) st Ps σ2 H → Qs σ2 H) : gTup B.g.K 2 (gCons (gName i) (gCons (gName j) gNil)) v (wipe σ [i, j]) H Qs := by
  obtain ⟨Z, a, vs, rfl, h, hd, l, sl, bb, c⟩ := b.tupI
  obtain ⟨u1, vs, rfl, q1, hd⟩ := hd.inv
  obtain ⟨u2, vs, rfl, q2, hd⟩ := hd.inv
  cases hd.nil'
  refine ⟨a, _, rfl, h.1, rfl, _, _, rfl, _, _, rfl, rfl, k _ ?_ ⟨Z, l, ?_, bb, c⟩⟩
  · show (((((σ.set j none).set i none).set i (some u1)).set j (some u2)).set j none).set i none = (σ.set j none).set i none
    rw [List.set_set, List.set_set, List.set_comm (l := (σ.set j none).set i (some u1)) _ _ (Ne.symm ij), List.set_set, List.set_comm _ _ ij, List.set_set]
  · rw [← (hi x).eq, ← hj.eq]
    have := (sl.set (.d q1) i).set (.d q2) j
    unfold wipeG wipeG wipeG at this
    rw [List.set_set, List.set_comm _ _ ij, List.set_set, List.set_comm _ _ (Ne.symm ij)] at this
    rw [List.set_comm _ _ (Ne.symm ij)]
    exact this
theorem wipe2 [hj : SetG γ j fj] [hj0 : SetG γ j fj0] [hi : SetG (fj0 none) i fi] : wipeG γ [i, j] = fi none := by
  rw [← hi.eq, ← hj0.eq]
  rfl
theorem l_fil2 [hj : SetG γ j fj] [hi : ∀ x, SetG (fj (some (.d (d2 x)))) i (fij x)] [hi0 : SetG (fj none) i fi] (ij : i ≠ j) (eb : β → D) (PsS : S → List As) {f : τ → S → R (Option β × S)} {k : List β × S → R ρ} (W : Walk B.g J (xs.map fun x => .d (.tup [d1 x, d2 x])) st0) (s : Bd B γ (st0 ++ st) (PsS s0) σ H) (h : ((filC xs s0 f).bind k).All K X)
    (body : ∀ D (acc : List β) (x : τ) (s1 : S) σ2 H KK (Nn : VK) (No : Hp → Prop), Bd B (fij x (some (.d (d1 x)))) (st0 ++ st) (pt D (.lst (acc.map eb)) :: PsS s1) σ2 H → (f x s1).All KK X → (∀ y s2 w H, Bd B (fij x (some (.d (d1 x)))) ((w, .d (eb y)) :: (st0 ++ st)) (pt D (.lst (acc.map eb)) :: PsS s2) σ2 H → KK (some y, s2) → Nn w H) →
      (∀ s2 H, Bd B (fij x (some (.d (d1 x)))) (st0 ++ st) (pt D (.lst (acc.map eb)) :: PsS s2) σ2 H → KK (none, s2) → No H) → tt σ2 H fun b H3 => if b = true then te σ2 H3 Nn else No H3)
    (done : ∀ p (r : List β × S) H, Bd B (fi none) st (pt p (.lst (r.1.map eb)) :: PsS r.2) σ H → (k r).All K X → Q (.ref p) H) : Lcj J (gTup B.g.K 2 (gCons (gName i) (gCons (gName j) gNil))) tt te [i, j] σ H Q :=
  l_filG (em := fun x => .d (.tup [d1 x, d2 x])) (fun x => fij x (some (.d (d1 x)))) (fun x => by
    rw [← (hi x).eq, ← hj.eq]
    unfold wipeG wipeG wipeG
    rw [List.set_comm _ _ ij, List.set_set, List.set_set]) (tg_two ij) eb PsS W s h body fun p r H b q => done p r H (by rw [← hi0.eq, ← hj.eq]; exact b) q
theorem l_map2 [hj : SetG γ j fj] [hi : ∀ x, SetG (fj (some (.d (d2 x)))) i (fij x)] [hi0 : SetG (fj none) i fi] (ij : i ≠ j) (eb : β → D) (PsS : S → List As) {f : τ → S → R (β × S)} {k : List β × S → R ρ} (W : Walk B.g J (xs.map fun x => .d (.tup [d1 x, d2 x])) st0) (s : Bd B γ (st0 ++ st) (PsS s0) σ H) (h : ((mapC xs s0 f).bind k).All K X)
    (body : ∀ D (acc : List β) (x : τ) (s1 : S) σ2 H KK (Nn : VK), Bd B (fij x (some (.d (d1 x)))) (st0 ++ st) (pt D (.lst (acc.map eb)) :: PsS s1) σ2 H → (f x s1).All KK X → (∀ y s2 w H, Bd B (fij x (some (.d (d1 x)))) ((w, .d (eb y)) :: (st0 ++ st)) (pt D (.lst (acc.map eb)) :: PsS s2) σ2 H → KK (y, s2) → Nn w H) → te σ2 H Nn)
    (done : ∀ p (r : List β × S) H, Bd B (fi none) st (pt p (.lst (r.1.map eb)) :: PsS r.2) σ H → (k r).All K X → Q (.ref p) H) : Lcj J (gTup B.g.K 2 (gCons (gName i) (gCons (gName j) gNil))) tYes te [i, j] σ H Q := by
  refine l_fil2 ij eb PsS W s (by rw [mapC_fil]; exact h) (fun D acc x s1 σ2 H KK Nn No b q y n => ?_) done
  show (if true = true then te σ2 H Nn else No H)
  rw [if_pos rfl]
  exact body D acc x s1 σ2 H (fun p => KK (some p.1, p.2)) Nn b (R.all_bind q) y
end
end
end Mi

set_option Elab.async false
set_option linter.all false
set_option maxRecDepth 100000
set_option maxHeartbeats 4000000
namespace Mi
open PySem PySem.Spec PyProof.Rows L2 Evl Kit
section
variable {g : G} {Z Z' : ZS} {H H' : Hp} {B : Bs} {γ γ' : List (Option E)} {st st' st0 : List (V × E)} {Ps Qs F : List As} {σ : St} {Q : VK} {d d1 d2 : D} {e e1 e2 : E} {v w x y : V} {i j : Nat} {a b : Addr} {o : OC} {ds : List D} {es : List E}
/-! ### constants of the module -/
theorem e_con {v : V} {d : D} (s : Bd B γ st Ps σ H) (hd : ∀ Z H, Dat B.g Z H v d) (k : Bd B γ ((v, .d d) :: st) Ps σ H → Q v H) : tC v σ H Q := by
  obtain ⟨Z, l, sl, b, c⟩ := s
  exact k ⟨Z, l, sl, ⟨.d (hd Z H), b⟩, c⟩
theorem strs_dats : ∀ (xs : List Str), Dats g Z H (xs.map V.str) (xs.map D.str)
  | [] => .nil
  | _ :: xs => .cons (.str _) (strs_dats xs)
theorem ints_dats : ∀ (xs : List Int), Dats g Z H (xs.map V.int) (xs.map D.int)
  | [] => .nil
  | _ :: xs => .cons (.int _) (ints_dats xs)
theorem ktup_sqz {vs : List V} (h : KTup g.K a vs) : SqTz g Z H a vs := ⟨h.sq H, .inr fun H' => h.sq H'⟩
theorem con_strs {xs : List Str} (h : KTup g.K a (xs.map V.str)) : Dat g Z H (.ref a) (.tup (xs.map D.str)) := .tup (ktup_sqz h) (strs_dats xs)
theorem con_ints {xs : List Int} (h : KTup g.K a (xs.map V.int)) : Dat g Z H (.ref a) (.tup (xs.map D.int)) := .tup (ktup_sqz h) (ints_dats xs)
/-! ### what a loop walks -/
theorem i_tup {P : Addr → Prop} (s : Bd B γ ((v, .d (.tup ds)) :: st) Ps σ H) (k : ∀ a, Bd B γ ((.ref a, .d (.tup ds)) :: st) Ps σ H → P a) : ∃ a, v = .ref a ∧ (∃ xs, SqT B.g.K H a xs) ∧ P a := by
  obtain ⟨Z, a, vs, rfl, h, _⟩ := s.tupI
  exact ⟨a, rfl, ⟨vs, h.1⟩, k a s⟩
theorem i_lst {P : Addr → Prop} (s : Bd B γ ((v, .d (.lst ds)) :: st) Ps σ H) (k : ∀ a, Bd B γ ((.ref a, .d (.lst ds)) :: st) Ps σ H → P a) : ∃ a, v = .ref a ∧ (∃ xs, SqL B.g.K H a xs) ∧ P a := by
  obtain ⟨Z, a, vs, rfl, h, _⟩ := s.lstI
  exact ⟨a, rfl, ⟨vs, SqL.of h⟩, k a s⟩
theorem i_seq {P : Addr → Prop} (s : Bd B γ ((v, .d (.seq ds)) :: st) Ps σ H) (k : ∀ a, Bd B γ ((.ref a, .d (.seq ds)) :: st) Ps σ H → P a) : ∃ a, v = .ref a ∧ (∃ xs, SqL B.g.K H a xs) ∧ P a := by
  obtain ⟨Z, a, vs, rfl, h, _⟩ := s.seqI
  exact ⟨a, rfl, ⟨vs, h.1⟩, k a s⟩
theorem walk_tupM {α : Type} {f : α → D} {xs : List α} : Walk g (Itt g.K a) (xs.map fun x => E.d (f x)) [(.ref a, .d (.tup (xs.map f)))] := by
  have := walk_tup (g := g) (a := a) (ds := xs.map f)
  rw [List.map_map] at this
  exact this
theorem walk_lstM {α : Type} {f : α → D} {xs : List α} : Walk g (Itl g.K a) (xs.map fun x => E.d (f x)) [(.ref a, .d (.lst (xs.map f)))] := by
  have := walk_lst (g := g) (a := a) (ds := xs.map f)
  rw [List.map_map] at this
  exact this
theorem walk_sqM {α : Type} {f : α → D} {xs : List α} : Walk g (Itl g.K a) (xs.map fun x => E.d (f x)) [(.ref a, .d (.seq (xs.map f)))] := by
  have := walk_sq (g := g) (a := a) (ds := xs.map f)
  rw [List.map_map] at this
  exact this
/-- range(n), range(a, b): within bounds -/
def rOk (n : Int) : Bool := decide (-(2 ^ 62) ≤ n) && decide (n < 2 ^ 62)
theorem i_rng1 {n : Int} {P : It → Prop} (h : rOk n = true) (k : P (Itr 0 n.toNat)) : ∃ j : Int, [V.int n] = [.int j] ∧ -(2 ^ 62) ≤ j ∧ j < 2 ^ 62 ∧ P (Itr 0 j.toNat) := by
  unfold rOk at h
  simp only [Bool.and_eq_true, decide_eq_true_eq] at h
  exact ⟨n, rfl, h.1, h.2, k⟩
theorem i_rng2 {m n : Int} {P : It → Prop} (h0 : rOk m = true) (h : rOk n = true) (k : P (Itr m (n - m).toNat)) : ∃ i j : Int, [V.int m, V.int n] = [.int i, .int j] ∧ (-(2 ^ 62) ≤ i ∧ i < 2 ^ 62 ∧ -(2 ^ 62) ≤ j ∧ j < 2 ^ 62) ∧ P (Itr i (j - i).toNat) := by
  unfold rOk at h h0
  simp only [Bool.and_eq_true, decide_eq_true_eq] at h h0
  exact ⟨m, n, rfl, ⟨h0.1, h0.2, h.1, h.2⟩, k⟩
section
variable {G' : TG} {t : TS} {nx : St → Hp → Prop} {rt : VK} {tt : TT} {te : TE} {vs : List Nat} {n m : Int}
theorem i_rng1F (h : rOk n = true) (k : Fj (Itr 0 n.toNat) G' t nx rt σ H) : ∃ j : Int, [V.int n] = [.int j] ∧ -(2 ^ 62) ≤ j ∧ j < 2 ^ 62 ∧ Fj (Itr 0 j.toNat) G' t nx rt σ H := i_rng1 (P := fun J => Fj J G' t nx rt σ H) h k
theorem i_rng1L (h : rOk n = true) (k : Lcj (Itr 0 n.toNat) G' tt te vs σ H Q) : ∃ j : Int, [V.int n] = [.int j] ∧ -(2 ^ 62) ≤ j ∧ j < 2 ^ 62 ∧ Lcj (Itr 0 j.toNat) G' tt te vs σ H Q := i_rng1 (P := fun J => Lcj J G' tt te vs σ H Q) h k
theorem i_rng2F (h0 : rOk m = true) (h : rOk n = true) (k : Fj (Itr m (n - m).toNat) G' t nx rt σ H) : ∃ i j : Int, [V.int m, V.int n] = [.int i, .int j] ∧ (-(2 ^ 62) ≤ i ∧ i < 2 ^ 62 ∧ -(2 ^ 62) ≤ j ∧ j < 2 ^ 62) ∧ Fj (Itr i (j - i).toNat) G' t nx rt σ H := i_rng2 (P := fun J => Fj J G' t nx rt σ H) h0 h k
theorem i_rng2L (h0 : rOk m = true) (h : rOk n = true) (k : Lcj (Itr m (n - m).toNat) G' tt te vs σ H Q) : ∃ i j : Int, [V.int m, V.int n] = [.int i, .int j] ∧ (-(2 ^ 62) ≤ i ∧ i < 2 ^ 62 ∧ -(2 ^ 62) ≤ j ∧ j < 2 ^ 62) ∧ Lcj (Itr i (j - i).toNat) G' tt te vs σ H Q := i_rng2 (P := fun J => Lcj J G' tt te vs σ H Q) h0 h k
end
/-! ### ways -/
theorem jt_or {b c : Bool} {Rr : Bool → Hp → Prop} {u : TT} (s : Bd B γ st Ps σ H) (sec : b = false → (∀ H', Bd B γ st Ps σ H' → Rr c H') → u σ H Rr) (k : ∀ H', Bd B γ st Ps σ H' → Rr (b || c) H') : if b = true then Rr true H else u σ H Rr := by
  cases b
  · exact iteF (sec rfl k)
  · exact iteT (k H s)
theorem jt_and {b c : Bool} {Rr : Bool → Hp → Prop} {u : TT} (s : Bd B γ st Ps σ H) (sec : b = true → (∀ H', Bd B γ st Ps σ H' → Rr c H') → u σ H Rr) (k : ∀ H', Bd B γ st Ps σ H' → Rr (b && c) H') : if b = true then u σ H Rr else Rr false H := by
  cases b
  · exact iteF (k H s)
  · exact iteT (sec rfl k)
theorem jv_or {b c : Bool} {t : TE} (s : Bd B γ st Ps σ H) (sec : b = false → (∀ H', Bd B γ st Ps σ H' → Q (.bl c) H') → t σ H Q) (k : ∀ H', Bd B γ st Ps σ H' → Q (.bl (b || c)) H') : if b = true then Q (.bl true) H else t σ H Q := by
  cases b
  · exact iteF (sec rfl k)
  · exact iteT (k H s)
theorem jc_and {b c : Bool} {tc : TE} {r' : R2} (s : Bd B γ st Ps σ H) (sec : b = true → (∀ H', Bd B γ st Ps σ H' → Q (.bl c) H') → tc σ H fun w H4 => r' y w H4 Q) (k : ∀ H', Bd B γ st Ps σ H' → Q (.bl (b && c)) H') : if b = true then (tc σ H fun w H4 => r' y w H4 Q) else Q (.bl false) H := by
  cases b
  · exact iteF (k H s)
  · exact iteT (sec rfl k)
theorem jv_and {b c : Bool} {t : TE} (s : Bd B γ st Ps σ H) (sec : b = true → (∀ H', Bd B γ st Ps σ H' → Q (.bl c) H') → t σ H Q) (k : ∀ H', Bd B γ st Ps σ H' → Q (.bl (b && c)) H') : if b = true then t σ H Q else Q (.bl false) H := by
  cases b
  · exact iteF (k H s)
  · exact iteT (sec rfl k)
section
variable {S ρ β : Type} {K : ρ → Prop} {X : Exc → Prop} {F : β → R ρ}
/-- .. where the second one does something -/
theorem jt_orE {b : Bool} {Rr : Bool → Hp → Prop} {u : TT} {s0 : S} {m : R (Bool × S)} {f : Bool × S → R ρ} (PsS : S → List As) (h : ((if b = true then R.ok (true, s0) else m).bind f).All K X) (s : Bd B γ st (PsS s0) σ H)
    (sec : b = false → m.All (fun p => (f p).All K X) X → (∀ (p : Bool × S) H', Bd B γ st (PsS p.2) σ H' → (f p).All K X → Rr p.1 H') → u σ H Rr)
    (k : ∀ (p : Bool × S) H', Bd B γ st (PsS p.2) σ H' → (f p).All K X → Rr p.1 H') : if b = true then Rr true H else u σ H Rr := by
  cases b
  · exact iteF (sec rfl (R.all_bind h) k)
  · exact iteT (k (true, s0) H s (by exact h))
theorem jt_andE {b : Bool} {Rr : Bool → Hp → Prop} {u : TT} {s0 : S} {m : R (Bool × S)} {f : Bool × S → R ρ} (PsS : S → List As) (h : ((if b = true then m else R.ok (false, s0)).bind f).All K X) (s : Bd B γ st (PsS s0) σ H)
    (sec : b = true → m.All (fun p => (f p).All K X) X → (∀ (p : Bool × S) H', Bd B γ st (PsS p.2) σ H' → (f p).All K X → Rr p.1 H') → u σ H Rr)
    (k : ∀ (p : Bool × S) H', Bd B γ st (PsS p.2) σ H' → (f p).All K X → Rr p.1 H') : if b = true then u σ H Rr else Rr false H := by
  cases b
  · exact iteF (k (false, s0) H s (by exact h))
  · exact iteT (sec rfl (R.all_bind h) k)
theorem jv_orE {b : Bool} {t : TE} {s0 : S} {m : R (Bool × S)} {f : Bool × S → R ρ} (PsS : S → List As) (h : ((if b = true then R.ok (true, s0) else m).bind f).All K X) (s : Bd B γ st (PsS s0) σ H)
    (sec : b = false → m.All (fun p => (f p).All K X) X → (∀ (p : Bool × S) H', Bd B γ st (PsS p.2) σ H' → (f p).All K X → Q (.bl p.1) H') → t σ H Q)
    (k : ∀ (p : Bool × S) H', Bd B γ st (PsS p.2) σ H' → (f p).All K X → Q (.bl p.1) H') : if b = true then Q (.bl true) H else t σ H Q := by
  cases b
  · exact iteF (sec rfl (R.all_bind h) k)
  · exact iteT (k (true, s0) H s (by exact h))
theorem jv_andE {b : Bool} {t : TE} {s0 : S} {m : R (Bool × S)} {f : Bool × S → R ρ} (PsS : S → List As) (h : ((if b = true then m else R.ok (false, s0)).bind f).All K X) (s : Bd B γ st (PsS s0) σ H)
    (sec : b = true → m.All (fun p => (f p).All K X) X → (∀ (p : Bool × S) H', Bd B γ st (PsS p.2) σ H' → (f p).All K X → Q (.bl p.1) H') → t σ H Q)
    (k : ∀ (p : Bool × S) H', Bd B γ st (PsS p.2) σ H' → (f p).All K X → Q (.bl p.1) H') : if b = true then t σ H Q else Q (.bl false) H := by
  cases b
  · exact iteF (k (false, s0) H s (by exact h))
  · exact iteT (sec rfl (R.all_bind h) k)
/-- x if c else y -/
theorem j_ifX {α : Type} {c : Bool} {ta tb : TE} (em : α → E) (x y : α) (_ : Bd B γ st Ps σ H) (h1 : c = true → (∀ v H', Bd B γ ((v, em x) :: st) Ps σ H' → Q v H') → ta σ H Q) (h2 : c = false → (∀ v H', Bd B γ ((v, em y) :: st) Ps σ H' → Q v H') → tb σ H Q)
    (k : ∀ v H', Bd B γ ((v, em (if c = true then x else y)) :: st) Ps σ H' → Q v H') : if c = true then ta σ H Q else tb σ H Q := by
  cases c
  · exact iteF (h2 rfl k)
  · exact iteT (h1 rfl k)
theorem j_ifXE {α : Type} {c : Bool} {ta tb : TE} {m1 m2 : R (α × S)} {f : α × S → R ρ} (em : α → E) (PsS : S → List As) (h : ((if c = true then m1 else m2).bind f).All K X)
    (_ : Bd B γ st Ps σ H) (h1 : c = true → m1.All (fun p => (f p).All K X) X → (∀ (p : α × S) v H', Bd B γ ((v, em p.1) :: st) (PsS p.2) σ H' → (f p).All K X → Q v H') → ta σ H Q)
    (h2 : c = false → m2.All (fun p => (f p).All K X) X → (∀ (p : α × S) v H', Bd B γ ((v, em p.1) :: st) (PsS p.2) σ H' → (f p).All K X → Q v H') → tb σ H Q)
    (k : ∀ (p : α × S) v H', Bd B γ ((v, em p.1) :: st) (PsS p.2) σ H' → (f p).All K X → Q v H') : if c = true then ta σ H Q else tb σ H Q := by
  cases c
  · exact iteF (h2 rfl (R.all_bind h) k)
  · exact iteT (h1 rfl (R.all_bind h) k)
/-- if: both ways go on -/
theorem j_if {c : Bool} {t u : TS} {nx bk ct : St → Hp → Prop} {rt : VK} {m1 m2 : R S} {f : S → R ρ} (γS : S → List (Option E)) (PsS : S → List As) (h : ((if c = true then m1 else m2).bind f).All K X)
    (_ : Bd B γ st Ps σ H) (h1 : c = true → m1.All (fun s => (f s).All K X) X → (∀ s1 σ' H', Bd B (γS s1) st (PsS s1) σ' H' → (f s1).All K X → nx σ' H') → Sm t nx rt bk ct σ H)
    (h2 : c = false → m2.All (fun s => (f s).All K X) X → (∀ s1 σ' H', Bd B (γS s1) st (PsS s1) σ' H' → (f s1).All K X → nx σ' H') → Sm u nx rt bk ct σ H)
    (k : ∀ s1 σ' H', Bd B (γS s1) st (PsS s1) σ' H' → (f s1).All K X → nx σ' H') : if c = true then Sm t nx rt bk ct σ H else Sm u nx rt bk ct σ H := by
  cases c
  · exact iteF (h2 rfl (R.all_bind h) k)
  · exact iteT (h1 rfl (R.all_bind h) k)
/-- .. or return, or leave a loop -/
theorem j_ifE {ρ' : Type} {c : Bool} {t u : TS} {nx bk ct : St → Hp → Prop} {rt : VK} {m1 m2 : R (Fl ρ' S)} {f : Fl ρ' S → R ρ} (γS : S → List (Option E)) (PsS : S → List As) (h : ((if c = true then m1 else m2).bind f).All K X)
    (_ : Bd B γ st Ps σ H) (h1 : c = true → m1.All (fun s => (f s).All K X) X → (∀ s1 σ' H', Bd B (γS s1) st (PsS s1) σ' H' → (f (.go s1)).All K X → nx σ' H') → Sm t nx rt bk ct σ H)
    (h2 : c = false → m2.All (fun s => (f s).All K X) X → (∀ s1 σ' H', Bd B (γS s1) st (PsS s1) σ' H' → (f (.go s1)).All K X → nx σ' H') → Sm u nx rt bk ct σ H)
    (k : ∀ s1 σ' H', Bd B (γS s1) st (PsS s1) σ' H' → (f (.go s1)).All K X → nx σ' H') : if c = true then Sm t nx rt bk ct σ H else Sm u nx rt bk ct σ H := by
  cases c
  · exact iteF (h2 rfl (R.all_bind h) k)
  · exact iteT (h1 rfl (R.all_bind h) k)
/-- a name is given a value: what the value is told no more -/
theorem k_asgG {α : Type} {em : α → E} {nx : St → Hp → Prop} {fi : Option E → List (Option E)} [hi : SetG γ i fi] {f : α → R ρ} (x0 : α) (s : Bd B γ ((v, em x0) :: st) Ps σ H) (h : ((R.ok x0).bind f).All K X) (k : ∀ x σ, Bd B (fi (some (em x))) st Ps σ H → (f x).All K X → nx σ H) : AsgK i nx σ v H := k_asg s fun σ s => k x0 σ s h
theorem k_asgGS {α : Type} (em : α → E) {wv : α → V} (he : ∀ x, toV (em x) = some (wv x)) {nx : St → Hp → Prop} {fi : Option E → List (Option E)} [hi : SetG γ i fi] {f : α → R ρ} (x0 : α) (s : Bd B γ st Ps σ H) (h : ((R.ok x0).bind f).All K X)
    (k : ∀ x σ, Bd B (fi (some (em x))) st Ps σ H → (f x).All K X → nx σ H) : AsgK i nx σ (wv x0) H := k_asgS s (em x0) (he x0) fun σ s => k x0 σ s h
/-- while -/
theorem m_whileR {tc : TT} {t : TS} {nx bk ct : St → Hp → Prop} {rt : VK} {c : S → R Bool} {f : S → R S} {k : S → R ρ} (γS : S → List (Option E)) (PsS : S → List As) : ∀ {n : Nat} {s0 : S} {σ : St} {H : Hp}, Bd B (γS s0) st (PsS s0) σ H → ((whileR n s0 c f).bind k).All K X →
    (∀ s1 σ H Rr KK, Bd B (γS s1) st (PsS s1) σ H → (c s1).All KK X → (∀ b H', Bd B (γS s1) st (PsS s1) σ H' → KK b → Rr b H') → tc σ H Rr) →
    (∀ s1 σ H N KK, Bd B (γS s1) st (PsS s1) σ H → (f s1).All KK X → (∀ s2 σ H, Bd B (γS s2) st (PsS s2) σ H → KK s2 → N σ H) → Sm t N rt nx N σ H) →
    (∀ s1 σ H, Bd B (γS s1) st (PsS s1) σ H → (k s1).All K X → nx σ H) → Sm (tWhile tc t) nx rt bk ct σ H := by
  intro n s0 σ H s h turn body done
  refine ⟨fun m σ H => ∃ s1, Bd B (γS s1) st (PsS s1) σ H ∧ ((whileR m s1 c f).bind k).All K X, ⟨n, s0, s, h⟩, fun m σ H ⟨s1, b, q⟩ => ?_⟩
  cases m with
  | zero => exact False.elim q
  | succ m =>
    have q1 : ((c s1).bind fun b => ((if b = true then (f s1).bind fun s => whileR m s c f else .ok s1)).bind k).All K X := by
      rw [← R.bind_assoc]; exact q
    refine turn s1 σ H _ _ b (R.all_bind q1) fun bb H' b' q2 => ?_
    cases bb with
    | false =>
      rw [if_neg Bool.false_ne_true] at q2
      exact iteF (done s1 σ H' b' q2)
    | true =>
      rw [if_pos rfl, R.bind_assoc] at q2
      refine iteT ⟨fun σ' H' => ∃ s1, Bd B (γS s1) st (PsS s1) σ' H' ∧ ((whileR m s1 c f).bind k).All K X, fun σ' H' n => ⟨m, Nat.lt_succ_self m, n⟩, body s1 σ H' _ _ b' (R.all_bind q2) fun s2 σ2 H2 b2 q3 => ⟨s2, b2, q3⟩⟩
theorem m_whileE {ρ' : Type} {tc : TT} {t : TS} {nx bk ct : St → Hp → Prop} {rt : VK} {c : S → R Bool} {f : S → R (Fl ρ' S)} {k : Fl ρ' S → R ρ} (γS : S → List (Option E)) (PsS : S → List As) : ∀ {n : Nat} {s0 : S} {σ : St} {H : Hp}, Bd B (γS s0) st (PsS s0) σ H → ((whileE n s0 c f).bind k).All K X →
    (∀ s1 σ H Rr KK, Bd B (γS s1) st (PsS s1) σ H → (c s1).All KK X → (∀ b H', Bd B (γS s1) st (PsS s1) σ H' → KK b → Rr b H') → tc σ H Rr) →
    (∀ s1 σ H N KK, Bd B (γS s1) st (PsS s1) σ H → (f s1).All KK X → (∀ s2 σ H, Bd B (γS s2) st (PsS s2) σ H → KK (.go s2) → N σ H) → (∀ s2 σ H, Bd B (γS s2) st (PsS s2) σ H → KK (.brk s2) → nx σ H) → (∀ r, KK (.ret r) → (k (.ret r)).All K X) → Sm t N rt nx N σ H) →
    (∀ s1 σ H, Bd B (γS s1) st (PsS s1) σ H → (k (.go s1)).All K X → nx σ H) → Sm (tWhile tc t) nx rt bk ct σ H := by
  intro n s0 σ H s h turn body done
  refine ⟨fun m σ H => ∃ s1, Bd B (γS s1) st (PsS s1) σ H ∧ ((whileE m s1 c f).bind k).All K X, ⟨n, s0, s, h⟩, fun m σ H ⟨s1, b, q⟩ => ?_⟩
  cases m with
  | zero => exact False.elim q
  | succ m =>
    unfold whileE at q
    rw [R.bind_assoc] at q
    refine turn s1 σ H _ _ b (R.all_bind q) fun bb H' b' q2 => ?_
    cases bb with
    | false =>
      rw [if_neg Bool.false_ne_true] at q2
      exact iteF (done s1 σ H' b' q2)
    | true =>
      rw [if_pos rfl, R.bind_assoc] at q2
      refine iteT ⟨fun σ' H' => ∃ s1, Bd B (γS s1) st (PsS s1) σ' H' ∧ ((whileE m s1 c f).bind k).All K X, fun σ' H' n => ⟨m, Nat.lt_succ_self m, n⟩, body s1 σ H' _ _ b' (R.all_bind q2) (fun s2 σ2 H2 b2 q3 => ⟨s2, b2, q3⟩) (fun s2 σ2 H2 b2 q3 => done s2 σ2 H2 b2 q3) fun r q => q⟩
end
/-! ### objects -/
theorem Bd.insI {c : Nat} (s : Bd B γ ((v, .ins c es) :: st) Ps σ H) : ∃ Z a dx vs, v = .ref a ∧ H a = some (.ins (B.g.cl c) dx ((B.g.fn c).zip vs)) ∧ (B.g.fn c).length = es.length ∧ Vals B.g Z H vs es ∧ Le B.Z B.H Z H ∧ Slots B.g Z H γ σ ∧ Stk B.g Z H st ∧ Hs B.g Z Ps H := by
  obtain ⟨Z, l, sl, b, c⟩ := s
  obtain ⟨b1, b2⟩ := b
  cases b1 with
  | ins h z n t => exact ⟨Z, _, _, _, rfl, h, n, t, l, sl, b2, c⟩
theorem zip_look {f : Str} {e : E} : ∀ {ns : List Str} {vs : List V} {es : List E}, Vals g Z H vs es → (ns.zip es).lookup f = some e → ∃ v, (ns.zip vs).lookup f = some v ∧ Val g Z H v e
  | [], _, _, _, q => by simp at q
  | _ :: _, _, _, .nil, q => by simp at q
  | n :: ns, _, _, .cons (d := e0) h t, q => by
    rw [List.zip_cons_cons, List.lookup_cons] at q ⊢
    cases r : f == n with
    | true => rw [r] at q; cases q; exact ⟨_, rfl, h⟩
    | false => rw [r] at q; exact zip_look t q
theorem zip_miss {f : Str} {γ' : Type} : ∀ {ns : List Str} {vs : List γ'}, ns.contains f = false → (ns.zip vs).lookup f = none
  | [], _, _ => rfl
  | _ :: _, [], _ => rfl
  | n :: ns, v :: vs, q => by
    rw [List.contains_cons, Bool.or_eq_false_iff] at q
    rw [List.zip_cons_cons, List.lookup_cons, q.1]
    exact zip_miss q.2
/-- an attribute of what never changes -/
theorem e_fldZ {c : Nat} {f : Str} (hf : ((B.g.fn c).zip es).lookup f = some e) (cl : Cls B.g.K (B.g.cl c)) (na : NoAttr B.g.K (B.g.cl c) f) (s : Bd B γ ((v, .ins c es) :: st) Ps σ H) (k : ∀ v, Bd B γ ((v, e) :: st) Ps σ H → Q v H) : FldOf B.g.K f v H Q := by
  obtain ⟨Z, a, dx, vs, rfl, h, n, t, l, sl, b, c⟩ := s.insI
  obtain ⟨u, h1, h2⟩ := zip_look t hf
  exact w_rd h cl na h1 (k u ⟨Z, l, sl, ⟨h2, b⟩, c⟩)
theorem e_fldZS {c : Nat} {f : Str} (hf : ((B.g.fn c).zip es).lookup f = some e) (cl : Cls B.g.K (B.g.cl c)) (na : NoAttr B.g.K (B.g.cl c) f) (he : toV e = some w) (s : Bd B γ ((v, .ins c es) :: st) Ps σ H) (k : Bd B γ st Ps σ H → Q w H) : FldOf B.g.K f v H Q := e_fldZ hf cl na s fun u s => by rw [s.top he]; exact k s.pop
/-- an attribute of what may change -/
theorem e_fldO {c : Nat} {f : Str} {fs : List (Str × E)} (p : Ps.Perm (pt a (.ins c fs) :: F)) (hf : fs.lookup f = some e) (cl : Cls B.g.K (B.g.cl c)) (na : NoAttr B.g.K (B.g.cl c) f) (s : Bd B γ st Ps σ H) (k : ∀ v, Bd B γ ((v, e) :: st) Ps σ H → Q v H) : FldOf B.g.K f (.ref a) H Q := by
  obtain ⟨Z, ⟨dx, vs, h1, h2⟩, _, l, sl, b, c⟩ := (s.perm p).front
  obtain ⟨u, q1, q2⟩ := h2.look hf
  exact w_rd h1 cl na q1 (k u ⟨Z, l, sl, ⟨q2, b⟩, c.perm p.symm⟩)
theorem e_fldOS {c : Nat} {f : Str} {fs : List (Str × E)} (p : Ps.Perm (pt a (.ins c fs) :: F)) (hf : fs.lookup f = some e) (cl : Cls B.g.K (B.g.cl c)) (na : NoAttr B.g.K (B.g.cl c) f) (he : toV e = some w) (s : Bd B γ st Ps σ H) (k : Q w H) : FldOf B.g.K f (.ref a) H Q := e_fldO p hf cl na s fun u s => by rw [s.top he]; exact k
/-- an attribute put -/
def putE (f : Str) (e : E) : List (Str × E) → List (Str × E)
  | [] => [(f, e)]
  | (g, x) :: r => if g = f then (g, e) :: r else (g, x) :: putE f e r
theorem Flds.put {f : Str} {v : V} {e : E} (h : Val g Z H v e) : ∀ {vs : List (Str × V)} {es : List (Str × E)}, Flds g Z H vs es → Flds g Z H (putF f v vs) (putE f e es)
  | _, _, .nil => .cons h .nil
  | _, _, .cons (f := n) h1 t => by
    unfold putF putE
    by_cases q : n = f
    · rw [if_pos q, if_pos q]; exact .cons h t
    · rw [if_neg q, if_neg q]; exact .cons h1 (t.put h)
theorem p_fld {c : Nat} {f : Str} {fs fs' : List (Str × E)} {W : Hp → Prop} (p : Ps.Perm (pt a (.ins c fs) :: F)) (cl : Cls B.g.K (B.g.cl c)) (na : NoAttr B.g.K (B.g.cl c) f) (hl : fs.length < 100) (he : putE f e fs = fs') (s : Bd B γ ((y, e) :: st) Ps σ H)
    (k : ∀ H', Bd B γ st (pt a (.ins c fs') :: F) σ H' → W H') : PutOf B.g.K f y (.ref a) H W := by
  obtain ⟨Z, ⟨dx, vs, h1, h2⟩, _, l, sl, b, cc⟩ := (s.perm p).front
  obtain ⟨b1, b2⟩ := b
  refine ⟨a, _, dx, vs, rfl, h1, cl, na, by rw [h2.length]; omega, k _ ?_⟩
  obtain ⟨c', l2⟩ := cc.put (oc' := .ins c fs') (u := .ins (B.g.cl c) dx (putF f y vs)) fun l2 => ⟨dx, _, upd_same, by rw [← he]; exact (h2.put b1).up l2⟩
  exact ⟨Z, l.trans l2, sl.up l2, b2.up l2, c'⟩
/-- a method's receiver -/
theorem o_insO {c : Nat} {m : Str} {fs : List (Str × E)} {P : Prop} (p : Ps.Perm (pt a (.ins c fs) :: F)) (hm : fs.lookup m = none) (s : Bd B γ st Ps σ H) (k : P) : InsOf (B.g.cl c) m (.ref a) H P := by
  obtain ⟨Z, ⟨dx, vs, h1, h2⟩, _⟩ := (s.perm p).front
  exact ⟨a, dx, vs, rfl, h1, h2.miss hm, k⟩
theorem o_insZ {c : Nat} {m : Str} {P : Prop} (hm : (B.g.fn c).contains m = false) (s : Bd B γ ((v, .ins c es) :: st) Ps σ H) (k : P) : InsOf (B.g.cl c) m v H P := by
  obtain ⟨Z, a, dx, vs, rfl, h, _⟩ := s.insI
  exact ⟨a, dx, _, rfl, h, zip_miss hm, k⟩
/-- a new object -/
def MakeQ (C : Nat) (Q : VK) (x : V) : VK := fun v H => v = .non ∧ Q x H
theorem o_make {C : Nat} {sp : Sp} {Ex : XK} {vs : List V} (s : Bd B γ st Ps σ H) (k : ∀ p H', Bd B γ st (pt p (.ins C []) :: Ps) σ H' → sp (.ref p :: vs) H' (MakeQ C Q (.ref p)) Ex) : MakeOf (B.g.cl C) sp Ex vs H Q := by
  intro x dx hx hd hn
  refine k x _ ?_
  obtain ⟨Z, l, sl, b, c⟩ := s
  have l1 : Le Z H Z (upd H dx (.own x)) := ⟨fun _ h => h, fun a ha => upd_ne fun e => c.za a ha (e ▸ hd)⟩
  have c1 : Hs B.g Z Ps (upd H dx (.own x)) := by
    obtain ⟨L, s, o⟩ := c
    exact ⟨L, s, o.grow (by funext a; exact propext ⟨.inl, fun z => z.elim id (·.2)⟩) (fun a z => by rw [Grow.new hd a (o.za a z)]; exact o.za a z) (Grow.new hd)⟩
  have hx' : upd H dx (.own x) x = none := by rw [upd_ne (Ne.symm hn)]; exact hx
  have l2 : Le Z (upd H dx (.own x)) Z (upd (upd H dx (.own x)) x (.ins (B.g.cl C) dx [])) := ⟨fun _ h => h, fun a ha => upd_ne fun e => c1.za a ha (e ▸ hx')⟩
  exact ⟨Z, (l.trans l1).trans l2, (sl.up l1).up l2, (b.up l1).up l2, c1.new hx' ⟨dx, [], upd_same, .nil⟩⟩
theorem k_make {C : Nat} {x : V} (k : Q x H) : MakeQ C Q x .non H := ⟨rfl, k⟩
/-- an object won't change any more -/
theorem flds_zip {c : Nat} : ∀ {ns : List Str} {vs : List (Str × V)} {es : List E}, Flds g Z H vs (ns.zip es) → ns.length = es.length → ∃ ws, vs = ns.zip ws ∧ Vals g Z H ws es
  | [], _, [], .nil, _ => ⟨[], rfl, .nil⟩
  | [], _, _ :: _, _, e => nomatch e
  | _ :: _, _, [], _, e => nomatch e
  | n :: ns, _, _ :: es, .cons h t, e => by
    obtain ⟨ws, e1, h1⟩ := flds_zip (c := c) t (Nat.succ.inj e)
    exact ⟨_ :: ws, by rw [e1]; rfl, .cons h h1⟩
theorem k_freezeI {c : Nat} (p : Ps.Perm (pt a (.ins c ((B.g.fn c).zip es)) :: F)) (hl : (B.g.fn c).length = es.length) (s : Bd B γ st Ps σ H) : Bd B γ ((.ref a, .ins c es) :: st) F σ H := by
  obtain ⟨Z, ⟨dx, vs, h1, h2⟩, nz, l, sl, b, cc⟩ := (s.perm p).front
  obtain ⟨ws, rfl, h3⟩ := flds_zip (c := c) h2 hl
  obtain ⟨L, sa, ow⟩ := cc
  obtain ⟨L1, M, rfl, hh, s2⟩ := sa.inv
  have h1' : L1 = [(a, _)] := hh
  subst h1'
  have l2 : Le Z H (Mi.zadd Z a) H := ⟨fun _ h => .inl h, fun _ _ => rfl⟩
  have nd := ow.nd
  rw [List.map_append] at nd
  refine ⟨Mi.zadd Z a, l.trans l2, sl.up l2, ⟨.ins h1 (.inr rfl) hl (h3.up l2), b.up l2⟩, M, s2, ⟨(List.nodup_append.mp nd).2.1, ?_, fun x hx => (ow.ok x (List.mem_append_right _ hx)).up l2 rfl, ?_⟩⟩
  · rintro x hx (z | z)
    · exact ow.nz x (List.mem_append_right _ hx) z
    · have := List.nodup_append.mp nd
      exact this.2.2 a (by simp) x.1 (List.mem_map_of_mem hx) z.symm
  · rintro b (z | rfl)
    · exact ow.za b z
    · rw [h1]; exact nofun

/-! ### more of values -/
theorem Val.dat {v : V} {d : D} (h : Val g Z H v (.d d)) : Dat g Z H v d := by
  cases h with
  | d h => exact h
theorem Bd.under (s : Bd B γ ((v, e) :: st) Ps σ H) (e' : E) (he : toV e' = some w) : Bd B γ ((v, e) :: (w, e') :: st) Ps σ H := by
  obtain ⟨Z, l, sl, b, c⟩ := s
  exact ⟨Z, l, sl, ⟨b.1, val_of he, b.2⟩, c⟩
def divOk (j : Int) : Bool := decide (0 < j) && decide (j < 2 ^ 250)
theorem divOk_of {i j : Int} (h : divOk j = true) : CDivW i j := by
  unfold divOk at h
  simp only [Bool.and_eq_true, decide_eq_true_eq] at h
  exact Kit.divW h.1 h.2
def shlOk (j : Int) : Bool := decide (0 ≤ j) && decide (j ≤ 1000000)
theorem shlOk_of {i j : Int} (hi : i.natAbs < 2 ^ 64) (h : shlOk j = true) : CPow i j := by
  unfold shlOk at h
  simp only [Bool.and_eq_true, decide_eq_true_eq] at h
  exact ⟨h.1, h.2, hi⟩
theorem w_isNS {z : Str} (q : Q (.bl false) H) : rIsNo (.str z) .non H Q := ⟨rfl, q⟩
theorem w_notNS {z : Str} (q : Q (.bl true) H) : rNotNo (.str z) .non H Q := ⟨rfl, q⟩
theorem w_neSd {i j : Str} (q : Q (.bl (!decide (i = j))) H) : rNe (.str i) (.str j) H Q := ⟨rfl, by
  have e : decide (V.str i = V.str j) = decide (i = j) := by
    by_cases h : i = j
    · subst h; rw [decide_eq_true rfl, decide_eq_true rfl]
    · rw [decide_eq_false h, decide_eq_false (fun z => h (V.str.inj z))]
  rw [e]; exact q⟩
theorem all_flatS : ∀ xs : List Str, (xs.map D.str).all D.flat = true
  | [] => rfl
  | _ :: xs => all_flatS xs
theorem all_flatI : ∀ xs : List Int, (xs.map D.int).all D.flat = true
  | [] => rfl
  | _ :: xs => all_flatI xs
/-- * of a tuple, of a list -/
def repOk (n : Nat) (k : Int) : Bool := decide (-(2 ^ 63) ≤ k) && decide (k < 2 ^ 63) && decide (n * k.toNat ≤ 16000000)
def repL {α : Type} (xs : List α) (k : Int) : List α := (List.replicate k.toNat xs).flatten
theorem rep_map {α β : Type} (f : α → β) (xs : List α) (k : Int) : repL (xs.map f) k = (repL xs k).map f := by
  unfold repL
  induction k.toNat with
  | zero => rfl
  | succ n ih => rw [List.replicate_succ, List.replicate_succ, List.flatten_cons, List.flatten_cons, List.map_append, ih]
theorem o_repL {n : Int} {ds' : List D} (hf : repOk ds.length n = true) (he : repL ds n = ds') (s : Bd B γ ((v, .d (.lst ds)) :: st) Ps σ H) (k : ∀ v H', Bd B γ ((v, .d (.lst ds')) :: st) Ps σ H' → Q v H') : rRep v (.int n) H Q := by
  obtain ⟨Z, a, vs, rfl, h1, h2, l, sl, b, c⟩ := s.lstI
  unfold repOk at hf
  simp only [Bool.and_eq_true, decide_eq_true_eq] at hf
  refine ⟨a, n, vs, rfl, rfl, h1, hf.1.1, hf.1.2, by rw [h2.length]; exact Nat.le_trans hf.2 (by decide), fun p hp => k _ _ (.newL l sl b c hp ?_)⟩
  rw [← he]
  exact h2.rep n.toNat
theorem o_addS {x y : Str} (hf : fits x.length y.length = true) (q : Q (.str (x ++ y)) H) : ∃ i j, V.str x = .str i ∧ V.str y = .str j ∧ i.length + j.length ≤ sizeLine ∧ Q (.str (i ++ j)) H := ⟨x, y, rfl, rfl, fits_of hf, q⟩
theorem w_chain {r r' : R2} {ta tb tc : TE} (h : ta σ H fun x H1 => tb σ H1 fun y H2 => r x y H2 fun z H3 => ∃ k, z = .bl k ∧ if k = true then tc σ H3 fun w H4 => r' y w H4 Q else Q (.bl false) H3) : tChain r r' ta tb tc σ H Q := h
end
end Mi

set_option Elab.async false
set_option linter.all false
set_option maxRecDepth 100000
set_option maxHeartbeats 4000000
namespace Mi
open PySem PySem.Spec PyProof.Rows L2
/-! ### tuple * int for every count from 0: the hand layer's rule wants 2 or more -/
section
variable {l : Addr} {vs : Array Value} {sz : Nat} {dd : Option Addr} {sl : Array (Option Value)} {k : Int} {tk : Tok}
theorem mul_nought (b0 : (decide (k < -(2 ^ 63)) || decide (k ≥ 2 ^ 63)) = false) (b1 : (vs.isEmpty || k == 1) = false) (b2 : (decide (k ≤ 0) || vs.isEmpty) = true) :
    Meets (Builtin.«tuple.__mul__» ⟨[.ref l, .int k tk], []⟩) fun _ R s => s.heap.get? l = some ⟨.type "tuple", dd, .seq vs sz, sl⟩ ∧ R (.ok (.ret (.ref s.heap.objs.size))) { s with heap := s.heap.push { cls := .type "tuple", data := .seq #[] }, toks := s.toks } :=
  .of_wp fun _ _ _ _ st hh => by
    rcases st with ⟨h0, g0, r0, t0, o0⟩
    have look := hh.1
    have ix := AutoSeq1.idx_int
    wp_walk using wpAny_loadPart' look
    repeat (first
      | (refine wpAny_ite_false (decide_eq_false fun z => Bool.noConfusion (b0.symm.trans z)) ?_
         wp_walk using wpAny_loadPart' look)
      | (refine wpAny_ite_false (decide_eq_false fun z => Bool.noConfusion (b1.symm.trans z)) ?_
         wp_walk using wpAny_loadPart' look)
      | (refine wpAny_ite_true (decide_eq_true b2) ?_
         wp_walk using wpAny_loadPart' look))
    exact ⟨_, rfl, hh.2⟩
theorem mul_once (b0 : (decide (k < -(2 ^ 63)) || decide (k ≥ 2 ^ 63)) = false) (b1 : (vs.isEmpty || k == 1) = true) :
    Meets (Builtin.«tuple.__mul__» ⟨[.ref l, .int k tk], []⟩) fun _ R s => s.heap.get? l = some ⟨.type "tuple", dd, .seq vs sz, sl⟩ ∧ R (.ok (.ret (.ref l))) s :=
  .of_wp fun _ _ _ _ st hh => by
    rcases st with ⟨h0, g0, r0, t0, o0⟩
    have look := hh.1
    have ix := AutoSeq1.idx_int
    wp_walk using wpAny_loadPart' look
    repeat (first
      | (refine wpAny_ite_false (decide_eq_false fun z => Bool.noConfusion (b0.symm.trans z)) ?_
         wp_walk using wpAny_loadPart' look)
      | (refine wpAny_ite_true (decide_eq_true b1) ?_
         wp_walk using wpAny_loadPart' look))
    exact ⟨_, rfl, hh.2⟩
end
def rRepTB (K : PySem.W.Frag) : R2 := fun x y H Q => ∃ l k xs, x = .ref l ∧ y = .int k ∧ SqT K H l xs ∧ xs ≠ [] ∧ 0 ≤ k ∧ k ≤ 1000 ∧ xs.length ≤ 1000 ∧ (k = 1 → Q (.ref l) H) ∧ ∀ p, H p = none → Q (.ref p) (upd H p (.tup (List.replicate k.toNat xs).flatten))
theorem op_repTB {X : Cx} : OpR X (binaryOp .Mult) (rRepTB X.K) := by
  rintro pins s σ H _ _ v u Q I rx ry ⟨l, k, xs, rfl, rfl, hT, hne, h1, h2, hz, q⟩
  by_cases big : 2 ≤ k
  · exact op_repT pins s σ H _ _ v u Q I rx ry ⟨l, k, xs, rfl, rfl, hT, hne, big, h2, hz, fun p hp => q.2 p hp⟩
  cases rx
  rcases ry with ⟨t, rfl⟩
  have keep := hT
  rcases I.tuple hT with ⟨its, r, ⟨⟨c, d, e, f⟩, ho, hc, n, hd⟩, hs⟩
  dsimp only at hc hd
  subst hc
  subst hd
  have full : its.toArray.isEmpty = false := by
    rcases its with _ | ⟨a, b⟩
    · exact absurd (List.eq_nil_of_length_eq_zero r.length) hne
    · rfl
  have b0 : (decide (k < -(2 ^ 63)) || decide (k ≥ 2 ^ 63)) = false := Bool.or_eq_false_iff.mpr ⟨decide_eq_false (by omega), decide_eq_false (by omega)⟩
  have first := int_rmul_tuple k t l its.toArray n d f
  by_cases one : k = 1
  · have b1 : (its.toArray.isEmpty || k == 1) = true := by simp [one]
    refine wpAny_binaryOp_repeat_ref (U := "int") (T := "tuple") (by decide) ⟨_, ho, rfl⟩ (typeIs_int · k t)
      noFill_tuple_mul F.fills_int_mul F.slot_int_rmul repeat_tuple F.slot_int_index.lookup
      (call_meets F.slot_int_rmul (typeIs_int s k t) F.entry_int_rmul (F.args_int_rmul_2 _ _) first ⟨ho, rfl, ⟨_, ho, rfl⟩, ?_⟩)
    refine call_meets F.slot_tuple_mul ⟨_, ho, rfl⟩ F.entry_tuple_mul (F.args_tuple_mul_2 _ _) (mul_once b0 b1) ⟨ho, ?_⟩
    exact ⟨.ref l, H, I, rfl, q.1 one⟩
  · have zero : k = 0 := by omega
    have b1 : (its.toArray.isEmpty || k == 1) = false := Bool.or_eq_false_iff.mpr ⟨full, by simp [one]⟩
    have b2 : (decide (k ≤ 0) || its.toArray.isEmpty) = true := by simp [zero]
    refine wpAny_binaryOp_repeat_ref (U := "int") (T := "tuple") (by decide) ⟨_, ho, rfl⟩ (typeIs_int · k t)
      noFill_tuple_mul F.fills_int_mul F.slot_int_rmul repeat_tuple F.slot_int_index.lookup
      (call_meets F.slot_int_rmul (typeIs_int s k t) F.entry_int_rmul (F.args_int_rmul_2 _ _) first ⟨ho, rfl, ⟨_, ho, rfl⟩, ?_⟩)
    refine call_meets F.slot_tuple_mul ⟨_, ho, rfl⟩ F.entry_tuple_mul (F.args_tuple_mul_2 _ _) (mul_nought b0 b1 b2) ⟨ho, ?_⟩
    have new : Inv X pins σ (upd H s.heap.objs.size (.tup [])) _ := I.laid (t' := s.toks) (o := .tup []) (fun b ob q => Heap.get?_push_of_some _ q) (Nat.le_refl _) ⟨Nat.zero_le _, [], .nil, IsTup.new _ _⟩
    exact ⟨.ref s.heap.objs.size, _, new, rfl, by have := q.2 _ (I.hok.fresh (Nat.le_refl s.heap.objs.size)); subst zero; exact this⟩
theorem kRepTB (K : PySem.W.Frag) {X : Cx} (h : X.K = K := by rfl) : OpR X (binaryOp .Mult) (rRepTB K) := h ▸ op_repTB
section
variable {g : G} {Z Z' : ZS} {H H' : Hp} {B : Bs} {γ γ' : List (Option E)} {st st' st0 : List (V × E)} {Ps Qs F : List As} {σ : L2.St} {Q : VK} {d d1 d2 : D} {e e1 e2 : E} {v w x y : V} {i j : Nat} {a b : Addr} {o : OC} {ds : List D} {es : List E}
def repTOk (n : Nat) (k : Int) : Bool := decide (0 ≤ k) && decide (k ≤ 1000) && decide (0 < n) && decide (n ≤ 1000)
theorem o_repT {n : Int} {ds' : List D} (hf : repTOk ds.length n = true) (he : repL ds n = ds') (s : Bd B γ ((v, .d (.tup ds)) :: st) Ps σ H) (k : ∀ v H', Bd B γ ((v, .d (.tup ds')) :: st) Ps σ H' → Q v H') : rRepTB B.g.K v (.int n) H Q := by
  obtain ⟨Z, a, vs, rfl, h1, h2, l, sl, b, c⟩ := s.tupI
  unfold repTOk at hf
  simp only [Bool.and_eq_true, decide_eq_true_eq] at hf
  have hl := h2.length
  have hd := h2.rep n.toNat
  have he' : (List.replicate n.toNat ds).flatten = ds' := he
  rw [he'] at hd
  refine ⟨a, n, vs, rfl, rfl, h1.1, ?_, hf.1.1.1, hf.1.1.2, by omega, fun e => ?_, fun p hp => k _ _ (.newT l sl b c hp hd)⟩
  · intro e
    rw [e] at hl
    simp at hl
    omega
  · subst e
    have e1 : ds' = ds := by rw [← he']; simp
    rw [e1] at k
    exact k _ _ (.push l sl b c (.tup h1 h2))
/-- lengths -/
theorem vs0 {vs : List V} (h : vs.length = 0) : vs = [] := List.eq_nil_of_length_eq_zero h
theorem vs1 {vs : List V} (h : vs.length = 1) : ∃ a, vs = [a] := by match vs, h with | [a], _ => exact ⟨a, rfl⟩
theorem vs2 {vs : List V} (h : vs.length = 2) : ∃ a b, vs = [a, b] := by match vs, h with | [a, b], _ => exact ⟨a, b, rfl⟩
theorem vs3 {vs : List V} (h : vs.length = 3) : ∃ a b c, vs = [a, b, c] := by match vs, h with | [a, b, c], _ => exact ⟨a, b, c, rfl⟩
theorem vs4 {vs : List V} (h : vs.length = 4) : ∃ a b c d, vs = [a, b, c, d] := by match vs, h with | [a, b, c, d], _ => exact ⟨a, b, c, d, rfl⟩
theorem vs5 {vs : List V} (h : vs.length = 5) : ∃ a b c d e, vs = [a, b, c, d, e] := by match vs, h with | [a, b, c, d, e], _ => exact ⟨a, b, c, d, e, rfl⟩
theorem vs6 {vs : List V} (h : vs.length = 6) : ∃ a b c d e f, vs = [a, b, c, d, e, f] := by match vs, h with | [a, b, c, d, e, f], _ => exact ⟨a, b, c, d, e, f, rfl⟩
theorem vs7 {vs : List V} (h : vs.length = 7) : ∃ a b c d e f g, vs = [a, b, c, d, e, f, g] := by match vs, h with | [a, b, c, d, e, f, g], _ => exact ⟨a, b, c, d, e, f, g, rfl⟩
/-- a called local name -/
theorem w_callL {i : Nat} {f : Addr} {sp : Sp} {Ex : XK} {t : TA} {σ : L2.St} (s : Bd B γ st Ps σ H) (hi : γ[i]? = some (some (.adr f))) (k : t σ H fun vs H1 => sp vs H1 Q Ex) : tCallL i f sp [] Ex t σ H Q := by
  obtain ⟨Z, l, sl, b, c⟩ := s
  obtain ⟨v, h1, h2⟩ := sl.get hi
  rw [Val.toV h2 rfl] at h1
  refine ⟨h1, ?_⟩
  have e : (fun (vs : List V) (H1 : Hp) => sp (vs ++ []) H1 Q Ex) = fun vs H1 => sp vs H1 Q Ex := by
    funext vs H1
    rw [List.append_nil]
  rw [e]
  exact k
theorem kAllB (K : PySem.W.Frag) {X : Cx} (hc : X.calm = true) (h : X.K = K := by rfl) : CallR X (.builtin "all") (L2.rAll K) := h ▸ cr_all hc
/-- an item of a list that may change is set -/
theorem w_gsub {to ti : TE} {ts : TSet} {v : V} {Qs : L2.St → Hp → Prop} (h : to σ H fun o H1 => ti σ H1 fun i H2 => ts o i v H2 fun H3 => Qs σ H3) : gSub to ti ts v σ H Qs := h
end
end Mi

set_option Elab.async false
set_option linter.all false
set_option maxRecDepth 100000
set_option maxHeartbeats 4000000
namespace Mi
open PySem PySem.Spec PyProof.Rows L2 Evl Kit
section
variable {P : Program} {w : World} {K : PySem.W.Frag} {mg : Str → Option Value} {base : Heap} {g : G}
variable {α β : Type} {ins : α → List E} {pin : α → List As} {m : α → R β} {out : α → β → E} {pout : α → β → List As}
theorem fuel0 {x qual : Str} {st : Stmt} {f : Addr} {fd : FuncData} {N ps : List Str} {k : Nat} (F : Fun K x qual st f fd) (S : FnScope N ps (defScope st)) (len : ∀ vs H Q E, SpOf g ins pin m out pout vs H Q E → vs.length = ps.length)
    (hz : ∀ a, m a = .fail) : FnOk P w K mg base CX0 (k + 1) f fd ps (SpOf g ins pin m out pout) :=
  F.ok S len fun cdv A outer s H vs Q E hr h => by
    obtain ⟨a, F, Z, hd, hs, hm⟩ := h
    rw [hz] at hm
    exact False.elim hm
theorem fuel0N {new : α → β → Addr → As} {x qual : Str} {st : Stmt} {f : Addr} {fd : FuncData} {N ps : List Str} {k : Nat} (F : Fun K x qual st f fd) (S : FnScope N ps (defScope st)) (len : ∀ vs H Q E, SpNew g ins pin m new pout vs H Q E → vs.length = ps.length)
    (hz : ∀ a, m a = .fail) : FnOk P w K mg base CX0 (k + 1) f fd ps (SpNew g ins pin m new pout) :=
  F.ok S len fun cdv A outer s H vs Q E hr h => by
    obtain ⟨a, F, Z, hd, hs, hm⟩ := h
    rw [hz] at hm
    exact False.elim hm
end
/-! ### the law -/
def spLaw (K : PySem.W.Frag) : Sp := fun vs H Q _ => ∃ (a : Addr) (ns : List Int), vs = [.ref a] ∧ SqL K H a (ns.map V.int) ∧ ns.length ≤ 63 ∧ ∀ H', Q (.bl true) H'
theorem spLaw_of {K : PySem.W.Frag} {H : Hp} {a : Addr} {ns : List Int} (hl : ns.length ≤ 63) (hS : SqL K H a (ns.map V.int)) : spLaw K [.ref a] H (fun v _ => v = .bl true) fun _ _ _ => False := ⟨a, ns, rfl, hS, hl, fun _ => rfl⟩
theorem law_imp {g : G} {m : List Int → R Bool} (hm : ∀ ns, ns.length ≤ 63 → m ns = .ok true) {vs : List V} {H : Hp} {Q : VK} {Ex : XK} (h : spLaw g.K vs H Q Ex) :
    SpOf g (α := List Int) (β := Bool) (fun a => [.d (.seq (a.map D.int))]) (fun _ => []) (fun a => m a) (fun _ r => .d (.bl r)) (fun _ _ => []) vs H Q Ex := by
  obtain ⟨a, ns, rfl, hS, hl, q⟩ := h
  refine ⟨ns, [], fun b => b = a ∧ H a ≠ none, .cons (.d (.seq ⟨hS, ?_⟩ (ints_dats ns))) .nil, ⟨[], .nil, .nil, nofun, nofun, fun b hb => by rw [hb.1]; exact hb.2⟩, ?_⟩
  · rcases hS with (h | ⟨o, h⟩) | h
    · exact .inl ⟨rfl, by rw [h]; exact nofun⟩
    · exact .inl ⟨rfl, by rw [h]; exact nofun⟩
    · exact .inr fun H' => .inr h
  · show (m ns).All _ _
    rw [hm ns hl]
    intro v Z' H' _ hd _
    cases hd with
    | d h => cases h; exact q H'
/-! ### side conditions -/
theorem and1 {a b : Bool} (h : (a && b) = true) : a = true := (Bool.and_eq_true_iff.mp h).1
theorem and2 {a b : Bool} (h : (a && b) = true) : b = true := (Bool.and_eq_true_iff.mp h).2
theorem map_snoc {α β : Type} (f : α → β) (xs : List α) (y : α) : xs.map f ++ [f y] = (xs ++ [y]).map f := by rw [List.map_append]; rfl
theorem map_set {α β : Type} (f : α → β) (xs : List α) (i : Nat) (y : α) : (xs.map f).set i (f y) = (xs.set i y).map f := by rw [List.map_set]
/-- the list that is appended to -/
theorem w_tyO {B : Bs} {γ : List (Option E)} {st : List (V × E)} {Ps F : List As} {σ : St} {H : Hp} {a : Addr} {ds : List D} {W : Prop} (p : Ps.Perm (pt a (.lst ds) :: F)) (s : Bd B γ st Ps σ H) (r : W) : tyV B.g.K "list" (.ref a) H ∧ W := by
  obtain ⟨Z, ⟨vs, h1, h2⟩, _⟩ := (s.perm p).front
  exact w_tyL (SqL.of h1) r
namespace D
def take2 : List D → Option (D × D)
  | [a, b] => some (a, b)
  | _ => none
def take3 : List D → Option (D × D × D)
  | [a, b, c] => some (a, b, c)
  | _ => none
def take4 : List D → Option (D × D × D × D)
  | [a, b, c, d] => some (a, b, c, d)
  | _ => none
def take6 : List D → Option (D × D × D × D × D × D)
  | [a, b, c, d, e, f] => some (a, b, c, d, e, f)
  | _ => none
end D
theorem D.take2_eq {xs : List D} {p : D × D} (h : D.take2 xs = some p) : xs = [p.1, p.2] := by
  unfold D.take2 at h
  split at h
  · cases h; rfl
  · cases h
theorem D.take3_eq {xs : List D} {p : D × D × D} (h : D.take3 xs = some p) : xs = [p.1, p.2.1, p.2.2] := by
  unfold D.take3 at h
  split at h
  · cases h; rfl
  · cases h
theorem D.take4_eq {xs : List D} {p : D × D × D × D} (h : D.take4 xs = some p) : xs = [p.1, p.2.1, p.2.2.1, p.2.2.2] := by
  unfold D.take4 at h
  split at h
  · cases h; rfl
  · cases h
theorem D.take6_eq {xs : List D} {p : D × D × D × D × D × D} (h : D.take6 xs = some p) : xs = [p.1, p.2.1, p.2.2.1, p.2.2.2.1, p.2.2.2.2.1, p.2.2.2.2.2] := by
  unfold D.take6 at h
  split at h
  · cases h; rfl
  · cases h
end Mi

set_option Elab.async false
set_option linter.all false
set_option maxRecDepth 100000
set_option maxHeartbeats 4000000
namespace Mi
open PySem PySem.Spec PyProof.Rows L2 Evl Kit
section
variable {g : G} {Z Z' : ZS} {H H' : Hp} {B : Bs} {γ γ' : List (Option E)} {st st' st0 : List (V × E)} {Ps Qs F : List As} {σ : St} {Q : VK} {d d1 d2 : D} {e e1 e2 : E} {v w x y : V} {i j : Nat} {a b : Addr} {o : OC} {ds : List D} {es : List E}
/-! ### zip -/
def zipD : List D → List D → List D
  | x :: xs, y :: ys => .tup [x, y] :: zipD xs ys
  | _, _ => []
theorem zipD_length : ∀ xs ys : List D, (zipD xs ys).length = min xs.length ys.length
  | [], _ => by simp [zipD]
  | _ :: _, [] => by simp [zipD]
  | _ :: xs, _ :: ys => by simp [zipD, zipD_length xs ys]
theorem zipD_get : ∀ {xs ys : List D} {i : Nat} {d : D}, (zipD xs ys)[i]? = some d → ∃ x y, xs[i]? = some x ∧ ys[i]? = some y ∧ d = .tup [x, y]
  | [], _, _, _, h => by simp [zipD] at h
  | _ :: _, [], _, _, h => by simp [zipD] at h
  | x :: xs, y :: ys, 0, d, h => by simp [zipD] at h; exact ⟨x, y, rfl, rfl, h.symm⟩
  | x :: xs, y :: ys, i + 1, d, h => by
    have h' : (zipD xs ys)[i]? = some d := by simpa [zipD] using h
    obtain ⟨a, b, h1, h2, h3⟩ := zipD_get h'
    exact ⟨a, b, by simpa using h1, by simpa using h2, h3⟩
theorem zipD_map {α β : Type} (f : α → D) (k : β → D) : ∀ (xs : List α) (ys : List β), zipD (xs.map f) (ys.map k) = (xs.zip ys).map fun p => .tup [f p.1, k p.2]
  | [], _ => by simp [zipD]
  | _ :: _, [] => by simp [zipD]
  | x :: xs, y :: ys => by simp [zipD, zipD_map f k xs ys]
theorem walk_zipT {es : List D} : Walk g (RZ.ItzT g.K a b) ((zipD ds es).map E.d) [(.ref b, .d (.tup es)), (.ref a, .d (.tup ds))] := by
  have I : ∀ {Z : ZS} {H : Hp}, Stk g Z H [(.ref b, .d (.tup es)), (.ref a, .d (.tup ds))] → ∃ vs ws, SqT g.K H a vs ∧ Dats g Z H vs ds ∧ SqT g.K H b ws ∧ Dats g Z H ws es := fun {Z H} h => by
    obtain ⟨h1, h2, _⟩ := h
    obtain ⟨a1, vs, q1, q2, q3⟩ := Dat.tupI h2.dat
    obtain ⟨a2, ws, r1, r2, r3⟩ := Dat.tupI h1.dat
    cases q1
    cases r1
    exact ⟨vs, ws, q2.1, q3, r2.1, r3⟩
  have hl : ((zipD ds es).map E.d).length = min ds.length es.length := by rw [List.length_map, zipD_length]
  refine ⟨fun {Z H} h => ?_, fun {Z H i} h hi => ?_, fun {Z H i x H' d} h hi hy => ?_⟩
  · obtain ⟨vs, ws, h1, h2, h3, h4⟩ := I h
    exact ⟨vs, ws, h1, h3, by rw [hl, h2.length, h4.length]; omega⟩
  · obtain ⟨vs, ws, h1, h2, h3, h4⟩ := I h
    rw [hl, ← h2.length, ← h4.length] at hi
    exact ⟨vs, ws, vs[i], ws[i], h1, h3, List.getElem?_eq_getElem (by omega), List.getElem?_eq_getElem (by omega)⟩
  · obtain ⟨vs, ws, h1, h2, h3, h4⟩ := I h
    rw [List.getElem?_map] at hi
    cases q : (zipD ds es)[i]? with
    | none => rw [q] at hi; cases hi
    | some d0 =>
      rw [q] at hi
      cases hi
      obtain ⟨x0, y0, q1, q2, rfl⟩ := zipD_get q
      obtain ⟨T, x1, y1, rfl, hT, rfl, e1, e2⟩ := hy
      obtain ⟨v1, r1, r2⟩ := h2.get q1
      obtain ⟨w1, s1, s2⟩ := h4.get q2
      have := e1 vs h1
      rw [r1] at this; cases this
      have := e2 ws h3
      rw [s1] at this; cases this
      refine .inr ⟨T, _, hT, rfl, fun za => ?_⟩
      have l := le_zadd (u := .tup [x1, y1]) za hT
      exact .d (.tup ⟨SqT.of upd_same, .inl (.inr rfl)⟩ (.cons (r2.up l) (.cons (s2.up l) .nil)))
theorem walk_zipTM {α β : Type} {f : α → D} {k : β → D} {xs : List α} {ys : List β} : Walk g (RZ.ItzT g.K a b) ((xs.zip ys).map fun p => E.d (.tup [f p.1, k p.2])) [(.ref b, .d (.tup (ys.map k))), (.ref a, .d (.tup (xs.map f)))] := by
  have := walk_zipT (g := g) (a := a) (b := b) (ds := xs.map f) (es := ys.map k)
  rw [zipD_map, List.map_map] at this
  exact this
theorem i_zipT {P : It → Hp → Prop} {es : List D} (s : Bd B γ ((w, .d (.tup es)) :: (v, .d (.tup ds)) :: st) Ps σ H) (k : ∀ a b, Bd B γ ((.ref b, .d (.tup es)) :: (.ref a, .d (.tup ds)) :: st) Ps σ H → P (RZ.ItzT B.g.K a b) H) :
    ∃ a b xs ys, [v, w] = [.ref a, .ref b] ∧ ((SqL B.g.K H a xs ∧ SqL B.g.K H b ys ∧ P (Itz B.g.K a b) H) ∨ (SqT B.g.K H a xs ∧ SqT B.g.K H b ys ∧ P (RZ.ItzT B.g.K a b) H)) := by
  obtain ⟨Z, h1, h2⟩ := s.two
  obtain ⟨a, vs, rfl, q1, _⟩ := Dat.tupI h1
  obtain ⟨b, ws, rfl, r1, _⟩ := Dat.tupI h2
  exact ⟨a, b, vs, ws, rfl, .inr ⟨q1.1, r1.1, k a b s⟩⟩
section
variable {G' : TG} {t : TS} {nx : St → Hp → Prop} {rt : VK} {tt : TT} {te : TE} {vs : List Nat} {es : List D}
theorem i_zipTF (s : Bd B γ ((w, .d (.tup es)) :: (v, .d (.tup ds)) :: st) Ps σ H) (k : ∀ a b, Bd B γ ((.ref b, .d (.tup es)) :: (.ref a, .d (.tup ds)) :: st) Ps σ H → Fj (RZ.ItzT B.g.K a b) G' t nx rt σ H) :
    ∃ a b xs ys, [v, w] = [.ref a, .ref b] ∧ ((SqL B.g.K H a xs ∧ SqL B.g.K H b ys ∧ Fj (Itz B.g.K a b) G' t nx rt σ H) ∨ (SqT B.g.K H a xs ∧ SqT B.g.K H b ys ∧ Fj (RZ.ItzT B.g.K a b) G' t nx rt σ H)) := i_zipT (P := fun J H => Fj J G' t nx rt σ H) s k
theorem i_zipTL (s : Bd B γ ((w, .d (.tup es)) :: (v, .d (.tup ds)) :: st) Ps σ H) (k : ∀ a b, Bd B γ ((.ref b, .d (.tup es)) :: (.ref a, .d (.tup ds)) :: st) Ps σ H → Lcj (RZ.ItzT B.g.K a b) G' tt te vs σ H Q) :
    ∃ a b xs ys, [v, w] = [.ref a, .ref b] ∧ ((SqL B.g.K H a xs ∧ SqL B.g.K H b ys ∧ Lcj (Itz B.g.K a b) G' tt te vs σ H Q) ∨ (SqT B.g.K H a xs ∧ SqT B.g.K H b ys ∧ Lcj (RZ.ItzT B.g.K a b) G' tt te vs σ H Q)) := i_zipT (P := fun J H => Lcj J G' tt te vs σ H Q) s k
end
/-! ### dicts of the module: text keys, tuples of texts -/
theorem o_notInKd {rows : List (Str × List Str)} {wd : World} {z : Str} (t : KTab wd g.K a (rows.map fun r => (r.1, r.2.map V.str))) (q : Q (.bl (!(rows.lookup z).isSome)) H) : rNotInKd g.K a (.str z) (.ref a) H Q := by
  cases e : rows.lookup z with
  | none =>
    rw [e] at q
    refine w_notInKd_t t (fun r hr => ?_) q
    obtain ⟨r0, h0, rfl⟩ := List.mem_map.mp hr
    intro z0
    have z1 : r0.1 = z := z0
    subst z1
    have := List.lookup_eq_none_iff.mp e
    exact absurd (this r0 h0) (by simp)
  | some xs =>
    rw [e] at q
    have hm : (z, xs) ∈ rows := by
      clear q t
      induction rows with
      | nil => cases e
      | cons r rows ih =>
        obtain ⟨k, ys⟩ := r
        rw [List.lookup_cons] at e
        cases hk : z == k with
        | true =>
          rw [hk] at e
          cases e
          rw [eq_of_beq hk]
          exact List.mem_cons_self
        | false =>
          rw [hk] at e
          exact List.mem_cons_of_mem _ (ih e)
    exact w_notInKd_f t (List.mem_map.mpr ⟨_, hm, rfl⟩) q
theorem lookup_mem {α : Type} {z : Str} {x : α} : ∀ {rows : List (Str × α)}, rows.lookup z = some x → (z, x) ∈ rows
  | [], e => by cases e
  | (k, y) :: rows, e => by
    rw [List.lookup_cons] at e
    cases hk : z == k with
    | true =>
      rw [hk] at e
      cases e
      rw [eq_of_beq hk]
      exact List.mem_cons_self
    | false =>
      rw [hk] at e
      exact List.mem_cons_of_mem _ (lookup_mem e)
theorem o_ixKd {rows : List (Str × List Str)} {wd : World} {z : Str} {xs : List Str} (t : KTab wd B.g.K a (rows.map fun r => (r.1, r.2.map V.str))) (e : rows.lookup z = some xs) (s : Bd B γ st Ps σ H) (k : ∀ v, Bd B γ ((v, .d (.tup (xs.map D.str))) :: st) Ps σ H → Q v H) : rIxD B.g.K wd (.ref a) (.str z) H Q := by
  refine w_ixKd t (List.mem_map.mpr ⟨_, lookup_mem e, rfl⟩) fun p hp => ?_
  obtain ⟨Z, l, sl, b, c⟩ := s
  exact k _ (.push l sl b c (con_strs hp))
/-! ### dicts that are told: a written one, .get -/
def dlk {α : Type} (kvs : List (Key × α)) (k : Key) : Option α := (kvs.find? fun kv => decide (kv.1 = k)).map (·.2)
theorem KVals.find {k : Key} : ∀ {vs : List (Key × V)} {es : List (Key × E)}, KVals g Z H vs es → (valV vs k = none ∧ dlk es k = none) ∨ ∃ v e, valV vs k = some v ∧ dlk es k = some e ∧ Val g Z H v e
  | _, _, .nil => .inl ⟨rfl, rfl⟩
  | _, _, .cons (f := f) h t => by
    unfold valV dlk
    by_cases q : f = k
    · subst q
      refine .inr ⟨_, _, ?_, ?_, h⟩
      · rw [List.find?_cons_of_pos (by simp)]; rfl
      · rw [List.find?_cons_of_pos (by simp)]; rfl
    · rw [List.find?_cons_of_neg (by simpa using q), List.find?_cons_of_neg (by simpa using q)]
      exact t.find
def DgetQ (a : Addr) (y z : V) (Q : VK) (H : Hp) : Prop := ∃ o, DGet H a y o ∧ Q (o.getD z) H
theorem w_dget2 {td ty tx : TE} (h : td σ H fun x H1 => ∃ a, x = .ref a ∧ IsD H1 a ∧ ty σ H1 fun y H2 => tx σ H2 fun z H3 => DgetQ a y z Q H3) : tDGet2 td ty tx σ H Q := h
theorem o_isD {P : Addr → Prop} {kvs : List (Key × E)} (p : Ps.Perm (pt a (.dk kvs) :: F)) (s : Bd B γ st Ps σ H) (k : P a) : ∃ b, V.ref a = .ref b ∧ IsD H b ∧ P b := by
  obtain ⟨Z, ⟨vs, h1, h2⟩, _⟩ := (s.perm p).front
  exact ⟨a, rfl, .inl ⟨vs, .inl h1⟩, k⟩
/-- d.get(k, told), values told -/
theorem o_dget2 {kvs : List (Key × E)} {key : Key} {wf : E → V} (hw : ∀ e ∈ kvs.map (·.2), toV e = some (wf e)) (p : Ps.Perm (pt a (.dk kvs) :: F)) (s : Bd B γ st Ps σ H) {u : V} (hu : (match dlk kvs key with | some e => wf e | none => w) = u) (q : Q u H) : DgetQ a (kV key) w Q H := by
  subst hu
  obtain ⟨Z, ⟨vs, h1, h2⟩, _⟩ := (s.perm p).front
  refine ⟨valV vs key, .k h1, ?_⟩
  rcases h2.find (k := key) with ⟨n1, n2⟩ | ⟨v, e, n1, n2, n3⟩
  · rw [n1]; rw [n2] at q; exact q
  · rw [n1]; rw [n2] at q
    have hm : e ∈ kvs.map (·.2) := by
      unfold dlk at n2
      obtain ⟨kv, h3, h4⟩ := Option.map_eq_some_iff.mp n2
      exact List.mem_map.mpr ⟨kv, List.mem_of_find?_eq_some h3, h4⟩
    rw [n3.toV (hw e hm)]
    exact q
end
end Mi
namespace Mi
open PySem PySem.Spec PyProof.Rows L2 Evl Kit
section
variable {g : G} {Z Z' : ZS} {H H' : Hp} {B : Bs} {γ γ' : List (Option E)} {st st' st0 : List (V × E)} {Ps Qs F : List As} {σ : St} {Q : VK} {d d1 d2 : D} {e e1 e2 : E} {v w x y : V} {i j : Nat} {a b : Addr} {o : OC} {ds : List D} {es : List E}
/-- a written dict: its place is new, then its pairs are reckoned, then it is filled -/
theorem o_disp {trs : List (TE × TE)} (s : Bd B γ st Ps σ H)
    (k : ∀ p H1, Bd B γ st (pt p (.dk []) :: Ps) σ H1 → tPairs trs σ H1 fun ps H2 => H2 p = some (.dK []) ∧ ∃ kvs : List (Key × V), ps = kvs.map (fun kv => (kV kv.1, kv.2)) ∧ kvs.length ≤ 15 ∧ Q (.ref p) (upd H2 p (.dK (mergeK [] kvs)))) : tDisp trs σ H Q := by
  intro p hp
  obtain ⟨Z, l, sl, b, c⟩ := s
  have l2 : Le Z H Z (upd H p (.dK [])) := ⟨fun _ h => h, fun a ha => upd_ne fun e => c.za a ha (e ▸ hp)⟩
  exact k p _ ⟨Z, l.trans l2, sl.up l2, b.up l2, c.new hp ⟨[], upd_same, .nil⟩⟩
theorem mergeK_new : ∀ {more kvs : List (Key × V)}, ((kvs ++ more).map (·.1)).Nodup → mergeK kvs more = kvs ++ more
  | [], kvs, _ => by unfold mergeK; simp
  | kv :: more, kvs, h => by
    have e : mergeK kvs (kv :: more) = mergeK (putK kvs kv.1 kv.2) more := rfl
    have h2 : (kvs.any fun q => decide (q.1 = kv.1)) = false := by
      rw [List.any_eq_false]
      intro q hq
      simp only [decide_eq_true_eq]
      intro z
      rw [List.map_append, List.nodup_append] at h
      exact h.2.2 q.1 (List.mem_map_of_mem hq) kv.1 (by simp) z
    have e2 : putK kvs kv.1 kv.2 = kvs ++ [kv] := by
      unfold putK
      rw [h2, if_neg Bool.false_ne_true]
    rw [e, e2, mergeK_new (by rw [List.append_assoc]; exact h), List.append_assoc]
    rfl
theorem o_dispE {p : Addr} {ps : List (V × V)} {kvs : List (Key × V)} (hl : kvs.length ≤ 15) (kes : List (Key × E)) (nd : (kvs.map (·.1)).Nodup) (hv : ∀ Z H, KVals B.g Z H kvs kes) (s : Bd B γ st (pt p (.dk []) :: Ps) σ H) (k : ∀ H', Bd B γ st (pt p (.dk kes) :: Ps) σ H' → Q (.ref p) H')
    (he : ps = kvs.map (fun kv => (kV kv.1, kv.2)) := by rfl) : H p = some (.dK []) ∧ ∃ kvs : List (Key × V), ps = kvs.map (fun kv => (kV kv.1, kv.2)) ∧ kvs.length ≤ 15 ∧ Q (.ref p) (upd H p (.dK (mergeK [] kvs))) := by
  obtain ⟨Z, ⟨vs, h1, h2⟩, _, l, sl, b, c⟩ := s.front
  cases h2
  refine ⟨h1, kvs, he, hl, k _ ?_⟩
  obtain ⟨c', l2⟩ := c.put (oc' := .dk kes) (u := .dK (mergeK [] kvs)) fun l2 => ⟨kvs, by rw [upd_same, mergeK_new (kvs := []) nd]; rfl, hv _ _⟩
  exact ⟨Z, l.trans l2, sl.up l2, b.up l2, c'⟩
end
def wInt : E → V
  | .d (.int i) => .int i
  | _ => .non
theorem wInt_ok (kvs : List (Key × Int)) : ∀ e ∈ (kvs.map fun y => (y.1, E.d (.int y.2))).map (·.2), toV e = some (wInt e) := by
  intro e he
  rw [List.map_map] at he
  obtain ⟨kv, _, rfl⟩ := List.mem_map.mp he
  rfl
theorem wInt_get (kvs : List (Key × Int)) (k : Key) (n : Int) : (match dlk (kvs.map fun y => (y.1, E.d (.int y.2))) k with | some e => wInt e | none => .int n) = .int ((dlk kvs k).getD n) := by
  unfold dlk
  induction kvs with
  | nil => rfl
  | cons kv kvs ih =>
    rw [List.map_cons]
    by_cases h : kv.1 = k
    · rw [List.find?_cons_of_pos (by simpa using h), List.find?_cons_of_pos (by simpa using h)]; rfl
    · rw [List.find?_cons_of_neg (by simpa using h), List.find?_cons_of_neg (by simpa using h)]; exact ih
end Mi

set_option Elab.async false
set_option linter.all false
set_option maxRecDepth 100000
set_option maxHeartbeats 4000000
/-! mathematics of mirrors -/
namespace Mi
open PySem PySem.Spec PyProof.Rows L2
namespace R
variable {α β γ : Type}
@[simp] theorem ite_bind {c : Prop} [Decidable c] {a b : R α} {f : α → R β} : (if c then a else b).bind f = if c then a.bind f else b.bind f := by split <;> rfl
@[simp] theorem bind_ok_id (o : R α) : (o.bind fun a => .ok a) = o := by cases o <;> rfl
@[simp] theorem bind_pair (o : R (α × Unit)) : (o.bind fun a => .ok (a.1, ())) = o := by cases o <;> rfl
theorem bind_pair2 (o : R (α × β)) : (o.bind fun a => .ok (a.1, a.2)) = o := by cases o <;> rfl
theorem ite_ok {c : Prop} [Decidable c] {a b : α} : (if c then R.ok a else R.ok b) = R.ok (if c then a else b) := by split <;> rfl
/-- the mirror ends, and so -/
def Ends (o : R α) (P : α → Prop) : Prop := ∃ a, o = .ok a ∧ P a
theorem Ends.bind {o : R α} {f : α → R β} {P : α → Prop} {Q : β → Prop} (h : Ends o P) (k : ∀ a, P a → Ends (f a) Q) : Ends (o.bind f) Q := by
  obtain ⟨a, rfl, p⟩ := h
  exact k a p
theorem Ends.mono {o : R α} {P Q : α → Prop} (h : Ends o P) (k : ∀ a, P a → Q a) : Ends o Q := by
  obtain ⟨a, e, p⟩ := h
  exact ⟨a, e, k a p⟩
theorem Ends.ok {a : α} {P : α → Prop} (p : P a) : Ends (.ok a) P := ⟨a, rfl, p⟩
theorem Ends.req {b : Bool} {f : Unit → R β} {Q : β → Prop} (h : b = true) (k : Ends (f ()) Q) : Ends ((R.req b).bind f) Q := by subst h; exact k
theorem Ends.ofO {o : Option α} {a : α} {f : α → R β} {Q : β → Prop} (h : o = some a) (k : Ends (f a) Q) : Ends ((R.ofO o).bind f) Q := by subst h; exact k
theorem Ends.ite {c : Prop} [Decidable c] {a b : R α} {Q : α → Prop} (h1 : c → Ends a Q) (h2 : ¬ c → Ends b Q) : Ends (if c then a else b) Q := by
  by_cases h : c
  · rw [if_pos h]; exact h1 h
  · rw [if_neg h]; exact h2 h
theorem Ends.eq {o : R α} {a : α} (h : o = .ok a) : Ends o (fun b => b = a) := ⟨a, h, rfl⟩
end R
open R
/-- loops by an invariant -/
theorem forR_inv {τ S : Type} {f : τ → S → R S} (I : S → Prop) : ∀ (xs : List τ) (s : S), I s → (∀ x s, x ∈ xs → I s → Ends (f x s) I) → Ends (forR xs s f) I
  | [], s, h, _ => .ok h
  | x :: xs, s, h, k => .bind (k x s (List.mem_cons_self) h) fun s h => forR_inv I xs s h fun x s hx => k x s (List.mem_cons_of_mem _ hx)
/-- .. by the turn -/
theorem forR_idx {τ S : Type} {f : τ → S → R S} (I : Nat → S → Prop) : ∀ (xs : List τ) (s : S) (i : Nat), I i s → (∀ j x s, i ≤ j → j < i + xs.length → x ∈ xs → I j s → Ends (f x s) (I (j + 1))) → Ends (forR xs s f) (I (i + xs.length))
  | [], s, i, h, _ => .ok h
  | x :: xs, s, i, h, k => .bind (k i x s (Nat.le_refl _) (by simp) (List.mem_cons_self) h) fun s h => by
    have := forR_idx I xs s (i + 1) h fun j x s h1 h2 hx => k j x s (by omega) (by simp at h2 ⊢; omega) (List.mem_cons_of_mem _ hx)
    have e : i + 1 + xs.length = i + (x :: xs).length := by simp; omega
    rw [e] at this
    exact this
theorem rng_length {lo : Int} {n : Nat} : (rng lo n).length = n := by simp [rng]
/-- a loop that is never left -/
theorem forE_inv {τ S ρ : Type} {f : τ → S → R (Fl ρ S)} (I : S → Prop) : ∀ (xs : List τ) (s : S), I s → (∀ x s, x ∈ xs → I s → Ends (f x s) fun r => ∃ s, r = .go s ∧ I s) → Ends (forE xs s f) fun r => ∃ s, r = .go s ∧ I s
  | [], s, h, _ => .ok ⟨s, rfl, h⟩
  | x :: xs, s, h, k => .bind (k x s (List.mem_cons_self) h) fun r ⟨s, e, h⟩ => by
    subst e
    exact forE_inv I xs s h fun x s hx => k x s (List.mem_cons_of_mem _ hx)
theorem mapR_spec {τ β : Type} {f : τ → Unit → R (β × Unit)} {e : τ → β} : ∀ {xs : List τ}, (∀ x ∈ xs, f x () = .ok (e x, ())) → mapR xs () f = .ok (xs.map e, ())
  | [], _ => rfl
  | x :: xs, h => by
    unfold mapR
    rw [h x List.mem_cons_self, bind_ok, mapR_spec fun y hy => h y (List.mem_cons_of_mem _ hy)]
    rfl
theorem mapC_spec {τ β : Type} {f : τ → Unit → R (β × Unit)} {e : τ → β} {xs : List τ} (hl : xs.length ≤ 40000) (h : ∀ x ∈ xs, f x () = .ok (e x, ())) : mapC xs () f = .ok (xs.map e, ()) := by
  unfold mapC
  rw [decide_eq_true hl, if_pos rfl, mapR_spec h]
theorem filR_spec {τ β : Type} {f : τ → Unit → R (Option β × Unit)} {e : τ → Option β} : ∀ {xs : List τ}, (∀ x ∈ xs, f x () = .ok (e x, ())) → filR xs () f = .ok (xs.filterMap e, ())
  | [], _ => rfl
  | x :: xs, h => by
    unfold filR
    rw [h x List.mem_cons_self, bind_ok, filR_spec fun y hy => h y (List.mem_cons_of_mem _ hy), bind_ok, List.filterMap_cons]
    cases e x <;> rfl
theorem filC_spec {τ β : Type} {f : τ → Unit → R (Option β × Unit)} {e : τ → Option β} {xs : List τ} (hl : xs.length ≤ 40000) (h : ∀ x ∈ xs, f x () = .ok (e x, ())) : filC xs () f = .ok (xs.filterMap e, ()) := by
  unfold filC
  rw [decide_eq_true hl, if_pos rfl, filR_spec h]
theorem mem_rng {lo : Int} {n : Nat} {x : Int} : x ∈ rng lo n ↔ lo ≤ x ∧ x < lo + n := by
  unfold rng
  rw [List.mem_map]
  constructor
  · rintro ⟨i, hi, rfl⟩
    rw [List.mem_range] at hi
    omega
  · rintro ⟨h1, h2⟩
    exact ⟨(x - lo).toNat, by rw [List.mem_range]; omega, by omega⟩
/-- an item that is there -/
theorem atI_some {α : Type} {xs : List α} {i : Int} (h0 : 0 ≤ i) (h1 : i < xs.length) : ∃ x, atI xs i = some x ∧ x ∈ xs := by
  obtain ⟨j, rfl⟩ := Int.eq_ofNat_of_zero_le h0
  have hj : j < xs.length := by omega
  exact ⟨xs[j], atI_nat (List.getElem?_eq_getElem hj), List.getElem_mem hj⟩
end Mi

set_option Elab.async false
set_option linter.all false
set_option maxRecDepth 100000
set_option maxHeartbeats 4000000
namespace My
open PySem PySem.Spec PyProof.Rows L2
/-! ### the text by places -/
def topS (i : Nat) : Stmt := PySem.Challenge.pw_onestepcourt_k52_letters.main.body.getD i (.Pass ⟨0, 0, 0, 0⟩)
abbrev s_is_integer : Stmt := topS 6
abbrev N_is_integer : List Str := ["value", "least", "greatest"]
theorem sc_is_integer : FnScope N_is_integer ["value", "least", "greatest"] (defScope s_is_integer) := ⟨rfl, rfl, rfl, by decide +kernel, rfl, by decide +kernel, by decide +kernel⟩
abbrev s_is_word : Stmt := topS 7
abbrev N_is_word : List Str := ["value"]
theorem sc_is_word : FnScope N_is_word ["value"] (defScope s_is_word) := ⟨rfl, rfl, rfl, by decide +kernel, rfl, by decide +kernel, by decide +kernel⟩
abbrev s_Digests___init : Stmt := inClass (topS 8) 0
abbrev N_Digests___init : List Str := ["self", "bits", "book"]
theorem sc_Digests___init : FnScope N_Digests___init ["self", "bits", "book"] (defScope s_Digests___init) := ⟨rfl, rfl, rfl, by decide +kernel, rfl, by decide +kernel, by decide +kernel⟩
abbrev s_Digests_modulus : Stmt := inClass (topS 8) 4
abbrev N_Digests_modulus : List Str := ["self"]
theorem sc_Digests_modulus : FnScope N_Digests_modulus ["self"] (defScope s_Digests_modulus) := ⟨rfl, rfl, rfl, by decide +kernel, rfl, by decide +kernel, by decide +kernel⟩
abbrev s_Digests_is_digest : Stmt := inClass (topS 8) 5
abbrev N_Digests_is_digest : List Str := ["self", "value"]
theorem sc_Digests_is_digest : FnScope N_Digests_is_digest ["self", "value"] (defScope s_Digests_is_digest) := ⟨rfl, rfl, rfl, by decide +kernel, rfl, by decide +kernel, by decide +kernel⟩
abbrev s_is_count : Stmt := topS 10
abbrev N_is_count : List Str := ["value"]
theorem sc_is_count : FnScope N_is_count ["value"] (defScope s_is_count) := ⟨rfl, rfl, rfl, by decide +kernel, rfl, by decide +kernel, by decide +kernel⟩
abbrev s_is_tuple : Stmt := topS 11
abbrev N_is_tuple : List Str := ["value", "many"]
theorem sc_is_tuple : FnScope N_is_tuple ["value", "many"] (defScope s_is_tuple) := ⟨rfl, rfl, rfl, by decide +kernel, rfl, by decide +kernel, by decide +kernel⟩
abbrev s_is_row : Stmt := topS 12
abbrev N_is_row : List Str := ["value", "most", "is_item", "item"]
theorem sc_is_row : FnScope N_is_row ["value", "most", "is_item"] (defScope s_is_row) := ⟨rfl, rfl, rfl, by decide +kernel, rfl, by decide +kernel, by decide +kernel⟩
abbrev s_are_registers : Stmt := topS 17
abbrev N_are_registers : List Str := ["digests", "value", "pc", "acc", "x", "mark", "out", "count"]
theorem sc_are_registers : FnScope N_are_registers ["digests", "value"] (defScope s_are_registers) := ⟨rfl, rfl, rfl, by decide +kernel, rfl, by decide +kernel, by decide +kernel⟩
abbrev s_is_letter : Stmt := topS 20
abbrev N_is_letter : List Str := ["digests", "value", "parts", "item", "part"]
theorem sc_is_letter : FnScope N_is_letter ["digests", "value"] (defScope s_is_letter) := ⟨rfl, rfl, rfl, by decide +kernel, rfl, by decide +kernel, by decide +kernel⟩
abbrev s_is_part : Stmt := topS 21
abbrev N_is_part : List Str := ["digests", "value", "part", "item"]
theorem sc_is_part : FnScope N_is_part ["digests", "value", "part"] (defScope s_is_part) := ⟨rfl, rfl, rfl, by decide +kernel, rfl, by decide +kernel, by decide +kernel⟩
abbrev s_is_answer : Stmt := topS 22
abbrev N_is_answer : List Str := ["value"]
theorem sc_is_answer : FnScope N_is_answer ["value"] (defScope s_is_answer) := ⟨rfl, rfl, rfl, by decide +kernel, rfl, by decide +kernel, by decide +kernel⟩
abbrev s_law_bag : Stmt := topS 24
abbrev N_law_bag : List Str := ["script", "k", "cell"]
theorem sc_law_bag : FnScope N_law_bag ["script", "k"] (defScope s_law_bag) := ⟨rfl, rfl, rfl, by decide +kernel, rfl, by decide +kernel, by decide +kernel⟩
abbrev s_law_draw : Stmt := topS 25
abbrev N_law_draw : List Str := ["bag", "many", "seed", "rest"]
theorem sc_law_draw : FnScope N_law_draw ["bag", "many"] (defScope s_law_draw) := ⟨rfl, rfl, rfl, by decide +kernel, rfl, by decide +kernel, by decide +kernel⟩
abbrev s_law_spoilt : Stmt := topS 26
abbrev N_law_spoilt : List Str := ["bag", "value", "odd", "at", "choice"]
theorem sc_law_spoilt : FnScope N_law_spoilt ["bag", "value", "odd"] (defScope s_law_spoilt) := ⟨rfl, rfl, rfl, by decide +kernel, rfl, by decide +kernel, by decide +kernel⟩
abbrev s_law_right : Stmt := topS 27
abbrev N_law_right : List Str := ["bag", "digests", "top", "number", "digest", "path", "row", "kind", "inputs", "registers"]
theorem sc_law_right : FnScope N_law_right ["bag", "digests"] (defScope s_law_right) := ⟨rfl, rfl, rfl, by decide +kernel, rfl, by decide +kernel, by decide +kernel⟩
abbrev s_law_is_number : Stmt := topS 28
abbrev N_law_is_number : List Str := ["value", "most"]
theorem sc_law_is_number : FnScope N_law_is_number ["value", "most"] (defScope s_law_is_number) := ⟨rfl, rfl, rfl, by decide +kernel, rfl, by decide +kernel, by decide +kernel⟩
abbrev s_law_numbers : Stmt := topS 29
abbrev N_law_numbers : List Str := ["value", "most", "size", "one"]
theorem sc_law_numbers : FnScope N_law_numbers ["value", "most", "size"] (defScope s_law_numbers) := ⟨rfl, rfl, rfl, by decide +kernel, rfl, by decide +kernel, by decide +kernel⟩
abbrev s_law_registers : Stmt := topS 30
abbrev N_law_registers : List Str := ["value", "top", "bounds", "k"]
theorem sc_law_registers : FnScope N_law_registers ["value", "top"] (defScope s_law_registers) := ⟨rfl, rfl, rfl, by decide +kernel, rfl, by decide +kernel, by decide +kernel⟩
abbrev s_law_due : Stmt := topS 31
abbrev N_law_due : List Str := ["value", "top", "sizes", "inputs", "linked"]
theorem sc_law_due : FnScope N_law_due ["value", "top"] (defScope s_law_due) := ⟨rfl, rfl, rfl, by decide +kernel, rfl, by decide +kernel, by decide +kernel⟩
abbrev s_law : Stmt := topS 32
abbrev N_law : List Str := ["script", "k", "bag", "digests", "value", "turn", "odd", "told"]
theorem sc_law : FnScope N_law ["script"] (defScope s_law) := ⟨rfl, rfl, rfl, by decide +kernel, rfl, by decide +kernel, by decide +kernel⟩
/-! ### what the top has written -/
structure Txt (w : World) (K : PySem.W.Frag) (mg : Str → Option Value) where
  f_is_integer : Kit.GFn' K mg "is_integer" "is_integer" s_is_integer ["value", "least", "greatest"]
  f_is_word : Kit.GFn' K mg "is_word" "is_word" s_is_word ["value"]
  f_Digests___init : Kit.GFn K "__init__" "Digests.__init__" s_Digests___init ["self", "bits", "book"]
  f_Digests_modulus : Kit.GFn K "modulus" "Digests.modulus" s_Digests_modulus ["self"]
  f_Digests_is_digest : Kit.GFn K "is_digest" "Digests.is_digest" s_Digests_is_digest ["self", "value"]
  f_is_count : Kit.GFn' K mg "is_count" "is_count" s_is_count ["value"]
  f_is_tuple : Kit.GFn' K mg "is_tuple" "is_tuple" s_is_tuple ["value", "many"]
  f_is_row : Kit.GFn' K mg "is_row" "is_row" s_is_row ["value", "most", "is_item"]
  f_are_registers : Kit.GFn' K mg "are_registers" "are_registers" s_are_registers ["digests", "value"]
  f_is_letter : Kit.GFn' K mg "is_letter" "is_letter" s_is_letter ["digests", "value"]
  f_is_part : Kit.GFn' K mg "is_part" "is_part" s_is_part ["digests", "value", "part"]
  f_is_answer : Kit.GFn' K mg "is_answer" "is_answer" s_is_answer ["value"]
  f_law_bag : Kit.GFn' K mg "_law_bag" "_law_bag" s_law_bag ["script", "k"]
  f_law_draw : Kit.GFn' K mg "_law_draw" "_law_draw" s_law_draw ["bag", "many"]
  f_law_spoilt : Kit.GFn' K mg "_law_spoilt" "_law_spoilt" s_law_spoilt ["bag", "value", "odd"]
  f_law_right : Kit.GFn' K mg "_law_right" "_law_right" s_law_right ["bag", "digests"]
  f_law_is_number : Kit.GFn' K mg "_law_is_number" "_law_is_number" s_law_is_number ["value", "most"]
  f_law_numbers : Kit.GFn' K mg "_law_numbers" "_law_numbers" s_law_numbers ["value", "most", "size"]
  f_law_registers : Kit.GFn' K mg "_law_registers" "_law_registers" s_law_registers ["value", "top"]
  f_law_due : Kit.GFn' K mg "_law_due" "_law_due" s_law_due ["value", "top"]
  f_law : Kit.GFn' K mg "law" "law" s_law ["script"]
  c_Digests : Kit.GCl K mg "Digests" f_Digests___init.f
  m_Digests_modulus : Meth K c_Digests.C "modulus" f_Digests_modulus.f
  m_Digests_is_digest : Meth K c_Digests.C "is_digest" f_Digests_is_digest.f
  n_Digests_bits : NoAttr K c_Digests.C "_bits"
  n_Digests_book : NoAttr K c_Digests.C "_book"
  n_Digests_modulus : NoAttr K c_Digests.C "_modulus"
  a_MARKS : Addr
  g_MARKS : mg "MARKS" = some (.ref a_MARKS)
  w_MARKS : Kit.KTup K a_MARKS [.str "long", .str "done", .str "divided", .str "place", .str "input", .str "full", .str "bad"]
  t_MOST_IMAGE : Tok
  g_MOST_IMAGE : mg "MOST_IMAGE" = some (.int 239 t_MOST_IMAGE)
  t_MOST_INPUTS : Tok
  g_MOST_INPUTS : mg "MOST_INPUTS" = some (.int 16 t_MOST_INPUTS)
  t_MOST_LEVEL : Tok
  g_MOST_LEVEL : mg "MOST_LEVEL" = some (.int 8 t_MOST_LEVEL)
  t_MOST_TOLD : Tok
  g_MOST_TOLD : mg "MOST_TOLD" = some (.int 16 t_MOST_TOLD)
  t_MOST_WORD : Tok
  g_MOST_WORD : mg "MOST_WORD" = some (.int 65535 t_MOST_WORD)
  a_PARTS : Addr
  g_PARTS : mg "PARTS" = some (.ref a_PARTS)
  d_PARTS : Kit.KTab w K a_PARTS [("ask", [.str "image", .str "inputs", .str "level"]), ("claim", [.str "number", .str "digest", .str "digest", .str "path", .str "registers", .str "digest", .str "row"]), ("halve", [.str "number", .str "number", .str "number", .str "digest", .str "digest", .str "digest", .str "digest", .str "digest", .str "digest", .str "path"]), ("prove", [.str "number", .str "number", .str "digest", .str "digest", .str "digest", .str "anything"])]
  t_PLACES : Tok
  g_PLACES : mg "PLACES" = some (.int 256 t_PLACES)
  z_all : mg "all" = none
  z_bool : mg "bool" = none
  z_int : mg "int" = none
  z_isinstance : mg "isinstance" = none
  z_len : mg "len" = none
  z_max : mg "max" = none
  z_min : mg "min" = none
  z_range : mg "range" = none
  z_str : mg "str" = none
  z_tuple : mg "tuple" = none
  z_zip : mg "zip" = none
def fl_Digests (v0 v1 v2 : V) : List (Str × V) := [("_bits", v0), ("_book", v1), ("_modulus", v2)]
section
variable {w : World} {K : PySem.W.Frag} {mg : Str → Option Value} {H : Hp} {p C dx : Addr} {v0 v1 v2 : V} {Q : VK} {R : Prop}
theorem rd_Digests_bits (T : Txt w K mg) (h : H p = some (.ins T.c_Digests.C dx (fl_Digests v0 v1 v2))) (q : Q v0 H) : Kit.FldOf K "_bits" (.ref p) H Q := Kit.w_rd h T.c_Digests.cl T.n_Digests_bits rfl q
theorem pt_Digests_bits (T : Txt w K mg) {y : V} {W : Hp → Prop} (h : H p = some (.ins T.c_Digests.C dx (fl_Digests v0 v1 v2))) (q : ∀ H2, Kit.ExBut p H H2 → H2 p = some (.ins T.c_Digests.C dx (fl_Digests y v1 v2)) → W H2) : Kit.PutOf K "_bits" y (.ref p) H W := Kit.w_put h T.c_Digests.cl T.n_Digests_bits (Nat.lt_of_lt_of_le (Nat.lt_of_le_of_lt (Nat.le_refl 3) (by decide : 3 < 100)) (by decide)) rfl q
theorem in_Digests_bits (T : Txt w K mg) {y : V} {W : Hp → Prop} (h : H p = some (.ins T.c_Digests.C dx [])) (q : ∀ H2, Kit.ExBut p H H2 → H2 p = some (.ins T.c_Digests.C dx ([("_bits", y)])) → W H2) : Kit.PutOf K "_bits" y (.ref p) H W := Kit.w_put h T.c_Digests.cl T.n_Digests_bits (Nat.lt_of_lt_of_le (Nat.lt_of_le_of_lt (Nat.le_refl 0) (by decide : 0 < 100)) (by decide)) rfl q
theorem rd_Digests_book (T : Txt w K mg) (h : H p = some (.ins T.c_Digests.C dx (fl_Digests v0 v1 v2))) (q : Q v1 H) : Kit.FldOf K "_book" (.ref p) H Q := Kit.w_rd h T.c_Digests.cl T.n_Digests_book rfl q
theorem pt_Digests_book (T : Txt w K mg) {y : V} {W : Hp → Prop} (h : H p = some (.ins T.c_Digests.C dx (fl_Digests v0 v1 v2))) (q : ∀ H2, Kit.ExBut p H H2 → H2 p = some (.ins T.c_Digests.C dx (fl_Digests v0 y v2)) → W H2) : Kit.PutOf K "_book" y (.ref p) H W := Kit.w_put h T.c_Digests.cl T.n_Digests_book (Nat.lt_of_lt_of_le (Nat.lt_of_le_of_lt (Nat.le_refl 3) (by decide : 3 < 100)) (by decide)) rfl q
theorem in_Digests_book (T : Txt w K mg) {y : V} {W : Hp → Prop} (h : H p = some (.ins T.c_Digests.C dx [("_bits", v0)])) (q : ∀ H2, Kit.ExBut p H H2 → H2 p = some (.ins T.c_Digests.C dx ([("_bits", v0), ("_book", y)])) → W H2) : Kit.PutOf K "_book" y (.ref p) H W := Kit.w_put h T.c_Digests.cl T.n_Digests_book (Nat.lt_of_lt_of_le (Nat.lt_of_le_of_lt (Nat.le_refl 1) (by decide : 1 < 100)) (by decide)) rfl q
theorem rd_Digests_modulus (T : Txt w K mg) (h : H p = some (.ins T.c_Digests.C dx (fl_Digests v0 v1 v2))) (q : Q v2 H) : Kit.FldOf K "_modulus" (.ref p) H Q := Kit.w_rd h T.c_Digests.cl T.n_Digests_modulus rfl q
theorem pt_Digests_modulus (T : Txt w K mg) {y : V} {W : Hp → Prop} (h : H p = some (.ins T.c_Digests.C dx (fl_Digests v0 v1 v2))) (q : ∀ H2, Kit.ExBut p H H2 → H2 p = some (.ins T.c_Digests.C dx (fl_Digests v0 v1 y)) → W H2) : Kit.PutOf K "_modulus" y (.ref p) H W := Kit.w_put h T.c_Digests.cl T.n_Digests_modulus (Nat.lt_of_lt_of_le (Nat.lt_of_le_of_lt (Nat.le_refl 3) (by decide : 3 < 100)) (by decide)) rfl q
theorem in_Digests_modulus (T : Txt w K mg) {y : V} {W : Hp → Prop} (h : H p = some (.ins T.c_Digests.C dx [("_bits", v0), ("_book", v1)])) (q : ∀ H2, Kit.ExBut p H H2 → H2 p = some (.ins T.c_Digests.C dx (fl_Digests v0 v1 y)) → W H2) : Kit.PutOf K "_modulus" y (.ref p) H W := Kit.w_put h T.c_Digests.cl T.n_Digests_modulus (Nat.lt_of_lt_of_le (Nat.lt_of_le_of_lt (Nat.le_refl 2) (by decide : 2 < 100)) (by decide)) rfl q
theorem me_Digests_modulus (h : H p = some (.ins C dx (fl_Digests v0 v1 v2))) (r : R) : Kit.InsOf C "modulus" (.ref p) H R := Kit.w_ins h rfl r
theorem me_Digests_is_digest (h : H p = some (.ins C dx (fl_Digests v0 v1 v2))) (r : R) : Kit.InsOf C "is_digest" (.ref p) H R := Kit.w_ins h rfl r
end
local macro_rules | `(tactic| walk_at "wp1") => `(tactic| ((with_reducible show Kit.FldOf _ _ _ _ _); first | with_reducible refine rd_Digests_bits _ (by walk_at "hp") ?_ | with_reducible refine rd_Digests_book _ (by walk_at "hp") ?_ | with_reducible refine rd_Digests_modulus _ (by walk_at "hp") ?_))
local macro_rules | `(tactic| walk_at "wp1") => `(tactic| ((with_reducible show Kit.InsOf _ _ _ _ _); first | with_reducible refine me_Digests_modulus (by walk_at "hp") ?_ | with_reducible refine me_Digests_is_digest (by walk_at "hp") ?_))
local macro_rules | `(tactic| walk_at "wp1") => `(tactic| ((with_reducible show Kit.PutOf _ _ _ _ _ _); first | (with_reducible refine pt_Digests_bits _ (by walk_at "hp") ?_; intro _ _ _) | (with_reducible refine in_Digests_bits _ (by walk_at "hp") ?_; intro _ _ _) | (with_reducible refine pt_Digests_book _ (by walk_at "hp") ?_; intro _ _ _) | (with_reducible refine in_Digests_book _ (by walk_at "hp") ?_; intro _ _ _) | (with_reducible refine pt_Digests_modulus _ (by walk_at "hp") ?_; intro _ _ _) | (with_reducible refine in_Digests_modulus _ (by walk_at "hp") ?_; intro _ _ _)))
section
variable {P : Program} {w : World} {K : PySem.W.Frag} {mg : Str → Option Value} {base : Heap}
structure Digests_ where
  f_bits : Int
  f_book : Unit
  f_modulus : Int
abbrev gg (T : Txt w K mg) : Mi.G := ⟨K, fun n => if n = 0 then T.c_Digests.C else 0, fun n => if n = 0 then ["_bits", "_book", "_modulus"] else []⟩
def c_MARKS : List Str := ["long", "done", "divided", "place", "input", "full", "bad"]
theorem dat_MARKS (T : Txt w K mg) {Z : Mi.ZS} {H : Hp} : Mi.Dat (gg T) Z H (.ref T.a_MARKS) (.tup (List.map Mi.D.str c_MARKS)) := Mi.con_strs T.w_MARKS
def c_PARTS : List (Str × List Str) := [("ask", ["image", "inputs", "level"]), ("claim", ["number", "digest", "digest", "path", "registers", "digest", "row"]), ("halve", ["number", "number", "number", "digest", "digest", "digest", "digest", "digest", "digest", "path"]), ("prove", ["number", "number", "digest", "digest", "digest", "anything"])]
def m_is_integer (p_value : Mi.D) (p_least : Int) (p_greatest : Int) : Mi.R (Bool) :=  if ((!(p_value).isInt) || (p_value).isBl) = true then ( Mi.R.ok false) else ((Mi.R.ofO (Mi.D.int? p_value)).bind fun x1 => Mi.R.ok (decide (p_least ≤ x1) && decide (x1 ≤ p_greatest)))
abbrev sp_is_integer (T : Txt w K mg) : Sp := Mi.SpOf (gg T) (α := Mi.D × Int × Int) (β := Bool) (fun a => [(Mi.E.d a.1), (Mi.E.d (Mi.D.int a.2.1)), (Mi.E.d (Mi.D.int a.2.2))]) (fun a => []) (fun a => m_is_integer a.1 a.2.1 a.2.2) (fun a r => (Mi.E.d (Mi.D.bl r))) (fun a r => [])
theorem ok_is_integer (T : Txt w K mg) : FnOk P w K mg base CX0 1 T.f_is_integer.f T.f_is_integer.fd ["value", "least", "greatest"] (sp_is_integer T) := by
  refine T.f_is_integer.F.ok sc_is_integer (fun vs H Q E h => ?_) (fun cdv A outer s0 H vs Q E hr h => ?_)
  · obtain ⟨a, e⟩ := Mi.c_len h
    exact e
  have hl : vs.length = 3 := by obtain ⟨a, e⟩ := Mi.c_len h; exact e
  obtain ⟨v0, v1, v2, rfl⟩ := Mi.vs3 hl
  clear hl
  obtain ⟨⟨p_value, p_least, p_greatest⟩, F, Z, s, h⟩ := Mi.c_start (n := 0) h
  replace s : Mi.Bd ⟨gg T, Z, H⟩ [some (Mi.E.d p_value), some (Mi.E.d (Mi.D.int p_least)), some (Mi.E.d (Mi.D.int p_greatest))] [] (F) [some v0, some v1, some v2] H := s
  replace h : Mi.R.All (m_is_integer p_value p_least p_greatest) _ _ := h
  unfold m_is_integer at h
  have nd := sc_is_integer.nd
  refine Kit.ok_body (σ := [some v0, some v1, some v2]) ((pss_cons (ps_if (PW.pt (pw_or (pt_not (pt_val (pe_callB (Kit.kIsi K) (by rfl) T.z_isinstance (by decide +kernel) (pa_cons (pv 0) (pa_cons (pe_bltn (v := .ty "int") (by rfl) T.z_int (by decide +kernel) rfl) pa_nil))))) (pw_or1 (pt_val (pe_callB (Kit.kIsi K) (by rfl) T.z_isinstance (by decide +kernel) (pa_cons (pv 0) (pa_cons (pe_bltn (v := .ty "bool") (by rfl) T.z_bool (by decide +kernel) rfl) pa_nil)))))))
    (pss_one (ps_ret pe_bl))
    pss_nil)
    (pss_one (ps_ret (pe_chain op_le op_le (pv 1) (pv 0) (pv 2)))))) rfl ?_
  try dsimp only [L2.cxOf, L2.Cx.nox]
  refine Kit.m_seq ?_
  refine Kit.m_if ?_
  refine Kit.w_or ?_
  refine Kit.w_not ?_
  refine Kit.w_B ?_
  refine Kit.w_cb ?_
  refine Kit.w_cons ?_
  refine Mi.e_var s rfl ?_
  intro _ s
  refine Kit.w_cons ?_
  refine Kit.w_c ?_
  refine Kit.w_nil ?_
  refine Mi.o_isiInt s ?_
  intro s
  refine Kit.w_blE ?_
  refine Mi.jt_or (c := (p_value).isBl) s ?_ ?_
  · intro hb hk
    refine Kit.w_B ?_
    refine Kit.w_cb ?_
    refine Kit.w_cons ?_
    refine Mi.e_var s rfl ?_
    intro _ s
    refine Kit.w_cons ?_
    refine Kit.w_c ?_
    refine Kit.w_nil ?_
    refine Mi.o_isiBl s ?_
    intro s
    refine Kit.w_blE ?_
    exact hk _ s
  intro H s
  refine Mi.r_if h ?_ ?_
  · intro hb h
    refine Kit.m_ret ?_
    refine Kit.w_c ?_
    exact Mi.k_retS s h rfl
  · intro hb h
    refine Kit.m_next ?_
    refine Kit.m_ret ?_
    refine Mi.w_chain ?_
    refine Mi.e_varS s rfl rfl ?_
    refine Mi.e_var s rfl ?_
    intro _ s
    obtain ⟨x1, e0, h⟩ := Mi.R.all_ofO h
    replace s := s.asInt e0
    obtain ⟨rfl, s⟩ := s
    refine Kit.w_I0 ?_
    refine Kit.w_blE ?_
    refine Mi.jc_and (c := decide (x1 ≤ p_greatest)) s ?_ ?_
    · intro hb hk
      refine Mi.e_varS s rfl rfl ?_
      refine Kit.w_I0 ?_
      exact hk _ s
    intro H s
    exact Mi.k_retS s h rfl
def m_is_word (p_value : Mi.D) : Mi.R (Bool) := (m_is_integer p_value (0 : Int) (65535 : Int)).bind fun r1 => Mi.R.ok r1
abbrev sp_is_word (T : Txt w K mg) : Sp := Mi.SpOf (gg T) (α := Mi.D) (β := Bool) (fun a => [(Mi.E.d a)]) (fun a => []) (fun a => m_is_word a) (fun a r => (Mi.E.d (Mi.D.bl r))) (fun a r => [])
theorem ok_is_word (T : Txt w K mg) : FnOk P w K mg base CX0 2 T.f_is_word.f T.f_is_word.fd ["value"] (sp_is_word T) := by
  have G_is_integer := ok_is_integer (P := P) (w := w) (base := base) T
  refine T.f_is_word.F.ok sc_is_word (fun vs H Q E h => ?_) (fun cdv A outer s0 H vs Q E hr h => ?_)
  · obtain ⟨a, e⟩ := Mi.c_len h
    exact e
  have hl : vs.length = 1 := by obtain ⟨a, e⟩ := Mi.c_len h; exact e
  obtain ⟨v0, rfl⟩ := Mi.vs1 hl
  clear hl
  obtain ⟨p_value, F, Z, s, h⟩ := Mi.c_start (n := 0) h
  replace s : Mi.Bd ⟨gg T, Z, H⟩ [some (Mi.E.d p_value)] [] (F) [some v0] H := s
  replace h : Mi.R.All (m_is_word p_value) _ _ := h
  unfold m_is_word at h
  have nd := sc_is_word.nd
  have hr1 : Room 1 _ := hr.mono (by decide)
  refine Kit.ok_body (σ := [some v0]) ((pss_one (ps_ret (pe_call G_is_integer hr1 (by rfl) T.f_is_integer.g T.f_is_integer.F.kp T.f_is_integer.b .nil pass0 (pa_cons (pv 0) (pa_cons pe_int (pa_cons (pe_glob (v := .int 65535) rfl T.g_MOST_WORD ⟨_, rfl⟩) pa_nil))))))) rfl ?_
  try dsimp only [L2.cxOf, L2.Cx.nox]
  refine Kit.m_ret ?_
  refine Kit.w_call0 ?_
  refine Kit.w_cons ?_
  refine Mi.e_var s rfl ?_
  intro _ s
  refine Kit.w_cons ?_
  refine Kit.w_c ?_
  refine Kit.w_cons ?_
  refine Kit.w_c ?_
  refine Kit.w_nil ?_
  refine Mi.c_callS (p_value, (0 : Int), (65535 : Int)) s h (fun _ _ k => ⟨(.cons k.1 (.cons (Mi.val_of rfl) (.cons (Mi.val_of rfl) .nil))), k.2⟩) (.refl _) (fun _ => rfl) ?_
  intro r1 H s h
  exact Mi.k_retS s h rfl
def m_Digests___init (p_bits : Int) (p_book : Unit) : Mi.R (Digests_) :=   (Mi.R.req (Mi.shlOk p_bits)).bind fun _ =>  Mi.R.ok ({ f_bits := p_bits, f_book := p_book, f_modulus := (((1 : Int) * 2 ^ (p_bits).toNat) - (1 : Int)) } : Digests_)
abbrev sp_Digests___init (T : Txt w K mg) : Sp := Mi.SpOf (gg T) (α := Addr × Int × Unit) (β := Digests_) (fun a => [(Mi.E.adr a.1), (Mi.E.d (Mi.D.int a.2.1)), (Mi.E.d Mi.D.non)]) (fun a => [Mi.pt a.1 (Mi.OC.ins 0 [])]) (fun a => m_Digests___init a.2.1 a.2.2) (fun a r => Mi.E.d Mi.D.non) (fun a r => [Mi.pt a.1 (Mi.OC.ins 0 [("_bits", (Mi.E.d (Mi.D.int r.f_bits))), ("_book", (Mi.E.d Mi.D.non)), ("_modulus", (Mi.E.d (Mi.D.int r.f_modulus)))])])
theorem ok_Digests___init (T : Txt w K mg) : FnOk P w K mg base CX0 1 T.f_Digests___init.f T.f_Digests___init.fd ["self", "bits", "book"] (sp_Digests___init T) := by
  refine T.f_Digests___init.F.ok sc_Digests___init (fun vs H Q E h => ?_) (fun cdv A outer s0 H vs Q E hr h => ?_)
  · obtain ⟨a, e⟩ := Mi.c_len h
    exact e
  have hl : vs.length = 3 := by obtain ⟨a, e⟩ := Mi.c_len h; exact e
  obtain ⟨v0, v1, v2, rfl⟩ := Mi.vs3 hl
  clear hl
  obtain ⟨⟨a1, p_bits, p_book⟩, F, Z, s, h⟩ := Mi.c_start (n := 0) h
  replace s : Mi.Bd ⟨gg T, Z, H⟩ [some (Mi.E.adr a1), some (Mi.E.d (Mi.D.int p_bits)), some (Mi.E.d Mi.D.non)] [] (Mi.pt a1 (Mi.OC.ins 0 []) :: F) [some v0, some v1, some v2] H := s
  replace h : Mi.R.All (m_Digests___init p_bits p_book) _ _ := h
  unfold m_Digests___init at h
  have nd := sc_Digests___init.nd
  refine Kit.ok_body (σ := [some v0, some v1, some v2]) ((pss_cons (Kit.kSet K (pv 0) (pv 1) rfl)
    (pss_cons (Kit.kSet K (pv 0) (pv 2) rfl)
    (pss_one (Kit.kSet K (pv 0) (pe_op op_sub (pe_op op_shl pe_int (pv 1)) pe_int) rfl))))) rfl ?_
  try dsimp only [L2.cxOf, L2.Cx.nox]
  refine Kit.m_seq ?_
  refine Kit.m_fld ?_
  refine Mi.e_varS s rfl rfl ?_
  replace s := s.hand (Mi.E.d (Mi.D.int p_bits)) rfl
  refine Mi.e_varS s rfl rfl ?_
  refine Mi.p_fld (fs' := [("_bits", (Mi.E.d (Mi.D.int p_bits)))]) (Mi.pk0) T.c_Digests.cl T.n_Digests_bits (Nat.le_of_ble_eq_true rfl) rfl s ?_
  intro H s
  refine Kit.m_seq ?_
  refine Kit.m_fld ?_
  refine Mi.e_varS s rfl rfl ?_
  replace s := s.hand (Mi.E.d Mi.D.non) rfl
  refine Mi.e_varS s rfl rfl ?_
  refine Mi.p_fld (fs' := [("_bits", (Mi.E.d (Mi.D.int p_bits))), ("_book", (Mi.E.d Mi.D.non))]) (Mi.pk0) T.c_Digests.cl T.n_Digests_book (Nat.le_of_ble_eq_true rfl) rfl s ?_
  intro H s
  refine Kit.m_fld ?_
  refine Kit.w_op ?_
  refine Kit.w_op ?_
  refine Kit.w_c ?_
  refine Mi.e_varS s rfl rfl ?_
  obtain ⟨hc, h⟩ := Mi.R.all_req h
  refine Kit.w_I (Mi.shlOk_of (by decide) hc) ?_
  refine Kit.w_c ?_
  refine Kit.w_I0 ?_
  replace s := s.hand (Mi.E.d (Mi.D.int (((1 : Int) * 2 ^ (p_bits).toNat) - (1 : Int)))) rfl
  refine Mi.e_varS s rfl rfl ?_
  refine Mi.p_fld (fs' := [("_bits", (Mi.E.d (Mi.D.int p_bits))), ("_book", (Mi.E.d Mi.D.non)), ("_modulus", (Mi.E.d (Mi.D.int (((1 : Int) * 2 ^ (p_bits).toNat) - (1 : Int)))))]) (Mi.pk0) T.c_Digests.cl T.n_Digests_modulus (Nat.le_of_ble_eq_true rfl) rfl s ?_
  intro H s
  exact Mi.k_retS s h rfl
def m_Digests_modulus (p_self : Digests_) : Mi.R (Int) :=  Mi.R.ok p_self.f_modulus
abbrev sp_Digests_modulus (T : Txt w K mg) : Sp := Mi.SpOf (gg T) (α := Digests_) (β := Int) (fun a => [(Mi.E.ins 0 [(Mi.E.d (Mi.D.int a.f_bits)), (Mi.E.d Mi.D.non), (Mi.E.d (Mi.D.int a.f_modulus))])]) (fun a => []) (fun a => m_Digests_modulus a) (fun a r => (Mi.E.d (Mi.D.int r))) (fun a r => [])
theorem ok_Digests_modulus (T : Txt w K mg) : FnOk P w K mg base CX0 1 T.f_Digests_modulus.f T.f_Digests_modulus.fd ["self"] (sp_Digests_modulus T) := by
  refine T.f_Digests_modulus.F.ok sc_Digests_modulus (fun vs H Q E h => ?_) (fun cdv A outer s0 H vs Q E hr h => ?_)
  · obtain ⟨a, e⟩ := Mi.c_len h
    exact e
  have hl : vs.length = 1 := by obtain ⟨a, e⟩ := Mi.c_len h; exact e
  obtain ⟨v0, rfl⟩ := Mi.vs1 hl
  clear hl
  obtain ⟨p_self, F, Z, s, h⟩ := Mi.c_start (n := 0) h
  replace s : Mi.Bd ⟨gg T, Z, H⟩ [some (Mi.E.ins 0 [(Mi.E.d (Mi.D.int p_self.f_bits)), (Mi.E.d Mi.D.non), (Mi.E.d (Mi.D.int p_self.f_modulus))])] [] (F) [some v0] H := s
  replace h : Mi.R.All (m_Digests_modulus p_self) _ _ := h
  unfold m_Digests_modulus at h
  have nd := sc_Digests_modulus.nd
  refine Kit.ok_body (σ := [some v0]) ((pss_one (ps_ret (Kit.kFld K (pv 0) rfl)))) rfl ?_
  try dsimp only [L2.cxOf, L2.Cx.nox]
  refine Kit.m_ret ?_
  refine Kit.w_fld ?_
  refine Mi.e_var s rfl ?_
  intro _ s
  refine Mi.e_fldZS rfl T.c_Digests.cl T.n_Digests_modulus rfl s ?_
  intro s
  exact Mi.k_retS s h rfl
def m_Digests_is_digest (p_self : Digests_) (p_value : Mi.D) : Mi.R (Bool) := (m_is_integer p_value (0 : Int) ((p_self.f_modulus - (1 : Int)))).bind fun r1 => Mi.R.ok r1
abbrev sp_Digests_is_digest (T : Txt w K mg) : Sp := Mi.SpOf (gg T) (α := Digests_ × Mi.D) (β := Bool) (fun a => [(Mi.E.ins 0 [(Mi.E.d (Mi.D.int a.1.f_bits)), (Mi.E.d Mi.D.non), (Mi.E.d (Mi.D.int a.1.f_modulus))]), (Mi.E.d a.2)]) (fun a => []) (fun a => m_Digests_is_digest a.1 a.2) (fun a r => (Mi.E.d (Mi.D.bl r))) (fun a r => [])
theorem ok_Digests_is_digest (T : Txt w K mg) : FnOk P w K mg base CX0 2 T.f_Digests_is_digest.f T.f_Digests_is_digest.fd ["self", "value"] (sp_Digests_is_digest T) := by
  have G_is_integer := ok_is_integer (P := P) (w := w) (base := base) T
  refine T.f_Digests_is_digest.F.ok sc_Digests_is_digest (fun vs H Q E h => ?_) (fun cdv A outer s0 H vs Q E hr h => ?_)
  · obtain ⟨a, e⟩ := Mi.c_len h
    exact e
  have hl : vs.length = 2 := by obtain ⟨a, e⟩ := Mi.c_len h; exact e
  obtain ⟨v0, v1, rfl⟩ := Mi.vs2 hl
  clear hl
  obtain ⟨⟨p_self, p_value⟩, F, Z, s, h⟩ := Mi.c_start (n := 0) h
  replace s : Mi.Bd ⟨gg T, Z, H⟩ [some (Mi.E.ins 0 [(Mi.E.d (Mi.D.int p_self.f_bits)), (Mi.E.d Mi.D.non), (Mi.E.d (Mi.D.int p_self.f_modulus))]), some (Mi.E.d p_value)] [] (F) [some v0, some v1] H := s
  replace h : Mi.R.All (m_Digests_is_digest p_self p_value) _ _ := h
  unfold m_Digests_is_digest at h
  have nd := sc_Digests_is_digest.nd
  have hr1 : Room 1 _ := hr.mono (by decide)
  refine Kit.ok_body (σ := [some v0, some v1]) ((pss_one (ps_ret (pe_call G_is_integer hr1 (by rfl) T.f_is_integer.g T.f_is_integer.F.kp T.f_is_integer.b .nil pass0 (pa_cons (pv 1) (pa_cons pe_int (pa_cons (pe_op op_sub (Kit.kFld K (pv 0) rfl) pe_int) pa_nil))))))) rfl ?_
  try dsimp only [L2.cxOf, L2.Cx.nox]
  refine Kit.m_ret ?_
  refine Kit.w_call0 ?_
  refine Kit.w_cons ?_
  refine Mi.e_var s rfl ?_
  intro _ s
  refine Kit.w_cons ?_
  refine Kit.w_c ?_
  refine Kit.w_cons ?_
  refine Kit.w_op ?_
  refine Kit.w_fld ?_
  refine Mi.e_var s rfl ?_
  intro _ s
  refine Mi.e_fldZS rfl T.c_Digests.cl T.n_Digests_modulus rfl s ?_
  intro s
  refine Kit.w_c ?_
  refine Kit.w_I0 ?_
  refine Kit.w_nil ?_
  refine Mi.c_callS (p_value, (0 : Int), (p_self.f_modulus - (1 : Int))) s h (fun _ _ k => ⟨(.cons k.1 (.cons (Mi.val_of rfl) (.cons (Mi.val_of rfl) .nil))), k.2⟩) (.refl _) (fun _ => rfl) ?_
  intro r1 H s h
  exact Mi.k_retS s h rfl
def m_is_count (p_value : Mi.D) : Mi.R (Bool) := (if (p_value).isInt = true then (if (!(p_value).isBl) = true then (Mi.R.ofO (Mi.D.int? p_value)).bind fun x1 => Mi.R.ok ((decide ((0 : Int) ≤ x1)), ()) else Mi.R.ok (false, ())).bind fun y3 => Mi.R.ok (y3.1, ()) else Mi.R.ok (false, ())).bind fun y5 => Mi.R.ok y5.1
abbrev sp_is_count (T : Txt w K mg) : Sp := Mi.SpOf (gg T) (α := Mi.D) (β := Bool) (fun a => [(Mi.E.d a)]) (fun a => []) (fun a => m_is_count a) (fun a r => (Mi.E.d (Mi.D.bl r))) (fun a r => [])
theorem ok_is_count (T : Txt w K mg) : FnOk P w K mg base CX0 1 T.f_is_count.f T.f_is_count.fd ["value"] (sp_is_count T) := by
  refine T.f_is_count.F.ok sc_is_count (fun vs H Q E h => ?_) (fun cdv A outer s0 H vs Q E hr h => ?_)
  · obtain ⟨a, e⟩ := Mi.c_len h
    exact e
  have hl : vs.length = 1 := by obtain ⟨a, e⟩ := Mi.c_len h; exact e
  obtain ⟨v0, rfl⟩ := Mi.vs1 hl
  clear hl
  obtain ⟨p_value, F, Z, s, h⟩ := Mi.c_start (n := 0) h
  replace s : Mi.Bd ⟨gg T, Z, H⟩ [some (Mi.E.d p_value)] [] (F) [some v0] H := s
  replace h : Mi.R.All (m_is_count p_value) _ _ := h
  unfold m_is_count at h
  have nd := sc_is_count.nd
  refine Kit.ok_body (σ := [some v0]) ((pss_one (ps_ret (pe_and (pe_callB (Kit.kIsi K) (by rfl) T.z_isinstance (by decide +kernel) (pa_cons (pv 0) (pa_cons (pe_bltn (v := .ty "int") (by rfl) T.z_int (by decide +kernel) rfl) pa_nil))) (pe_and (pe_not (pe_callB (Kit.kIsi K) (by rfl) T.z_isinstance (by decide +kernel) (pa_cons (pv 0) (pa_cons (pe_bltn (v := .ty "bool") (by rfl) T.z_bool (by decide +kernel) rfl) pa_nil)))) (pe_one (pe_cmpR op_ge (pv 0) pe_int (nomark _)))))))) rfl ?_
  try dsimp only [L2.cxOf, L2.Cx.nox]
  refine Kit.m_ret ?_
  refine Kit.w_andV ?_
  refine Kit.w_cb ?_
  refine Kit.w_cons ?_
  refine Mi.e_var s rfl ?_
  intro _ s
  refine Kit.w_cons ?_
  refine Kit.w_c ?_
  refine Kit.w_nil ?_
  refine Mi.o_isiInt s ?_
  intro s
  refine Kit.w_blE ?_
  refine Mi.jv_andE (s0 := ()) (fun (z4 : Unit) => F) h s ?_ ?_
  · intro hb h hk
    refine Kit.w_andV ?_
    refine Kit.w_notV ?_
    refine Kit.w_cb ?_
    refine Kit.w_cons ?_
    refine Mi.e_var s rfl ?_
    intro _ s
    refine Kit.w_cons ?_
    refine Kit.w_c ?_
    refine Kit.w_nil ?_
    refine Mi.o_isiBl s ?_
    intro s
    refine Kit.w_blE ?_
    refine Kit.w_blE ?_
    refine Mi.jv_andE (s0 := ()) (fun (z2 : Unit) => F) h s ?_ ?_
    · intro hb h hk
      refine Kit.w_op ?_
      refine Mi.e_var s rfl ?_
      intro _ s
      obtain ⟨x1, e0, h⟩ := Mi.R.all_ofO h
      replace s := s.asInt e0
      obtain ⟨rfl, s⟩ := s
      refine Kit.w_c ?_
      refine Kit.w_I0 ?_
      exact hk ((decide ((0 : Int) ≤ x1)), ()) _ s h
    intro y3 H s h
    exact hk (y3.1, ()) _ s h
  intro y5 H s h
  exact Mi.k_retS s h rfl
def m_is_tuple (p_value : Mi.D) (p_many : Int) : Mi.R (Bool) := (if (p_value).isTup = true then (Mi.R.ofO (Mi.D.len? p_value)).bind fun x1 => Mi.R.ok ((decide (x1 = p_many)), ()) else Mi.R.ok (false, ())).bind fun y3 => Mi.R.ok y3.1
abbrev sp_is_tuple (T : Txt w K mg) : Sp := Mi.SpOf (gg T) (α := Mi.D × Int) (β := Bool) (fun a => [(Mi.E.d a.1), (Mi.E.d (Mi.D.int a.2))]) (fun a => []) (fun a => m_is_tuple a.1 a.2) (fun a r => (Mi.E.d (Mi.D.bl r))) (fun a r => [])
theorem ok_is_tuple (T : Txt w K mg) : FnOk P w K mg base CX0 1 T.f_is_tuple.f T.f_is_tuple.fd ["value", "many"] (sp_is_tuple T) := by
  refine T.f_is_tuple.F.ok sc_is_tuple (fun vs H Q E h => ?_) (fun cdv A outer s0 H vs Q E hr h => ?_)
  · obtain ⟨a, e⟩ := Mi.c_len h
    exact e
  have hl : vs.length = 2 := by obtain ⟨a, e⟩ := Mi.c_len h; exact e
  obtain ⟨v0, v1, rfl⟩ := Mi.vs2 hl
  clear hl
  obtain ⟨⟨p_value, p_many⟩, F, Z, s, h⟩ := Mi.c_start (n := 0) h
  replace s : Mi.Bd ⟨gg T, Z, H⟩ [some (Mi.E.d p_value), some (Mi.E.d (Mi.D.int p_many))] [] (F) [some v0, some v1] H := s
  replace h : Mi.R.All (m_is_tuple p_value p_many) _ _ := h
  unfold m_is_tuple at h
  have nd := sc_is_tuple.nd
  refine Kit.ok_body (σ := [some v0, some v1]) ((pss_one (ps_ret (pe_and (pe_callB (Kit.kIsi K) (by rfl) T.z_isinstance (by decide +kernel) (pa_cons (pv 0) (pa_cons (pe_bltn (v := .ty "tuple") (by rfl) T.z_tuple (by decide +kernel) rfl) pa_nil))) (pe_one (pe_cmpR op_eq (pe_callB (Kit.kLen K) (by rfl) T.z_len (by decide +kernel) (pa_cons (pv 0) pa_nil)) (pv 1) (nomark _))))))) rfl ?_
  try dsimp only [L2.cxOf, L2.Cx.nox]
  refine Kit.m_ret ?_
  refine Kit.w_andV ?_
  refine Kit.w_cb ?_
  refine Kit.w_cons ?_
  refine Mi.e_var s rfl ?_
  intro _ s
  refine Kit.w_cons ?_
  refine Kit.w_c ?_
  refine Kit.w_nil ?_
  refine Mi.o_isiTup s ?_
  intro s
  refine Kit.w_blE ?_
  refine Mi.jv_andE (s0 := ()) (fun (z2 : Unit) => F) h s ?_ ?_
  · intro hb h hk
    refine Kit.w_op ?_
    refine Kit.w_cb ?_
    refine Kit.w_cons ?_
    refine Mi.e_var s rfl ?_
    intro _ s
    refine Kit.w_nil ?_
    obtain ⟨x1, e0, h⟩ := Mi.R.all_ofO h
    refine Mi.o_lenD e0 s ?_
    intro s
    refine Mi.e_varS s rfl rfl ?_
    refine Kit.w_eqI ?_
    exact hk ((decide (x1 = p_many)), ()) _ s h
  intro y3 H s h
  exact Mi.k_retS s h rfl
def m_is_row (p_value : Mi.D) (p_most : Int) : Mi.R (Bool) := (if (p_value).isTup = true then (Mi.R.ofO (Mi.D.len? p_value)).bind fun x1 => (if (decide (x1 ≤ p_most)) = true then (Mi.R.ofO (Mi.D.tup? p_value)).bind fun x2 => (Mi.mapC x2 () fun (x4 : Mi.D) (z5 : Unit) => (m_is_word x4).bind fun r7 => Mi.R.ok (r7, ())).bind fun y8 => Mi.R.ok (((y8.1).all id), ()) else Mi.R.ok (false, ())).bind fun y11 => Mi.R.ok (y11.1, ()) else Mi.R.ok (false, ())).bind fun y13 => Mi.R.ok y13.1
abbrev sp_is_row (T : Txt w K mg) : Sp := Mi.SpOf (gg T) (α := Mi.D × Int) (β := Bool) (fun a => [(Mi.E.d a.1), (Mi.E.d (Mi.D.int a.2)), (Mi.E.adr T.f_is_word.f)]) (fun a => []) (fun a => m_is_row a.1 a.2) (fun a r => (Mi.E.d (Mi.D.bl r))) (fun a r => [])
theorem ok_is_row (T : Txt w K mg) : FnOk P w K mg base CX0 3 T.f_is_row.f T.f_is_row.fd ["value", "most", "is_item"] (sp_is_row T) := by
  have G_is_word := ok_is_word (P := P) (w := w) (base := base) T
  refine T.f_is_row.F.ok sc_is_row (fun vs H Q E h => ?_) (fun cdv A outer s0 H vs Q E hr h => ?_)
  · obtain ⟨a, e⟩ := Mi.c_len h
    exact e
  have hl : vs.length = 3 := by obtain ⟨a, e⟩ := Mi.c_len h; exact e
  obtain ⟨v0, v1, v2, rfl⟩ := Mi.vs3 hl
  clear hl
  obtain ⟨⟨p_value, p_most⟩, F, Z, s, h⟩ := Mi.c_start (n := 1) h
  replace s : Mi.Bd ⟨gg T, Z, H⟩ [some (Mi.E.d p_value), some (Mi.E.d (Mi.D.int p_most)), some (Mi.E.adr T.f_is_word.f), none] [] (F) [some v0, some v1, some v2, none] H := s
  replace h : Mi.R.All (m_is_row p_value p_most) _ _ := h
  unfold m_is_row at h
  have nd := sc_is_row.nd
  have hr2 : Room 2 _ := hr.mono (by decide)
  refine Kit.ok_body (σ := [some v0, some v1, some v2, none]) ((pss_one (ps_ret (pe_and (pe_callB (Kit.kIsi K) (by rfl) T.z_isinstance (by decide +kernel) (pa_cons (pv 0) (pa_cons (pe_bltn (v := .ty "tuple") (by rfl) T.z_tuple (by decide +kernel) rfl) pa_nil))) (pe_and (pe_cmpR op_le (pe_callB (Kit.kLen K) (by rfl) T.z_len (by decide +kernel) (pa_cons (pv 0) pa_nil)) (pv 1) (nomark _)) (pe_one (pe_callB (Mi.kAllB K rfl) (by rfl) T.z_all (by decide +kernel) (pa_cons (pe_lc (own := [("item", 3)]) (g := gName 3) (tt := tYes) (by rfl) nd (Kit.kpTup K (pv 0)) (blkOk_by (own := [("item", 3)]) (N := N_is_row) (sc := defScope s_is_row) (by decide +kernel)) (fun _ _ _ _ _ => pg_name (i := 3) nd rfl (Or.inl rfl)) (fun _ _ _ _ _ => pts_nil) (fun _ _ _ _ _ => (pe_callL (i := 2) G_is_word hr2 rfl (by first | exact Or.inl rfl | exact Or.inr (Or.inl rfl) | exact Or.inr (Or.inr rfl)) T.f_is_word.F.kp T.f_is_word.b .nil pass0 (pa_cons (pv 3) pa_nil)))) pa_nil)))))))) rfl ?_
  try dsimp only [L2.cxOf, L2.Cx.nox]
  refine Kit.m_ret ?_
  refine Kit.w_andV ?_
  refine Kit.w_cb ?_
  refine Kit.w_cons ?_
  refine Mi.e_var s rfl ?_
  intro _ s
  refine Kit.w_cons ?_
  refine Kit.w_c ?_
  refine Kit.w_nil ?_
  refine Mi.o_isiTup s ?_
  intro s
  refine Kit.w_blE ?_
  refine Mi.jv_andE (s0 := ()) (fun (z12 : Unit) => F) h s ?_ ?_
  · intro hb h hk
    refine Kit.w_andV ?_
    refine Kit.w_op ?_
    refine Kit.w_cb ?_
    refine Kit.w_cons ?_
    refine Mi.e_var s rfl ?_
    intro _ s
    refine Kit.w_nil ?_
    obtain ⟨x1, e0, h⟩ := Mi.R.all_ofO h
    refine Mi.o_lenD e0 s ?_
    intro s
    refine Mi.e_varS s rfl rfl ?_
    refine Kit.w_I0 ?_
    refine Kit.w_blE ?_
    refine Mi.jv_andE (s0 := ()) (fun (z10 : Unit) => F) h s ?_ ?_
    · intro hb h hk
      refine Kit.w_cb ?_
      refine Kit.w_cons ?_
      refine Kit.w_lc ?_
      refine Kit.w_itt ?_
      refine Mi.e_var s rfl ?_
      intro _ s
      obtain ⟨x2, e0, h⟩ := Mi.R.all_ofO h
      replace s := s.asTup e0
      refine Mi.i_tup s ?_
      intro a3 s
      refine Mi.l_map (em := fun x : Mi.D => (Mi.E.d x)) (st0 := [(.ref a3, (Mi.E.d (Mi.D.tup x2)))]) (s0 := ()) (xs := x2) Mi.D.bl (fun (z5 : Unit) => F) Mi.walk_tup s h ?_ ?_
      · intro p6 acc x4 z5 σ H KK Nn s h hk
        refine Mi.w_callL s rfl ?_
        refine Kit.w_cons ?_
        refine Mi.e_var s rfl ?_
        intro _ s
        refine Kit.w_nil ?_
        refine Mi.c_callS x4 s h (fun _ _ k => ⟨(.cons k.1 .nil), k.2⟩) (.refl _) (fun _ => rfl) ?_
        intro r7 H s h
        exact hk _ () _ _ (s.hand ((Mi.E.d (Mi.D.bl r7))) rfl) h
      intro p9 y8 H s h
      replace s := Mi.k_freeze (.refl _) s
      refine Kit.w_nil ?_
      refine Mi.o_all s ?_
      intro s
      exact hk (((y8.1).all id), ()) _ s h
    intro y11 H s h
    exact hk (y11.1, ()) _ s h
  intro y13 H s h
  exact Mi.k_retS s h rfl
def m_are_registers (p_digests : Digests_) (p_value : Mi.D) : Mi.R (Bool) := (if (!(p_value).isTup) = true then Mi.R.ok (true, ()) else (Mi.R.ofO (Mi.D.len? p_value)).bind fun x1 => Mi.R.ok ((!decide (x1 = (6 : Int))), ())).bind fun y3 => if y3.1 = true then ( Mi.R.ok false) else ((Mi.R.ofO (Mi.D.tup? p_value)).bind fun x4 => (Mi.R.ofO (Mi.D.take6 x4)).bind fun y11 => (m_is_integer y11.1 (0 : Int) (((256 : Int) - (1 : Int)))).bind fun r12 => (if (!r12) = true then Mi.R.ok (true, ()) else (m_is_word y11.2.1).bind fun r13 => (if (!r13) = true then Mi.R.ok (true, ()) else (m_is_word y11.2.2.1).bind fun r14 => Mi.R.ok ((!r14), ())).bind fun y16 => Mi.R.ok (y16.1, ())).bind fun y18 => if y18.1 = true then ( Mi.R.ok false) else ((m_is_integer y11.2.2.2.1 (0 : Int) ((((c_MARKS).length : Int) - (1 : Int)))).bind fun r19 => (if (!r19) = true then Mi.R.ok (true, ()) else (m_Digests_is_digest p_digests y11.2.2.2.2.1).bind fun r20 => Mi.R.ok ((!r20), ())).bind fun y22 => if y22.1 = true then ( Mi.R.ok false) else ((m_is_integer y11.2.2.2.2.2 (0 : Int) (16 : Int)).bind fun r23 => Mi.R.ok r23)))
abbrev sp_are_registers (T : Txt w K mg) : Sp := Mi.SpOf (gg T) (α := Digests_ × Mi.D) (β := Bool) (fun a => [(Mi.E.ins 0 [(Mi.E.d (Mi.D.int a.1.f_bits)), (Mi.E.d Mi.D.non), (Mi.E.d (Mi.D.int a.1.f_modulus))]), (Mi.E.d a.2)]) (fun a => []) (fun a => m_are_registers a.1 a.2) (fun a r => (Mi.E.d (Mi.D.bl r))) (fun a r => [])
theorem ok_are_registers (T : Txt w K mg) : FnOk P w K mg base CX0 3 T.f_are_registers.f T.f_are_registers.fd ["digests", "value"] (sp_are_registers T) := by
  have G_Digests_is_digest := ok_Digests_is_digest (P := P) (w := w) (base := base) T
  have G_is_integer := ok_is_integer (P := P) (w := w) (base := base) T
  have G_is_word := ok_is_word (P := P) (w := w) (base := base) T
  refine T.f_are_registers.F.ok sc_are_registers (fun vs H Q E h => ?_) (fun cdv A outer s0 H vs Q E hr h => ?_)
  · obtain ⟨a, e⟩ := Mi.c_len h
    exact e
  have hl : vs.length = 2 := by obtain ⟨a, e⟩ := Mi.c_len h; exact e
  obtain ⟨v0, v1, rfl⟩ := Mi.vs2 hl
  clear hl
  obtain ⟨⟨p_digests, p_value⟩, F, Z, s, h⟩ := Mi.c_start (n := 6) h
  replace s : Mi.Bd ⟨gg T, Z, H⟩ [some (Mi.E.ins 0 [(Mi.E.d (Mi.D.int p_digests.f_bits)), (Mi.E.d Mi.D.non), (Mi.E.d (Mi.D.int p_digests.f_modulus))]), some (Mi.E.d p_value), none, none, none, none, none, none] [] (F) [some v0, some v1, none, none, none, none, none, none] H := s
  replace h : Mi.R.All (m_are_registers p_digests p_value) _ _ := h
  unfold m_are_registers at h
  have nd := sc_are_registers.nd
  have hr1 : Room 1 _ := hr.mono (by decide)
  have hr2 : Room 2 _ := hr.mono (by decide)
  refine Kit.ok_body (σ := [some v0, some v1, none, none, none, none, none, none]) ((pss_cons (ps_if (PW.pt (pw_or (pt_not (pt_val (pe_callB (Kit.kIsi K) (by rfl) T.z_isinstance (by decide +kernel) (pa_cons (pv 1) (pa_cons (pe_bltn (v := .ty "tuple") (by rfl) T.z_tuple (by decide +kernel) rfl) pa_nil))))) (pw_or1 (pt_cmpR op_ne (pe_callB (Kit.kLen K) (by rfl) T.z_len (by decide +kernel) (pa_cons (pv 1) pa_nil)) pe_int (nomark _)))))
    (pss_one (ps_ret pe_bl))
    pss_nil)
    (pss_cons (ps_asg (pv 1) (Kit.kgTup K rfl (pgs_cons (pg_name (i := 2) nd rfl (Or.inl rfl)) (pgs_cons (pg_name (i := 3) nd rfl (Or.inl rfl)) (pgs_cons (pg_name (i := 4) nd rfl (Or.inl rfl)) (pgs_cons (pg_name (i := 5) nd rfl (Or.inl rfl)) (pgs_cons (pg_name (i := 6) nd rfl (Or.inl rfl)) (pgs_cons (pg_name (i := 7) nd rfl (Or.inl rfl)) pgs_nil))))))))
    (pss_cons (ps_if (PW.pt (pw_or (pt_not (pt_val (pe_call G_is_integer hr1 (by rfl) T.f_is_integer.g T.f_is_integer.F.kp T.f_is_integer.b .nil pass0 (pa_cons (pv 2) (pa_cons pe_int (pa_cons (pe_op op_sub (pe_glob (v := .int 256) rfl T.g_PLACES ⟨_, rfl⟩) pe_int) pa_nil)))))) (pw_or (pt_not (pt_val (pe_call G_is_word hr2 (by rfl) T.f_is_word.g T.f_is_word.F.kp T.f_is_word.b .nil pass0 (pa_cons (pv 3) pa_nil)))) (pw_or1 (pt_not (pt_val (pe_call G_is_word hr2 (by rfl) T.f_is_word.g T.f_is_word.F.kp T.f_is_word.b .nil pass0 (pa_cons (pv 4) pa_nil))))))))
    (pss_one (ps_ret pe_bl))
    pss_nil)
    (pss_cons (ps_if (PW.pt (pw_or (pt_not (pt_val (pe_call G_is_integer hr1 (by rfl) T.f_is_integer.g T.f_is_integer.F.kp T.f_is_integer.b .nil pass0 (pa_cons (pv 5) (pa_cons pe_int (pa_cons (pe_op op_sub (pe_callB (Kit.kLen K) (by rfl) T.z_len (by decide +kernel) (pa_cons (pe_glob (v := .ref T.a_MARKS) rfl T.g_MARKS rfl) pa_nil)) pe_int) pa_nil)))))) (pw_or1 (pt_not (pt_val (pe_meth (pv 0) T.c_Digests.cl T.m_Digests_is_digest G_Digests_is_digest hr2 T.f_Digests_is_digest.b .nil pass0 (pa_cons (pv 6) pa_nil)))))))
    (pss_one (ps_ret pe_bl))
    pss_nil)
    (pss_one (ps_ret (pe_call G_is_integer hr1 (by rfl) T.f_is_integer.g T.f_is_integer.F.kp T.f_is_integer.b .nil pass0 (pa_cons (pv 7) (pa_cons pe_int (pa_cons (pe_glob (v := .int 16) rfl T.g_MOST_TOLD ⟨_, rfl⟩) pa_nil))))))))))) rfl ?_
  try dsimp only [L2.cxOf, L2.Cx.nox]
  refine Kit.m_seq ?_
  refine Kit.m_if ?_
  refine Kit.w_or ?_
  refine Kit.w_not ?_
  refine Kit.w_B ?_
  refine Kit.w_cb ?_
  refine Kit.w_cons ?_
  refine Mi.e_var s rfl ?_
  intro _ s
  refine Kit.w_cons ?_
  refine Kit.w_c ?_
  refine Kit.w_nil ?_
  refine Mi.o_isiTup s ?_
  intro s
  refine Kit.w_blE ?_
  refine Mi.jt_orE (s0 := ()) (fun (z2 : Unit) => F) h s ?_ ?_
  · intro hb h hk
    refine Kit.w_test ?_
    refine Kit.w_op ?_
    refine Kit.w_cb ?_
    refine Kit.w_cons ?_
    refine Mi.e_var s rfl ?_
    intro _ s
    refine Kit.w_nil ?_
    obtain ⟨x1, e0, h⟩ := Mi.R.all_ofO h
    refine Mi.o_lenD e0 s ?_
    intro s
    refine Kit.w_c ?_
    refine Kit.w_neI ?_
    refine Kit.w_blE ?_
    exact hk ((!decide (x1 = (6 : Int))), ()) _ s h
  intro y3 H s h
  refine Mi.r_if h ?_ ?_
  · intro hb h
    refine Kit.m_ret ?_
    refine Kit.w_c ?_
    exact Mi.k_retS s h rfl
  · intro hb h
    refine Kit.m_next ?_
    refine Kit.m_seq ?_
    refine Kit.m_asgG ?_
    refine Mi.e_var s rfl ?_
    intro _ s
    obtain ⟨x4, e0, h⟩ := Mi.R.all_ofO h
    replace s := s.asTup e0
    obtain ⟨y11, e0, h⟩ := Mi.R.all_ofO h
    obtain rfl := Mi.D.take6_eq e0
    refine Mi.k_gtup6 (s) ?_
    intro σ s
    refine Kit.m_seq ?_
    refine Kit.m_if ?_
    refine Kit.w_or ?_
    refine Kit.w_not ?_
    refine Kit.w_B ?_
    refine Kit.w_call0 ?_
    refine Kit.w_cons ?_
    refine Mi.e_var s rfl ?_
    intro _ s
    refine Kit.w_cons ?_
    refine Kit.w_c ?_
    refine Kit.w_cons ?_
    refine Kit.w_op ?_
    refine Kit.w_c ?_
    refine Kit.w_c ?_
    refine Kit.w_I0 ?_
    refine Kit.w_nil ?_
    refine Mi.c_callS (y11.1, (0 : Int), ((256 : Int) - (1 : Int))) s h (fun _ _ k => ⟨(.cons k.1 (.cons (Mi.val_of rfl) (.cons (Mi.val_of rfl) .nil))), k.2⟩) (.refl _) (fun _ => rfl) ?_
    intro r12 H s h
    refine Kit.w_blE ?_
    refine Mi.jt_orE (s0 := ()) (fun (z17 : Unit) => F) h s ?_ ?_
    · intro hb h hk
      refine Kit.w_or ?_
      refine Kit.w_not ?_
      refine Kit.w_B ?_
      refine Kit.w_call0 ?_
      refine Kit.w_cons ?_
      refine Mi.e_var s rfl ?_
      intro _ s
      refine Kit.w_nil ?_
      refine Mi.c_callS y11.2.1 s h (fun _ _ k => ⟨(.cons k.1 .nil), k.2⟩) (.refl _) (fun _ => rfl) ?_
      intro r13 H s h
      refine Kit.w_blE ?_
      refine Mi.jt_orE (s0 := ()) (fun (z15 : Unit) => F) h s ?_ ?_
      · intro hb h hk
        refine Kit.w_not ?_
        refine Kit.w_B ?_
        refine Kit.w_call0 ?_
        refine Kit.w_cons ?_
        refine Mi.e_var s rfl ?_
        intro _ s
        refine Kit.w_nil ?_
        refine Mi.c_callS y11.2.2.1 s h (fun _ _ k => ⟨(.cons k.1 .nil), k.2⟩) (.refl _) (fun _ => rfl) ?_
        intro r14 H s h
        refine Kit.w_blE ?_
        exact hk ((!r14), ()) _ s h
      intro y16 H s h
      exact hk (y16.1, ()) _ s h
    intro y18 H s h
    refine Mi.r_if h ?_ ?_
    · intro hb h
      refine Kit.m_ret ?_
      refine Kit.w_c ?_
      exact Mi.k_retS s h rfl
    · intro hb h
      refine Kit.m_next ?_
      refine Kit.m_seq ?_
      refine Kit.m_if ?_
      refine Kit.w_or ?_
      refine Kit.w_not ?_
      refine Kit.w_B ?_
      refine Kit.w_call0 ?_
      refine Kit.w_cons ?_
      refine Mi.e_var s rfl ?_
      intro _ s
      refine Kit.w_cons ?_
      refine Kit.w_c ?_
      refine Kit.w_cons ?_
      refine Kit.w_op ?_
      refine Kit.w_cb ?_
      refine Kit.w_cons ?_
      refine Mi.e_con s (fun _ _ => dat_MARKS T) ?_
      intro s
      refine Kit.w_nil ?_
      refine Mi.o_lenT (List.length_map _) s ?_
      intro s
      refine Kit.w_c ?_
      refine Kit.w_I0 ?_
      refine Kit.w_nil ?_
      refine Mi.c_callS (y11.2.2.2.1, (0 : Int), (((c_MARKS).length : Int) - (1 : Int))) s h (fun _ _ k => ⟨(.cons k.1 (.cons (Mi.val_of rfl) (.cons (Mi.val_of rfl) .nil))), k.2⟩) (.refl _) (fun _ => rfl) ?_
      intro r19 H s h
      refine Kit.w_blE ?_
      refine Mi.jt_orE (s0 := ()) (fun (z21 : Unit) => F) h s ?_ ?_
      · intro hb h hk
        refine Kit.w_not ?_
        refine Kit.w_B ?_
        refine Kit.w_meth ?_
        refine Mi.e_var s rfl ?_
        intro _ s
        refine Mi.o_insZ rfl s ?_
        refine Kit.w_cons ?_
        refine Mi.e_var s rfl ?_
        intro _ s
        refine Kit.w_nil ?_
        refine Mi.c_callS (p_digests, y11.2.2.2.2.1) s h (fun _ _ k => ⟨(.cons k.2.1 (.cons k.1 .nil)), k.2.2⟩) (.refl _) (fun _ => rfl) ?_
        intro r20 H s h
        refine Kit.w_blE ?_
        exact hk ((!r20), ()) _ s h
      intro y22 H s h
      refine Mi.r_if h ?_ ?_
      · intro hb h
        refine Kit.m_ret ?_
        refine Kit.w_c ?_
        exact Mi.k_retS s h rfl
      · intro hb h
        refine Kit.m_next ?_
        refine Kit.m_ret ?_
        refine Kit.w_call0 ?_
        refine Kit.w_cons ?_
        refine Mi.e_var s rfl ?_
        intro _ s
        refine Kit.w_cons ?_
        refine Kit.w_c ?_
        refine Kit.w_cons ?_
        refine Kit.w_c ?_
        refine Kit.w_nil ?_
        refine Mi.c_callS (y11.2.2.2.2.2, (0 : Int), (16 : Int)) s h (fun _ _ k => ⟨(.cons k.1 (.cons (Mi.val_of rfl) (.cons (Mi.val_of rfl) .nil))), k.2⟩) (.refl _) (fun _ => rfl) ?_
        intro r23 H s h
        exact Mi.k_retS s h rfl
def m_is_answer (p_value : Mi.D) : Mi.R (Bool) := (m_is_tuple p_value (2 : Int)).bind fun r1 => (if r1 = true then (Mi.R.ofO (Mi.D.at? p_value (0 : Int))).bind fun x2 => (if (x2).isStr = true then (Mi.R.ofO (Mi.D.at? p_value (0 : Int))).bind fun x3 => (Mi.R.req (Mi.D.eqOk x3 (Mi.D.str ("answer" : Str)))).bind fun _ => (if (Mi.D.eqv x3 (Mi.D.str ("answer" : Str))) = true then (Mi.R.ofO (Mi.D.at? p_value (1 : Int))).bind fun x4 => (m_is_count x4).bind fun r5 => Mi.R.ok (r5, ()) else Mi.R.ok (false, ())).bind fun y7 => Mi.R.ok (y7.1, ()) else Mi.R.ok (false, ())).bind fun y9 => Mi.R.ok (y9.1, ()) else Mi.R.ok (false, ())).bind fun y11 => Mi.R.ok y11.1
abbrev sp_is_answer (T : Txt w K mg) : Sp := Mi.SpOf (gg T) (α := Mi.D) (β := Bool) (fun a => [(Mi.E.d a)]) (fun a => []) (fun a => m_is_answer a) (fun a r => (Mi.E.d (Mi.D.bl r))) (fun a r => [])
theorem ok_is_answer (T : Txt w K mg) : FnOk P w K mg base CX0 2 T.f_is_answer.f T.f_is_answer.fd ["value"] (sp_is_answer T) := by
  have G_is_count := ok_is_count (P := P) (w := w) (base := base) T
  have G_is_tuple := ok_is_tuple (P := P) (w := w) (base := base) T
  refine T.f_is_answer.F.ok sc_is_answer (fun vs H Q E h => ?_) (fun cdv A outer s0 H vs Q E hr h => ?_)
  · obtain ⟨a, e⟩ := Mi.c_len h
    exact e
  have hl : vs.length = 1 := by obtain ⟨a, e⟩ := Mi.c_len h; exact e
  obtain ⟨v0, rfl⟩ := Mi.vs1 hl
  clear hl
  obtain ⟨p_value, F, Z, s, h⟩ := Mi.c_start (n := 0) h
  replace s : Mi.Bd ⟨gg T, Z, H⟩ [some (Mi.E.d p_value)] [] (F) [some v0] H := s
  replace h : Mi.R.All (m_is_answer p_value) _ _ := h
  unfold m_is_answer at h
  have nd := sc_is_answer.nd
  have hr1 : Room 1 _ := hr.mono (by decide)
  refine Kit.ok_body (σ := [some v0]) ((pss_one (ps_ret (pe_and (pe_call G_is_tuple hr1 (by rfl) T.f_is_tuple.g T.f_is_tuple.F.kp T.f_is_tuple.b .nil pass0 (pa_cons (pv 0) (pa_cons pe_int pa_nil))) (pe_and (pe_callB (Kit.kIsi K) (by rfl) T.z_isinstance (by decide +kernel) (pa_cons (pe_ix (Kit.ixT K) (pv 0) pe_int (fun _ _ => rfl)) (pa_cons (pe_bltn (v := .ty "str") (by rfl) T.z_str (by decide +kernel) rfl) pa_nil))) (pe_and (pe_cmpR (Kit.kEqD K hr.units) (pe_ix (Kit.ixT K) (pv 0) pe_int (fun _ _ => rfl)) pe_str (nomark _)) (pe_one (pe_call G_is_count hr1 (by rfl) T.f_is_count.g T.f_is_count.F.kp T.f_is_count.b .nil pass0 (pa_cons (pe_ix (Kit.ixT K) (pv 0) pe_int (fun _ _ => rfl)) pa_nil))))))))) rfl ?_
  try dsimp only [L2.cxOf, L2.Cx.nox]
  refine Kit.m_ret ?_
  refine Kit.w_andV ?_
  refine Kit.w_call0 ?_
  refine Kit.w_cons ?_
  refine Mi.e_var s rfl ?_
  intro _ s
  refine Kit.w_cons ?_
  refine Kit.w_c ?_
  refine Kit.w_nil ?_
  refine Mi.c_callS (p_value, (2 : Int)) s h (fun _ _ k => ⟨(.cons k.1 (.cons (Mi.val_of rfl) .nil)), k.2⟩) (.refl _) (fun _ => rfl) ?_
  intro r1 H s h
  refine Kit.w_blE ?_
  refine Mi.jv_andE (s0 := ()) (fun (z10 : Unit) => F) h s ?_ ?_
  · intro hb h hk
    refine Kit.w_andV ?_
    refine Kit.w_cb ?_
    refine Kit.w_cons ?_
    refine Kit.w_op ?_
    refine Mi.e_var s rfl ?_
    intro _ s
    refine Kit.w_c ?_
    obtain ⟨x2, e0, h⟩ := Mi.R.all_ofO h
    refine Mi.o_ixD e0 s ?_
    intro v s
    refine Kit.w_cons ?_
    refine Kit.w_c ?_
    refine Kit.w_nil ?_
    refine Mi.o_isiStr s ?_
    intro s
    refine Kit.w_blE ?_
    refine Mi.jv_andE (s0 := ()) (fun (z8 : Unit) => F) h s ?_ ?_
    · intro hb h hk
      refine Kit.w_andV ?_
      refine Kit.w_op ?_
      refine Kit.w_op ?_
      refine Mi.e_var s rfl ?_
      intro _ s
      refine Kit.w_c ?_
      obtain ⟨x3, e0, h⟩ := Mi.R.all_ofO h
      refine Mi.o_ixD e0 s ?_
      intro v s
      refine Kit.w_c ?_
      replace s := s.hand (Mi.E.d (Mi.D.str ("answer" : Str))) rfl
      obtain ⟨hc, h⟩ := Mi.R.all_req h
      refine Mi.o_eqD hc s ?_
      intro s
      refine Kit.w_blE ?_
      refine Mi.jv_andE (s0 := ()) (fun (z6 : Unit) => F) h s ?_ ?_
      · intro hb h hk
        refine Kit.w_call0 ?_
        refine Kit.w_cons ?_
        refine Kit.w_op ?_
        refine Mi.e_var s rfl ?_
        intro _ s
        refine Kit.w_c ?_
        obtain ⟨x4, e0, h⟩ := Mi.R.all_ofO h
        refine Mi.o_ixD e0 s ?_
        intro v s
        refine Kit.w_nil ?_
        refine Mi.c_callS x4 s h (fun _ _ k => ⟨(.cons k.1 .nil), k.2⟩) (.refl _) (fun _ => rfl) ?_
        intro r5 H s h
        exact hk (r5, ()) _ s h
      intro y7 H s h
      exact hk (y7.1, ()) _ s h
    intro y9 H s h
    exact hk (y9.1, ()) _ s h
  intro y11 H s h
  exact Mi.k_retS s h rfl
def m_is_part (p_digests : Digests_) (p_value : Mi.D) (p_part : Str) : Mi.R (Bool) :=  if (decide (p_part = ("digest" : Str))) = true then ((m_Digests_is_digest p_digests p_value).bind fun r1 => Mi.R.ok r1) else ( if (decide (p_part = ("number" : Str))) = true then ((m_is_count p_value).bind fun r2 => Mi.R.ok r2) else ( if (decide (p_part = ("path" : Str))) = true then ((if (p_value).isTup = true then (Mi.R.ofO (Mi.D.tup? p_value)).bind fun x3 => (Mi.mapC x3 () fun (x5 : Mi.D) (z6 : Unit) => (m_Digests_is_digest p_digests x5).bind fun r8 => Mi.R.ok (r8, ())).bind fun y9 => Mi.R.ok (((y9.1).all id), ()) else Mi.R.ok (false, ())).bind fun y12 => Mi.R.ok y12.1) else ( if (decide (p_part = ("registers" : Str))) = true then ((m_are_registers p_digests p_value).bind fun r13 => Mi.R.ok r13) else ( if (decide (p_part = ("row" : Str))) = true then ((m_is_row p_value (16 : Int)).bind fun r14 => Mi.R.ok r14) else ( if (decide (p_part = ("image" : Str))) = true then ((m_is_row p_value (239 : Int)).bind fun r15 => Mi.R.ok r15) else ( if (decide (p_part = ("inputs" : Str))) = true then ((m_is_row p_value (16 : Int)).bind fun r16 => (if r16 = true then Mi.R.ok (true, ()) else (m_is_answer p_value).bind fun r17 => Mi.R.ok (r17, ())).bind fun y19 => Mi.R.ok y19.1) else ( if (decide (p_part = ("level" : Str))) = true then ((m_is_integer p_value (0 : Int) (8 : Int)).bind fun r20 => Mi.R.ok r20) else ( Mi.R.ok true))))))))
abbrev sp_is_part (T : Txt w K mg) : Sp := Mi.SpOf (gg T) (α := Digests_ × Mi.D × Str) (β := Bool) (fun a => [(Mi.E.ins 0 [(Mi.E.d (Mi.D.int a.1.f_bits)), (Mi.E.d Mi.D.non), (Mi.E.d (Mi.D.int a.1.f_modulus))]), (Mi.E.d a.2.1), (Mi.E.d (Mi.D.str a.2.2))]) (fun a => []) (fun a => m_is_part a.1 a.2.1 a.2.2) (fun a r => (Mi.E.d (Mi.D.bl r))) (fun a r => [])
theorem ok_is_part (T : Txt w K mg) : FnOk P w K mg base CX0 4 T.f_is_part.f T.f_is_part.fd ["digests", "value", "part"] (sp_is_part T) := by
  have G_Digests_is_digest := ok_Digests_is_digest (P := P) (w := w) (base := base) T
  have G_are_registers := ok_are_registers (P := P) (w := w) (base := base) T
  have G_is_answer := ok_is_answer (P := P) (w := w) (base := base) T
  have G_is_count := ok_is_count (P := P) (w := w) (base := base) T
  have G_is_integer := ok_is_integer (P := P) (w := w) (base := base) T
  have G_is_row := ok_is_row (P := P) (w := w) (base := base) T
  refine T.f_is_part.F.ok sc_is_part (fun vs H Q E h => ?_) (fun cdv A outer s0 H vs Q E hr h => ?_)
  · obtain ⟨a, e⟩ := Mi.c_len h
    exact e
  have hl : vs.length = 3 := by obtain ⟨a, e⟩ := Mi.c_len h; exact e
  obtain ⟨v0, v1, v2, rfl⟩ := Mi.vs3 hl
  clear hl
  obtain ⟨⟨p_digests, p_value, p_part⟩, F, Z, s, h⟩ := Mi.c_start (n := 1) h
  replace s : Mi.Bd ⟨gg T, Z, H⟩ [some (Mi.E.ins 0 [(Mi.E.d (Mi.D.int p_digests.f_bits)), (Mi.E.d Mi.D.non), (Mi.E.d (Mi.D.int p_digests.f_modulus))]), some (Mi.E.d p_value), some (Mi.E.d (Mi.D.str p_part)), none] [] (F) [some v0, some v1, some v2, none] H := s
  replace h : Mi.R.All (m_is_part p_digests p_value p_part) _ _ := h
  unfold m_is_part at h
  have nd := sc_is_part.nd
  have hr1 : Room 1 _ := hr.mono (by decide)
  have hr2 : Room 2 _ := hr.mono (by decide)
  have hr3 : Room 3 _ := hr.mono (by decide)
  refine Kit.ok_body (σ := [some v0, some v1, some v2, none]) ((pss_cons (ps_if (pt_cmpR op_eq (pv 2) pe_str (nomark _))
    (pss_one (ps_ret (pe_meth (pv 0) T.c_Digests.cl T.m_Digests_is_digest G_Digests_is_digest hr2 T.f_Digests_is_digest.b .nil pass0 (pa_cons (pv 1) pa_nil))))
    pss_nil)
    (pss_cons (ps_if (pt_cmpR op_eq (pv 2) pe_str (nomark _))
    (pss_one (ps_ret (pe_call G_is_count hr1 (by rfl) T.f_is_count.g T.f_is_count.F.kp T.f_is_count.b .nil pass0 (pa_cons (pv 1) pa_nil))))
    pss_nil)
    (pss_cons (ps_if (pt_cmpR op_eq (pv 2) pe_str (nomark _))
    (pss_one (ps_ret (pe_and (pe_callB (Kit.kIsi K) (by rfl) T.z_isinstance (by decide +kernel) (pa_cons (pv 1) (pa_cons (pe_bltn (v := .ty "tuple") (by rfl) T.z_tuple (by decide +kernel) rfl) pa_nil))) (pe_one (pe_callB (Mi.kAllB K rfl) (by rfl) T.z_all (by decide +kernel) (pa_cons (pe_lc (own := [("item", 3)]) (g := gName 3) (tt := tYes) (by rfl) nd (Kit.kpTup K (pv 1)) (blkOk_by (own := [("item", 3)]) (N := N_is_part) (sc := defScope s_is_part) (by decide +kernel)) (fun _ _ _ _ _ => pg_name (i := 3) nd rfl (Or.inl rfl)) (fun _ _ _ _ _ => pts_nil) (fun _ _ _ _ _ => (pe_meth (pv 0) T.c_Digests.cl T.m_Digests_is_digest G_Digests_is_digest hr2 T.f_Digests_is_digest.b .nil pass0 (pa_cons (pv 3) pa_nil)))) pa_nil))))))
    pss_nil)
    (pss_cons (ps_if (pt_cmpR op_eq (pv 2) pe_str (nomark _))
    (pss_one (ps_ret (pe_call G_are_registers hr3 (by rfl) T.f_are_registers.g T.f_are_registers.F.kp T.f_are_registers.b .nil pass0 (pa_cons (pv 0) (pa_cons (pv 1) pa_nil)))))
    pss_nil)
    (pss_cons (ps_if (pt_cmpR op_eq (pv 2) pe_str (nomark _))
    (pss_one (ps_ret (pe_call G_is_row hr3 (by rfl) T.f_is_row.g T.f_is_row.F.kp T.f_is_row.b .nil pass0 (pa_cons (pv 1) (pa_cons (pe_glob (v := .int 16) rfl T.g_MOST_TOLD ⟨_, rfl⟩) (pa_cons (pe_glob (v := .ref T.f_is_word.f) rfl T.f_is_word.g rfl) pa_nil))))))
    pss_nil)
    (pss_cons (ps_if (pt_cmpR op_eq (pv 2) pe_str (nomark _))
    (pss_one (ps_ret (pe_call G_is_row hr3 (by rfl) T.f_is_row.g T.f_is_row.F.kp T.f_is_row.b .nil pass0 (pa_cons (pv 1) (pa_cons (pe_glob (v := .int 239) rfl T.g_MOST_IMAGE ⟨_, rfl⟩) (pa_cons (pe_glob (v := .ref T.f_is_word.f) rfl T.f_is_word.g rfl) pa_nil))))))
    pss_nil)
    (pss_cons (ps_if (pt_cmpR op_eq (pv 2) pe_str (nomark _))
    (pss_one (ps_ret (pe_or (pe_call G_is_row hr3 (by rfl) T.f_is_row.g T.f_is_row.F.kp T.f_is_row.b .nil pass0 (pa_cons (pv 1) (pa_cons (pe_glob (v := .int 16) rfl T.g_MOST_INPUTS ⟨_, rfl⟩) (pa_cons (pe_glob (v := .ref T.f_is_word.f) rfl T.f_is_word.g rfl) pa_nil)))) (pe_one (pe_call G_is_answer hr2 (by rfl) T.f_is_answer.g T.f_is_answer.F.kp T.f_is_answer.b .nil pass0 (pa_cons (pv 1) pa_nil))))))
    pss_nil)
    (pss_cons (ps_if (pt_cmpR op_eq (pv 2) pe_str (nomark _))
    (pss_one (ps_ret (pe_call G_is_integer hr1 (by rfl) T.f_is_integer.g T.f_is_integer.F.kp T.f_is_integer.b .nil pass0 (pa_cons (pv 1) (pa_cons pe_int (pa_cons (pe_glob (v := .int 8) rfl T.g_MOST_LEVEL ⟨_, rfl⟩) pa_nil))))))
    pss_nil)
    (pss_one (ps_ret pe_bl))))))))))) rfl ?_
  try dsimp only [L2.cxOf, L2.Cx.nox]
  refine Kit.m_seq ?_
  refine Kit.m_if ?_
  refine Kit.w_test ?_
  refine Kit.w_op ?_
  refine Mi.e_varS s rfl rfl ?_
  refine Kit.w_c ?_
  refine Kit.w_eqSd ?_
  refine Kit.w_blE ?_
  refine Mi.r_if h ?_ ?_
  · intro hb h
    refine Kit.m_ret ?_
    refine Kit.w_meth ?_
    refine Mi.e_var s rfl ?_
    intro _ s
    refine Mi.o_insZ rfl s ?_
    refine Kit.w_cons ?_
    refine Mi.e_var s rfl ?_
    intro _ s
    refine Kit.w_nil ?_
    refine Mi.c_callS (p_digests, p_value) s h (fun _ _ k => ⟨(.cons k.2.1 (.cons k.1 .nil)), k.2.2⟩) (.refl _) (fun _ => rfl) ?_
    intro r1 H s h
    exact Mi.k_retS s h rfl
  · intro hb h
    refine Kit.m_next ?_
    refine Kit.m_seq ?_
    refine Kit.m_if ?_
    refine Kit.w_test ?_
    refine Kit.w_op ?_
    refine Mi.e_varS s rfl rfl ?_
    refine Kit.w_c ?_
    refine Kit.w_eqSd ?_
    refine Kit.w_blE ?_
    refine Mi.r_if h ?_ ?_
    · intro hb h
      refine Kit.m_ret ?_
      refine Kit.w_call0 ?_
      refine Kit.w_cons ?_
      refine Mi.e_var s rfl ?_
      intro _ s
      refine Kit.w_nil ?_
      refine Mi.c_callS p_value s h (fun _ _ k => ⟨(.cons k.1 .nil), k.2⟩) (.refl _) (fun _ => rfl) ?_
      intro r2 H s h
      exact Mi.k_retS s h rfl
    · intro hb h
      refine Kit.m_next ?_
      refine Kit.m_seq ?_
      refine Kit.m_if ?_
      refine Kit.w_test ?_
      refine Kit.w_op ?_
      refine Mi.e_varS s rfl rfl ?_
      refine Kit.w_c ?_
      refine Kit.w_eqSd ?_
      refine Kit.w_blE ?_
      refine Mi.r_if h ?_ ?_
      · intro hb h
        refine Kit.m_ret ?_
        refine Kit.w_andV ?_
        refine Kit.w_cb ?_
        refine Kit.w_cons ?_
        refine Mi.e_var s rfl ?_
        intro _ s
        refine Kit.w_cons ?_
        refine Kit.w_c ?_
        refine Kit.w_nil ?_
        refine Mi.o_isiTup s ?_
        intro s
        refine Kit.w_blE ?_
        refine Mi.jv_andE (s0 := ()) (fun (z11 : Unit) => F) h s ?_ ?_
        · intro hb h hk
          refine Kit.w_cb ?_
          refine Kit.w_cons ?_
          refine Kit.w_lc ?_
          refine Kit.w_itt ?_
          refine Mi.e_var s rfl ?_
          intro _ s
          obtain ⟨x3, e0, h⟩ := Mi.R.all_ofO h
          replace s := s.asTup e0
          refine Mi.i_tup s ?_
          intro a4 s
          refine Mi.l_map (em := fun x : Mi.D => (Mi.E.d x)) (st0 := [(.ref a4, (Mi.E.d (Mi.D.tup x3)))]) (s0 := ()) (xs := x3) Mi.D.bl (fun (z6 : Unit) => F) Mi.walk_tup s h ?_ ?_
          · intro p7 acc x5 z6 σ H KK Nn s h hk
            refine Kit.w_meth ?_
            refine Mi.e_var s rfl ?_
            intro _ s
            refine Mi.o_insZ rfl s ?_
            refine Kit.w_cons ?_
            refine Mi.e_var s rfl ?_
            intro _ s
            refine Kit.w_nil ?_
            refine Mi.c_callS (p_digests, x5) s h (fun _ _ k => ⟨(.cons k.2.1 (.cons k.1 .nil)), k.2.2⟩) (.refl _) (fun _ => rfl) ?_
            intro r8 H s h
            exact hk _ () _ _ (s.hand ((Mi.E.d (Mi.D.bl r8))) rfl) h
          intro p10 y9 H s h
          replace s := Mi.k_freeze (.refl _) s
          refine Kit.w_nil ?_
          refine Mi.o_all s ?_
          intro s
          exact hk (((y9.1).all id), ()) _ s h
        intro y12 H s h
        exact Mi.k_retS s h rfl
      · intro hb h
        refine Kit.m_next ?_
        refine Kit.m_seq ?_
        refine Kit.m_if ?_
        refine Kit.w_test ?_
        refine Kit.w_op ?_
        refine Mi.e_varS s rfl rfl ?_
        refine Kit.w_c ?_
        refine Kit.w_eqSd ?_
        refine Kit.w_blE ?_
        refine Mi.r_if h ?_ ?_
        · intro hb h
          refine Kit.m_ret ?_
          refine Kit.w_call0 ?_
          refine Kit.w_cons ?_
          refine Mi.e_var s rfl ?_
          intro _ s
          refine Kit.w_cons ?_
          refine Mi.e_var s rfl ?_
          intro _ s
          refine Kit.w_nil ?_
          refine Mi.c_callS (p_digests, p_value) s h (fun _ _ k => ⟨(.cons k.2.1 (.cons k.1 .nil)), k.2.2⟩) (.refl _) (fun _ => rfl) ?_
          intro r13 H s h
          exact Mi.k_retS s h rfl
        · intro hb h
          refine Kit.m_next ?_
          refine Kit.m_seq ?_
          refine Kit.m_if ?_
          refine Kit.w_test ?_
          refine Kit.w_op ?_
          refine Mi.e_varS s rfl rfl ?_
          refine Kit.w_c ?_
          refine Kit.w_eqSd ?_
          refine Kit.w_blE ?_
          refine Mi.r_if h ?_ ?_
          · intro hb h
            refine Kit.m_ret ?_
            refine Kit.w_call0 ?_
            refine Kit.w_cons ?_
            refine Mi.e_var s rfl ?_
            intro _ s
            refine Kit.w_cons ?_
            refine Kit.w_c ?_
            refine Kit.w_cons ?_
            refine Kit.w_c ?_
            refine Kit.w_nil ?_
            refine Mi.c_callS (p_value, (16 : Int)) s h (fun _ _ k => ⟨(.cons k.1 (.cons (Mi.val_of rfl) (.cons (Mi.val_of rfl) .nil))), k.2⟩) (.refl _) (fun _ => rfl) ?_
            intro r14 H s h
            exact Mi.k_retS s h rfl
          · intro hb h
            refine Kit.m_next ?_
            refine Kit.m_seq ?_
            refine Kit.m_if ?_
            refine Kit.w_test ?_
            refine Kit.w_op ?_
            refine Mi.e_varS s rfl rfl ?_
            refine Kit.w_c ?_
            refine Kit.w_eqSd ?_
            refine Kit.w_blE ?_
            refine Mi.r_if h ?_ ?_
            · intro hb h
              refine Kit.m_ret ?_
              refine Kit.w_call0 ?_
              refine Kit.w_cons ?_
              refine Mi.e_var s rfl ?_
              intro _ s
              refine Kit.w_cons ?_
              refine Kit.w_c ?_
              refine Kit.w_cons ?_
              refine Kit.w_c ?_
              refine Kit.w_nil ?_
              refine Mi.c_callS (p_value, (239 : Int)) s h (fun _ _ k => ⟨(.cons k.1 (.cons (Mi.val_of rfl) (.cons (Mi.val_of rfl) .nil))), k.2⟩) (.refl _) (fun _ => rfl) ?_
              intro r15 H s h
              exact Mi.k_retS s h rfl
            · intro hb h
              refine Kit.m_next ?_
              refine Kit.m_seq ?_
              refine Kit.m_if ?_
              refine Kit.w_test ?_
              refine Kit.w_op ?_
              refine Mi.e_varS s rfl rfl ?_
              refine Kit.w_c ?_
              refine Kit.w_eqSd ?_
              refine Kit.w_blE ?_
              refine Mi.r_if h ?_ ?_
              · intro hb h
                refine Kit.m_ret ?_
                refine Kit.w_orV ?_
                refine Kit.w_call0 ?_
                refine Kit.w_cons ?_
                refine Mi.e_var s rfl ?_
                intro _ s
                refine Kit.w_cons ?_
                refine Kit.w_c ?_
                refine Kit.w_cons ?_
                refine Kit.w_c ?_
                refine Kit.w_nil ?_
                refine Mi.c_callS (p_value, (16 : Int)) s h (fun _ _ k => ⟨(.cons k.1 (.cons (Mi.val_of rfl) (.cons (Mi.val_of rfl) .nil))), k.2⟩) (.refl _) (fun _ => rfl) ?_
                intro r16 H s h
                refine Kit.w_blE ?_
                refine Mi.jv_orE (s0 := ()) (fun (z18 : Unit) => F) h s ?_ ?_
                · intro hb h hk
                  refine Kit.w_call0 ?_
                  refine Kit.w_cons ?_
                  refine Mi.e_var s rfl ?_
                  intro _ s
                  refine Kit.w_nil ?_
                  refine Mi.c_callS p_value s h (fun _ _ k => ⟨(.cons k.1 .nil), k.2⟩) (.refl _) (fun _ => rfl) ?_
                  intro r17 H s h
                  exact hk (r17, ()) _ s h
                intro y19 H s h
                exact Mi.k_retS s h rfl
              · intro hb h
                refine Kit.m_next ?_
                refine Kit.m_seq ?_
                refine Kit.m_if ?_
                refine Kit.w_test ?_
                refine Kit.w_op ?_
                refine Mi.e_varS s rfl rfl ?_
                refine Kit.w_c ?_
                refine Kit.w_eqSd ?_
                refine Kit.w_blE ?_
                refine Mi.r_if h ?_ ?_
                · intro hb h
                  refine Kit.m_ret ?_
                  refine Kit.w_call0 ?_
                  refine Kit.w_cons ?_
                  refine Mi.e_var s rfl ?_
                  intro _ s
                  refine Kit.w_cons ?_
                  refine Kit.w_c ?_
                  refine Kit.w_cons ?_
                  refine Kit.w_c ?_
                  refine Kit.w_nil ?_
                  refine Mi.c_callS (p_value, (0 : Int), (8 : Int)) s h (fun _ _ k => ⟨(.cons k.1 (.cons (Mi.val_of rfl) (.cons (Mi.val_of rfl) .nil))), k.2⟩) (.refl _) (fun _ => rfl) ?_
                  intro r20 H s h
                  exact Mi.k_retS s h rfl
                · intro hb h
                  refine Kit.m_next ?_
                  refine Kit.m_ret ?_
                  refine Kit.w_c ?_
                  exact Mi.k_retS s h rfl
def m_is_letter (p_digests : Digests_) (p_value : Mi.D) : Mi.R (Bool) := (if (!(p_value).isTup) = true then Mi.R.ok (true, ()) else (Mi.R.ofO (Mi.D.len? p_value)).bind fun x1 => (if (decide (x1 = (0 : Int))) = true then Mi.R.ok (true, ()) else (Mi.R.ofO (Mi.D.at? p_value (0 : Int))).bind fun x2 => (if (!(x2).isStr) = true then Mi.R.ok (true, ()) else (Mi.R.ofO (Mi.D.at? p_value (0 : Int))).bind fun x3 => (Mi.R.ofO (Mi.D.str? x3)).bind fun x4 => Mi.R.ok ((!(c_PARTS.lookup x4).isSome), ())).bind fun y6 => Mi.R.ok (y6.1, ())).bind fun y8 => Mi.R.ok (y8.1, ())).bind fun y10 => if y10.1 = true then ( Mi.R.ok false) else ((Mi.R.ofO (Mi.D.at? p_value (0 : Int))).bind fun x11 => (Mi.R.ofO (Mi.D.str? x11)).bind fun x12 => (Mi.R.ofO (c_PARTS.lookup x12)).bind fun x13 => (Mi.R.ofO (Mi.D.len? p_value)).bind fun x14 => if (!decide (x14 = (((x13).length : Int) + (1 : Int)))) = true then ( Mi.R.ok false) else ((Mi.R.ofO (Mi.D.tup? p_value)).bind fun x15 => (Mi.mapC (List.zip (Mi.cutL x15 (some (1 : Int)) none) x13) () fun (x18 : (Mi.D × Str)) (z19 : Unit) => (m_is_part p_digests x18.1 x18.2).bind fun r21 => Mi.R.ok (r21, ())).bind fun y22 => Mi.R.ok ((y22.1).all id)))
abbrev sp_is_letter (T : Txt w K mg) : Sp := Mi.SpOf (gg T) (α := Digests_ × Mi.D) (β := Bool) (fun a => [(Mi.E.ins 0 [(Mi.E.d (Mi.D.int a.1.f_bits)), (Mi.E.d Mi.D.non), (Mi.E.d (Mi.D.int a.1.f_modulus))]), (Mi.E.d a.2)]) (fun a => []) (fun a => m_is_letter a.1 a.2) (fun a r => (Mi.E.d (Mi.D.bl r))) (fun a r => [])
theorem ok_is_letter (T : Txt w K mg) : FnOk P w K mg base CX0 5 T.f_is_letter.f T.f_is_letter.fd ["digests", "value"] (sp_is_letter T) := by
  have G_is_part := ok_is_part (P := P) (w := w) (base := base) T
  refine T.f_is_letter.F.ok sc_is_letter (fun vs H Q E h => ?_) (fun cdv A outer s0 H vs Q E hr h => ?_)
  · obtain ⟨a, e⟩ := Mi.c_len h
    exact e
  have hl : vs.length = 2 := by obtain ⟨a, e⟩ := Mi.c_len h; exact e
  obtain ⟨v0, v1, rfl⟩ := Mi.vs2 hl
  clear hl
  obtain ⟨⟨p_digests, p_value⟩, F, Z, s, h⟩ := Mi.c_start (n := 3) h
  replace s : Mi.Bd ⟨gg T, Z, H⟩ [some (Mi.E.ins 0 [(Mi.E.d (Mi.D.int p_digests.f_bits)), (Mi.E.d Mi.D.non), (Mi.E.d (Mi.D.int p_digests.f_modulus))]), some (Mi.E.d p_value), none, none, none] [] (F) [some v0, some v1, none, none, none] H := s
  replace h : Mi.R.All (m_is_letter p_digests p_value) _ _ := h
  unfold m_is_letter at h
  have nd := sc_is_letter.nd
  have hr4 : Room 4 _ := hr.mono (by decide)
  refine Kit.ok_body (σ := [some v0, some v1, none, none, none]) ((pss_cons (ps_if (PW.pt (pw_or (pt_not (pt_val (pe_callB (Kit.kIsi K) (by rfl) T.z_isinstance (by decide +kernel) (pa_cons (pv 1) (pa_cons (pe_bltn (v := .ty "tuple") (by rfl) T.z_tuple (by decide +kernel) rfl) pa_nil))))) (pw_or (pt_cmpR op_eq (pe_callB (Kit.kLen K) (by rfl) T.z_len (by decide +kernel) (pa_cons (pv 1) pa_nil)) pe_int (nomark _)) (pw_or (pt_not (pt_val (pe_callB (Kit.kIsi K) (by rfl) T.z_isinstance (by decide +kernel) (pa_cons (pe_ix (Kit.ixT K) (pv 1) pe_int (fun _ _ => rfl)) (pa_cons (pe_bltn (v := .ty "str") (by rfl) T.z_str (by decide +kernel) rfl) pa_nil))))) (pw_or1 (pt_cmpR (Kit.kNotInKd T.d_PARTS) (pe_ix (Kit.ixT K) (pv 1) pe_int (fun _ _ => rfl)) (pe_glob (v := .ref T.a_PARTS) rfl T.g_PARTS rfl) (by rfl)))))))
    (pss_one (ps_ret pe_bl))
    pss_nil)
    (pss_cons (ps_set (i := 2) nd rfl (Or.inl rfl) (pe_ix (Kit.kIxKd w K) (pe_glob (v := .ref T.a_PARTS) rfl T.g_PARTS rfl) (pe_ix (Kit.ixT K) (pv 1) pe_int (fun _ _ => rfl)) (fun _ _ => rfl)))
    (pss_cons (ps_if (pt_cmpR op_ne (pe_callB (Kit.kLen K) (by rfl) T.z_len (by decide +kernel) (pa_cons (pv 1) pa_nil)) (pe_op op_add (pe_callB (Kit.kLen K) (by rfl) T.z_len (by decide +kernel) (pa_cons (pv 2) pa_nil)) pe_int) (nomark _))
    (pss_one (ps_ret pe_bl))
    pss_nil)
    (pss_one (ps_ret (pe_callB (Mi.kAllB K rfl) (by rfl) T.z_all (by decide +kernel) (pa_cons (pe_lc (own := [("item", 3), ("part", 4)]) (g := (gTup K 2 (gCons (gName 3) (gCons (gName 4) gNil)))) (tt := tYes) (by rfl) nd (Kit.kpZipA K (by rfl) T.z_zip (pa_cons (pe_slice (Kit.kSlT K) (pv 1) (po_some pe_int) po_none) (pa_cons (pv 2) pa_nil))) (blkOk_by (own := [("item", 3), ("part", 4)]) (N := N_is_letter) (sc := defScope s_is_letter) (by decide +kernel)) (fun _ _ _ _ _ => Kit.kgTup K rfl (pgs_cons (pg_name (i := 3) nd rfl (Or.inl rfl)) (pgs_cons (pg_name (i := 4) nd rfl (Or.inl rfl)) pgs_nil))) (fun _ _ _ _ _ => pts_nil) (fun _ _ _ _ _ => (pe_call G_is_part hr4 (by rfl) T.f_is_part.g T.f_is_part.F.kp T.f_is_part.b .nil pass0 (pa_cons (pv 0) (pa_cons (pv 3) (pa_cons (pv 4) pa_nil)))))) pa_nil)))))))) rfl ?_
  try dsimp only [L2.cxOf, L2.Cx.nox]
  refine Kit.m_seq ?_
  refine Kit.m_if ?_
  refine Kit.w_or ?_
  refine Kit.w_not ?_
  refine Kit.w_B ?_
  refine Kit.w_cb ?_
  refine Kit.w_cons ?_
  refine Mi.e_var s rfl ?_
  intro _ s
  refine Kit.w_cons ?_
  refine Kit.w_c ?_
  refine Kit.w_nil ?_
  refine Mi.o_isiTup s ?_
  intro s
  refine Kit.w_blE ?_
  refine Mi.jt_orE (s0 := ()) (fun (z9 : Unit) => F) h s ?_ ?_
  · intro hb h hk
    refine Kit.w_or ?_
    refine Kit.w_test ?_
    refine Kit.w_op ?_
    refine Kit.w_cb ?_
    refine Kit.w_cons ?_
    refine Mi.e_var s rfl ?_
    intro _ s
    refine Kit.w_nil ?_
    obtain ⟨x1, e0, h⟩ := Mi.R.all_ofO h
    refine Mi.o_lenD e0 s ?_
    intro s
    refine Kit.w_c ?_
    refine Kit.w_eqI ?_
    refine Kit.w_blE ?_
    refine Mi.jt_orE (s0 := ()) (fun (z7 : Unit) => F) h s ?_ ?_
    · intro hb h hk
      refine Kit.w_or ?_
      refine Kit.w_not ?_
      refine Kit.w_B ?_
      refine Kit.w_cb ?_
      refine Kit.w_cons ?_
      refine Kit.w_op ?_
      refine Mi.e_var s rfl ?_
      intro _ s
      refine Kit.w_c ?_
      obtain ⟨x2, e0, h⟩ := Mi.R.all_ofO h
      refine Mi.o_ixD e0 s ?_
      intro v s
      refine Kit.w_cons ?_
      refine Kit.w_c ?_
      refine Kit.w_nil ?_
      refine Mi.o_isiStr s ?_
      intro s
      refine Kit.w_blE ?_
      refine Mi.jt_orE (s0 := ()) (fun (z5 : Unit) => F) h s ?_ ?_
      · intro hb h hk
        refine Kit.w_test ?_
        refine Kit.w_op ?_
        refine Kit.w_op ?_
        refine Mi.e_var s rfl ?_
        intro _ s
        refine Kit.w_c ?_
        obtain ⟨x3, e0, h⟩ := Mi.R.all_ofO h
        refine Mi.o_ixD e0 s ?_
        intro v s
        obtain ⟨x4, e0, h⟩ := Mi.R.all_ofO h
        replace s := s.asStr e0
        obtain ⟨rfl, s⟩ := s
        refine Kit.w_c ?_
        refine Mi.o_notInKd (g := gg T) (rows := c_PARTS) T.d_PARTS ?_
        refine Kit.w_blE ?_
        exact hk ((!(c_PARTS.lookup x4).isSome), ()) _ s h
      intro y6 H s h
      exact hk (y6.1, ()) _ s h
    intro y8 H s h
    exact hk (y8.1, ()) _ s h
  intro y10 H s h
  refine Mi.r_if h ?_ ?_
  · intro hb h
    refine Kit.m_ret ?_
    refine Kit.w_c ?_
    exact Mi.k_retS s h rfl
  · intro hb h
    refine Kit.m_next ?_
    refine Kit.m_seq ?_
    refine Mi.m_asgK ?_
    refine Kit.w_op ?_
    refine Kit.w_c ?_
    refine Kit.w_op ?_
    refine Mi.e_var s rfl ?_
    intro _ s
    refine Kit.w_c ?_
    obtain ⟨x11, e0, h⟩ := Mi.R.all_ofO h
    refine Mi.o_ixD e0 s ?_
    intro v s
    obtain ⟨x12, e0, h⟩ := Mi.R.all_ofO h
    replace s := s.asStr e0
    obtain ⟨rfl, s⟩ := s
    obtain ⟨x13, e0, h⟩ := Mi.R.all_ofO h
    refine Mi.o_ixKd (rows := c_PARTS) T.d_PARTS e0 s ?_
    intro v s
    refine Mi.k_asg s ?_
    intro σ s
    refine Kit.m_seq ?_
    refine Kit.m_if ?_
    refine Kit.w_test ?_
    refine Kit.w_op ?_
    refine Kit.w_cb ?_
    refine Kit.w_cons ?_
    refine Mi.e_var s rfl ?_
    intro _ s
    refine Kit.w_nil ?_
    obtain ⟨x14, e0, h⟩ := Mi.R.all_ofO h
    refine Mi.o_lenD e0 s ?_
    intro s
    refine Kit.w_op ?_
    refine Kit.w_cb ?_
    refine Kit.w_cons ?_
    refine Mi.e_var s rfl ?_
    intro _ s
    refine Kit.w_nil ?_
    refine Mi.o_lenT (List.length_map _) s ?_
    intro s
    refine Kit.w_c ?_
    refine Kit.w_I0 ?_
    refine Kit.w_neI ?_
    refine Kit.w_blE ?_
    refine Mi.r_if h ?_ ?_
    · intro hb h
      refine Kit.m_ret ?_
      refine Kit.w_c ?_
      exact Mi.k_retS s h rfl
    · intro hb h
      refine Kit.m_next ?_
      refine Kit.m_ret ?_
      refine Kit.w_cb ?_
      refine Kit.w_cons ?_
      refine Kit.w_lc ?_
      refine Kit.w_zipA ?_
      refine Kit.w_cons ?_
      refine Kit.w_sl ?_
      refine Mi.e_var s rfl ?_
      intro _ s
      refine Kit.w_ps ?_
      refine Kit.w_c ?_
      refine Kit.w_pi ?_
      refine Kit.w_po ?_
      obtain ⟨x15, e0, h⟩ := Mi.R.all_ofO h
      replace s := s.asTup e0
      refine Mi.o_slT rfl s ?_
      intro _ H s
      refine Kit.w_cons ?_
      refine Mi.e_var s rfl ?_
      intro _ s
      refine Kit.w_nil ?_
      refine Mi.i_zipTL s ?_
      intro a16 a17 s
      refine Mi.l_map2 (d1 := fun x : (Mi.D × Str) => x.1) (d2 := fun x : (Mi.D × Str) => (Mi.D.str x.2)) (by decide) (st0 := [(.ref a17, (Mi.E.d (Mi.D.tup (List.map Mi.D.str x13)))), (.ref a16, (Mi.E.d (Mi.D.tup (Mi.cutL x15 (some (1 : Int)) none))))]) (s0 := ()) (xs := (List.zip (Mi.cutL x15 (some (1 : Int)) none) x13)) Mi.D.bl (fun (z19 : Unit) => F) (by simpa only [List.map_id'] using (Mi.walk_zipTM (g := gg T) (a := a16) (b := a17) (f := (fun y => y)) (k := Mi.D.str) (xs := (Mi.cutL x15 (some (1 : Int)) none)) (ys := x13))) s h ?_ ?_
      · intro p20 acc x18 z19 σ H KK Nn s h hk
        refine Kit.w_call0 ?_
        refine Kit.w_cons ?_
        refine Mi.e_var s rfl ?_
        intro _ s
        refine Kit.w_cons ?_
        refine Mi.e_var s rfl ?_
        intro _ s
        refine Kit.w_cons ?_
        refine Mi.e_varS s rfl rfl ?_
        refine Kit.w_nil ?_
        refine Mi.c_callS (p_digests, x18.1, x18.2) s h (fun _ _ k => ⟨(.cons k.2.1 (.cons k.1 (.cons (Mi.val_of rfl) .nil))), k.2.2⟩) (.refl _) (fun _ => rfl) ?_
        intro r21 H s h
        exact hk _ () _ _ (s.hand ((Mi.E.d (Mi.D.bl r21))) rfl) h
      intro p23 y22 H s h
      replace s := Mi.k_freeze (.refl _) s
      refine Kit.w_nil ?_
      refine Mi.o_all s ?_
      intro s
      exact Mi.k_retS s h rfl
def m_law_bag (p_script : (List Int)) (p_k : Int) : Mi.R ((Int × Int × Int)) :=   (if (decide (p_k < ((p_script).length : Int))) = true then ((Mi.R.ofO (L2.atI p_script p_k)).bind fun x2 =>  Mi.R.ok x2) else ( Mi.R.ok (0 : Int))).bind fun (z1 : Int) =>  if (decide (((10 : Int) ^ ((18 : Int)).toNat) ≤ z1)) = true then ( Mi.R.ok (z1, z1, p_k)) else ( Mi.R.ok ((0 : Int), z1, p_k))
abbrev sp_law_bag (T : Txt w K mg) : Sp := Mi.SpNew (gg T) (α := (List Int) × Int) (β := (Int × Int × Int)) (fun a => [(Mi.E.d (Mi.D.seq (List.map Mi.D.int a.1))), (Mi.E.d (Mi.D.int a.2))]) (fun a => []) (fun a => m_law_bag a.1 a.2) (fun a r p => Mi.pt p (Mi.OC.lst [(Mi.D.int r.1), (Mi.D.int r.2.1), (Mi.D.int r.2.2)])) (fun a r => [])
theorem ok_law_bag (T : Txt w K mg) : FnOk P w K mg base CX0 1 T.f_law_bag.f T.f_law_bag.fd ["script", "k"] (sp_law_bag T) := by
  refine T.f_law_bag.F.ok sc_law_bag (fun vs H Q E h => ?_) (fun cdv A outer s0 H vs Q E hr h => ?_)
  · obtain ⟨a, e⟩ := Mi.c_lenN h
    exact e
  have hl : vs.length = 2 := by obtain ⟨a, e⟩ := Mi.c_lenN h; exact e
  obtain ⟨v0, v1, rfl⟩ := Mi.vs2 hl
  clear hl
  obtain ⟨⟨p_script, p_k⟩, F, Z, s, h⟩ := Mi.c_startN (n := 1) h
  replace s : Mi.Bd ⟨gg T, Z, H⟩ [some (Mi.E.d (Mi.D.seq (List.map Mi.D.int p_script))), some (Mi.E.d (Mi.D.int p_k)), none] [] (F) [some v0, some v1, none] H := s
  replace h : Mi.R.All (m_law_bag p_script p_k) _ _ := h
  unfold m_law_bag at h
  have nd := sc_law_bag.nd
  refine Kit.ok_body (σ := [some v0, some v1, none]) ((pss_cons (ps_set (i := 2) nd rfl (Or.inl rfl) pe_int)
    (pss_cons (ps_if (pt_cmpR op_lt (pv 1) (pe_callB (Kit.kLen K) (by rfl) T.z_len (by decide +kernel) (pa_cons (pv 0) pa_nil)) (nomark _))
    (pss_one (ps_set (i := 2) nd rfl (Or.inl rfl) (pe_callTy Kit.k_int (by rfl) T.z_int (by decide +kernel) (pa_cons (pe_ix (Kit.ixL K) (pv 0) (pv 1) (fun _ _ => rfl)) pa_nil))))
    pss_nil)
    (pss_cons (ps_if (pt_cmpR op_ge (pv 2) (pe_op op_pow pe_int pe_int) (nomark _))
    (pss_one (ps_ret (pe_lst (pa_cons (pv 2) (pa_cons (pv 2) (pa_cons (pv 1) pa_nil))))))
    pss_nil)
    (pss_one (ps_ret (pe_lst (pa_cons pe_int (pa_cons (pv 2) (pa_cons (pv 1) pa_nil)))))))))) rfl ?_
  try dsimp only [L2.cxOf, L2.Cx.nox]
  refine Kit.m_seq ?_
  refine Mi.m_asgK ?_
  refine Kit.w_c ?_
  refine Mi.k_asgS s (Mi.E.d (Mi.D.int (0 : Int))) rfl ?_
  intro σ s
  refine Kit.m_seq ?_
  refine Kit.m_if ?_
  refine Kit.w_test ?_
  refine Kit.w_op ?_
  refine Mi.e_varS s rfl rfl ?_
  refine Kit.w_cb ?_
  refine Kit.w_cons ?_
  refine Mi.e_var s rfl ?_
  intro _ s
  refine Kit.w_nil ?_
  refine Mi.o_lenQ (List.length_map _) s ?_
  intro s
  refine Kit.w_I0 ?_
  refine Kit.w_blE ?_
  refine Mi.j_if (fun (z1 : Int) => [some (Mi.E.d (Mi.D.seq (List.map Mi.D.int p_script))), some (Mi.E.d (Mi.D.int p_k)), some (Mi.E.d (Mi.D.int z1))]) (fun (z1 : Int) => F) h s ?_ ?_ ?_
  · intro hb h hk
    refine Mi.m_asgK ?_
    refine Kit.w_cb ?_
    refine Kit.w_cons ?_
    refine Kit.w_op ?_
    refine Mi.e_var s rfl ?_
    intro _ s
    refine Mi.e_varS s rfl rfl ?_
    obtain ⟨x2, e0, h⟩ := Mi.R.all_ofO h
    replace e0 := Mi.at_map (f := Mi.D.int) e0
    refine Mi.o_ixQ e0 s ?_
    intro v s
    obtain rfl := s.top rfl
    replace s := s.pop
    refine Kit.w_nil ?_
    refine Kit.w_int ?_
    refine Mi.k_asgS s (Mi.E.d (Mi.D.int x2)) rfl ?_
    intro σ s
    exact hk x2 _ _ s h
  · intro hb h hk
    refine Kit.m_next ?_
    exact hk (0 : Int) _ _ s h
  intro z1 σ H s h
  refine Kit.m_seq ?_
  refine Kit.m_if ?_
  refine Kit.w_test ?_
  refine Kit.w_op ?_
  refine Mi.e_varS s rfl rfl ?_
  refine Kit.w_op ?_
  refine Kit.w_c ?_
  refine Kit.w_c ?_
  refine Kit.w_I (show L2.CPow _ _ from ⟨by decide, by decide, by decide⟩) ?_
  refine Kit.w_I0 ?_
  refine Kit.w_blE ?_
  refine Mi.r_if h ?_ ?_
  · intro hb h
    refine Kit.m_ret ?_
    refine Kit.w_lst ?_
    refine Kit.w_cons ?_
    refine Mi.e_varS s rfl rfl ?_
    refine Kit.w_cons ?_
    refine Mi.e_varS s rfl rfl ?_
    refine Kit.w_cons ?_
    refine Mi.e_varS s rfl rfl ?_
    refine Kit.w_nil ?_
    refine Mi.o_newO [(Mi.D.int z1), (Mi.D.int z1), (Mi.D.int p_k)] s (Nat.le_of_ble_eq_true rfl) (fun _ _ k => ⟨(.cons (Mi.val_of rfl).dat (.cons (Mi.val_of rfl).dat (.cons (Mi.val_of rfl).dat .nil))), k⟩) ?_
    intro p3 H s
    exact Mi.k_retN s h
  · intro hb h
    refine Kit.m_next ?_
    refine Kit.m_ret ?_
    refine Kit.w_lst ?_
    refine Kit.w_cons ?_
    refine Kit.w_c ?_
    refine Kit.w_cons ?_
    refine Mi.e_varS s rfl rfl ?_
    refine Kit.w_cons ?_
    refine Mi.e_varS s rfl rfl ?_
    refine Kit.w_nil ?_
    refine Mi.o_newO [(Mi.D.int (0 : Int)), (Mi.D.int z1), (Mi.D.int p_k)] s (Nat.le_of_ble_eq_true rfl) (fun _ _ k => ⟨(.cons (Mi.val_of rfl).dat (.cons (Mi.val_of rfl).dat (.cons (Mi.val_of rfl).dat .nil))), k⟩) ?_
    intro p4 H s
    exact Mi.k_retN s h
def m_law_draw (p_bag : (Int × Int × Int)) (p_many : Int) : Mi.R (Int × (Int × Int × Int)) :=  if (decide (p_many < (1 : Int))) = true then ( Mi.R.ok ((0 : Int), p_bag)) else ( (if (decide (p_bag.1 = (0 : Int))) = true then ((Mi.R.ok ((((p_bag.2.1 * (48271 : Int)) + (p_bag.2.2 * (69621 : Int))) + (11 : Int)) % (2147483647 : Int))).bind fun x3 => (Mi.R.req (Mi.mulOk x3 x3)).bind fun _ =>   Mi.R.ok (((x3 * (2147483629 : Int)) + (((x3 * x3) + (p_bag.2.2 * (16807 : Int))) % (2147483629 : Int))), x3, p_bag.2.2)) else ( Mi.R.ok p_bag)).bind fun (z2 : (Int × Int × Int)) =>  (Mi.R.req (Mi.divOk p_many)).bind fun _ => (Mi.R.req (decide (0 < p_many))).bind fun _ => Mi.R.ok ((z2.1 % p_many), ((z2.1 / p_many), z2.2.1, z2.2.2)))
abbrev sp_law_draw (T : Txt w K mg) : Sp := Mi.SpOf (gg T) (α := Addr × (Int × Int × Int) × Int) (β := Int × (Int × Int × Int)) (fun a => [(Mi.E.adr a.1), (Mi.E.d (Mi.D.int a.2.2))]) (fun a => [Mi.pt a.1 (Mi.OC.lst [(Mi.D.int a.2.1.1), (Mi.D.int a.2.1.2.1), (Mi.D.int a.2.1.2.2)])]) (fun a => m_law_draw a.2.1 a.2.2) (fun a r => (Mi.E.d (Mi.D.int r.1))) (fun a r => [Mi.pt a.1 (Mi.OC.lst [(Mi.D.int r.2.1), (Mi.D.int r.2.2.1), (Mi.D.int r.2.2.2)])])
theorem ok_law_draw (T : Txt w K mg) : FnOk P w K mg base CX0 1 T.f_law_draw.f T.f_law_draw.fd ["bag", "many"] (sp_law_draw T) := by
  refine T.f_law_draw.F.ok sc_law_draw (fun vs H Q E h => ?_) (fun cdv A outer s0 H vs Q E hr h => ?_)
  · obtain ⟨a, e⟩ := Mi.c_len h
    exact e
  have hl : vs.length = 2 := by obtain ⟨a, e⟩ := Mi.c_len h; exact e
  obtain ⟨v0, v1, rfl⟩ := Mi.vs2 hl
  clear hl
  obtain ⟨⟨a1, p_bag, p_many⟩, F, Z, s, h⟩ := Mi.c_start (n := 2) h
  replace s : Mi.Bd ⟨gg T, Z, H⟩ [some (Mi.E.adr a1), some (Mi.E.d (Mi.D.int p_many)), none, none] [] (Mi.pt a1 (Mi.OC.lst [(Mi.D.int p_bag.1), (Mi.D.int p_bag.2.1), (Mi.D.int p_bag.2.2)]) :: F) [some v0, some v1, none, none] H := s
  replace h : Mi.R.All (m_law_draw p_bag p_many) _ _ := h
  unfold m_law_draw at h
  have nd := sc_law_draw.nd
  refine Kit.ok_body (σ := [some v0, some v1, none, none]) ((pss_cons (ps_if (pt_cmpR op_lt (pv 1) pe_int (nomark _))
    (pss_one (ps_ret pe_int))
    pss_nil)
    (pss_cons (ps_if (pt_cmpR op_eq (pe_ix (Kit.ixL K) (pv 0) pe_int (fun _ _ => rfl)) pe_int (nomark _))
    (pss_cons (ps_set (i := 2) nd rfl (Or.inl rfl) (pe_op op_mod (pe_callTy Kit.k_int (by rfl) T.z_int (by decide +kernel) (pa_cons (pe_op op_add (pe_op op_add (pe_op op_mul (pe_ix (Kit.ixL K) (pv 0) pe_int (fun _ _ => rfl)) pe_int) (pe_op op_mul (pe_ix (Kit.ixL K) (pv 0) pe_int (fun _ _ => rfl)) pe_int)) pe_int) pa_nil)) pe_int))
    (pss_cons (ps_asg (pe_op op_add (pe_op op_mul (pv 2) pe_int) (pe_op op_mod (pe_callTy Kit.k_int (by rfl) T.z_int (by decide +kernel) (pa_cons (pe_op op_add (pe_op op_mul (pv 2) (pv 2)) (pe_op op_mul (pe_ix (Kit.ixL K) (pv 0) pe_int (fun _ _ => rfl)) pe_int)) pa_nil)) pe_int)) (pg_sub (pv 0) pe_int set_list))
    (pss_one (ps_asg (pv 2) (pg_sub (pv 0) pe_int set_list)))))
    pss_nil)
    (pss_cons (ps_set (i := 3) nd rfl (Or.inl rfl) (pe_ix (Kit.ixL K) (pv 0) pe_int (fun _ _ => rfl)))
    (pss_cons (ps_asg (pe_op op_fdivW (pv 3) (pv 1)) (pg_sub (pv 0) pe_int set_list))
    (pss_one (ps_ret (pe_op op_mod (pe_callTy Kit.k_int (by rfl) T.z_int (by decide +kernel) (pa_cons (pv 3) pa_nil)) (pv 1))))))))) rfl ?_
  try dsimp only [L2.cxOf, L2.Cx.nox]
  refine Kit.m_seq ?_
  refine Kit.m_if ?_
  refine Kit.w_test ?_
  refine Kit.w_op ?_
  refine Mi.e_varS s rfl rfl ?_
  refine Kit.w_c ?_
  refine Kit.w_I0 ?_
  refine Kit.w_blE ?_
  refine Mi.r_if h ?_ ?_
  · intro hb h
    refine Kit.m_ret ?_
    refine Kit.w_c ?_
    exact Mi.k_retS s h rfl
  · intro hb h
    refine Kit.m_next ?_
    refine Kit.m_seq ?_
    refine Kit.m_if ?_
    refine Kit.w_test ?_
    refine Kit.w_op ?_
    refine Kit.w_op ?_
    refine Mi.e_varS s rfl rfl ?_
    refine Kit.w_c ?_
    refine Mi.o_ixO (Mi.pk0) (d := (Mi.D.int p_bag.1)) (by rfl) s ?_
    intro v s
    obtain rfl := s.top rfl
    replace s := s.pop
    refine Kit.w_c ?_
    refine Kit.w_eqI ?_
    refine Kit.w_blE ?_
    refine Mi.j_if (fun (z2 : (Int × Int × Int)) => [some (Mi.E.adr a1), some (Mi.E.d (Mi.D.int p_many)), none, none]) (fun (z2 : (Int × Int × Int)) => Mi.pt a1 (Mi.OC.lst [(Mi.D.int z2.1), (Mi.D.int z2.2.1), (Mi.D.int z2.2.2)]) :: F) h s ?_ ?_ ?_
    · intro hb h hk
      refine Kit.m_seq ?_
      refine Mi.m_asgK ?_
      refine Kit.w_op ?_
      refine Kit.w_cb ?_
      refine Kit.w_cons ?_
      refine Kit.w_op ?_
      refine Kit.w_op ?_
      refine Kit.w_op ?_
      refine Kit.w_op ?_
      refine Mi.e_varS s rfl rfl ?_
      refine Kit.w_c ?_
      refine Mi.o_ixO (Mi.pk0) (d := (Mi.D.int p_bag.2.1)) (by rfl) s ?_
      intro v s
      obtain rfl := s.top rfl
      replace s := s.pop
      refine Kit.w_c ?_
      refine Kit.w_I (show L2.CMul _ _ from .inr ⟨by decide, by decide⟩) ?_
      refine Kit.w_op ?_
      refine Kit.w_op ?_
      refine Mi.e_varS s rfl rfl ?_
      refine Kit.w_c ?_
      refine Mi.o_ixO (Mi.pk0) (d := (Mi.D.int p_bag.2.2)) (by rfl) s ?_
      intro v s
      obtain rfl := s.top rfl
      replace s := s.pop
      refine Kit.w_c ?_
      refine Kit.w_I (show L2.CMul _ _ from .inr ⟨by decide, by decide⟩) ?_
      refine Kit.w_I0 ?_
      refine Kit.w_c ?_
      refine Kit.w_I0 ?_
      refine Kit.w_nil ?_
      refine Kit.w_int ?_
      refine Kit.w_c ?_
      refine Kit.w_I (show (0 : Int) < _ by decide) ?_
      refine Mi.k_asgGS (fun y : Int => (Mi.E.d (Mi.D.int y))) (fun _ => rfl) (((((p_bag.2.1 * (48271 : Int)) + (p_bag.2.2 * (69621 : Int))) + (11 : Int)) % (2147483647 : Int))) s h ?_
      intro x3 σ s h
      refine Kit.m_seq ?_
      refine Kit.m_asgG ?_
      refine Kit.w_op ?_
      refine Kit.w_op ?_
      refine Mi.e_varS s rfl rfl ?_
      refine Kit.w_c ?_
      refine Kit.w_I (show L2.CMul _ _ from .inr ⟨by decide, by decide⟩) ?_
      refine Kit.w_op ?_
      refine Kit.w_cb ?_
      refine Kit.w_cons ?_
      refine Kit.w_op ?_
      refine Kit.w_op ?_
      refine Mi.e_varS s rfl rfl ?_
      refine Mi.e_varS s rfl rfl ?_
      obtain ⟨hc, h⟩ := Mi.R.all_req h
      refine Kit.w_I (Mi.mulOk_of hc) ?_
      refine Kit.w_op ?_
      refine Kit.w_op ?_
      refine Mi.e_varS s rfl rfl ?_
      refine Kit.w_c ?_
      refine Mi.o_ixO (Mi.pk0) (d := (Mi.D.int p_bag.2.2)) (by rfl) s ?_
      intro v s
      obtain rfl := s.top rfl
      replace s := s.pop
      refine Kit.w_c ?_
      refine Kit.w_I (show L2.CMul _ _ from .inr ⟨by decide, by decide⟩) ?_
      refine Kit.w_I0 ?_
      refine Kit.w_nil ?_
      refine Kit.w_int ?_
      refine Kit.w_c ?_
      refine Kit.w_I (show (0 : Int) < _ by decide) ?_
      refine Kit.w_I0 ?_
      replace s := s.hand (Mi.E.d (Mi.D.int ((x3 * (2147483629 : Int)) + (((x3 * x3) + (p_bag.2.2 * (16807 : Int))) % (2147483629 : Int))))) rfl
      refine Mi.w_gsub ?_
      refine Mi.e_varS s rfl rfl ?_
      refine Kit.w_c ?_
      refine Mi.o_setL (j := 0) (ds' := [(Mi.D.int ((x3 * (2147483629 : Int)) + (((x3 * x3) + (p_bag.2.2 * (16807 : Int))) % (2147483629 : Int)))), (Mi.D.int p_bag.2.1), (Mi.D.int p_bag.2.2)]) (Mi.pk0) rfl rfl s ?_
      intro H s
      refine Kit.m_asgG ?_
      refine Mi.e_varS s rfl rfl ?_
      replace s := s.hand (Mi.E.d (Mi.D.int x3)) rfl
      refine Mi.w_gsub ?_
      refine Mi.e_varS s rfl rfl ?_
      refine Kit.w_c ?_
      refine Mi.o_setL (j := 1) (ds' := [(Mi.D.int ((x3 * (2147483629 : Int)) + (((x3 * x3) + (p_bag.2.2 * (16807 : Int))) % (2147483629 : Int)))), (Mi.D.int x3), (Mi.D.int p_bag.2.2)]) (Mi.pk0) rfl rfl s ?_
      intro H s
      exact hk (((x3 * (2147483629 : Int)) + (((x3 * x3) + (p_bag.2.2 * (16807 : Int))) % (2147483629 : Int))), x3, p_bag.2.2) _ _ (s.less (.same (.same (.no (.same .nil))))) h
    · intro hb h hk
      refine Kit.m_next ?_
      exact hk p_bag _ _ s h
    intro z2 σ H s h
    refine Kit.m_seq ?_
    refine Mi.m_asgK ?_
    refine Kit.w_op ?_
    refine Mi.e_varS s rfl rfl ?_
    refine Kit.w_c ?_
    refine Mi.o_ixO (Mi.pk0) (d := (Mi.D.int z2.1)) (by rfl) s ?_
    intro v s
    obtain rfl := s.top rfl
    replace s := s.pop
    refine Mi.k_asgS s (Mi.E.d (Mi.D.int z2.1)) rfl ?_
    intro σ s
    refine Kit.m_seq ?_
    refine Kit.m_asgG ?_
    refine Kit.w_op ?_
    refine Mi.e_varS s rfl rfl ?_
    refine Mi.e_varS s rfl rfl ?_
    obtain ⟨hc, h⟩ := Mi.R.all_req h
    refine Kit.w_I (Mi.divOk_of hc) ?_
    replace s := s.hand (Mi.E.d (Mi.D.int (z2.1 / p_many))) rfl
    refine Mi.w_gsub ?_
    refine Mi.e_varS s rfl rfl ?_
    refine Kit.w_c ?_
    refine Mi.o_setL (j := 0) (ds' := [(Mi.D.int (z2.1 / p_many)), (Mi.D.int z2.2.1), (Mi.D.int z2.2.2)]) (Mi.pk0) rfl rfl s ?_
    intro H s
    refine Kit.m_ret ?_
    refine Kit.w_op ?_
    refine Kit.w_cb ?_
    refine Kit.w_cons ?_
    refine Mi.e_varS s rfl rfl ?_
    refine Kit.w_nil ?_
    refine Kit.w_int ?_
    refine Mi.e_varS s rfl rfl ?_
    obtain ⟨hc, h⟩ := Mi.R.all_req h
    refine Kit.w_I (of_decide_eq_true hc) ?_
    exact Mi.k_retS s h rfl
def m_law_spoilt : Nat → (Int × Int × Int) → Mi.D → Mi.D → Mi.R (Mi.D × (Int × Int × Int))
  | 0, _, _, _ => Mi.R.fail
  | n + 1, p_bag, p_value, p_odd => (if (!(p_value).isTup) = true then Mi.R.ok (true, p_bag) else (Mi.R.ofO (Mi.D.len? p_value)).bind fun x2 => (if (decide (x2 = (0 : Int))) = true then Mi.R.ok (true, p_bag) else (m_law_draw p_bag (5 : Int)).bind fun r3 => Mi.R.ok ((decide (r3.1 = (0 : Int))), r3.2)).bind fun y5 => Mi.R.ok (y5.1, y5.2)).bind fun y7 => if y7.1 = true then ( Mi.R.ok (p_odd, y7.2)) else ((Mi.R.ofO (Mi.D.len? p_value)).bind fun x8 => (m_law_draw y7.2 x8).bind fun r9 => (m_law_draw r9.2 (8 : Int)).bind fun r10 =>  if (decide (r10.1 = (0 : Int))) = true then ((Mi.R.ofO (Mi.D.tup? p_value)).bind fun x11 => (Mi.R.ofO (Mi.D.tup? p_value)).bind fun x12 => (Mi.R.req (Mi.fits ((Mi.cutL x11 none (some r9.1))).length ((Mi.cutL x12 (some (r9.1 + (1 : Int))) none)).length)).bind fun _ => Mi.R.ok ((Mi.D.tup ((Mi.cutL x11 none (some r9.1)) ++ (Mi.cutL x12 (some (r9.1 + (1 : Int))) none))), r10.2)) else ( if (decide (r10.1 = (1 : Int))) = true then ((Mi.R.ofO (Mi.D.tup? p_value)).bind fun x13 => (Mi.R.req (Mi.fits ((Mi.cutL x13 none (some r9.1))).length ([p_odd]).length)).bind fun _ => (Mi.R.ofO (Mi.D.tup? p_value)).bind fun x14 => (Mi.R.req (Mi.fits (((Mi.cutL x13 none (some r9.1)) ++ [p_odd])).length ((Mi.cutL x14 (some r9.1) none)).length)).bind fun _ => Mi.R.ok ((Mi.D.tup (((Mi.cutL x13 none (some r9.1)) ++ [p_odd]) ++ (Mi.cutL x14 (some r9.1) none))), r10.2)) else ( if (decide (r10.1 = (2 : Int))) = true then ((Mi.R.ofO (Mi.D.tup? p_value)).bind fun x15 => (Mi.R.ofO (Mi.D.tup? p_value)).bind fun x16 => (Mi.R.req (Mi.fits ((Mi.cutL x15 none (some r9.1))).length ((Mi.cutL x16 (some r9.1) (some (r9.1 + (1 : Int))))).length)).bind fun _ => (Mi.R.ofO (Mi.D.tup? p_value)).bind fun x17 => (Mi.R.req (Mi.fits (((Mi.cutL x15 none (some r9.1)) ++ (Mi.cutL x16 (some r9.1) (some (r9.1 + (1 : Int)))))).length ((Mi.cutL x17 (some r9.1) none)).length)).bind fun _ => Mi.R.ok ((Mi.D.tup (((Mi.cutL x15 none (some r9.1)) ++ (Mi.cutL x16 (some r9.1) (some (r9.1 + (1 : Int))))) ++ (Mi.cutL x17 (some r9.1) none))), r10.2)) else ( if (decide (r10.1 = (3 : Int))) = true then ((Mi.R.ofO (Mi.D.tup? p_value)).bind fun x18 => (Mi.R.ofO (Mi.D.tup? p_value)).bind fun x19 => (Mi.R.req (Mi.fits ((Mi.cutL x18 none (some r9.1))).length ((Mi.cutL x19 (some (r9.1 + (1 : Int))) (some (r9.1 + (2 : Int))))).length)).bind fun _ => (Mi.R.ofO (Mi.D.tup? p_value)).bind fun x20 => (Mi.R.req (Mi.fits (((Mi.cutL x18 none (some r9.1)) ++ (Mi.cutL x19 (some (r9.1 + (1 : Int))) (some (r9.1 + (2 : Int)))))).length ((Mi.cutL x20 (some r9.1) (some (r9.1 + (1 : Int))))).length)).bind fun _ => (Mi.R.ofO (Mi.D.tup? p_value)).bind fun x21 => (Mi.R.req (Mi.fits ((((Mi.cutL x18 none (some r9.1)) ++ (Mi.cutL x19 (some (r9.1 + (1 : Int))) (some (r9.1 + (2 : Int))))) ++ (Mi.cutL x20 (some r9.1) (some (r9.1 + (1 : Int)))))).length ((Mi.cutL x21 (some (r9.1 + (2 : Int))) none)).length)).bind fun _ => Mi.R.ok ((Mi.D.tup ((((Mi.cutL x18 none (some r9.1)) ++ (Mi.cutL x19 (some (r9.1 + (1 : Int))) (some (r9.1 + (2 : Int))))) ++ (Mi.cutL x20 (some r9.1) (some (r9.1 + (1 : Int))))) ++ (Mi.cutL x21 (some (r9.1 + (2 : Int))) none))), r10.2)) else ((Mi.R.ofO (Mi.D.tup? p_value)).bind fun x22 => (Mi.R.ofO (Mi.D.at? p_value r9.1)).bind fun x23 => (m_law_spoilt n r10.2 x23 p_odd).bind fun r24 => (Mi.R.req (Mi.fits ((Mi.cutL x22 none (some r9.1))).length ([r24.1]).length)).bind fun _ => (Mi.R.ofO (Mi.D.tup? p_value)).bind fun x25 => (Mi.R.req (Mi.fits (((Mi.cutL x22 none (some r9.1)) ++ [r24.1])).length ((Mi.cutL x25 (some (r9.1 + (1 : Int))) none)).length)).bind fun _ => Mi.R.ok ((Mi.D.tup (((Mi.cutL x22 none (some r9.1)) ++ [r24.1]) ++ (Mi.cutL x25 (some (r9.1 + (1 : Int))) none))), r24.2))))))
abbrev sp_law_spoilt (T : Txt w K mg) (n : Nat) : Sp := Mi.SpOf (gg T) (α := Addr × (Int × Int × Int) × Mi.D × Mi.D) (β := Mi.D × (Int × Int × Int)) (fun a => [(Mi.E.adr a.1), (Mi.E.d a.2.2.1), (Mi.E.d a.2.2.2)]) (fun a => [Mi.pt a.1 (Mi.OC.lst [(Mi.D.int a.2.1.1), (Mi.D.int a.2.1.2.1), (Mi.D.int a.2.1.2.2)])]) (fun a => m_law_spoilt n a.2.1 a.2.2.1 a.2.2.2) (fun a r => (Mi.E.d r.1)) (fun a r => [Mi.pt a.1 (Mi.OC.lst [(Mi.D.int r.2.1), (Mi.D.int r.2.2.1), (Mi.D.int r.2.2.2)])])
theorem ok_law_spoilt (T : Txt w K mg) : ∀ n, FnOk P w K mg base CX0 (2 + n) T.f_law_spoilt.f T.f_law_spoilt.fd ["bag", "value", "odd"] (sp_law_spoilt T n) := by
  intro n
  induction n with
  | zero => exact Mi.fuel0 T.f_law_spoilt.F sc_law_spoilt (fun vs H Q E h => by obtain ⟨a, e⟩ := Mi.c_len h; exact e) (fun a => rfl)
  | succ n G_law_spoilt =>
    have G_law_draw := ok_law_draw (P := P) (w := w) (base := base) T
    refine T.f_law_spoilt.F.ok sc_law_spoilt (fun vs H Q E h => ?_) (fun cdv A outer s0 H vs Q E hr h => ?_)
    · obtain ⟨a, e⟩ := Mi.c_len h
      exact e
    have hl : vs.length = 3 := by obtain ⟨a, e⟩ := Mi.c_len h; exact e
    obtain ⟨v0, v1, v2, rfl⟩ := Mi.vs3 hl
    clear hl
    obtain ⟨⟨a1, p_bag, p_value, p_odd⟩, F, Z, s, h⟩ := Mi.c_start (n := 2) h
    replace s : Mi.Bd ⟨gg T, Z, H⟩ [some (Mi.E.adr a1), some (Mi.E.d p_value), some (Mi.E.d p_odd), none, none] [] (Mi.pt a1 (Mi.OC.lst [(Mi.D.int p_bag.1), (Mi.D.int p_bag.2.1), (Mi.D.int p_bag.2.2)]) :: F) [some v0, some v1, some v2, none, none] H := s
    replace h : Mi.R.All (m_law_spoilt (n + 1) p_bag p_value p_odd) _ _ := h
    unfold m_law_spoilt at h
    have nd := sc_law_spoilt.nd
    have hr1 : Room 1 _ := hr.mono (by show 1 ≤ 2 + n; omega)
    have hrn : Room (2 + n) _ := hr
    refine Kit.ok_body (σ := [some v0, some v1, some v2, none, none]) ((pss_cons (ps_if (PW.pt (pw_or (pt_not (pt_val (pe_callB (Kit.kIsi K) (by rfl) T.z_isinstance (by decide +kernel) (pa_cons (pv 1) (pa_cons (pe_bltn (v := .ty "tuple") (by rfl) T.z_tuple (by decide +kernel) rfl) pa_nil))))) (pw_or (pt_cmpR op_eq (pe_callB (Kit.kLen K) (by rfl) T.z_len (by decide +kernel) (pa_cons (pv 1) pa_nil)) pe_int (nomark _)) (pw_or1 (pt_cmpR op_eq (pe_call G_law_draw hr1 (by rfl) T.f_law_draw.g T.f_law_draw.F.kp T.f_law_draw.b .nil pass0 (pa_cons (pv 0) (pa_cons pe_int pa_nil))) pe_int (nomark _))))))
      (pss_one (ps_ret (pv 2)))
      pss_nil)
      (pss_cons (ps_set (i := 3) nd rfl (Or.inl rfl) (pe_call G_law_draw hr1 (by rfl) T.f_law_draw.g T.f_law_draw.F.kp T.f_law_draw.b .nil pass0 (pa_cons (pv 0) (pa_cons (pe_callB (Kit.kLen K) (by rfl) T.z_len (by decide +kernel) (pa_cons (pv 1) pa_nil)) pa_nil))))
      (pss_cons (ps_set (i := 4) nd rfl (Or.inl rfl) (pe_call G_law_draw hr1 (by rfl) T.f_law_draw.g T.f_law_draw.F.kp T.f_law_draw.b .nil pass0 (pa_cons (pv 0) (pa_cons pe_int pa_nil))))
      (pss_cons (ps_if (pt_cmpR op_eq (pv 4) pe_int (nomark _))
      (pss_one (ps_ret (pe_op (Kit.kCat K) (pe_slice (Kit.kSlT K) (pv 1) po_none (po_some (pv 3))) (pe_slice (Kit.kSlT K) (pv 1) (po_some (pe_op op_add (pv 3) pe_int)) po_none))))
      pss_nil)
      (pss_cons (ps_if (pt_cmpR op_eq (pv 4) pe_int (nomark _))
      (pss_one (ps_ret (pe_op (Kit.kCat K) (pe_op (Kit.kCat K) (pe_slice (Kit.kSlT K) (pv 1) po_none (po_some (pv 3))) (pe_tup (pa_cons (pv 2) pa_nil))) (pe_slice (Kit.kSlT K) (pv 1) (po_some (pv 3)) po_none))))
      pss_nil)
      (pss_cons (ps_if (pt_cmpR op_eq (pv 4) pe_int (nomark _))
      (pss_one (ps_ret (pe_op (Kit.kCat K) (pe_op (Kit.kCat K) (pe_slice (Kit.kSlT K) (pv 1) po_none (po_some (pv 3))) (pe_slice (Kit.kSlT K) (pv 1) (po_some (pv 3)) (po_some (pe_op op_add (pv 3) pe_int)))) (pe_slice (Kit.kSlT K) (pv 1) (po_some (pv 3)) po_none))))
      pss_nil)
      (pss_cons (ps_if (pt_cmpR op_eq (pv 4) pe_int (nomark _))
      (pss_one (ps_ret (pe_op (Kit.kCat K) (pe_op (Kit.kCat K) (pe_op (Kit.kCat K) (pe_slice (Kit.kSlT K) (pv 1) po_none (po_some (pv 3))) (pe_slice (Kit.kSlT K) (pv 1) (po_some (pe_op op_add (pv 3) pe_int)) (po_some (pe_op op_add (pv 3) pe_int)))) (pe_slice (Kit.kSlT K) (pv 1) (po_some (pv 3)) (po_some (pe_op op_add (pv 3) pe_int)))) (pe_slice (Kit.kSlT K) (pv 1) (po_some (pe_op op_add (pv 3) pe_int)) po_none))))
      pss_nil)
      (pss_one (ps_ret (pe_op (Kit.kCat K) (pe_op (Kit.kCat K) (pe_slice (Kit.kSlT K) (pv 1) po_none (po_some (pv 3))) (pe_tup (pa_cons (pe_call G_law_spoilt hrn (by rfl) T.f_law_spoilt.g T.f_law_spoilt.F.kp T.f_law_spoilt.b .nil pass0 (pa_cons (pv 0) (pa_cons (pe_ix (Kit.ixT K) (pv 1) (pv 3) (fun _ _ => rfl)) (pa_cons (pv 2) pa_nil)))) pa_nil))) (pe_slice (Kit.kSlT K) (pv 1) (po_some (pe_op op_add (pv 3) pe_int)) po_none)))))))))))) rfl ?_
    try dsimp only [L2.cxOf, L2.Cx.nox]
    refine Kit.m_seq ?_
    refine Kit.m_if ?_
    refine Kit.w_or ?_
    refine Kit.w_not ?_
    refine Kit.w_B ?_
    refine Kit.w_cb ?_
    refine Kit.w_cons ?_
    refine Mi.e_var s rfl ?_
    intro _ s
    refine Kit.w_cons ?_
    refine Kit.w_c ?_
    refine Kit.w_nil ?_
    refine Mi.o_isiTup s ?_
    intro s
    refine Kit.w_blE ?_
    refine Mi.jt_orE (s0 := p_bag) (fun (z6 : (Int × Int × Int)) => Mi.pt a1 (Mi.OC.lst [(Mi.D.int z6.1), (Mi.D.int z6.2.1), (Mi.D.int z6.2.2)]) :: F) h s ?_ ?_
    · intro hb h hk
      refine Kit.w_or ?_
      refine Kit.w_test ?_
      refine Kit.w_op ?_
      refine Kit.w_cb ?_
      refine Kit.w_cons ?_
      refine Mi.e_var s rfl ?_
      intro _ s
      refine Kit.w_nil ?_
      obtain ⟨x2, e0, h⟩ := Mi.R.all_ofO h
      refine Mi.o_lenD e0 s ?_
      intro s
      refine Kit.w_c ?_
      refine Kit.w_eqI ?_
      refine Kit.w_blE ?_
      refine Mi.jt_orE (s0 := p_bag) (fun (z4 : (Int × Int × Int)) => Mi.pt a1 (Mi.OC.lst [(Mi.D.int z4.1), (Mi.D.int z4.2.1), (Mi.D.int z4.2.2)]) :: F) h s ?_ ?_
      · intro hb h hk
        refine Kit.w_test ?_
        refine Kit.w_op ?_
        refine Kit.w_call0 ?_
        refine Kit.w_cons ?_
        refine Mi.e_varS s rfl rfl ?_
        refine Kit.w_cons ?_
        refine Kit.w_c ?_
        refine Kit.w_nil ?_
        refine Mi.c_callS (a1, p_bag, (5 : Int)) s h (fun _ _ k => ⟨(.cons (Mi.val_of rfl) (.cons (Mi.val_of rfl) .nil)), k⟩) (Mi.pk0) (fun _ => rfl) ?_
        intro r3 H s h
        refine Kit.w_c ?_
        refine Kit.w_eqI ?_
        refine Kit.w_blE ?_
        exact hk ((decide (r3.1 = (0 : Int))), r3.2) _ s h
      intro y5 H s h
      exact hk (y5.1, y5.2) _ s h
    intro y7 H s h
    refine Mi.r_if h ?_ ?_
    · intro hb h
      refine Kit.m_ret ?_
      refine Mi.e_var s rfl ?_
      intro _ s
      exact Mi.k_ret s h
    · intro hb h
      refine Kit.m_next ?_
      refine Kit.m_seq ?_
      refine Mi.m_asgK ?_
      refine Kit.w_call0 ?_
      refine Kit.w_cons ?_
      refine Mi.e_varS s rfl rfl ?_
      refine Kit.w_cons ?_
      refine Kit.w_cb ?_
      refine Kit.w_cons ?_
      refine Mi.e_var s rfl ?_
      intro _ s
      refine Kit.w_nil ?_
      obtain ⟨x8, e0, h⟩ := Mi.R.all_ofO h
      refine Mi.o_lenD e0 s ?_
      intro s
      refine Kit.w_nil ?_
      refine Mi.c_callS (a1, y7.2, x8) s h (fun _ _ k => ⟨(.cons (Mi.val_of rfl) (.cons (Mi.val_of rfl) .nil)), k⟩) (Mi.pk0) (fun _ => rfl) ?_
      intro r9 H s h
      refine Mi.k_asgS s (Mi.E.d (Mi.D.int r9.1)) rfl ?_
      intro σ s
      refine Kit.m_seq ?_
      refine Mi.m_asgK ?_
      refine Kit.w_call0 ?_
      refine Kit.w_cons ?_
      refine Mi.e_varS s rfl rfl ?_
      refine Kit.w_cons ?_
      refine Kit.w_c ?_
      refine Kit.w_nil ?_
      refine Mi.c_callS (a1, r9.2, (8 : Int)) s h (fun _ _ k => ⟨(.cons (Mi.val_of rfl) (.cons (Mi.val_of rfl) .nil)), k⟩) (Mi.pk0) (fun _ => rfl) ?_
      intro r10 H s h
      refine Mi.k_asgS s (Mi.E.d (Mi.D.int r10.1)) rfl ?_
      intro σ s
      refine Kit.m_seq ?_
      refine Kit.m_if ?_
      refine Kit.w_test ?_
      refine Kit.w_op ?_
      refine Mi.e_varS s rfl rfl ?_
      refine Kit.w_c ?_
      refine Kit.w_eqI ?_
      refine Kit.w_blE ?_
      refine Mi.r_if h ?_ ?_
      · intro hb h
        refine Kit.m_ret ?_
        refine Kit.w_op ?_
        refine Kit.w_sl ?_
        refine Mi.e_var s rfl ?_
        intro _ s
        refine Kit.w_po ?_
        refine Kit.w_ps ?_
        refine Mi.e_varS s rfl rfl ?_
        refine Kit.w_pi ?_
        obtain ⟨x11, e0, h⟩ := Mi.R.all_ofO h
        replace s := s.asTup e0
        refine Mi.o_slT rfl s ?_
        intro _ H s
        refine Kit.w_sl ?_
        refine Mi.e_var s rfl ?_
        intro _ s
        refine Kit.w_ps ?_
        refine Kit.w_op ?_
        refine Mi.e_varS s rfl rfl ?_
        refine Kit.w_c ?_
        refine Kit.w_I0 ?_
        refine Kit.w_pi ?_
        refine Kit.w_po ?_
        obtain ⟨x12, e0, h⟩ := Mi.R.all_ofO h
        replace s := s.asTup e0
        refine Mi.o_slT rfl s ?_
        intro _ H s
        obtain ⟨hc, h⟩ := Mi.R.all_req h
        refine Mi.o_catT hc rfl s ?_
        intro _ H s
        exact Mi.k_ret s h
      · intro hb h
        refine Kit.m_next ?_
        refine Kit.m_seq ?_
        refine Kit.m_if ?_
        refine Kit.w_test ?_
        refine Kit.w_op ?_
        refine Mi.e_varS s rfl rfl ?_
        refine Kit.w_c ?_
        refine Kit.w_eqI ?_
        refine Kit.w_blE ?_
        refine Mi.r_if h ?_ ?_
        · intro hb h
          refine Kit.m_ret ?_
          refine Kit.w_op ?_
          refine Kit.w_op ?_
          refine Kit.w_sl ?_
          refine Mi.e_var s rfl ?_
          intro _ s
          refine Kit.w_po ?_
          refine Kit.w_ps ?_
          refine Mi.e_varS s rfl rfl ?_
          refine Kit.w_pi ?_
          obtain ⟨x13, e0, h⟩ := Mi.R.all_ofO h
          replace s := s.asTup e0
          refine Mi.o_slT rfl s ?_
          intro _ H s
          refine Kit.w_tup ?_
          refine Kit.w_cons ?_
          refine Mi.e_var s rfl ?_
          intro _ s
          refine Kit.w_nil ?_
          refine Mi.o_newT [p_odd] s (Nat.le_of_ble_eq_true rfl) (fun _ _ k => ⟨(.cons k.1.dat .nil), k.2⟩) ?_
          intro _ H s
          obtain ⟨hc, h⟩ := Mi.R.all_req h
          refine Mi.o_catT hc rfl s ?_
          intro _ H s
          refine Kit.w_sl ?_
          refine Mi.e_var s rfl ?_
          intro _ s
          refine Kit.w_ps ?_
          refine Mi.e_varS s rfl rfl ?_
          refine Kit.w_pi ?_
          refine Kit.w_po ?_
          obtain ⟨x14, e0, h⟩ := Mi.R.all_ofO h
          replace s := s.asTup e0
          refine Mi.o_slT rfl s ?_
          intro _ H s
          obtain ⟨hc, h⟩ := Mi.R.all_req h
          refine Mi.o_catT hc rfl s ?_
          intro _ H s
          exact Mi.k_ret s h
        · intro hb h
          refine Kit.m_next ?_
          refine Kit.m_seq ?_
          refine Kit.m_if ?_
          refine Kit.w_test ?_
          refine Kit.w_op ?_
          refine Mi.e_varS s rfl rfl ?_
          refine Kit.w_c ?_
          refine Kit.w_eqI ?_
          refine Kit.w_blE ?_
          refine Mi.r_if h ?_ ?_
          · intro hb h
            refine Kit.m_ret ?_
            refine Kit.w_op ?_
            refine Kit.w_op ?_
            refine Kit.w_sl ?_
            refine Mi.e_var s rfl ?_
            intro _ s
            refine Kit.w_po ?_
            refine Kit.w_ps ?_
            refine Mi.e_varS s rfl rfl ?_
            refine Kit.w_pi ?_
            obtain ⟨x15, e0, h⟩ := Mi.R.all_ofO h
            replace s := s.asTup e0
            refine Mi.o_slT rfl s ?_
            intro _ H s
            refine Kit.w_sl ?_
            refine Mi.e_var s rfl ?_
            intro _ s
            refine Kit.w_ps ?_
            refine Mi.e_varS s rfl rfl ?_
            refine Kit.w_pi ?_
            refine Kit.w_ps ?_
            refine Kit.w_op ?_
            refine Mi.e_varS s rfl rfl ?_
            refine Kit.w_c ?_
            refine Kit.w_I0 ?_
            refine Kit.w_pi ?_
            obtain ⟨x16, e0, h⟩ := Mi.R.all_ofO h
            replace s := s.asTup e0
            refine Mi.o_slT rfl s ?_
            intro _ H s
            obtain ⟨hc, h⟩ := Mi.R.all_req h
            refine Mi.o_catT hc rfl s ?_
            intro _ H s
            refine Kit.w_sl ?_
            refine Mi.e_var s rfl ?_
            intro _ s
            refine Kit.w_ps ?_
            refine Mi.e_varS s rfl rfl ?_
            refine Kit.w_pi ?_
            refine Kit.w_po ?_
            obtain ⟨x17, e0, h⟩ := Mi.R.all_ofO h
            replace s := s.asTup e0
            refine Mi.o_slT rfl s ?_
            intro _ H s
            obtain ⟨hc, h⟩ := Mi.R.all_req h
            refine Mi.o_catT hc rfl s ?_
            intro _ H s
            exact Mi.k_ret s h
          · intro hb h
            refine Kit.m_next ?_
            refine Kit.m_seq ?_
            refine Kit.m_if ?_
            refine Kit.w_test ?_
            refine Kit.w_op ?_
            refine Mi.e_varS s rfl rfl ?_
            refine Kit.w_c ?_
            refine Kit.w_eqI ?_
            refine Kit.w_blE ?_
            refine Mi.r_if h ?_ ?_
            · intro hb h
              refine Kit.m_ret ?_
              refine Kit.w_op ?_
              refine Kit.w_op ?_
              refine Kit.w_op ?_
              refine Kit.w_sl ?_
              refine Mi.e_var s rfl ?_
              intro _ s
              refine Kit.w_po ?_
              refine Kit.w_ps ?_
              refine Mi.e_varS s rfl rfl ?_
              refine Kit.w_pi ?_
              obtain ⟨x18, e0, h⟩ := Mi.R.all_ofO h
              replace s := s.asTup e0
              refine Mi.o_slT rfl s ?_
              intro _ H s
              refine Kit.w_sl ?_
              refine Mi.e_var s rfl ?_
              intro _ s
              refine Kit.w_ps ?_
              refine Kit.w_op ?_
              refine Mi.e_varS s rfl rfl ?_
              refine Kit.w_c ?_
              refine Kit.w_I0 ?_
              refine Kit.w_pi ?_
              refine Kit.w_ps ?_
              refine Kit.w_op ?_
              refine Mi.e_varS s rfl rfl ?_
              refine Kit.w_c ?_
              refine Kit.w_I0 ?_
              refine Kit.w_pi ?_
              obtain ⟨x19, e0, h⟩ := Mi.R.all_ofO h
              replace s := s.asTup e0
              refine Mi.o_slT rfl s ?_
              intro _ H s
              obtain ⟨hc, h⟩ := Mi.R.all_req h
              refine Mi.o_catT hc rfl s ?_
              intro _ H s
              refine Kit.w_sl ?_
              refine Mi.e_var s rfl ?_
              intro _ s
              refine Kit.w_ps ?_
              refine Mi.e_varS s rfl rfl ?_
              refine Kit.w_pi ?_
              refine Kit.w_ps ?_
              refine Kit.w_op ?_
              refine Mi.e_varS s rfl rfl ?_
              refine Kit.w_c ?_
              refine Kit.w_I0 ?_
              refine Kit.w_pi ?_
              obtain ⟨x20, e0, h⟩ := Mi.R.all_ofO h
              replace s := s.asTup e0
              refine Mi.o_slT rfl s ?_
              intro _ H s
              obtain ⟨hc, h⟩ := Mi.R.all_req h
              refine Mi.o_catT hc rfl s ?_
              intro _ H s
              refine Kit.w_sl ?_
              refine Mi.e_var s rfl ?_
              intro _ s
              refine Kit.w_ps ?_
              refine Kit.w_op ?_
              refine Mi.e_varS s rfl rfl ?_
              refine Kit.w_c ?_
              refine Kit.w_I0 ?_
              refine Kit.w_pi ?_
              refine Kit.w_po ?_
              obtain ⟨x21, e0, h⟩ := Mi.R.all_ofO h
              replace s := s.asTup e0
              refine Mi.o_slT rfl s ?_
              intro _ H s
              obtain ⟨hc, h⟩ := Mi.R.all_req h
              refine Mi.o_catT hc rfl s ?_
              intro _ H s
              exact Mi.k_ret s h
            · intro hb h
              refine Kit.m_next ?_
              refine Kit.m_ret ?_
              refine Kit.w_op ?_
              refine Kit.w_op ?_
              refine Kit.w_sl ?_
              refine Mi.e_var s rfl ?_
              intro _ s
              refine Kit.w_po ?_
              refine Kit.w_ps ?_
              refine Mi.e_varS s rfl rfl ?_
              refine Kit.w_pi ?_
              obtain ⟨x22, e0, h⟩ := Mi.R.all_ofO h
              replace s := s.asTup e0
              refine Mi.o_slT rfl s ?_
              intro _ H s
              refine Kit.w_tup ?_
              refine Kit.w_cons ?_
              refine Kit.w_call0 ?_
              refine Kit.w_cons ?_
              refine Mi.e_varS s rfl rfl ?_
              refine Kit.w_cons ?_
              refine Kit.w_op ?_
              refine Mi.e_var s rfl ?_
              intro _ s
              refine Mi.e_varS s rfl rfl ?_
              obtain ⟨x23, e0, h⟩ := Mi.R.all_ofO h
              refine Mi.o_ixD e0 s ?_
              intro v s
              refine Kit.w_cons ?_
              refine Mi.e_var s rfl ?_
              intro _ s
              refine Kit.w_nil ?_
              refine Mi.c_call (a1, r10.2, x23, p_odd) s h (fun _ _ k => ⟨(.cons (Mi.val_of rfl) (.cons k.2.1 (.cons k.1 .nil))), k.2.2⟩) (Mi.pk0) ?_
              intro r24 v H s h
              refine Kit.w_nil ?_
              refine Mi.o_newT [r24.1] s (Nat.le_of_ble_eq_true rfl) (fun _ _ k => ⟨(.cons k.1.dat .nil), k.2⟩) ?_
              intro _ H s
              obtain ⟨hc, h⟩ := Mi.R.all_req h
              refine Mi.o_catT hc rfl s ?_
              intro _ H s
              refine Kit.w_sl ?_
              refine Mi.e_var s rfl ?_
              intro _ s
              refine Kit.w_ps ?_
              refine Kit.w_op ?_
              refine Mi.e_varS s rfl rfl ?_
              refine Kit.w_c ?_
              refine Kit.w_I0 ?_
              refine Kit.w_pi ?_
              refine Kit.w_po ?_
              obtain ⟨x25, e0, h⟩ := Mi.R.all_ofO h
              replace s := s.asTup e0
              refine Mi.o_slT rfl s ?_
              intro _ H s
              obtain ⟨hc, h⟩ := Mi.R.all_req h
              refine Mi.o_catT hc rfl s ?_
              intro _ H s
              exact Mi.k_ret s h
def m_law_right (p_bag : (Int × Int × Int)) (p_digests : Digests_) : Mi.R (Mi.D × (Int × Int × Int)) := (m_Digests_modulus p_digests).bind fun r2 => (Mi.R.ok (r2 - (1 : Int))).bind fun x3 => (m_law_draw p_bag (4 : Int)).bind fun r4 => (Mi.R.ofO (L2.atI [(0 : Int), (1 : Int), (7 : Int), ((10 : Int) ^ ((9 : Int)).toNat)] r4.1)).bind fun x5 => (m_law_draw r4.2 (3 : Int)).bind fun r6 => (Mi.R.ofO (L2.atI [(0 : Int), (1 : Int), x3] r6.1)).bind fun x7 => (m_law_draw r6.2 (9 : Int)).bind fun r8 => (Mi.R.req (Mi.repTOk ([x7]).length r8.1)).bind fun _ => (Mi.R.ok (Mi.repL [x7] r8.1)).bind fun x9 => (m_law_draw r8.2 (3 : Int)).bind fun r10 => (Mi.R.ofO (L2.atI [(0 : Int), (1 : Int), (16 : Int)] r10.1)).bind fun x11 => (Mi.R.req (Mi.repTOk ([(65535 : Int)]).length x11)).bind fun _ => (Mi.R.ok (Mi.repL [(65535 : Int)] x11)).bind fun x12 => (m_law_draw r10.2 (5 : Int)).bind fun r13 =>  if (decide (r13.1 = (0 : Int))) = true then ((m_law_draw r13.2 (4 : Int)).bind fun r14 => (Mi.R.ofO (L2.atI [(Mi.D.tup (List.map Mi.D.int x12)), (Mi.D.tup [(Mi.D.str ("answer" : Str)), (Mi.D.int x5)]), (Mi.D.tup []), (Mi.D.tup [(Mi.D.int (3 : Int)), (Mi.D.int (4 : Int))])] r14.1)).bind fun x15 => (m_law_draw r14.2 (3 : Int)).bind fun r16 => (Mi.R.ofO (L2.atI [(0 : Int), (1 : Int), (239 : Int)] r16.1)).bind fun x17 => (Mi.R.req (Mi.repTOk ([(1024 : Int)]).length x17)).bind fun _ => (m_law_draw r16.2 (9 : Int)).bind fun r18 => Mi.R.ok ((Mi.D.tup [(Mi.D.str ("ask" : Str)), (Mi.D.tup (List.map Mi.D.int (Mi.repL [(1024 : Int)] x17))), x15, (Mi.D.int r18.1)]), r18.2)) else ( if (decide (r13.1 = (1 : Int))) = true then ((m_law_draw r13.2 (256 : Int)).bind fun r19 => (m_law_draw r19.2 (7 : Int)).bind fun r20 => (m_law_draw r20.2 (17 : Int)).bind fun r21 => (Mi.R.ok (r19.1, (65535 : Int), (0 : Int), r20.1, x7, r21.1)).bind fun x22 =>  Mi.R.ok ((Mi.D.tup [(Mi.D.str ("claim" : Str)), (Mi.D.int x5), (Mi.D.int x7), (Mi.D.int x3), (Mi.D.tup (List.map Mi.D.int x9)), (Mi.D.tup [(Mi.D.int x22.1), (Mi.D.int x22.2.1), (Mi.D.int x22.2.2.1), (Mi.D.int x22.2.2.2.1), (Mi.D.int x22.2.2.2.2.1), (Mi.D.int x22.2.2.2.2.2)]), (Mi.D.int (0 : Int)), (Mi.D.tup (List.map Mi.D.int x12))]), r21.2)) else ( if (decide (r13.1 = (2 : Int))) = true then ((m_law_draw r13.2 (9 : Int)).bind fun r23 => Mi.R.ok ((Mi.D.tup [(Mi.D.str ("halve" : Str)), (Mi.D.int x5), (Mi.D.int r23.1), (Mi.D.int x5), (Mi.D.int (5 : Int)), (Mi.D.int x7), (Mi.D.int x3), (Mi.D.int (0 : Int)), (Mi.D.int x7), (Mi.D.int (1 : Int)), (Mi.D.tup (List.map Mi.D.int x9))]), r23.2)) else ((m_law_draw r13.2 (4 : Int)).bind fun r24 => (Mi.R.ofO (L2.atI [Mi.D.non, (Mi.D.tup []), (Mi.D.str ("x" : Str)), (Mi.D.tup [(Mi.D.tup [(Mi.D.int (0 : Int)), (Mi.D.int (0 : Int)), (Mi.D.int (0 : Int)), (Mi.D.int (0 : Int)), (Mi.D.int (7 : Int)), (Mi.D.int (0 : Int))]), (Mi.D.int (0 : Int)), (Mi.D.tup [])])] r24.1)).bind fun x25 => Mi.R.ok ((Mi.D.tup [(Mi.D.str ("prove" : Str)), (Mi.D.int x5), (Mi.D.int x5), (Mi.D.int x3), (Mi.D.int x7), (Mi.D.int x3), x25]), r24.2))))
abbrev sp_law_right (T : Txt w K mg) : Sp := Mi.SpOf (gg T) (α := Addr × (Int × Int × Int) × Digests_) (β := Mi.D × (Int × Int × Int)) (fun a => [(Mi.E.adr a.1), (Mi.E.ins 0 [(Mi.E.d (Mi.D.int a.2.2.f_bits)), (Mi.E.d Mi.D.non), (Mi.E.d (Mi.D.int a.2.2.f_modulus))])]) (fun a => [Mi.pt a.1 (Mi.OC.lst [(Mi.D.int a.2.1.1), (Mi.D.int a.2.1.2.1), (Mi.D.int a.2.1.2.2)])]) (fun a => m_law_right a.2.1 a.2.2) (fun a r => (Mi.E.d r.1)) (fun a r => [Mi.pt a.1 (Mi.OC.lst [(Mi.D.int r.2.1), (Mi.D.int r.2.2.1), (Mi.D.int r.2.2.2)])])
theorem ok_law_right (T : Txt w K mg) : FnOk P w K mg base CX0 2 T.f_law_right.f T.f_law_right.fd ["bag", "digests"] (sp_law_right T) := by
  have G_Digests_modulus := ok_Digests_modulus (P := P) (w := w) (base := base) T
  have G_law_draw := ok_law_draw (P := P) (w := w) (base := base) T
  refine T.f_law_right.F.ok sc_law_right (fun vs H Q E h => ?_) (fun cdv A outer s0 H vs Q E hr h => ?_)
  · obtain ⟨a, e⟩ := Mi.c_len h
    exact e
  have hl : vs.length = 2 := by obtain ⟨a, e⟩ := Mi.c_len h; exact e
  obtain ⟨v0, v1, rfl⟩ := Mi.vs2 hl
  clear hl
  obtain ⟨⟨a1, p_bag, p_digests⟩, F, Z, s, h⟩ := Mi.c_start (n := 8) h
  replace s : Mi.Bd ⟨gg T, Z, H⟩ [some (Mi.E.adr a1), some (Mi.E.ins 0 [(Mi.E.d (Mi.D.int p_digests.f_bits)), (Mi.E.d Mi.D.non), (Mi.E.d (Mi.D.int p_digests.f_modulus))]), none, none, none, none, none, none, none, none] [] (Mi.pt a1 (Mi.OC.lst [(Mi.D.int p_bag.1), (Mi.D.int p_bag.2.1), (Mi.D.int p_bag.2.2)]) :: F) [some v0, some v1, none, none, none, none, none, none, none, none] H := s
  replace h : Mi.R.All (m_law_right p_bag p_digests) _ _ := h
  unfold m_law_right at h
  have nd := sc_law_right.nd
  have hr1 : Room 1 _ := hr.mono (by decide)
  refine Kit.ok_body (σ := [some v0, some v1, none, none, none, none, none, none, none, none]) ((pss_cons (ps_set (i := 2) nd rfl (Or.inl rfl) (pe_op op_sub (pe_meth0 (pv 1) T.c_Digests.cl T.m_Digests_modulus G_Digests_modulus hr1 T.f_Digests_modulus.b .nil pass0) pe_int))
    (pss_cons (ps_set (i := 3) nd rfl (Or.inl rfl) (pe_ix (Kit.ixL K) (pe_lst (pa_cons pe_int (pa_cons pe_int (pa_cons pe_int (pa_cons (pe_op op_pow pe_int pe_int) pa_nil))))) (pe_call G_law_draw hr1 (by rfl) T.f_law_draw.g T.f_law_draw.F.kp T.f_law_draw.b .nil pass0 (pa_cons (pv 0) (pa_cons pe_int pa_nil))) (fun _ _ => rfl)))
    (pss_cons (ps_set (i := 4) nd rfl (Or.inl rfl) (pe_ix (Kit.ixL K) (pe_lst (pa_cons pe_int (pa_cons pe_int (pa_cons (pv 2) pa_nil)))) (pe_call G_law_draw hr1 (by rfl) T.f_law_draw.g T.f_law_draw.F.kp T.f_law_draw.b .nil pass0 (pa_cons (pv 0) (pa_cons pe_int pa_nil))) (fun _ _ => rfl)))
    (pss_cons (ps_set (i := 5) nd rfl (Or.inl rfl) (pe_op (Mi.kRepTB K) (pe_tup (pa_cons (pv 4) pa_nil)) (pe_call G_law_draw hr1 (by rfl) T.f_law_draw.g T.f_law_draw.F.kp T.f_law_draw.b .nil pass0 (pa_cons (pv 0) (pa_cons pe_int pa_nil)))))
    (pss_cons (ps_set (i := 6) nd rfl (Or.inl rfl) (pe_op (Mi.kRepTB K) (pe_tup (pa_cons pe_int pa_nil)) (pe_ix (Kit.ixL K) (pe_lst (pa_cons pe_int (pa_cons pe_int (pa_cons pe_int pa_nil)))) (pe_call G_law_draw hr1 (by rfl) T.f_law_draw.g T.f_law_draw.F.kp T.f_law_draw.b .nil pass0 (pa_cons (pv 0) (pa_cons pe_int pa_nil))) (fun _ _ => rfl))))
    (pss_cons (ps_set (i := 7) nd rfl (Or.inl rfl) (pe_call G_law_draw hr1 (by rfl) T.f_law_draw.g T.f_law_draw.F.kp T.f_law_draw.b .nil pass0 (pa_cons (pv 0) (pa_cons pe_int pa_nil))))
    (pss_cons (ps_if (pt_cmpR op_eq (pv 7) pe_int (nomark _))
    (pss_cons (ps_set (i := 8) nd rfl (Or.inl rfl) (pe_ix (Kit.ixL K) (pe_lst (pa_cons (pv 6) (pa_cons (pe_tup (pa_cons pe_str (pa_cons (pv 3) pa_nil))) (pa_cons (pe_tup pa_nil) (pa_cons (pe_tup (pa_cons pe_int (pa_cons pe_int pa_nil))) pa_nil))))) (pe_call G_law_draw hr1 (by rfl) T.f_law_draw.g T.f_law_draw.F.kp T.f_law_draw.b .nil pass0 (pa_cons (pv 0) (pa_cons pe_int pa_nil))) (fun _ _ => rfl)))
    (pss_one (ps_ret (pe_tup (pa_cons pe_str (pa_cons (pe_op (Mi.kRepTB K) (pe_tup (pa_cons pe_int pa_nil)) (pe_ix (Kit.ixL K) (pe_lst (pa_cons pe_int (pa_cons pe_int (pa_cons pe_int pa_nil)))) (pe_call G_law_draw hr1 (by rfl) T.f_law_draw.g T.f_law_draw.F.kp T.f_law_draw.b .nil pass0 (pa_cons (pv 0) (pa_cons pe_int pa_nil))) (fun _ _ => rfl))) (pa_cons (pv 8) (pa_cons (pe_call G_law_draw hr1 (by rfl) T.f_law_draw.g T.f_law_draw.F.kp T.f_law_draw.b .nil pass0 (pa_cons (pv 0) (pa_cons pe_int pa_nil))) pa_nil))))))))
    pss_nil)
    (pss_cons (ps_if (pt_cmpR op_eq (pv 7) pe_int (nomark _))
    (pss_cons (ps_set (i := 9) nd rfl (Or.inl rfl) (pe_tup (pa_cons (pe_call G_law_draw hr1 (by rfl) T.f_law_draw.g T.f_law_draw.F.kp T.f_law_draw.b .nil pass0 (pa_cons (pv 0) (pa_cons pe_int pa_nil))) (pa_cons pe_int (pa_cons pe_int (pa_cons (pe_call G_law_draw hr1 (by rfl) T.f_law_draw.g T.f_law_draw.F.kp T.f_law_draw.b .nil pass0 (pa_cons (pv 0) (pa_cons pe_int pa_nil))) (pa_cons (pv 4) (pa_cons (pe_call G_law_draw hr1 (by rfl) T.f_law_draw.g T.f_law_draw.F.kp T.f_law_draw.b .nil pass0 (pa_cons (pv 0) (pa_cons pe_int pa_nil))) pa_nil))))))))
    (pss_one (ps_ret (pe_tup (pa_cons pe_str (pa_cons (pv 3) (pa_cons (pv 4) (pa_cons (pv 2) (pa_cons (pv 5) (pa_cons (pv 9) (pa_cons pe_int (pa_cons (pv 6) pa_nil))))))))))))
    pss_nil)
    (pss_cons (ps_if (pt_cmpR op_eq (pv 7) pe_int (nomark _))
    (pss_one (ps_ret (pe_tup (pa_cons pe_str (pa_cons (pv 3) (pa_cons (pe_call G_law_draw hr1 (by rfl) T.f_law_draw.g T.f_law_draw.F.kp T.f_law_draw.b .nil pass0 (pa_cons (pv 0) (pa_cons pe_int pa_nil))) (pa_cons (pv 3) (pa_cons pe_int (pa_cons (pv 4) (pa_cons (pv 2) (pa_cons pe_int (pa_cons (pv 4) (pa_cons pe_int (pa_cons (pv 5) pa_nil))))))))))))))
    pss_nil)
    (pss_one (ps_ret (pe_tup (pa_cons pe_str (pa_cons (pv 3) (pa_cons (pv 3) (pa_cons (pv 2) (pa_cons (pv 4) (pa_cons (pv 2) (pa_cons (pe_ix (Kit.ixL K) (pe_lst (pa_cons pe_non (pa_cons (pe_tup pa_nil) (pa_cons pe_str (pa_cons (pe_tup (pa_cons (pe_tup (pa_cons pe_int (pa_cons pe_int (pa_cons pe_int (pa_cons pe_int (pa_cons pe_int (pa_cons pe_int pa_nil))))))) (pa_cons pe_int (pa_cons (pe_tup pa_nil) pa_nil)))) pa_nil))))) (pe_call G_law_draw hr1 (by rfl) T.f_law_draw.g T.f_law_draw.F.kp T.f_law_draw.b .nil pass0 (pa_cons (pv 0) (pa_cons pe_int pa_nil))) (fun _ _ => rfl)) pa_nil)))))))))))))))))))) rfl ?_
  try dsimp only [L2.cxOf, L2.Cx.nox]
  refine Kit.m_seq ?_
  refine Mi.m_asgK ?_
  refine Kit.w_op ?_
  refine Kit.w_meth ?_
  refine Mi.e_var s rfl ?_
  intro _ s
  refine Mi.o_insZ rfl s ?_
  refine Kit.w_nil ?_
  refine Mi.c_callS p_digests s h (fun _ _ k => ⟨(.cons k.1 .nil), k.2⟩) (.refl _) (fun _ => rfl) ?_
  intro r2 H s h
  refine Kit.w_c ?_
  refine Kit.w_I0 ?_
  refine Mi.k_asgGS (fun y : Int => (Mi.E.d (Mi.D.int y))) (fun _ => rfl) ((r2 - (1 : Int))) s h ?_
  intro x3 σ s h
  refine Kit.m_seq ?_
  refine Mi.m_asgK ?_
  refine Kit.w_op ?_
  refine Kit.w_lst ?_
  refine Kit.w_cons ?_
  refine Kit.w_c ?_
  refine Kit.w_cons ?_
  refine Kit.w_c ?_
  refine Kit.w_cons ?_
  refine Kit.w_c ?_
  refine Kit.w_cons ?_
  refine Kit.w_op ?_
  refine Kit.w_c ?_
  refine Kit.w_c ?_
  refine Kit.w_I (show L2.CPow _ _ from ⟨by decide, by decide, by decide⟩) ?_
  refine Kit.w_nil ?_
  refine Mi.o_newL [(Mi.D.int (0 : Int)), (Mi.D.int (1 : Int)), (Mi.D.int (7 : Int)), (Mi.D.int ((10 : Int) ^ ((9 : Int)).toNat))] s (Nat.le_of_ble_eq_true rfl) (fun _ _ k => ⟨(.cons (Mi.val_of rfl).dat (.cons (Mi.val_of rfl).dat (.cons (Mi.val_of rfl).dat (.cons (Mi.val_of rfl).dat .nil)))), k⟩) ?_
  intro _ H s
  refine Kit.w_call0 ?_
  refine Kit.w_cons ?_
  refine Mi.e_varS s rfl rfl ?_
  refine Kit.w_cons ?_
  refine Kit.w_c ?_
  refine Kit.w_nil ?_
  refine Mi.c_callS (a1, p_bag, (4 : Int)) s h (fun _ _ k => ⟨(.cons (Mi.val_of rfl) (.cons (Mi.val_of rfl) .nil)), k⟩) (Mi.pk0) (fun _ => rfl) ?_
  intro r4 H s h
  obtain ⟨x5, e0, h⟩ := Mi.R.all_ofO h
  replace e0 := Mi.at_map (f := Mi.D.int) e0
  refine Mi.o_ixL e0 s ?_
  intro v s
  obtain rfl := s.top rfl
  replace s := s.pop
  refine Mi.k_asgS s (Mi.E.d (Mi.D.int x5)) rfl ?_
  intro σ s
  refine Kit.m_seq ?_
  refine Mi.m_asgK ?_
  refine Kit.w_op ?_
  refine Kit.w_lst ?_
  refine Kit.w_cons ?_
  refine Kit.w_c ?_
  refine Kit.w_cons ?_
  refine Kit.w_c ?_
  refine Kit.w_cons ?_
  refine Mi.e_varS s rfl rfl ?_
  refine Kit.w_nil ?_
  refine Mi.o_newL [(Mi.D.int (0 : Int)), (Mi.D.int (1 : Int)), (Mi.D.int x3)] s (Nat.le_of_ble_eq_true rfl) (fun _ _ k => ⟨(.cons (Mi.val_of rfl).dat (.cons (Mi.val_of rfl).dat (.cons (Mi.val_of rfl).dat .nil))), k⟩) ?_
  intro _ H s
  refine Kit.w_call0 ?_
  refine Kit.w_cons ?_
  refine Mi.e_varS s rfl rfl ?_
  refine Kit.w_cons ?_
  refine Kit.w_c ?_
  refine Kit.w_nil ?_
  refine Mi.c_callS (a1, r4.2, (3 : Int)) s h (fun _ _ k => ⟨(.cons (Mi.val_of rfl) (.cons (Mi.val_of rfl) .nil)), k⟩) (Mi.pk0) (fun _ => rfl) ?_
  intro r6 H s h
  obtain ⟨x7, e0, h⟩ := Mi.R.all_ofO h
  replace e0 := Mi.at_map (f := Mi.D.int) e0
  refine Mi.o_ixL e0 s ?_
  intro v s
  obtain rfl := s.top rfl
  replace s := s.pop
  refine Mi.k_asgS s (Mi.E.d (Mi.D.int x7)) rfl ?_
  intro σ s
  refine Kit.m_seq ?_
  refine Mi.m_asgK ?_
  refine Kit.w_op ?_
  refine Kit.w_tup ?_
  refine Kit.w_cons ?_
  refine Mi.e_varS s rfl rfl ?_
  refine Kit.w_nil ?_
  refine Mi.o_newT [(Mi.D.int x7)] s (Nat.le_of_ble_eq_true rfl) (fun _ _ k => ⟨(.cons (Mi.val_of rfl).dat .nil), k⟩) ?_
  intro _ H s
  refine Kit.w_call0 ?_
  refine Kit.w_cons ?_
  refine Mi.e_varS s rfl rfl ?_
  refine Kit.w_cons ?_
  refine Kit.w_c ?_
  refine Kit.w_nil ?_
  refine Mi.c_callS (a1, r6.2, (9 : Int)) s h (fun _ _ k => ⟨(.cons (Mi.val_of rfl) (.cons (Mi.val_of rfl) .nil)), k⟩) (Mi.pk0) (fun _ => rfl) ?_
  intro r8 H s h
  obtain ⟨hc, h⟩ := Mi.R.all_req h
  refine Mi.o_repT (by simpa only [List.length_map] using hc) (Mi.rep_map _ _ _) s ?_
  intro _ H s
  refine Mi.k_asgG (em := fun y : (List Int) => (Mi.E.d (Mi.D.tup (List.map Mi.D.int y)))) ((Mi.repL [x7] r8.1)) s h ?_
  intro x9 σ s h
  refine Kit.m_seq ?_
  refine Mi.m_asgK ?_
  refine Kit.w_op ?_
  refine Kit.w_tup ?_
  refine Kit.w_cons ?_
  refine Kit.w_c ?_
  refine Kit.w_nil ?_
  refine Mi.o_newT [(Mi.D.int (65535 : Int))] s (Nat.le_of_ble_eq_true rfl) (fun _ _ k => ⟨(.cons (Mi.val_of rfl).dat .nil), k⟩) ?_
  intro _ H s
  refine Kit.w_op ?_
  refine Kit.w_lst ?_
  refine Kit.w_cons ?_
  refine Kit.w_c ?_
  refine Kit.w_cons ?_
  refine Kit.w_c ?_
  refine Kit.w_cons ?_
  refine Kit.w_c ?_
  refine Kit.w_nil ?_
  refine Mi.o_newL [(Mi.D.int (0 : Int)), (Mi.D.int (1 : Int)), (Mi.D.int (16 : Int))] s (Nat.le_of_ble_eq_true rfl) (fun _ _ k => ⟨(.cons (Mi.val_of rfl).dat (.cons (Mi.val_of rfl).dat (.cons (Mi.val_of rfl).dat .nil))), k⟩) ?_
  intro _ H s
  refine Kit.w_call0 ?_
  refine Kit.w_cons ?_
  refine Mi.e_varS s rfl rfl ?_
  refine Kit.w_cons ?_
  refine Kit.w_c ?_
  refine Kit.w_nil ?_
  refine Mi.c_callS (a1, r8.2, (3 : Int)) s h (fun _ _ k => ⟨(.cons (Mi.val_of rfl) (.cons (Mi.val_of rfl) .nil)), k⟩) (Mi.pk0) (fun _ => rfl) ?_
  intro r10 H s h
  obtain ⟨x11, e0, h⟩ := Mi.R.all_ofO h
  replace e0 := Mi.at_map (f := Mi.D.int) e0
  refine Mi.o_ixL e0 s ?_
  intro v s
  obtain rfl := s.top rfl
  replace s := s.pop
  obtain ⟨hc, h⟩ := Mi.R.all_req h
  refine Mi.o_repT (by simpa only [List.length_map] using hc) (Mi.rep_map _ _ _) s ?_
  intro _ H s
  refine Mi.k_asgG (em := fun y : (List Int) => (Mi.E.d (Mi.D.tup (List.map Mi.D.int y)))) ((Mi.repL [(65535 : Int)] x11)) s h ?_
  intro x12 σ s h
  refine Kit.m_seq ?_
  refine Mi.m_asgK ?_
  refine Kit.w_call0 ?_
  refine Kit.w_cons ?_
  refine Mi.e_varS s rfl rfl ?_
  refine Kit.w_cons ?_
  refine Kit.w_c ?_
  refine Kit.w_nil ?_
  refine Mi.c_callS (a1, r10.2, (5 : Int)) s h (fun _ _ k => ⟨(.cons (Mi.val_of rfl) (.cons (Mi.val_of rfl) .nil)), k⟩) (Mi.pk0) (fun _ => rfl) ?_
  intro r13 H s h
  refine Mi.k_asgS s (Mi.E.d (Mi.D.int r13.1)) rfl ?_
  intro σ s
  refine Kit.m_seq ?_
  refine Kit.m_if ?_
  refine Kit.w_test ?_
  refine Kit.w_op ?_
  refine Mi.e_varS s rfl rfl ?_
  refine Kit.w_c ?_
  refine Kit.w_eqI ?_
  refine Kit.w_blE ?_
  refine Mi.r_if h ?_ ?_
  · intro hb h
    refine Kit.m_seq ?_
    refine Mi.m_asgK ?_
    refine Kit.w_op ?_
    refine Kit.w_lst ?_
    refine Kit.w_cons ?_
    refine Mi.e_var s rfl ?_
    intro _ s
    refine Kit.w_cons ?_
    refine Kit.w_tup ?_
    refine Kit.w_cons ?_
    refine Kit.w_c ?_
    refine Kit.w_cons ?_
    refine Mi.e_varS s rfl rfl ?_
    refine Kit.w_nil ?_
    refine Mi.o_newT [(Mi.D.str ("answer" : Str)), (Mi.D.int x5)] s (Nat.le_of_ble_eq_true rfl) (fun _ _ k => ⟨(.cons (Mi.val_of rfl).dat (.cons (Mi.val_of rfl).dat .nil)), k⟩) ?_
    intro _ H s
    refine Kit.w_cons ?_
    refine Kit.w_tup ?_
    refine Kit.w_nil ?_
    refine Mi.o_newT [] s (Nat.le_of_ble_eq_true rfl) (fun _ _ k => ⟨.nil, k⟩) ?_
    intro _ H s
    refine Kit.w_cons ?_
    refine Kit.w_tup ?_
    refine Kit.w_cons ?_
    refine Kit.w_c ?_
    refine Kit.w_cons ?_
    refine Kit.w_c ?_
    refine Kit.w_nil ?_
    refine Mi.o_newT [(Mi.D.int (3 : Int)), (Mi.D.int (4 : Int))] s (Nat.le_of_ble_eq_true rfl) (fun _ _ k => ⟨(.cons (Mi.val_of rfl).dat (.cons (Mi.val_of rfl).dat .nil)), k⟩) ?_
    intro _ H s
    refine Kit.w_nil ?_
    refine Mi.o_newL [(Mi.D.tup (List.map Mi.D.int x12)), (Mi.D.tup [(Mi.D.str ("answer" : Str)), (Mi.D.int x5)]), (Mi.D.tup []), (Mi.D.tup [(Mi.D.int (3 : Int)), (Mi.D.int (4 : Int))])] s (Nat.le_of_ble_eq_true rfl) (fun _ _ k => ⟨(.cons k.2.2.2.1.dat (.cons k.2.2.1.dat (.cons k.2.1.dat (.cons k.1.dat .nil)))), k.2.2.2.2⟩) ?_
    intro _ H s
    refine Kit.w_call0 ?_
    refine Kit.w_cons ?_
    refine Mi.e_varS s rfl rfl ?_
    refine Kit.w_cons ?_
    refine Kit.w_c ?_
    refine Kit.w_nil ?_
    refine Mi.c_callS (a1, r13.2, (4 : Int)) s h (fun _ _ k => ⟨(.cons (Mi.val_of rfl) (.cons (Mi.val_of rfl) .nil)), k⟩) (Mi.pk0) (fun _ => rfl) ?_
    intro r14 H s h
    obtain ⟨x15, e0, h⟩ := Mi.R.all_ofO h
    refine Mi.o_ixL e0 s ?_
    intro v s
    refine Mi.k_asg s ?_
    intro σ s
    refine Kit.m_ret ?_
    refine Kit.w_tup ?_
    refine Kit.w_cons ?_
    refine Kit.w_c ?_
    refine Kit.w_cons ?_
    refine Kit.w_op ?_
    refine Kit.w_tup ?_
    refine Kit.w_cons ?_
    refine Kit.w_c ?_
    refine Kit.w_nil ?_
    refine Mi.o_newT [(Mi.D.int (1024 : Int))] s (Nat.le_of_ble_eq_true rfl) (fun _ _ k => ⟨(.cons (Mi.val_of rfl).dat .nil), k⟩) ?_
    intro _ H s
    refine Kit.w_op ?_
    refine Kit.w_lst ?_
    refine Kit.w_cons ?_
    refine Kit.w_c ?_
    refine Kit.w_cons ?_
    refine Kit.w_c ?_
    refine Kit.w_cons ?_
    refine Kit.w_c ?_
    refine Kit.w_nil ?_
    refine Mi.o_newL [(Mi.D.int (0 : Int)), (Mi.D.int (1 : Int)), (Mi.D.int (239 : Int))] s (Nat.le_of_ble_eq_true rfl) (fun _ _ k => ⟨(.cons (Mi.val_of rfl).dat (.cons (Mi.val_of rfl).dat (.cons (Mi.val_of rfl).dat .nil))), k⟩) ?_
    intro _ H s
    refine Kit.w_call0 ?_
    refine Kit.w_cons ?_
    refine Mi.e_varS s rfl rfl ?_
    refine Kit.w_cons ?_
    refine Kit.w_c ?_
    refine Kit.w_nil ?_
    refine Mi.c_callS (a1, r14.2, (3 : Int)) s h (fun _ _ k => ⟨(.cons (Mi.val_of rfl) (.cons (Mi.val_of rfl) .nil)), k⟩) (Mi.pk0) (fun _ => rfl) ?_
    intro r16 H s h
    obtain ⟨x17, e0, h⟩ := Mi.R.all_ofO h
    replace e0 := Mi.at_map (f := Mi.D.int) e0
    refine Mi.o_ixL e0 s ?_
    intro v s
    obtain rfl := s.top rfl
    replace s := s.pop
    obtain ⟨hc, h⟩ := Mi.R.all_req h
    refine Mi.o_repT (by simpa only [List.length_map] using hc) (Mi.rep_map _ _ _) s ?_
    intro _ H s
    refine Kit.w_cons ?_
    refine Mi.e_var s rfl ?_
    intro _ s
    refine Kit.w_cons ?_
    refine Kit.w_call0 ?_
    refine Kit.w_cons ?_
    refine Mi.e_varS s rfl rfl ?_
    refine Kit.w_cons ?_
    refine Kit.w_c ?_
    refine Kit.w_nil ?_
    refine Mi.c_callS (a1, r16.2, (9 : Int)) s h (fun _ _ k => ⟨(.cons (Mi.val_of rfl) (.cons (Mi.val_of rfl) .nil)), k⟩) (Mi.pk0) (fun _ => rfl) ?_
    intro r18 H s h
    refine Kit.w_nil ?_
    refine Mi.o_newT [(Mi.D.str ("ask" : Str)), (Mi.D.tup (List.map Mi.D.int (Mi.repL [(1024 : Int)] x17))), x15, (Mi.D.int r18.1)] s (Nat.le_of_ble_eq_true rfl) (fun _ _ k => ⟨(.cons (Mi.val_of rfl).dat (.cons k.2.1.dat (.cons k.1.dat (.cons (Mi.val_of rfl).dat .nil)))), k.2.2⟩) ?_
    intro _ H s
    exact Mi.k_ret s h
  · intro hb h
    refine Kit.m_next ?_
    refine Kit.m_seq ?_
    refine Kit.m_if ?_
    refine Kit.w_test ?_
    refine Kit.w_op ?_
    refine Mi.e_varS s rfl rfl ?_
    refine Kit.w_c ?_
    refine Kit.w_eqI ?_
    refine Kit.w_blE ?_
    refine Mi.r_if h ?_ ?_
    · intro hb h
      refine Kit.m_seq ?_
      refine Mi.m_asgK ?_
      refine Kit.w_tup ?_
      refine Kit.w_cons ?_
      refine Kit.w_call0 ?_
      refine Kit.w_cons ?_
      refine Mi.e_varS s rfl rfl ?_
      refine Kit.w_cons ?_
      refine Kit.w_c ?_
      refine Kit.w_nil ?_
      refine Mi.c_callS (a1, r13.2, (256 : Int)) s h (fun _ _ k => ⟨(.cons (Mi.val_of rfl) (.cons (Mi.val_of rfl) .nil)), k⟩) (Mi.pk0) (fun _ => rfl) ?_
      intro r19 H s h
      refine Kit.w_cons ?_
      refine Kit.w_c ?_
      refine Kit.w_cons ?_
      refine Kit.w_c ?_
      refine Kit.w_cons ?_
      refine Kit.w_call0 ?_
      refine Kit.w_cons ?_
      refine Mi.e_varS s rfl rfl ?_
      refine Kit.w_cons ?_
      refine Kit.w_c ?_
      refine Kit.w_nil ?_
      refine Mi.c_callS (a1, r19.2, (7 : Int)) s h (fun _ _ k => ⟨(.cons (Mi.val_of rfl) (.cons (Mi.val_of rfl) .nil)), k⟩) (Mi.pk0) (fun _ => rfl) ?_
      intro r20 H s h
      refine Kit.w_cons ?_
      refine Mi.e_varS s rfl rfl ?_
      refine Kit.w_cons ?_
      refine Kit.w_call0 ?_
      refine Kit.w_cons ?_
      refine Mi.e_varS s rfl rfl ?_
      refine Kit.w_cons ?_
      refine Kit.w_c ?_
      refine Kit.w_nil ?_
      refine Mi.c_callS (a1, r20.2, (17 : Int)) s h (fun _ _ k => ⟨(.cons (Mi.val_of rfl) (.cons (Mi.val_of rfl) .nil)), k⟩) (Mi.pk0) (fun _ => rfl) ?_
      intro r21 H s h
      refine Kit.w_nil ?_
      refine Mi.o_newT [(Mi.D.int r19.1), (Mi.D.int (65535 : Int)), (Mi.D.int (0 : Int)), (Mi.D.int r20.1), (Mi.D.int x7), (Mi.D.int r21.1)] s (Nat.le_of_ble_eq_true rfl) (fun _ _ k => ⟨(.cons (Mi.val_of rfl).dat (.cons (Mi.val_of rfl).dat (.cons (Mi.val_of rfl).dat (.cons (Mi.val_of rfl).dat (.cons (Mi.val_of rfl).dat (.cons (Mi.val_of rfl).dat .nil)))))), k⟩) ?_
      intro _ H s
      refine Mi.k_asgG (em := fun y : (Int × Int × Int × Int × Int × Int) => (Mi.E.d (Mi.D.tup [(Mi.D.int y.1), (Mi.D.int y.2.1), (Mi.D.int y.2.2.1), (Mi.D.int y.2.2.2.1), (Mi.D.int y.2.2.2.2.1), (Mi.D.int y.2.2.2.2.2)]))) ((r19.1, (65535 : Int), (0 : Int), r20.1, x7, r21.1)) s h ?_
      intro x22 σ s h
      refine Kit.m_ret ?_
      refine Kit.w_tup ?_
      refine Kit.w_cons ?_
      refine Kit.w_c ?_
      refine Kit.w_cons ?_
      refine Mi.e_varS s rfl rfl ?_
      refine Kit.w_cons ?_
      refine Mi.e_varS s rfl rfl ?_
      refine Kit.w_cons ?_
      refine Mi.e_varS s rfl rfl ?_
      refine Kit.w_cons ?_
      refine Mi.e_var s rfl ?_
      intro _ s
      refine Kit.w_cons ?_
      refine Mi.e_var s rfl ?_
      intro _ s
      refine Kit.w_cons ?_
      refine Kit.w_c ?_
      refine Kit.w_cons ?_
      refine Mi.e_var s rfl ?_
      intro _ s
      refine Kit.w_nil ?_
      refine Mi.o_newT [(Mi.D.str ("claim" : Str)), (Mi.D.int x5), (Mi.D.int x7), (Mi.D.int x3), (Mi.D.tup (List.map Mi.D.int x9)), (Mi.D.tup [(Mi.D.int x22.1), (Mi.D.int x22.2.1), (Mi.D.int x22.2.2.1), (Mi.D.int x22.2.2.2.1), (Mi.D.int x22.2.2.2.2.1), (Mi.D.int x22.2.2.2.2.2)]), (Mi.D.int (0 : Int)), (Mi.D.tup (List.map Mi.D.int x12))] s (Nat.le_of_ble_eq_true rfl) (fun _ _ k => ⟨(.cons (Mi.val_of rfl).dat (.cons (Mi.val_of rfl).dat (.cons (Mi.val_of rfl).dat (.cons (Mi.val_of rfl).dat (.cons k.2.2.1.dat (.cons k.2.1.dat (.cons (Mi.val_of rfl).dat (.cons k.1.dat .nil)))))))), k.2.2.2⟩) ?_
      intro _ H s
      exact Mi.k_ret s h
    · intro hb h
      refine Kit.m_next ?_
      refine Kit.m_seq ?_
      refine Kit.m_if ?_
      refine Kit.w_test ?_
      refine Kit.w_op ?_
      refine Mi.e_varS s rfl rfl ?_
      refine Kit.w_c ?_
      refine Kit.w_eqI ?_
      refine Kit.w_blE ?_
      refine Mi.r_if h ?_ ?_
      · intro hb h
        refine Kit.m_ret ?_
        refine Kit.w_tup ?_
        refine Kit.w_cons ?_
        refine Kit.w_c ?_
        refine Kit.w_cons ?_
        refine Mi.e_varS s rfl rfl ?_
        refine Kit.w_cons ?_
        refine Kit.w_call0 ?_
        refine Kit.w_cons ?_
        refine Mi.e_varS s rfl rfl ?_
        refine Kit.w_cons ?_
        refine Kit.w_c ?_
        refine Kit.w_nil ?_
        refine Mi.c_callS (a1, r13.2, (9 : Int)) s h (fun _ _ k => ⟨(.cons (Mi.val_of rfl) (.cons (Mi.val_of rfl) .nil)), k⟩) (Mi.pk0) (fun _ => rfl) ?_
        intro r23 H s h
        refine Kit.w_cons ?_
        refine Mi.e_varS s rfl rfl ?_
        refine Kit.w_cons ?_
        refine Kit.w_c ?_
        refine Kit.w_cons ?_
        refine Mi.e_varS s rfl rfl ?_
        refine Kit.w_cons ?_
        refine Mi.e_varS s rfl rfl ?_
        refine Kit.w_cons ?_
        refine Kit.w_c ?_
        refine Kit.w_cons ?_
        refine Mi.e_varS s rfl rfl ?_
        refine Kit.w_cons ?_
        refine Kit.w_c ?_
        refine Kit.w_cons ?_
        refine Mi.e_var s rfl ?_
        intro _ s
        refine Kit.w_nil ?_
        refine Mi.o_newT [(Mi.D.str ("halve" : Str)), (Mi.D.int x5), (Mi.D.int r23.1), (Mi.D.int x5), (Mi.D.int (5 : Int)), (Mi.D.int x7), (Mi.D.int x3), (Mi.D.int (0 : Int)), (Mi.D.int x7), (Mi.D.int (1 : Int)), (Mi.D.tup (List.map Mi.D.int x9))] s (Nat.le_of_ble_eq_true rfl) (fun _ _ k => ⟨(.cons (Mi.val_of rfl).dat (.cons (Mi.val_of rfl).dat (.cons (Mi.val_of rfl).dat (.cons (Mi.val_of rfl).dat (.cons (Mi.val_of rfl).dat (.cons (Mi.val_of rfl).dat (.cons (Mi.val_of rfl).dat (.cons (Mi.val_of rfl).dat (.cons (Mi.val_of rfl).dat (.cons (Mi.val_of rfl).dat (.cons k.1.dat .nil))))))))))), k.2⟩) ?_
        intro _ H s
        exact Mi.k_ret s h
      · intro hb h
        refine Kit.m_next ?_
        refine Kit.m_ret ?_
        refine Kit.w_tup ?_
        refine Kit.w_cons ?_
        refine Kit.w_c ?_
        refine Kit.w_cons ?_
        refine Mi.e_varS s rfl rfl ?_
        refine Kit.w_cons ?_
        refine Mi.e_varS s rfl rfl ?_
        refine Kit.w_cons ?_
        refine Mi.e_varS s rfl rfl ?_
        refine Kit.w_cons ?_
        refine Mi.e_varS s rfl rfl ?_
        refine Kit.w_cons ?_
        refine Mi.e_varS s rfl rfl ?_
        refine Kit.w_cons ?_
        refine Kit.w_op ?_
        refine Kit.w_lst ?_
        refine Kit.w_cons ?_
        refine Kit.w_c ?_
        refine Kit.w_cons ?_
        refine Kit.w_tup ?_
        refine Kit.w_nil ?_
        refine Mi.o_newT [] s (Nat.le_of_ble_eq_true rfl) (fun _ _ k => ⟨.nil, k⟩) ?_
        intro _ H s
        refine Kit.w_cons ?_
        refine Kit.w_c ?_
        refine Kit.w_cons ?_
        refine Kit.w_tup ?_
        refine Kit.w_cons ?_
        refine Kit.w_tup ?_
        refine Kit.w_cons ?_
        refine Kit.w_c ?_
        refine Kit.w_cons ?_
        refine Kit.w_c ?_
        refine Kit.w_cons ?_
        refine Kit.w_c ?_
        refine Kit.w_cons ?_
        refine Kit.w_c ?_
        refine Kit.w_cons ?_
        refine Kit.w_c ?_
        refine Kit.w_cons ?_
        refine Kit.w_c ?_
        refine Kit.w_nil ?_
        refine Mi.o_newT [(Mi.D.int (0 : Int)), (Mi.D.int (0 : Int)), (Mi.D.int (0 : Int)), (Mi.D.int (0 : Int)), (Mi.D.int (7 : Int)), (Mi.D.int (0 : Int))] s (Nat.le_of_ble_eq_true rfl) (fun _ _ k => ⟨(.cons (Mi.val_of rfl).dat (.cons (Mi.val_of rfl).dat (.cons (Mi.val_of rfl).dat (.cons (Mi.val_of rfl).dat (.cons (Mi.val_of rfl).dat (.cons (Mi.val_of rfl).dat .nil)))))), k⟩) ?_
        intro _ H s
        refine Kit.w_cons ?_
        refine Kit.w_c ?_
        refine Kit.w_cons ?_
        refine Kit.w_tup ?_
        refine Kit.w_nil ?_
        refine Mi.o_newT [] s (Nat.le_of_ble_eq_true rfl) (fun _ _ k => ⟨.nil, k⟩) ?_
        intro _ H s
        refine Kit.w_nil ?_
        refine Mi.o_newT [(Mi.D.tup [(Mi.D.int (0 : Int)), (Mi.D.int (0 : Int)), (Mi.D.int (0 : Int)), (Mi.D.int (0 : Int)), (Mi.D.int (7 : Int)), (Mi.D.int (0 : Int))]), (Mi.D.int (0 : Int)), (Mi.D.tup [])] s (Nat.le_of_ble_eq_true rfl) (fun _ _ k => ⟨(.cons k.2.1.dat (.cons (Mi.val_of rfl).dat (.cons k.1.dat .nil))), k.2.2⟩) ?_
        intro _ H s
        refine Kit.w_nil ?_
        refine Mi.o_newL [Mi.D.non, (Mi.D.tup []), (Mi.D.str ("x" : Str)), (Mi.D.tup [(Mi.D.tup [(Mi.D.int (0 : Int)), (Mi.D.int (0 : Int)), (Mi.D.int (0 : Int)), (Mi.D.int (0 : Int)), (Mi.D.int (7 : Int)), (Mi.D.int (0 : Int))]), (Mi.D.int (0 : Int)), (Mi.D.tup [])])] s (Nat.le_of_ble_eq_true rfl) (fun _ _ k => ⟨(.cons (Mi.val_of rfl).dat (.cons k.2.1.dat (.cons (Mi.val_of rfl).dat (.cons k.1.dat .nil)))), k.2.2⟩) ?_
        intro _ H s
        refine Kit.w_call0 ?_
        refine Kit.w_cons ?_
        refine Mi.e_varS s rfl rfl ?_
        refine Kit.w_cons ?_
        refine Kit.w_c ?_
        refine Kit.w_nil ?_
        refine Mi.c_callS (a1, r13.2, (4 : Int)) s h (fun _ _ k => ⟨(.cons (Mi.val_of rfl) (.cons (Mi.val_of rfl) .nil)), k⟩) (Mi.pk0) (fun _ => rfl) ?_
        intro r24 H s h
        obtain ⟨x25, e0, h⟩ := Mi.R.all_ofO h
        refine Mi.o_ixL e0 s ?_
        intro v s
        refine Kit.w_nil ?_
        refine Mi.o_newT [(Mi.D.str ("prove" : Str)), (Mi.D.int x5), (Mi.D.int x5), (Mi.D.int x3), (Mi.D.int x7), (Mi.D.int x3), x25] s (Nat.le_of_ble_eq_true rfl) (fun _ _ k => ⟨(.cons (Mi.val_of rfl).dat (.cons (Mi.val_of rfl).dat (.cons (Mi.val_of rfl).dat (.cons (Mi.val_of rfl).dat (.cons (Mi.val_of rfl).dat (.cons (Mi.val_of rfl).dat (.cons k.1.dat .nil))))))), k.2⟩) ?_
        intro _ H s
        exact Mi.k_ret s h
def m_law_is_number (p_value : Mi.D) (p_most : (Option Int)) : Mi.R (Bool) := (if (p_value).isInt = true then (if (!(p_value).isBl) = true then (Mi.R.ofO (Mi.D.int? p_value)).bind fun x1 => (if (decide ((0 : Int) ≤ x1)) = true then (if (!(p_most).isSome) = true then Mi.R.ok (true, ()) else (Mi.R.ofO (Mi.D.int? p_value)).bind fun x2 => (Mi.R.ofO p_most).bind fun x3 => Mi.R.ok ((decide (x2 ≤ x3)), ())).bind fun y5 => Mi.R.ok (y5.1, ()) else Mi.R.ok (false, ())).bind fun y7 => Mi.R.ok (y7.1, ()) else Mi.R.ok (false, ())).bind fun y9 => Mi.R.ok (y9.1, ()) else Mi.R.ok (false, ())).bind fun y11 => Mi.R.ok y11.1
abbrev sp_law_is_number (T : Txt w K mg) : Sp := Mi.SpOf (gg T) (α := Mi.D × (Option Int)) (β := Bool) (fun a => [(Mi.E.d a.1), (Mi.E.d (Mi.emO Mi.D.int a.2))]) (fun a => []) (fun a => m_law_is_number a.1 a.2) (fun a r => (Mi.E.d (Mi.D.bl r))) (fun a r => [])
theorem ok_law_is_number (T : Txt w K mg) : FnOk P w K mg base CX0 1 T.f_law_is_number.f T.f_law_is_number.fd ["value", "most"] (sp_law_is_number T) := by
  refine T.f_law_is_number.F.ok sc_law_is_number (fun vs H Q E h => ?_) (fun cdv A outer s0 H vs Q E hr h => ?_)
  · obtain ⟨a, e⟩ := Mi.c_len h
    exact e
  have hl : vs.length = 2 := by obtain ⟨a, e⟩ := Mi.c_len h; exact e
  obtain ⟨v0, v1, rfl⟩ := Mi.vs2 hl
  clear hl
  obtain ⟨⟨p_value, p_most⟩, F, Z, s, h⟩ := Mi.c_start (n := 0) h
  replace s : Mi.Bd ⟨gg T, Z, H⟩ [some (Mi.E.d p_value), some (Mi.E.d (Mi.emO Mi.D.int p_most))] [] (F) [some v0, some v1] H := s
  replace h : Mi.R.All (m_law_is_number p_value p_most) _ _ := h
  unfold m_law_is_number at h
  have nd := sc_law_is_number.nd
  refine Kit.ok_body (σ := [some v0, some v1]) ((pss_one (ps_ret (pe_and (pe_callB (Kit.kIsi K) (by rfl) T.z_isinstance (by decide +kernel) (pa_cons (pv 0) (pa_cons (pe_bltn (v := .ty "int") (by rfl) T.z_int (by decide +kernel) rfl) pa_nil))) (pe_and (pe_not (pe_callB (Kit.kIsi K) (by rfl) T.z_isinstance (by decide +kernel) (pa_cons (pv 0) (pa_cons (pe_bltn (v := .ty "bool") (by rfl) T.z_bool (by decide +kernel) rfl) pa_nil)))) (pe_and (pe_cmpR op_ge (pv 0) pe_int (nomark _)) (pe_one (pe_or (pe_cmpR Kit.k_isN (pv 1) pe_non (nomark _)) (pe_one (pe_cmpR op_le (pv 0) (pv 1) (nomark _))))))))))) rfl ?_
  try dsimp only [L2.cxOf, L2.Cx.nox]
  refine Kit.m_ret ?_
  refine Kit.w_andV ?_
  refine Kit.w_cb ?_
  refine Kit.w_cons ?_
  refine Mi.e_var s rfl ?_
  intro _ s
  refine Kit.w_cons ?_
  refine Kit.w_c ?_
  refine Kit.w_nil ?_
  refine Mi.o_isiInt s ?_
  intro s
  refine Kit.w_blE ?_
  refine Mi.jv_andE (s0 := ()) (fun (z10 : Unit) => F) h s ?_ ?_
  · intro hb h hk
    refine Kit.w_andV ?_
    refine Kit.w_notV ?_
    refine Kit.w_cb ?_
    refine Kit.w_cons ?_
    refine Mi.e_var s rfl ?_
    intro _ s
    refine Kit.w_cons ?_
    refine Kit.w_c ?_
    refine Kit.w_nil ?_
    refine Mi.o_isiBl s ?_
    intro s
    refine Kit.w_blE ?_
    refine Kit.w_blE ?_
    refine Mi.jv_andE (s0 := ()) (fun (z8 : Unit) => F) h s ?_ ?_
    · intro hb h hk
      refine Kit.w_andV ?_
      refine Kit.w_op ?_
      refine Mi.e_var s rfl ?_
      intro _ s
      obtain ⟨x1, e0, h⟩ := Mi.R.all_ofO h
      replace s := s.asInt e0
      obtain ⟨rfl, s⟩ := s
      refine Kit.w_c ?_
      refine Kit.w_I0 ?_
      refine Kit.w_blE ?_
      refine Mi.jv_andE (s0 := ()) (fun (z6 : Unit) => F) h s ?_ ?_
      · intro hb h hk
        refine Kit.w_orV ?_
        refine Kit.w_op ?_
        refine Mi.e_var s rfl ?_
        intro _ s
        refine Kit.w_c ?_
        refine Mi.o_isNO (fun _ => rfl) s ?_
        intro s
        refine Kit.w_blE ?_
        refine Mi.jv_orE (s0 := ()) (fun (z4 : Unit) => F) h s ?_ ?_
        · intro hb h hk
          refine Kit.w_op ?_
          refine Mi.e_var s rfl ?_
          intro _ s
          obtain ⟨x2, e0, h⟩ := Mi.R.all_ofO h
          replace s := s.asInt e0
          obtain ⟨rfl, s⟩ := s
          refine Mi.e_var s rfl ?_
          intro _ s
          obtain ⟨x3, e0, h⟩ := Mi.R.all_ofO h
          replace s := s.asO e0 rfl
          obtain ⟨rfl, s⟩ := s
          refine Kit.w_I0 ?_
          exact hk ((decide (x2 ≤ x3)), ()) _ s h
        intro y5 H s h
        exact hk (y5.1, ()) _ s h
      intro y7 H s h
      exact hk (y7.1, ()) _ s h
    intro y9 H s h
    exact hk (y9.1, ()) _ s h
  intro y11 H s h
  exact Mi.k_retS s h rfl
def m_law_numbers (p_value : Mi.D) (p_most : (Option Int)) (p_size : (Option Int)) : Mi.R (Bool) := (if (!(p_value).isTup) = true then Mi.R.ok (true, ()) else (if (p_size).isSome = true then (Mi.R.ofO (Mi.D.len? p_value)).bind fun x1 => (Mi.R.ofO p_size).bind fun x2 => Mi.R.ok ((decide (x2 < x1)), ()) else Mi.R.ok (false, ())).bind fun y4 => Mi.R.ok (y4.1, ())).bind fun y6 => if y6.1 = true then ( Mi.R.ok false) else ((Mi.R.ofO (Mi.D.tup? p_value)).bind fun x7 => (Mi.filC x7 () fun (x9 : Mi.D) (z10 : Unit) => (m_law_is_number x9 p_most).bind fun r12 => if (!r12) = true then ( Mi.R.ok (some x9, ())) else Mi.R.ok (none, ())).bind fun y13 => Mi.R.ok (decide (((y13.1).length : Int) = (0 : Int))))
abbrev sp_law_numbers (T : Txt w K mg) : Sp := Mi.SpOf (gg T) (α := Mi.D × (Option Int) × (Option Int)) (β := Bool) (fun a => [(Mi.E.d a.1), (Mi.E.d (Mi.emO Mi.D.int a.2.1)), (Mi.E.d (Mi.emO Mi.D.int a.2.2))]) (fun a => []) (fun a => m_law_numbers a.1 a.2.1 a.2.2) (fun a r => (Mi.E.d (Mi.D.bl r))) (fun a r => [])
theorem ok_law_numbers (T : Txt w K mg) : FnOk P w K mg base CX0 2 T.f_law_numbers.f T.f_law_numbers.fd ["value", "most", "size"] (sp_law_numbers T) := by
  have G_law_is_number := ok_law_is_number (P := P) (w := w) (base := base) T
  refine T.f_law_numbers.F.ok sc_law_numbers (fun vs H Q E h => ?_) (fun cdv A outer s0 H vs Q E hr h => ?_)
  · obtain ⟨a, e⟩ := Mi.c_len h
    exact e
  have hl : vs.length = 3 := by obtain ⟨a, e⟩ := Mi.c_len h; exact e
  obtain ⟨v0, v1, v2, rfl⟩ := Mi.vs3 hl
  clear hl
  obtain ⟨⟨p_value, p_most, p_size⟩, F, Z, s, h⟩ := Mi.c_start (n := 1) h
  replace s : Mi.Bd ⟨gg T, Z, H⟩ [some (Mi.E.d p_value), some (Mi.E.d (Mi.emO Mi.D.int p_most)), some (Mi.E.d (Mi.emO Mi.D.int p_size)), none] [] (F) [some v0, some v1, some v2, none] H := s
  replace h : Mi.R.All (m_law_numbers p_value p_most p_size) _ _ := h
  unfold m_law_numbers at h
  have nd := sc_law_numbers.nd
  have hr1 : Room 1 _ := hr.mono (by decide)
  refine Kit.ok_body (σ := [some v0, some v1, some v2, none]) ((pss_cons (ps_if (PW.pt (pw_or (pt_not (pt_val (pe_callB (Kit.kIsi K) (by rfl) T.z_isinstance (by decide +kernel) (pa_cons (pv 0) (pa_cons (pe_bltn (v := .ty "tuple") (by rfl) T.z_tuple (by decide +kernel) rfl) pa_nil))))) (pw_or1 (PW.pt (pw_and (pt_cmpR Kit.k_notN (pv 2) pe_non (nomark _)) (pw_and1 (pt_cmpR op_gt (pe_callB (Kit.kLen K) (by rfl) T.z_len (by decide +kernel) (pa_cons (pv 0) pa_nil)) (pv 2) (nomark _))))))))
    (pss_one (ps_ret pe_bl))
    pss_nil)
    (pss_one (ps_ret (pe_cmpR op_eq (pe_callB (Kit.kLen K) (by rfl) T.z_len (by decide +kernel) (pa_cons (pe_lc (own := [("one", 3)]) (g := gName 3) (by rfl) nd (Kit.kpTup K (pv 0)) (blkOk_by (own := [("one", 3)]) (N := N_law_numbers) (sc := defScope s_law_numbers) (by decide +kernel)) (fun _ _ _ _ _ => pg_name (i := 3) nd rfl (Or.inl rfl)) (fun _ _ _ _ _ => pts_one (pt_not (pt_val (pe_call G_law_is_number hr1 (by rfl) T.f_law_is_number.g T.f_law_is_number.F.kp T.f_law_is_number.b .nil pass0 (pa_cons (pv 3) (pa_cons (pv 1) pa_nil)))))) (fun _ _ _ _ _ => (pv 3))) pa_nil)) pe_int (nomark _)))))) rfl ?_
  try dsimp only [L2.cxOf, L2.Cx.nox]
  refine Kit.m_seq ?_
  refine Kit.m_if ?_
  refine Kit.w_or ?_
  refine Kit.w_not ?_
  refine Kit.w_B ?_
  refine Kit.w_cb ?_
  refine Kit.w_cons ?_
  refine Mi.e_var s rfl ?_
  intro _ s
  refine Kit.w_cons ?_
  refine Kit.w_c ?_
  refine Kit.w_nil ?_
  refine Mi.o_isiTup s ?_
  intro s
  refine Kit.w_blE ?_
  refine Mi.jt_orE (s0 := ()) (fun (z5 : Unit) => F) h s ?_ ?_
  · intro hb h hk
    refine Kit.w_and ?_
    refine Kit.w_test ?_
    refine Kit.w_op ?_
    refine Mi.e_var s rfl ?_
    intro _ s
    refine Kit.w_c ?_
    refine Mi.o_notNO (fun _ => rfl) s ?_
    intro s
    refine Kit.w_blE ?_
    refine Mi.jt_andE (s0 := ()) (fun (z3 : Unit) => F) h s ?_ ?_
    · intro hb h hk
      refine Kit.w_test ?_
      refine Kit.w_op ?_
      refine Kit.w_cb ?_
      refine Kit.w_cons ?_
      refine Mi.e_var s rfl ?_
      intro _ s
      refine Kit.w_nil ?_
      obtain ⟨x1, e0, h⟩ := Mi.R.all_ofO h
      refine Mi.o_lenD e0 s ?_
      intro s
      refine Mi.e_var s rfl ?_
      intro _ s
      obtain ⟨x2, e0, h⟩ := Mi.R.all_ofO h
      replace s := s.asO e0 rfl
      obtain ⟨rfl, s⟩ := s
      refine Kit.w_I0 ?_
      refine Kit.w_blE ?_
      exact hk ((decide (x2 < x1)), ()) _ s h
    intro y4 H s h
    exact hk (y4.1, ()) _ s h
  intro y6 H s h
  refine Mi.r_if h ?_ ?_
  · intro hb h
    refine Kit.m_ret ?_
    refine Kit.w_c ?_
    exact Mi.k_retS s h rfl
  · intro hb h
    refine Kit.m_next ?_
    refine Kit.m_ret ?_
    refine Kit.w_op ?_
    refine Kit.w_cb ?_
    refine Kit.w_cons ?_
    refine Kit.w_lc ?_
    refine Kit.w_itt ?_
    refine Mi.e_var s rfl ?_
    intro _ s
    obtain ⟨x7, e0, h⟩ := Mi.R.all_ofO h
    replace s := s.asTup e0
    refine Mi.i_tup s ?_
    intro a8 s
    refine Mi.l_fil (em := fun x : Mi.D => (Mi.E.d x)) (st0 := [(.ref a8, (Mi.E.d (Mi.D.tup x7)))]) (s0 := ()) (xs := x7) (fun y => y) (fun (z10 : Unit) => F) Mi.walk_tup s h ?_ ?_
    · intro p11 acc x9 z10 σ H KK Nn No s h hk hno
      refine Kit.w_not ?_
      refine Kit.w_B ?_
      refine Kit.w_call0 ?_
      refine Kit.w_cons ?_
      refine Mi.e_var s rfl ?_
      intro _ s
      refine Kit.w_cons ?_
      refine Mi.e_var s rfl ?_
      intro _ s
      refine Kit.w_nil ?_
      refine Mi.c_callS (x9, p_most) s h (fun _ _ k => ⟨(.cons k.2.1 (.cons k.1 .nil)), k.2.2⟩) (.refl _) (fun _ => rfl) ?_
      intro r12 H s h
      refine Kit.w_blE ?_
      refine Mi.r_if h ?_ ?_
      · intro hb h
        refine Mi.e_var s rfl ?_
        intro _ s
        exact hk _ () _ _ s h
      · intro hb h
        exact hno _ _ s h
    intro p14 y13 H s h
    replace s := Mi.k_freeze (.refl _) s
    simp only [List.map_id'] at s
    refine Kit.w_nil ?_
    refine Mi.o_lenL rfl s ?_
    intro s
    refine Kit.w_c ?_
    refine Kit.w_eqI ?_
    exact Mi.k_retS s h rfl
def m_law_registers (p_value : Mi.D) (p_top : Int) : Mi.R (Bool) := (if (!(p_value).isTup) = true then Mi.R.ok (true, ()) else (Mi.R.ofO (Mi.D.len? p_value)).bind fun x1 => Mi.R.ok ((!decide (x1 = (6 : Int))), ())).bind fun y3 => if y3.1 = true then ( Mi.R.ok false) else ((Mi.R.ok [(255 : Int), (65535 : Int), (65535 : Int), (6 : Int), p_top, (16 : Int)]).bind fun x4 => (Mi.filC (Mi.rng 0 ((6 : Int)).toNat) () fun (x5 : Int) (z6 : Unit) => (Mi.R.ofO (Mi.D.at? p_value x5)).bind fun x8 => (Mi.R.ofO (L2.atI x4 x5)).bind fun x9 => (m_law_is_number x8 ((some x9))).bind fun r10 => if (!r10) = true then ( Mi.R.ok (some x5, ())) else Mi.R.ok (none, ())).bind fun y11 => Mi.R.ok (decide (((y11.1).length : Int) = (0 : Int))))
abbrev sp_law_registers (T : Txt w K mg) : Sp := Mi.SpOf (gg T) (α := Mi.D × Int) (β := Bool) (fun a => [(Mi.E.d a.1), (Mi.E.d (Mi.D.int a.2))]) (fun a => []) (fun a => m_law_registers a.1 a.2) (fun a r => (Mi.E.d (Mi.D.bl r))) (fun a r => [])
theorem ok_law_registers (T : Txt w K mg) : FnOk P w K mg base CX0 2 T.f_law_registers.f T.f_law_registers.fd ["value", "top"] (sp_law_registers T) := by
  have G_law_is_number := ok_law_is_number (P := P) (w := w) (base := base) T
  refine T.f_law_registers.F.ok sc_law_registers (fun vs H Q E h => ?_) (fun cdv A outer s0 H vs Q E hr h => ?_)
  · obtain ⟨a, e⟩ := Mi.c_len h
    exact e
  have hl : vs.length = 2 := by obtain ⟨a, e⟩ := Mi.c_len h; exact e
  obtain ⟨v0, v1, rfl⟩ := Mi.vs2 hl
  clear hl
  obtain ⟨⟨p_value, p_top⟩, F, Z, s, h⟩ := Mi.c_start (n := 2) h
  replace s : Mi.Bd ⟨gg T, Z, H⟩ [some (Mi.E.d p_value), some (Mi.E.d (Mi.D.int p_top)), none, none] [] (F) [some v0, some v1, none, none] H := s
  replace h : Mi.R.All (m_law_registers p_value p_top) _ _ := h
  unfold m_law_registers at h
  have nd := sc_law_registers.nd
  have hr1 : Room 1 _ := hr.mono (by decide)
  refine Kit.ok_body (σ := [some v0, some v1, none, none]) ((pss_cons (ps_if (PW.pt (pw_or (pt_not (pt_val (pe_callB (Kit.kIsi K) (by rfl) T.z_isinstance (by decide +kernel) (pa_cons (pv 0) (pa_cons (pe_bltn (v := .ty "tuple") (by rfl) T.z_tuple (by decide +kernel) rfl) pa_nil))))) (pw_or1 (pt_cmpR op_ne (pe_callB (Kit.kLen K) (by rfl) T.z_len (by decide +kernel) (pa_cons (pv 0) pa_nil)) pe_int (nomark _)))))
    (pss_one (ps_ret pe_bl))
    pss_nil)
    (pss_cons (ps_set (i := 2) nd rfl (Or.inr rfl) (pe_lst (pa_cons pe_int (pa_cons pe_int (pa_cons pe_int (pa_cons pe_int (pa_cons (pv 1) (pa_cons pe_int pa_nil))))))))
    (pss_one (ps_ret (pe_cmpR op_eq (pe_callB (Kit.kLen K) (by rfl) T.z_len (by decide +kernel) (pa_cons (pe_lc (own := [("k", 3)]) (g := gName 3) (by rfl) nd (pi_range1 (by rfl) T.z_range (pa_cons pe_int pa_nil)) (blkOk_by (own := [("k", 3)]) (N := N_law_registers) (sc := defScope s_law_registers) (by decide +kernel)) (fun _ _ _ _ _ => pg_name (i := 3) nd rfl (Or.inl rfl)) (fun _ _ _ _ _ => pts_one (pt_not (pt_val (pe_call G_law_is_number hr1 (by rfl) T.f_law_is_number.g T.f_law_is_number.F.kp T.f_law_is_number.b .nil pass0 (pa_cons (pe_ix (Kit.ixT K) (pv 0) (pv 3) (fun _ _ => rfl)) (pa_cons (pe_ix (Kit.ixL K) (pv 2) (pv 3) (fun _ _ => rfl)) pa_nil)))))) (fun _ _ _ _ _ => (pv 3))) pa_nil)) pe_int (nomark _))))))) rfl ?_
  try dsimp only [L2.cxOf, L2.Cx.nox]
  refine Kit.m_seq ?_
  refine Kit.m_if ?_
  refine Kit.w_or ?_
  refine Kit.w_not ?_
  refine Kit.w_B ?_
  refine Kit.w_cb ?_
  refine Kit.w_cons ?_
  refine Mi.e_var s rfl ?_
  intro _ s
  refine Kit.w_cons ?_
  refine Kit.w_c ?_
  refine Kit.w_nil ?_
  refine Mi.o_isiTup s ?_
  intro s
  refine Kit.w_blE ?_
  refine Mi.jt_orE (s0 := ()) (fun (z2 : Unit) => F) h s ?_ ?_
  · intro hb h hk
    refine Kit.w_test ?_
    refine Kit.w_op ?_
    refine Kit.w_cb ?_
    refine Kit.w_cons ?_
    refine Mi.e_var s rfl ?_
    intro _ s
    refine Kit.w_nil ?_
    obtain ⟨x1, e0, h⟩ := Mi.R.all_ofO h
    refine Mi.o_lenD e0 s ?_
    intro s
    refine Kit.w_c ?_
    refine Kit.w_neI ?_
    refine Kit.w_blE ?_
    exact hk ((!decide (x1 = (6 : Int))), ()) _ s h
  intro y3 H s h
  refine Mi.r_if h ?_ ?_
  · intro hb h
    refine Kit.m_ret ?_
    refine Kit.w_c ?_
    exact Mi.k_retS s h rfl
  · intro hb h
    refine Kit.m_next ?_
    refine Kit.m_seq ?_
    refine Mi.m_asgK ?_
    refine Kit.w_lst ?_
    refine Kit.w_cons ?_
    refine Kit.w_c ?_
    refine Kit.w_cons ?_
    refine Kit.w_c ?_
    refine Kit.w_cons ?_
    refine Kit.w_c ?_
    refine Kit.w_cons ?_
    refine Kit.w_c ?_
    refine Kit.w_cons ?_
    refine Mi.e_varS s rfl rfl ?_
    refine Kit.w_cons ?_
    refine Kit.w_c ?_
    refine Kit.w_nil ?_
    refine Mi.o_newL [(Mi.D.int (255 : Int)), (Mi.D.int (65535 : Int)), (Mi.D.int (65535 : Int)), (Mi.D.int (6 : Int)), (Mi.D.int p_top), (Mi.D.int (16 : Int))] s (Nat.le_of_ble_eq_true rfl) (fun _ _ k => ⟨(.cons (Mi.val_of rfl).dat (.cons (Mi.val_of rfl).dat (.cons (Mi.val_of rfl).dat (.cons (Mi.val_of rfl).dat (.cons (Mi.val_of rfl).dat (.cons (Mi.val_of rfl).dat .nil)))))), k⟩) ?_
    intro _ H s
    refine Mi.k_asgG (em := fun y : (List Int) => (Mi.E.d (Mi.D.lst (List.map Mi.D.int y)))) ([(255 : Int), (65535 : Int), (65535 : Int), (6 : Int), p_top, (16 : Int)]) s h ?_
    intro x4 σ s h
    refine Kit.m_ret ?_
    refine Kit.w_op ?_
    refine Kit.w_cb ?_
    refine Kit.w_cons ?_
    refine Kit.w_lc ?_
    refine Kit.w_rng1 ?_
    refine Kit.w_cons ?_
    refine Kit.w_c ?_
    refine Kit.w_nil ?_
    refine Mi.i_rng1L (by decide) ?_
    refine Mi.l_fil (em := fun x : Int => (Mi.E.d (Mi.D.int x))) (st0 := []) (s0 := ()) (xs := (Mi.rng 0 ((6 : Int)).toNat)) Mi.D.int (fun (z6 : Unit) => F) Mi.walk_rng s h ?_ ?_
    · intro p7 acc x5 z6 σ H KK Nn No s h hk hno
      refine Kit.w_not ?_
      refine Kit.w_B ?_
      refine Kit.w_call0 ?_
      refine Kit.w_cons ?_
      refine Kit.w_op ?_
      refine Mi.e_var s rfl ?_
      intro _ s
      refine Mi.e_varS s rfl rfl ?_
      obtain ⟨x8, e0, h⟩ := Mi.R.all_ofO h
      refine Mi.o_ixD e0 s ?_
      intro v s
      refine Kit.w_cons ?_
      refine Kit.w_op ?_
      refine Mi.e_var s rfl ?_
      intro _ s
      refine Mi.e_varS s rfl rfl ?_
      obtain ⟨x9, e0, h⟩ := Mi.R.all_ofO h
      replace e0 := Mi.at_map (f := Mi.D.int) e0
      refine Mi.o_ixL e0 s ?_
      intro v s
      obtain rfl := s.top rfl
      replace s := s.pop
      refine Kit.w_nil ?_
      refine Mi.c_callS (x8, (some x9)) s h (fun _ _ k => ⟨(.cons k.1 (.cons (Mi.val_of rfl) .nil)), k.2⟩) (.refl _) (fun _ => rfl) ?_
      intro r10 H s h
      refine Kit.w_blE ?_
      refine Mi.r_if h ?_ ?_
      · intro hb h
        refine Mi.e_varS s rfl rfl ?_
        exact hk _ () _ _ (s.hand ((Mi.E.d (Mi.D.int x5))) rfl) h
      · intro hb h
        exact hno _ _ s h
    intro p12 y11 H s h
    replace s := Mi.k_freeze (.refl _) s
    refine Kit.w_nil ?_
    refine Mi.o_lenL (List.length_map _) s ?_
    intro s
    refine Kit.w_c ?_
    refine Kit.w_eqI ?_
    exact Mi.k_retS s h rfl
def m_law_due (p_value : Mi.D) (p_top : Int) : Mi.R (Bool) :=  (if (!(p_value).isTup) = true then Mi.R.ok (true, ()) else (Mi.R.ofO (Mi.D.len? p_value)).bind fun x2 => (if (decide (x2 = (0 : Int))) = true then Mi.R.ok (true, ()) else (Mi.R.ofO (Mi.D.at? p_value (0 : Int))).bind fun x3 => (if (!(x3).isStr) = true then Mi.R.ok (true, ()) else (Mi.R.ofO (Mi.D.at? p_value (0 : Int))).bind fun x4 => (Mi.R.ofO (Mi.D.str? x4)).bind fun x5 => (Mi.R.ofO (Mi.D.len? p_value)).bind fun x6 => Mi.R.ok ((!decide (((Mi.dlk [(Sum.inr ("ask" : Str), (4 : Int)), (Sum.inr ("claim" : Str), (8 : Int)), (Sum.inr ("halve" : Str), (11 : Int)), (Sum.inr ("prove" : Str), (7 : Int))] (Sum.inr x5)).getD (0 : Int)) = x6)), ())).bind fun y8 => Mi.R.ok (y8.1, ())).bind fun y10 => Mi.R.ok (y10.1, ())).bind fun y12 => if y12.1 = true then ( Mi.R.ok false) else ((Mi.R.ofO (Mi.D.at? p_value (0 : Int))).bind fun x13 => (Mi.R.req (Mi.D.eqOk x13 (Mi.D.str ("ask" : Str)))).bind fun _ => if (Mi.D.eqv x13 (Mi.D.str ("ask" : Str))) = true then ((Mi.R.ofO (Mi.D.at? p_value (2 : Int))).bind fun x14 => (if (x14).isTup = true then (Mi.R.ofO (Mi.D.len? x14)).bind fun x15 => (if (decide (x15 = (2 : Int))) = true then (Mi.R.ofO (Mi.D.at? x14 (0 : Int))).bind fun x16 => Mi.R.ok ((x16).isStr, ()) else Mi.R.ok (false, ())).bind fun y18 => Mi.R.ok (y18.1, ()) else Mi.R.ok (false, ())).bind fun y20 => (if y20.1 = true then (Mi.R.ofO (Mi.D.at? x14 (0 : Int))).bind fun x21 => (Mi.R.req (Mi.D.eqOk x21 (Mi.D.str ("answer" : Str)))).bind fun _ => (if (!Mi.D.eqv x21 (Mi.D.str ("answer" : Str))) = true then Mi.R.ok (true, ()) else (Mi.R.ofO (Mi.D.at? x14 (1 : Int))).bind fun x22 => (m_law_is_number x22 none).bind fun r23 => Mi.R.ok ((!r23), ())).bind fun y25 => Mi.R.ok (y25.1, ()) else Mi.R.ok (false, ())).bind fun y27 => if y27.1 = true then ( Mi.R.ok false) else ((Mi.R.ofO (Mi.D.at? p_value (1 : Int))).bind fun x28 => (m_law_numbers x28 ((some (65535 : Int))) ((some (239 : Int)))).bind fun r29 => (if r29 = true then (if y20.1 = true then Mi.R.ok (true, ()) else (m_law_numbers x14 ((some (65535 : Int))) ((some (16 : Int)))).bind fun r30 => Mi.R.ok (r30, ())).bind fun y32 => (if y32.1 = true then (Mi.R.ofO (Mi.D.at? p_value (3 : Int))).bind fun x33 => (m_law_is_number x33 ((some (8 : Int)))).bind fun r34 => Mi.R.ok (r34, ()) else Mi.R.ok (false, ())).bind fun y36 => Mi.R.ok (y36.1, ()) else Mi.R.ok (false, ())).bind fun y38 => Mi.R.ok y38.1)) else ((Mi.R.ofO (Mi.D.at? p_value (1 : Int))).bind fun x39 => (m_law_is_number x39 none).bind fun r40 => if (!r40) = true then ( Mi.R.ok false) else ((Mi.R.ofO (Mi.D.at? p_value (0 : Int))).bind fun x41 => (Mi.R.req (Mi.D.eqOk x41 (Mi.D.str ("claim" : Str)))).bind fun _ => if (Mi.D.eqv x41 (Mi.D.str ("claim" : Str))) = true then ((Mi.R.ofO (Mi.D.at? p_value (2 : Int))).bind fun x42 => (Mi.R.ofO (Mi.D.at? p_value (3 : Int))).bind fun x43 => (Mi.R.ofO (Mi.D.at? p_value (6 : Int))).bind fun x44 => (m_law_numbers ((Mi.D.tup [x42, x43, x44])) ((some p_top)) none).bind fun r45 => (if (!r45) = true then Mi.R.ok (true, ()) else (Mi.R.ofO (Mi.D.at? p_value (4 : Int))).bind fun x46 => (m_law_numbers x46 ((some p_top)) none).bind fun r47 => Mi.R.ok ((!r47), ())).bind fun y49 => if y49.1 = true then ( Mi.R.ok false) else ((Mi.R.ofO (Mi.D.at? p_value (5 : Int))).bind fun x50 => (m_law_registers x50 p_top).bind fun r51 => (if r51 = true then (Mi.R.ofO (Mi.D.at? p_value (7 : Int))).bind fun x52 => (m_law_numbers x52 ((some (65535 : Int))) ((some (16 : Int)))).bind fun r53 => Mi.R.ok (r53, ()) else Mi.R.ok (false, ())).bind fun y55 => Mi.R.ok y55.1)) else ((Mi.R.ofO (Mi.D.at? p_value (0 : Int))).bind fun x56 => (Mi.R.req (Mi.D.eqOk x56 (Mi.D.str ("halve" : Str)))).bind fun _ => if (Mi.D.eqv x56 (Mi.D.str ("halve" : Str))) = true then ((Mi.R.ofO (Mi.D.tup? p_value)).bind fun x57 => (m_law_numbers ((Mi.D.tup (Mi.cutL x57 (some (2 : Int)) (some (4 : Int))))) none none).bind fun r58 => (if r58 = true then (Mi.R.ofO (Mi.D.tup? p_value)).bind fun x59 => (m_law_numbers ((Mi.D.tup (Mi.cutL x59 (some (4 : Int)) (some (10 : Int))))) ((some p_top)) none).bind fun r60 => (if r60 = true then (Mi.R.ofO (Mi.D.at? p_value (10 : Int))).bind fun x61 => (m_law_numbers x61 ((some p_top)) none).bind fun r62 => Mi.R.ok (r62, ()) else Mi.R.ok (false, ())).bind fun y64 => Mi.R.ok (y64.1, ()) else Mi.R.ok (false, ())).bind fun y66 => Mi.R.ok y66.1) else ((Mi.R.ofO (Mi.D.at? p_value (2 : Int))).bind fun x67 => (m_law_is_number x67 none).bind fun r68 => (if r68 = true then (Mi.R.ofO (Mi.D.tup? p_value)).bind fun x69 => (m_law_numbers ((Mi.D.tup (Mi.cutL x69 (some (3 : Int)) (some (6 : Int))))) ((some p_top)) none).bind fun r70 => Mi.R.ok (r70, ()) else Mi.R.ok (false, ())).bind fun y72 => Mi.R.ok y72.1)))))
abbrev sp_law_due (T : Txt w K mg) : Sp := Mi.SpOf (gg T) (α := Mi.D × Int) (β := Bool) (fun a => [(Mi.E.d a.1), (Mi.E.d (Mi.D.int a.2))]) (fun a => []) (fun a => m_law_due a.1 a.2) (fun a r => (Mi.E.d (Mi.D.bl r))) (fun a r => [])
theorem ok_law_due (T : Txt w K mg) : FnOk P w K mg base CX0 3 T.f_law_due.f T.f_law_due.fd ["value", "top"] (sp_law_due T) := by
  have G_law_is_number := ok_law_is_number (P := P) (w := w) (base := base) T
  have G_law_numbers := ok_law_numbers (P := P) (w := w) (base := base) T
  have G_law_registers := ok_law_registers (P := P) (w := w) (base := base) T
  refine T.f_law_due.F.ok sc_law_due (fun vs H Q E h => ?_) (fun cdv A outer s0 H vs Q E hr h => ?_)
  · obtain ⟨a, e⟩ := Mi.c_len h
    exact e
  have hl : vs.length = 2 := by obtain ⟨a, e⟩ := Mi.c_len h; exact e
  obtain ⟨v0, v1, rfl⟩ := Mi.vs2 hl
  clear hl
  obtain ⟨⟨p_value, p_top⟩, F, Z, s, h⟩ := Mi.c_start (n := 3) h
  replace s : Mi.Bd ⟨gg T, Z, H⟩ [some (Mi.E.d p_value), some (Mi.E.d (Mi.D.int p_top)), none, none, none] [] (F) [some v0, some v1, none, none, none] H := s
  replace h : Mi.R.All (m_law_due p_value p_top) _ _ := h
  unfold m_law_due at h
  have nd := sc_law_due.nd
  have hu := hu_of hr
  have hr1 : Room 1 _ := hr.mono (by decide)
  have hr2 : Room 2 _ := hr.mono (by decide)
  refine Kit.ok_body (σ := [some v0, some v1, none, none, none]) ((pss_cons (ps_set (i := 2) nd rfl (Or.inl rfl) (pe_disp (pps_cons pe_str pe_int (pps_cons pe_str pe_int (pps_cons pe_str pe_int (pps_cons pe_str pe_int pps_nil)))) (by rfl) (by rfl) (fun z => by cases z) (by decide)))
    (pss_cons (ps_if (PW.pt (pw_or (pt_not (pt_val (pe_callB (Kit.kIsi K) (by rfl) T.z_isinstance (by decide +kernel) (pa_cons (pv 0) (pa_cons (pe_bltn (v := .ty "tuple") (by rfl) T.z_tuple (by decide +kernel) rfl) pa_nil))))) (pw_or (pt_cmpR op_eq (pe_callB (Kit.kLen K) (by rfl) T.z_len (by decide +kernel) (pa_cons (pv 0) pa_nil)) pe_int (nomark _)) (pw_or (pt_not (pt_val (pe_callB (Kit.kIsi K) (by rfl) T.z_isinstance (by decide +kernel) (pa_cons (pe_ix (Kit.ixT K) (pv 0) pe_int (fun _ _ => rfl)) (pa_cons (pe_bltn (v := .ty "str") (by rfl) T.z_str (by decide +kernel) rfl) pa_nil))))) (pw_or1 (pt_cmpR op_ne (pe_dget2 hu (pv 2) (pe_ix (Kit.ixT K) (pv 0) pe_int (fun _ _ => rfl)) pe_int (by exact ⟨rfl, rfl, rfl, rfl⟩)) (pe_callB (Kit.kLen K) (by rfl) T.z_len (by decide +kernel) (pa_cons (pv 0) pa_nil)) (nomark _)))))))
    (pss_one (ps_ret pe_bl))
    pss_nil)
    (pss_cons (ps_if (pt_cmpR (Kit.kEqD K hr.units) (pe_ix (Kit.ixT K) (pv 0) pe_int (fun _ _ => rfl)) pe_str (nomark _))
    (pss_cons (ps_set (i := 3) nd rfl (Or.inl rfl) (pe_ix (Kit.ixT K) (pv 0) pe_int (fun _ _ => rfl)))
    (pss_cons (ps_set (i := 4) nd rfl (Or.inl rfl) (pe_and (pe_callB (Kit.kIsi K) (by rfl) T.z_isinstance (by decide +kernel) (pa_cons (pv 3) (pa_cons (pe_bltn (v := .ty "tuple") (by rfl) T.z_tuple (by decide +kernel) rfl) pa_nil))) (pe_and (pe_cmpR op_eq (pe_callB (Kit.kLen K) (by rfl) T.z_len (by decide +kernel) (pa_cons (pv 3) pa_nil)) pe_int (nomark _)) (pe_one (pe_callB (Kit.kIsi K) (by rfl) T.z_isinstance (by decide +kernel) (pa_cons (pe_ix (Kit.ixT K) (pv 3) pe_int (fun _ _ => rfl)) (pa_cons (pe_bltn (v := .ty "str") (by rfl) T.z_str (by decide +kernel) rfl) pa_nil)))))))
    (pss_cons (ps_if (PW.pt (pw_and (pt_val (pv 4)) (pw_and1 (PW.pt (pw_or (pt_cmpR (Kit.kNeD K hr.units) (pe_ix (Kit.ixT K) (pv 3) pe_int (fun _ _ => rfl)) pe_str (nomark _)) (pw_or1 (pt_not (pt_val (pe_call G_law_is_number hr1 (by rfl) T.f_law_is_number.g T.f_law_is_number.F.kp T.f_law_is_number.b .nil pass0 (pa_cons (pe_ix (Kit.ixT K) (pv 3) pe_int (fun _ _ => rfl)) (pa_cons pe_non pa_nil)))))))))))
    (pss_one (ps_ret pe_bl))
    pss_nil)
    (pss_one (ps_ret (pe_and (pe_call G_law_numbers hr2 (by rfl) T.f_law_numbers.g T.f_law_numbers.F.kp T.f_law_numbers.b .nil pass0 (pa_cons (pe_ix (Kit.ixT K) (pv 0) pe_int (fun _ _ => rfl)) (pa_cons pe_int (pa_cons pe_int pa_nil)))) (pe_and (pe_or (pv 4) (pe_one (pe_call G_law_numbers hr2 (by rfl) T.f_law_numbers.g T.f_law_numbers.F.kp T.f_law_numbers.b .nil pass0 (pa_cons (pv 3) (pa_cons pe_int (pa_cons pe_int pa_nil)))))) (pe_one (pe_call G_law_is_number hr1 (by rfl) T.f_law_is_number.g T.f_law_is_number.F.kp T.f_law_is_number.b .nil pass0 (pa_cons (pe_ix (Kit.ixT K) (pv 0) pe_int (fun _ _ => rfl)) (pa_cons pe_int pa_nil)))))))))))
    pss_nil)
    (pss_cons (ps_if (pt_not (pt_val (pe_call G_law_is_number hr1 (by rfl) T.f_law_is_number.g T.f_law_is_number.F.kp T.f_law_is_number.b .nil pass0 (pa_cons (pe_ix (Kit.ixT K) (pv 0) pe_int (fun _ _ => rfl)) (pa_cons pe_non pa_nil)))))
    (pss_one (ps_ret pe_bl))
    pss_nil)
    (pss_cons (ps_if (pt_cmpR (Kit.kEqD K hr.units) (pe_ix (Kit.ixT K) (pv 0) pe_int (fun _ _ => rfl)) pe_str (nomark _))
    (pss_cons (ps_if (PW.pt (pw_or (pt_not (pt_val (pe_call G_law_numbers hr2 (by rfl) T.f_law_numbers.g T.f_law_numbers.F.kp T.f_law_numbers.b .nil pass0 (pa_cons (pe_tup (pa_cons (pe_ix (Kit.ixT K) (pv 0) pe_int (fun _ _ => rfl)) (pa_cons (pe_ix (Kit.ixT K) (pv 0) pe_int (fun _ _ => rfl)) (pa_cons (pe_ix (Kit.ixT K) (pv 0) pe_int (fun _ _ => rfl)) pa_nil)))) (pa_cons (pv 1) (pa_cons pe_non pa_nil)))))) (pw_or1 (pt_not (pt_val (pe_call G_law_numbers hr2 (by rfl) T.f_law_numbers.g T.f_law_numbers.F.kp T.f_law_numbers.b .nil pass0 (pa_cons (pe_ix (Kit.ixT K) (pv 0) pe_int (fun _ _ => rfl)) (pa_cons (pv 1) (pa_cons pe_non pa_nil)))))))))
    (pss_one (ps_ret pe_bl))
    pss_nil)
    (pss_one (ps_ret (pe_and (pe_call G_law_registers hr2 (by rfl) T.f_law_registers.g T.f_law_registers.F.kp T.f_law_registers.b .nil pass0 (pa_cons (pe_ix (Kit.ixT K) (pv 0) pe_int (fun _ _ => rfl)) (pa_cons (pv 1) pa_nil))) (pe_one (pe_call G_law_numbers hr2 (by rfl) T.f_law_numbers.g T.f_law_numbers.F.kp T.f_law_numbers.b .nil pass0 (pa_cons (pe_ix (Kit.ixT K) (pv 0) pe_int (fun _ _ => rfl)) (pa_cons pe_int (pa_cons pe_int pa_nil)))))))))
    pss_nil)
    (pss_cons (ps_if (pt_cmpR (Kit.kEqD K hr.units) (pe_ix (Kit.ixT K) (pv 0) pe_int (fun _ _ => rfl)) pe_str (nomark _))
    (pss_one (ps_ret (pe_and (pe_call G_law_numbers hr2 (by rfl) T.f_law_numbers.g T.f_law_numbers.F.kp T.f_law_numbers.b .nil pass0 (pa_cons (pe_slice (Kit.kSlT K) (pv 0) (po_some pe_int) (po_some pe_int)) (pa_cons pe_non (pa_cons pe_non pa_nil)))) (pe_and (pe_call G_law_numbers hr2 (by rfl) T.f_law_numbers.g T.f_law_numbers.F.kp T.f_law_numbers.b .nil pass0 (pa_cons (pe_slice (Kit.kSlT K) (pv 0) (po_some pe_int) (po_some pe_int)) (pa_cons (pv 1) (pa_cons pe_non pa_nil)))) (pe_one (pe_call G_law_numbers hr2 (by rfl) T.f_law_numbers.g T.f_law_numbers.F.kp T.f_law_numbers.b .nil pass0 (pa_cons (pe_ix (Kit.ixT K) (pv 0) pe_int (fun _ _ => rfl)) (pa_cons (pv 1) (pa_cons pe_non pa_nil)))))))))
    pss_nil)
    (pss_one (ps_ret (pe_and (pe_call G_law_is_number hr1 (by rfl) T.f_law_is_number.g T.f_law_is_number.F.kp T.f_law_is_number.b .nil pass0 (pa_cons (pe_ix (Kit.ixT K) (pv 0) pe_int (fun _ _ => rfl)) (pa_cons pe_non pa_nil))) (pe_one (pe_call G_law_numbers hr2 (by rfl) T.f_law_numbers.g T.f_law_numbers.F.kp T.f_law_numbers.b .nil pass0 (pa_cons (pe_slice (Kit.kSlT K) (pv 0) (po_some pe_int) (po_some pe_int)) (pa_cons (pv 1) (pa_cons pe_non pa_nil))))))))))))))) rfl ?_
  try dsimp only [L2.cxOf, L2.Cx.nox]
  refine Kit.m_seq ?_
  refine Mi.m_asgK ?_
  refine Mi.o_disp s ?_
  intro p1 H s
  refine Kit.w_pp ?_
  refine Kit.w_c ?_
  refine Kit.w_c ?_
  refine Kit.w_pp ?_
  refine Kit.w_c ?_
  refine Kit.w_c ?_
  refine Kit.w_pp ?_
  refine Kit.w_c ?_
  refine Kit.w_c ?_
  refine Kit.w_pp ?_
  refine Kit.w_c ?_
  refine Kit.w_c ?_
  refine Kit.w_pn ?_
  refine Mi.o_dispE (kvs := [(Sum.inr ("ask" : Str), (.int (4 : Int))), (Sum.inr ("claim" : Str), (.int (8 : Int))), (Sum.inr ("halve" : Str), (.int (11 : Int))), (Sum.inr ("prove" : Str), (.int (7 : Int)))]) (by decide) [(Sum.inr ("ask" : Str), (Mi.E.d (Mi.D.int (4 : Int)))), (Sum.inr ("claim" : Str), (Mi.E.d (Mi.D.int (8 : Int)))), (Sum.inr ("halve" : Str), (Mi.E.d (Mi.D.int (11 : Int)))), (Sum.inr ("prove" : Str), (Mi.E.d (Mi.D.int (7 : Int))))] (by decide +kernel) (by exact fun _ _ => (.cons (Mi.val_of rfl) (.cons (Mi.val_of rfl) (.cons (Mi.val_of rfl) (.cons (Mi.val_of rfl) .nil))))) s ?_
  intro H s
  refine Mi.k_asgS s (.adr p1) rfl ?_
  intro σ s
  refine Kit.m_seq ?_
  refine Kit.m_if ?_
  refine Kit.w_or ?_
  refine Kit.w_not ?_
  refine Kit.w_B ?_
  refine Kit.w_cb ?_
  refine Kit.w_cons ?_
  refine Mi.e_var s rfl ?_
  intro _ s
  refine Kit.w_cons ?_
  refine Kit.w_c ?_
  refine Kit.w_nil ?_
  refine Mi.o_isiTup s ?_
  intro s
  refine Kit.w_blE ?_
  refine Mi.jt_orE (s0 := ()) (fun (z11 : Unit) => Mi.pt p1 (Mi.OC.dk (List.map (fun y => (y.1, (Mi.E.d (Mi.D.int y.2)))) [(Sum.inr ("ask" : Str), (4 : Int)), (Sum.inr ("claim" : Str), (8 : Int)), (Sum.inr ("halve" : Str), (11 : Int)), (Sum.inr ("prove" : Str), (7 : Int))])) :: F) h s ?_ ?_
  · intro hb h hk
    refine Kit.w_or ?_
    refine Kit.w_test ?_
    refine Kit.w_op ?_
    refine Kit.w_cb ?_
    refine Kit.w_cons ?_
    refine Mi.e_var s rfl ?_
    intro _ s
    refine Kit.w_nil ?_
    obtain ⟨x2, e0, h⟩ := Mi.R.all_ofO h
    refine Mi.o_lenD e0 s ?_
    intro s
    refine Kit.w_c ?_
    refine Kit.w_eqI ?_
    refine Kit.w_blE ?_
    refine Mi.jt_orE (s0 := ()) (fun (z9 : Unit) => Mi.pt p1 (Mi.OC.dk (List.map (fun y => (y.1, (Mi.E.d (Mi.D.int y.2)))) [(Sum.inr ("ask" : Str), (4 : Int)), (Sum.inr ("claim" : Str), (8 : Int)), (Sum.inr ("halve" : Str), (11 : Int)), (Sum.inr ("prove" : Str), (7 : Int))])) :: F) h s ?_ ?_
    · intro hb h hk
      refine Kit.w_or ?_
      refine Kit.w_not ?_
      refine Kit.w_B ?_
      refine Kit.w_cb ?_
      refine Kit.w_cons ?_
      refine Kit.w_op ?_
      refine Mi.e_var s rfl ?_
      intro _ s
      refine Kit.w_c ?_
      obtain ⟨x3, e0, h⟩ := Mi.R.all_ofO h
      refine Mi.o_ixD e0 s ?_
      intro v s
      refine Kit.w_cons ?_
      refine Kit.w_c ?_
      refine Kit.w_nil ?_
      refine Mi.o_isiStr s ?_
      intro s
      refine Kit.w_blE ?_
      refine Mi.jt_orE (s0 := ()) (fun (z7 : Unit) => Mi.pt p1 (Mi.OC.dk (List.map (fun y => (y.1, (Mi.E.d (Mi.D.int y.2)))) [(Sum.inr ("ask" : Str), (4 : Int)), (Sum.inr ("claim" : Str), (8 : Int)), (Sum.inr ("halve" : Str), (11 : Int)), (Sum.inr ("prove" : Str), (7 : Int))])) :: F) h s ?_ ?_
      · intro hb h hk
        refine Kit.w_test ?_
        refine Kit.w_op ?_
        refine Mi.w_dget2 ?_
        refine Mi.e_varS s rfl rfl ?_
        refine Mi.o_isD (Mi.pk0) s ?_
        refine Kit.w_op ?_
        refine Mi.e_var s rfl ?_
        intro _ s
        refine Kit.w_c ?_
        obtain ⟨x4, e0, h⟩ := Mi.R.all_ofO h
        refine Mi.o_ixD e0 s ?_
        intro v s
        obtain ⟨x5, e0, h⟩ := Mi.R.all_ofO h
        replace s := s.asStr e0
        obtain ⟨rfl, s⟩ := s
        refine Kit.w_c ?_
        refine Mi.o_dget2 (key := Sum.inr x5) (wf := Mi.wInt) (Mi.wInt_ok [(Sum.inr ("ask" : Str), (4 : Int)), (Sum.inr ("claim" : Str), (8 : Int)), (Sum.inr ("halve" : Str), (11 : Int)), (Sum.inr ("prove" : Str), (7 : Int))]) (Mi.pk0) s (Mi.wInt_get _ _ _) ?_
        refine Kit.w_cb ?_
        refine Kit.w_cons ?_
        refine Mi.e_var s rfl ?_
        intro _ s
        refine Kit.w_nil ?_
        obtain ⟨x6, e0, h⟩ := Mi.R.all_ofO h
        refine Mi.o_lenD e0 s ?_
        intro s
        refine Kit.w_neI ?_
        refine Kit.w_blE ?_
        exact hk ((!decide (((Mi.dlk [(Sum.inr ("ask" : Str), (4 : Int)), (Sum.inr ("claim" : Str), (8 : Int)), (Sum.inr ("halve" : Str), (11 : Int)), (Sum.inr ("prove" : Str), (7 : Int))] (Sum.inr x5)).getD (0 : Int)) = x6)), ()) _ s h
      intro y8 H s h
      exact hk (y8.1, ()) _ s h
    intro y10 H s h
    exact hk (y10.1, ()) _ s h
  intro y12 H s h
  refine Mi.r_if h ?_ ?_
  · intro hb h
    refine Kit.m_ret ?_
    refine Kit.w_c ?_
    replace s := (s.perm (Mi.pk0)).drop
    exact Mi.k_retS s h rfl
  · intro hb h
    refine Kit.m_next ?_
    refine Kit.m_seq ?_
    refine Kit.m_if ?_
    refine Kit.w_test ?_
    refine Kit.w_op ?_
    refine Kit.w_op ?_
    refine Mi.e_var s rfl ?_
    intro _ s
    refine Kit.w_c ?_
    obtain ⟨x13, e0, h⟩ := Mi.R.all_ofO h
    refine Mi.o_ixD e0 s ?_
    intro v s
    refine Kit.w_c ?_
    replace s := s.hand (Mi.E.d (Mi.D.str ("ask" : Str))) rfl
    obtain ⟨hc, h⟩ := Mi.R.all_req h
    refine Mi.o_eqD hc s ?_
    intro s
    refine Kit.w_blE ?_
    refine Mi.r_if h ?_ ?_
    · intro hb h
      refine Kit.m_seq ?_
      refine Mi.m_asgK ?_
      refine Kit.w_op ?_
      refine Mi.e_var s rfl ?_
      intro _ s
      refine Kit.w_c ?_
      obtain ⟨x14, e0, h⟩ := Mi.R.all_ofO h
      refine Mi.o_ixD e0 s ?_
      intro v s
      refine Mi.k_asg s ?_
      intro σ s
      refine Kit.m_seq ?_
      refine Mi.m_asgK ?_
      refine Kit.w_andV ?_
      refine Kit.w_cb ?_
      refine Kit.w_cons ?_
      refine Mi.e_var s rfl ?_
      intro _ s
      refine Kit.w_cons ?_
      refine Kit.w_c ?_
      refine Kit.w_nil ?_
      refine Mi.o_isiTup s ?_
      intro s
      refine Kit.w_blE ?_
      refine Mi.jv_andE (s0 := ()) (fun (z19 : Unit) => Mi.pt p1 (Mi.OC.dk (List.map (fun y => (y.1, (Mi.E.d (Mi.D.int y.2)))) [(Sum.inr ("ask" : Str), (4 : Int)), (Sum.inr ("claim" : Str), (8 : Int)), (Sum.inr ("halve" : Str), (11 : Int)), (Sum.inr ("prove" : Str), (7 : Int))])) :: F) h s ?_ ?_
      · intro hb h hk
        refine Kit.w_andV ?_
        refine Kit.w_op ?_
        refine Kit.w_cb ?_
        refine Kit.w_cons ?_
        refine Mi.e_var s rfl ?_
        intro _ s
        refine Kit.w_nil ?_
        obtain ⟨x15, e0, h⟩ := Mi.R.all_ofO h
        refine Mi.o_lenD e0 s ?_
        intro s
        refine Kit.w_c ?_
        refine Kit.w_eqI ?_
        refine Kit.w_blE ?_
        refine Mi.jv_andE (s0 := ()) (fun (z17 : Unit) => Mi.pt p1 (Mi.OC.dk (List.map (fun y => (y.1, (Mi.E.d (Mi.D.int y.2)))) [(Sum.inr ("ask" : Str), (4 : Int)), (Sum.inr ("claim" : Str), (8 : Int)), (Sum.inr ("halve" : Str), (11 : Int)), (Sum.inr ("prove" : Str), (7 : Int))])) :: F) h s ?_ ?_
        · intro hb h hk
          refine Kit.w_cb ?_
          refine Kit.w_cons ?_
          refine Kit.w_op ?_
          refine Mi.e_var s rfl ?_
          intro _ s
          refine Kit.w_c ?_
          obtain ⟨x16, e0, h⟩ := Mi.R.all_ofO h
          refine Mi.o_ixD e0 s ?_
          intro v s
          refine Kit.w_cons ?_
          refine Kit.w_c ?_
          refine Kit.w_nil ?_
          refine Mi.o_isiStr s ?_
          intro s
          exact hk ((x16).isStr, ()) _ s h
        intro y18 H s h
        exact hk (y18.1, ()) _ s h
      intro y20 H s h
      refine Mi.k_asgS s (Mi.E.d (Mi.D.bl y20.1)) rfl ?_
      intro σ s
      refine Kit.m_seq ?_
      refine Kit.m_if ?_
      refine Kit.w_and ?_
      refine Kit.w_B ?_
      refine Mi.e_varS s rfl rfl ?_
      refine Kit.w_blE ?_
      refine Mi.jt_andE (s0 := ()) (fun (z26 : Unit) => Mi.pt p1 (Mi.OC.dk (List.map (fun y => (y.1, (Mi.E.d (Mi.D.int y.2)))) [(Sum.inr ("ask" : Str), (4 : Int)), (Sum.inr ("claim" : Str), (8 : Int)), (Sum.inr ("halve" : Str), (11 : Int)), (Sum.inr ("prove" : Str), (7 : Int))])) :: F) h s ?_ ?_
      · intro hb h hk
        refine Kit.w_or ?_
        refine Kit.w_test ?_
        refine Kit.w_op ?_
        refine Kit.w_op ?_
        refine Mi.e_var s rfl ?_
        intro _ s
        refine Kit.w_c ?_
        obtain ⟨x21, e0, h⟩ := Mi.R.all_ofO h
        refine Mi.o_ixD e0 s ?_
        intro v s
        refine Kit.w_c ?_
        replace s := s.hand (Mi.E.d (Mi.D.str ("answer" : Str))) rfl
        obtain ⟨hc, h⟩ := Mi.R.all_req h
        refine Mi.o_neD hc s ?_
        intro s
        refine Kit.w_blE ?_
        refine Mi.jt_orE (s0 := ()) (fun (z24 : Unit) => Mi.pt p1 (Mi.OC.dk (List.map (fun y => (y.1, (Mi.E.d (Mi.D.int y.2)))) [(Sum.inr ("ask" : Str), (4 : Int)), (Sum.inr ("claim" : Str), (8 : Int)), (Sum.inr ("halve" : Str), (11 : Int)), (Sum.inr ("prove" : Str), (7 : Int))])) :: F) h s ?_ ?_
        · intro hb h hk
          refine Kit.w_not ?_
          refine Kit.w_B ?_
          refine Kit.w_call0 ?_
          refine Kit.w_cons ?_
          refine Kit.w_op ?_
          refine Mi.e_var s rfl ?_
          intro _ s
          refine Kit.w_c ?_
          obtain ⟨x22, e0, h⟩ := Mi.R.all_ofO h
          refine Mi.o_ixD e0 s ?_
          intro v s
          refine Kit.w_cons ?_
          refine Kit.w_c ?_
          refine Kit.w_nil ?_
          refine Mi.c_callS (x22, none) s h (fun _ _ k => ⟨(.cons k.1 (.cons (Mi.val_of rfl) .nil)), k.2⟩) (.refl _) (fun _ => rfl) ?_
          intro r23 H s h
          refine Kit.w_blE ?_
          exact hk ((!r23), ()) _ s h
        intro y25 H s h
        exact hk (y25.1, ()) _ s h
      intro y27 H s h
      refine Mi.r_if h ?_ ?_
      · intro hb h
        refine Kit.m_ret ?_
        refine Kit.w_c ?_
        replace s := (s.perm (Mi.pk0)).drop
        exact Mi.k_retS s h rfl
      · intro hb h
        refine Kit.m_next ?_
        refine Kit.m_ret ?_
        refine Kit.w_andV ?_
        refine Kit.w_call0 ?_
        refine Kit.w_cons ?_
        refine Kit.w_op ?_
        refine Mi.e_var s rfl ?_
        intro _ s
        refine Kit.w_c ?_
        obtain ⟨x28, e0, h⟩ := Mi.R.all_ofO h
        refine Mi.o_ixD e0 s ?_
        intro v s
        refine Kit.w_cons ?_
        refine Kit.w_c ?_
        refine Kit.w_cons ?_
        refine Kit.w_c ?_
        refine Kit.w_nil ?_
        refine Mi.c_callS (x28, (some (65535 : Int)), (some (239 : Int))) s h (fun _ _ k => ⟨(.cons k.1 (.cons (Mi.val_of rfl) (.cons (Mi.val_of rfl) .nil))), k.2⟩) (.refl _) (fun _ => rfl) ?_
        intro r29 H s h
        refine Kit.w_blE ?_
        refine Mi.jv_andE (s0 := ()) (fun (z37 : Unit) => Mi.pt p1 (Mi.OC.dk (List.map (fun y => (y.1, (Mi.E.d (Mi.D.int y.2)))) [(Sum.inr ("ask" : Str), (4 : Int)), (Sum.inr ("claim" : Str), (8 : Int)), (Sum.inr ("halve" : Str), (11 : Int)), (Sum.inr ("prove" : Str), (7 : Int))])) :: F) h s ?_ ?_
        · intro hb h hk
          refine Kit.w_andV ?_
          refine Kit.w_orV ?_
          refine Mi.e_varS s rfl rfl ?_
          refine Kit.w_blE ?_
          refine Mi.jv_orE (s0 := ()) (fun (z31 : Unit) => Mi.pt p1 (Mi.OC.dk (List.map (fun y => (y.1, (Mi.E.d (Mi.D.int y.2)))) [(Sum.inr ("ask" : Str), (4 : Int)), (Sum.inr ("claim" : Str), (8 : Int)), (Sum.inr ("halve" : Str), (11 : Int)), (Sum.inr ("prove" : Str), (7 : Int))])) :: F) h s ?_ ?_
          · intro hb h hk
            refine Kit.w_call0 ?_
            refine Kit.w_cons ?_
            refine Mi.e_var s rfl ?_
            intro _ s
            refine Kit.w_cons ?_
            refine Kit.w_c ?_
            refine Kit.w_cons ?_
            refine Kit.w_c ?_
            refine Kit.w_nil ?_
            refine Mi.c_callS (x14, (some (65535 : Int)), (some (16 : Int))) s h (fun _ _ k => ⟨(.cons k.1 (.cons (Mi.val_of rfl) (.cons (Mi.val_of rfl) .nil))), k.2⟩) (.refl _) (fun _ => rfl) ?_
            intro r30 H s h
            exact hk (r30, ()) _ s h
          intro y32 H s h
          refine Kit.w_blE ?_
          refine Mi.jv_andE (s0 := ()) (fun (z35 : Unit) => Mi.pt p1 (Mi.OC.dk (List.map (fun y => (y.1, (Mi.E.d (Mi.D.int y.2)))) [(Sum.inr ("ask" : Str), (4 : Int)), (Sum.inr ("claim" : Str), (8 : Int)), (Sum.inr ("halve" : Str), (11 : Int)), (Sum.inr ("prove" : Str), (7 : Int))])) :: F) h s ?_ ?_
          · intro hb h hk
            refine Kit.w_call0 ?_
            refine Kit.w_cons ?_
            refine Kit.w_op ?_
            refine Mi.e_var s rfl ?_
            intro _ s
            refine Kit.w_c ?_
            obtain ⟨x33, e0, h⟩ := Mi.R.all_ofO h
            refine Mi.o_ixD e0 s ?_
            intro v s
            refine Kit.w_cons ?_
            refine Kit.w_c ?_
            refine Kit.w_nil ?_
            refine Mi.c_callS (x33, (some (8 : Int))) s h (fun _ _ k => ⟨(.cons k.1 (.cons (Mi.val_of rfl) .nil)), k.2⟩) (.refl _) (fun _ => rfl) ?_
            intro r34 H s h
            exact hk (r34, ()) _ s h
          intro y36 H s h
          exact hk (y36.1, ()) _ s h
        intro y38 H s h
        replace s := (s.perm (Mi.pk0)).drop
        exact Mi.k_retS s h rfl
    · intro hb h
      refine Kit.m_next ?_
      refine Kit.m_seq ?_
      refine Kit.m_if ?_
      refine Kit.w_not ?_
      refine Kit.w_B ?_
      refine Kit.w_call0 ?_
      refine Kit.w_cons ?_
      refine Kit.w_op ?_
      refine Mi.e_var s rfl ?_
      intro _ s
      refine Kit.w_c ?_
      obtain ⟨x39, e0, h⟩ := Mi.R.all_ofO h
      refine Mi.o_ixD e0 s ?_
      intro v s
      refine Kit.w_cons ?_
      refine Kit.w_c ?_
      refine Kit.w_nil ?_
      refine Mi.c_callS (x39, none) s h (fun _ _ k => ⟨(.cons k.1 (.cons (Mi.val_of rfl) .nil)), k.2⟩) (.refl _) (fun _ => rfl) ?_
      intro r40 H s h
      refine Kit.w_blE ?_
      refine Mi.r_if h ?_ ?_
      · intro hb h
        refine Kit.m_ret ?_
        refine Kit.w_c ?_
        replace s := (s.perm (Mi.pk0)).drop
        exact Mi.k_retS s h rfl
      · intro hb h
        refine Kit.m_next ?_
        refine Kit.m_seq ?_
        refine Kit.m_if ?_
        refine Kit.w_test ?_
        refine Kit.w_op ?_
        refine Kit.w_op ?_
        refine Mi.e_var s rfl ?_
        intro _ s
        refine Kit.w_c ?_
        obtain ⟨x41, e0, h⟩ := Mi.R.all_ofO h
        refine Mi.o_ixD e0 s ?_
        intro v s
        refine Kit.w_c ?_
        replace s := s.hand (Mi.E.d (Mi.D.str ("claim" : Str))) rfl
        obtain ⟨hc, h⟩ := Mi.R.all_req h
        refine Mi.o_eqD hc s ?_
        intro s
        refine Kit.w_blE ?_
        refine Mi.r_if h ?_ ?_
        · intro hb h
          refine Kit.m_seq ?_
          refine Kit.m_if ?_
          refine Kit.w_or ?_
          refine Kit.w_not ?_
          refine Kit.w_B ?_
          refine Kit.w_call0 ?_
          refine Kit.w_cons ?_
          refine Kit.w_tup ?_
          refine Kit.w_cons ?_
          refine Kit.w_op ?_
          refine Mi.e_var s rfl ?_
          intro _ s
          refine Kit.w_c ?_
          obtain ⟨x42, e0, h⟩ := Mi.R.all_ofO h
          refine Mi.o_ixD e0 s ?_
          intro v s
          refine Kit.w_cons ?_
          refine Kit.w_op ?_
          refine Mi.e_var s rfl ?_
          intro _ s
          refine Kit.w_c ?_
          obtain ⟨x43, e0, h⟩ := Mi.R.all_ofO h
          refine Mi.o_ixD e0 s ?_
          intro v s
          refine Kit.w_cons ?_
          refine Kit.w_op ?_
          refine Mi.e_var s rfl ?_
          intro _ s
          refine Kit.w_c ?_
          obtain ⟨x44, e0, h⟩ := Mi.R.all_ofO h
          refine Mi.o_ixD e0 s ?_
          intro v s
          refine Kit.w_nil ?_
          refine Mi.o_newT [x42, x43, x44] s (Nat.le_of_ble_eq_true rfl) (fun _ _ k => ⟨(.cons k.2.2.1.dat (.cons k.2.1.dat (.cons k.1.dat .nil))), k.2.2.2⟩) ?_
          intro _ H s
          refine Kit.w_cons ?_
          refine Mi.e_varS s rfl rfl ?_
          refine Kit.w_cons ?_
          refine Kit.w_c ?_
          refine Kit.w_nil ?_
          refine Mi.c_callS ((Mi.D.tup [x42, x43, x44]), (some p_top), none) s h (fun _ _ k => ⟨(.cons k.1 (.cons (Mi.val_of rfl) (.cons (Mi.val_of rfl) .nil))), k.2⟩) (.refl _) (fun _ => rfl) ?_
          intro r45 H s h
          refine Kit.w_blE ?_
          refine Mi.jt_orE (s0 := ()) (fun (z48 : Unit) => Mi.pt p1 (Mi.OC.dk (List.map (fun y => (y.1, (Mi.E.d (Mi.D.int y.2)))) [(Sum.inr ("ask" : Str), (4 : Int)), (Sum.inr ("claim" : Str), (8 : Int)), (Sum.inr ("halve" : Str), (11 : Int)), (Sum.inr ("prove" : Str), (7 : Int))])) :: F) h s ?_ ?_
          · intro hb h hk
            refine Kit.w_not ?_
            refine Kit.w_B ?_
            refine Kit.w_call0 ?_
            refine Kit.w_cons ?_
            refine Kit.w_op ?_
            refine Mi.e_var s rfl ?_
            intro _ s
            refine Kit.w_c ?_
            obtain ⟨x46, e0, h⟩ := Mi.R.all_ofO h
            refine Mi.o_ixD e0 s ?_
            intro v s
            refine Kit.w_cons ?_
            refine Mi.e_varS s rfl rfl ?_
            refine Kit.w_cons ?_
            refine Kit.w_c ?_
            refine Kit.w_nil ?_
            refine Mi.c_callS (x46, (some p_top), none) s h (fun _ _ k => ⟨(.cons k.1 (.cons (Mi.val_of rfl) (.cons (Mi.val_of rfl) .nil))), k.2⟩) (.refl _) (fun _ => rfl) ?_
            intro r47 H s h
            refine Kit.w_blE ?_
            exact hk ((!r47), ()) _ s h
          intro y49 H s h
          refine Mi.r_if h ?_ ?_
          · intro hb h
            refine Kit.m_ret ?_
            refine Kit.w_c ?_
            replace s := (s.perm (Mi.pk0)).drop
            exact Mi.k_retS s h rfl
          · intro hb h
            refine Kit.m_next ?_
            refine Kit.m_ret ?_
            refine Kit.w_andV ?_
            refine Kit.w_call0 ?_
            refine Kit.w_cons ?_
            refine Kit.w_op ?_
            refine Mi.e_var s rfl ?_
            intro _ s
            refine Kit.w_c ?_
            obtain ⟨x50, e0, h⟩ := Mi.R.all_ofO h
            refine Mi.o_ixD e0 s ?_
            intro v s
            refine Kit.w_cons ?_
            refine Mi.e_varS s rfl rfl ?_
            refine Kit.w_nil ?_
            refine Mi.c_callS (x50, p_top) s h (fun _ _ k => ⟨(.cons k.1 (.cons (Mi.val_of rfl) .nil)), k.2⟩) (.refl _) (fun _ => rfl) ?_
            intro r51 H s h
            refine Kit.w_blE ?_
            refine Mi.jv_andE (s0 := ()) (fun (z54 : Unit) => Mi.pt p1 (Mi.OC.dk (List.map (fun y => (y.1, (Mi.E.d (Mi.D.int y.2)))) [(Sum.inr ("ask" : Str), (4 : Int)), (Sum.inr ("claim" : Str), (8 : Int)), (Sum.inr ("halve" : Str), (11 : Int)), (Sum.inr ("prove" : Str), (7 : Int))])) :: F) h s ?_ ?_
            · intro hb h hk
              refine Kit.w_call0 ?_
              refine Kit.w_cons ?_
              refine Kit.w_op ?_
              refine Mi.e_var s rfl ?_
              intro _ s
              refine Kit.w_c ?_
              obtain ⟨x52, e0, h⟩ := Mi.R.all_ofO h
              refine Mi.o_ixD e0 s ?_
              intro v s
              refine Kit.w_cons ?_
              refine Kit.w_c ?_
              refine Kit.w_cons ?_
              refine Kit.w_c ?_
              refine Kit.w_nil ?_
              refine Mi.c_callS (x52, (some (65535 : Int)), (some (16 : Int))) s h (fun _ _ k => ⟨(.cons k.1 (.cons (Mi.val_of rfl) (.cons (Mi.val_of rfl) .nil))), k.2⟩) (.refl _) (fun _ => rfl) ?_
              intro r53 H s h
              exact hk (r53, ()) _ s h
            intro y55 H s h
            replace s := (s.perm (Mi.pk0)).drop
            exact Mi.k_retS s h rfl
        · intro hb h
          refine Kit.m_next ?_
          refine Kit.m_seq ?_
          refine Kit.m_if ?_
          refine Kit.w_test ?_
          refine Kit.w_op ?_
          refine Kit.w_op ?_
          refine Mi.e_var s rfl ?_
          intro _ s
          refine Kit.w_c ?_
          obtain ⟨x56, e0, h⟩ := Mi.R.all_ofO h
          refine Mi.o_ixD e0 s ?_
          intro v s
          refine Kit.w_c ?_
          replace s := s.hand (Mi.E.d (Mi.D.str ("halve" : Str))) rfl
          obtain ⟨hc, h⟩ := Mi.R.all_req h
          refine Mi.o_eqD hc s ?_
          intro s
          refine Kit.w_blE ?_
          refine Mi.r_if h ?_ ?_
          · intro hb h
            refine Kit.m_ret ?_
            refine Kit.w_andV ?_
            refine Kit.w_call0 ?_
            refine Kit.w_cons ?_
            refine Kit.w_sl ?_
            refine Mi.e_var s rfl ?_
            intro _ s
            refine Kit.w_ps ?_
            refine Kit.w_c ?_
            refine Kit.w_pi ?_
            refine Kit.w_ps ?_
            refine Kit.w_c ?_
            refine Kit.w_pi ?_
            obtain ⟨x57, e0, h⟩ := Mi.R.all_ofO h
            replace s := s.asTup e0
            refine Mi.o_slT rfl s ?_
            intro _ H s
            refine Kit.w_cons ?_
            refine Kit.w_c ?_
            refine Kit.w_cons ?_
            refine Kit.w_c ?_
            refine Kit.w_nil ?_
            refine Mi.c_callS ((Mi.D.tup (Mi.cutL x57 (some (2 : Int)) (some (4 : Int)))), none, none) s h (fun _ _ k => ⟨(.cons k.1 (.cons (Mi.val_of rfl) (.cons (Mi.val_of rfl) .nil))), k.2⟩) (.refl _) (fun _ => rfl) ?_
            intro r58 H s h
            refine Kit.w_blE ?_
            refine Mi.jv_andE (s0 := ()) (fun (z65 : Unit) => Mi.pt p1 (Mi.OC.dk (List.map (fun y => (y.1, (Mi.E.d (Mi.D.int y.2)))) [(Sum.inr ("ask" : Str), (4 : Int)), (Sum.inr ("claim" : Str), (8 : Int)), (Sum.inr ("halve" : Str), (11 : Int)), (Sum.inr ("prove" : Str), (7 : Int))])) :: F) h s ?_ ?_
            · intro hb h hk
              refine Kit.w_andV ?_
              refine Kit.w_call0 ?_
              refine Kit.w_cons ?_
              refine Kit.w_sl ?_
              refine Mi.e_var s rfl ?_
              intro _ s
              refine Kit.w_ps ?_
              refine Kit.w_c ?_
              refine Kit.w_pi ?_
              refine Kit.w_ps ?_
              refine Kit.w_c ?_
              refine Kit.w_pi ?_
              obtain ⟨x59, e0, h⟩ := Mi.R.all_ofO h
              replace s := s.asTup e0
              refine Mi.o_slT rfl s ?_
              intro _ H s
              refine Kit.w_cons ?_
              refine Mi.e_varS s rfl rfl ?_
              refine Kit.w_cons ?_
              refine Kit.w_c ?_
              refine Kit.w_nil ?_
              refine Mi.c_callS ((Mi.D.tup (Mi.cutL x59 (some (4 : Int)) (some (10 : Int)))), (some p_top), none) s h (fun _ _ k => ⟨(.cons k.1 (.cons (Mi.val_of rfl) (.cons (Mi.val_of rfl) .nil))), k.2⟩) (.refl _) (fun _ => rfl) ?_
              intro r60 H s h
              refine Kit.w_blE ?_
              refine Mi.jv_andE (s0 := ()) (fun (z63 : Unit) => Mi.pt p1 (Mi.OC.dk (List.map (fun y => (y.1, (Mi.E.d (Mi.D.int y.2)))) [(Sum.inr ("ask" : Str), (4 : Int)), (Sum.inr ("claim" : Str), (8 : Int)), (Sum.inr ("halve" : Str), (11 : Int)), (Sum.inr ("prove" : Str), (7 : Int))])) :: F) h s ?_ ?_
              · intro hb h hk
                refine Kit.w_call0 ?_
                refine Kit.w_cons ?_
                refine Kit.w_op ?_
                refine Mi.e_var s rfl ?_
                intro _ s
                refine Kit.w_c ?_
                obtain ⟨x61, e0, h⟩ := Mi.R.all_ofO h
                refine Mi.o_ixD e0 s ?_
                intro v s
                refine Kit.w_cons ?_
                refine Mi.e_varS s rfl rfl ?_
                refine Kit.w_cons ?_
                refine Kit.w_c ?_
                refine Kit.w_nil ?_
                refine Mi.c_callS (x61, (some p_top), none) s h (fun _ _ k => ⟨(.cons k.1 (.cons (Mi.val_of rfl) (.cons (Mi.val_of rfl) .nil))), k.2⟩) (.refl _) (fun _ => rfl) ?_
                intro r62 H s h
                exact hk (r62, ()) _ s h
              intro y64 H s h
              exact hk (y64.1, ()) _ s h
            intro y66 H s h
            replace s := (s.perm (Mi.pk0)).drop
            exact Mi.k_retS s h rfl
          · intro hb h
            refine Kit.m_next ?_
            refine Kit.m_ret ?_
            refine Kit.w_andV ?_
            refine Kit.w_call0 ?_
            refine Kit.w_cons ?_
            refine Kit.w_op ?_
            refine Mi.e_var s rfl ?_
            intro _ s
            refine Kit.w_c ?_
            obtain ⟨x67, e0, h⟩ := Mi.R.all_ofO h
            refine Mi.o_ixD e0 s ?_
            intro v s
            refine Kit.w_cons ?_
            refine Kit.w_c ?_
            refine Kit.w_nil ?_
            refine Mi.c_callS (x67, none) s h (fun _ _ k => ⟨(.cons k.1 (.cons (Mi.val_of rfl) .nil)), k.2⟩) (.refl _) (fun _ => rfl) ?_
            intro r68 H s h
            refine Kit.w_blE ?_
            refine Mi.jv_andE (s0 := ()) (fun (z71 : Unit) => Mi.pt p1 (Mi.OC.dk (List.map (fun y => (y.1, (Mi.E.d (Mi.D.int y.2)))) [(Sum.inr ("ask" : Str), (4 : Int)), (Sum.inr ("claim" : Str), (8 : Int)), (Sum.inr ("halve" : Str), (11 : Int)), (Sum.inr ("prove" : Str), (7 : Int))])) :: F) h s ?_ ?_
            · intro hb h hk
              refine Kit.w_call0 ?_
              refine Kit.w_cons ?_
              refine Kit.w_sl ?_
              refine Mi.e_var s rfl ?_
              intro _ s
              refine Kit.w_ps ?_
              refine Kit.w_c ?_
              refine Kit.w_pi ?_
              refine Kit.w_ps ?_
              refine Kit.w_c ?_
              refine Kit.w_pi ?_
              obtain ⟨x69, e0, h⟩ := Mi.R.all_ofO h
              replace s := s.asTup e0
              refine Mi.o_slT rfl s ?_
              intro _ H s
              refine Kit.w_cons ?_
              refine Mi.e_varS s rfl rfl ?_
              refine Kit.w_cons ?_
              refine Kit.w_c ?_
              refine Kit.w_nil ?_
              refine Mi.c_callS ((Mi.D.tup (Mi.cutL x69 (some (3 : Int)) (some (6 : Int)))), (some p_top), none) s h (fun _ _ k => ⟨(.cons k.1 (.cons (Mi.val_of rfl) (.cons (Mi.val_of rfl) .nil))), k.2⟩) (.refl _) (fun _ => rfl) ?_
              intro r70 H s h
              exact hk (r70, ()) _ s h
            intro y72 H s h
            replace s := (s.perm (Mi.pk0)).drop
            exact Mi.k_retS s h rfl
def m_law (p_script : (List Int)) : Mi.R (Bool) := (Mi.R.req (Mi.rOk (if (if ((p_script).length : Int) < (20 : Int) then ((p_script).length : Int) else (20 : Int)) > (1 : Int) then (if ((p_script).length : Int) < (20 : Int) then ((p_script).length : Int) else (20 : Int)) else (1 : Int)))).bind fun _ => (Mi.forE (ρ := Bool) (S := Unit) (Mi.rng 0 ((if (if ((p_script).length : Int) < (20 : Int) then ((p_script).length : Int) else (20 : Int)) > (1 : Int) then (if ((p_script).length : Int) < (20 : Int) then ((p_script).length : Int) else (20 : Int)) else (1 : Int))).toNat) () fun (x1 : Int) (z2 : Unit) => (m_law_bag p_script x1).bind fun r6 => (m_law_draw r6 (4 : Int)).bind fun r8 => (Mi.R.ofO (L2.atI [(7 : Int), (13 : Int), (31 : Int), (61 : Int)] r8.1)).bind fun x9 => (m_Digests___init x9 (())).bind fun r11 => (m_law_right r8.2 r11).bind fun r12 => (m_law_draw r12.2 (3 : Int)).bind fun r13 => (Mi.R.req (Mi.rOk r13.1)).bind fun _ => (Mi.forR (Mi.rng 0 (r13.1).toNat) (r12.1, r13.2) fun (x14 : Int) (z15 : Mi.D × (Int × Int × Int)) => (Mi.R.ok [Mi.D.non, (Mi.D.bl true), (Mi.D.bl false), (Mi.D.int (-1 : Int)), (Mi.D.int (0 : Int)), (Mi.D.int (1 : Int)), (Mi.D.int (9 : Int)), (Mi.D.int (17 : Int)), (Mi.D.int (126 : Int)), (Mi.D.int (127 : Int)), (Mi.D.int (65535 : Int)), (Mi.D.int (65536 : Int)), (Mi.D.int (((2 : Int) ^ ((61 : Int)).toNat) - (1 : Int))), (Mi.D.str ("ask" : Str)), (Mi.D.str ("claim" : Str)), (Mi.D.str ("halve" : Str)), (Mi.D.str ("prove" : Str)), (Mi.D.str ("answer" : Str))]).bind fun x19 => (Mi.R.req (Mi.repTOk ([(0 : Int)]).length (17 : Int))).bind fun _ => (Mi.R.req (Mi.fits (x19).length ([(Mi.D.tup []), (Mi.D.tup [(Mi.D.int (0 : Int))]), (Mi.D.tup [(Mi.D.int (65536 : Int))]), (Mi.D.lst (List.map Mi.D.int [(0 : Int)])), (Mi.D.tup [(Mi.D.str ("answer" : Str)), (Mi.D.int (0 : Int))]), (Mi.D.tup (List.map Mi.D.int (Mi.repL [(0 : Int)] (17 : Int))))]).length)).bind fun _ => (Mi.R.ok (x19 ++ [(Mi.D.tup []), (Mi.D.tup [(Mi.D.int (0 : Int))]), (Mi.D.tup [(Mi.D.int (65536 : Int))]), (Mi.D.lst (List.map Mi.D.int [(0 : Int)])), (Mi.D.tup [(Mi.D.str ("answer" : Str)), (Mi.D.int (0 : Int))]), (Mi.D.tup (List.map Mi.D.int (Mi.repL [(0 : Int)] (17 : Int))))])).bind fun x20 => (m_law_draw z15.2 (24 : Int)).bind fun r21 => (Mi.R.ofO (L2.atI x20 r21.1)).bind fun x22 => (m_law_spoilt 12 r21.2 z15.1 x22).bind fun r23 =>  Mi.R.ok (r23.1, r23.2)).bind fun (z15 : Mi.D × (Int × Int × Int)) => (m_is_letter r11 z15.1).bind fun r24 => (if (!((Mi.D.bl r24)).isBl) = true then Mi.R.ok (true, ()) else (m_Digests_modulus r11).bind fun r25 => (m_law_due z15.1 ((r25 - (1 : Int)))).bind fun r26 => Mi.R.ok ((!(r24 == r26)), ())).bind fun y28 => if y28.1 = true then ( Mi.R.ok (.ret false)) else ( Mi.R.ok (.go ()))).bind fun | .ret r => Mi.R.ok r | .brk _ => Mi.R.fail | .go z2 =>  Mi.R.ok true
abbrev sp_law (T : Txt w K mg) : Sp := Mi.SpOf (gg T) (α := (List Int)) (β := Bool) (fun a => [(Mi.E.d (Mi.D.seq (List.map Mi.D.int a)))]) (fun a => []) (fun a => m_law a) (fun a r => (Mi.E.d (Mi.D.bl r))) (fun a r => [])
theorem ok_law (T : Txt w K mg) : FnOk P w K mg base CX0 15 T.f_law.f T.f_law.fd ["script"] (sp_law T) := by
  have G_Digests___init := ok_Digests___init (P := P) (w := w) (base := base) T
  have G_Digests_modulus := ok_Digests_modulus (P := P) (w := w) (base := base) T
  have G_law_bag := ok_law_bag (P := P) (w := w) (base := base) T
  have G_law_draw := ok_law_draw (P := P) (w := w) (base := base) T
  have G_law_due := ok_law_due (P := P) (w := w) (base := base) T
  have G_law_right := ok_law_right (P := P) (w := w) (base := base) T
  have G_law_spoilt := ok_law_spoilt (P := P) (w := w) (base := base) T 12
  have G_is_letter := ok_is_letter (P := P) (w := w) (base := base) T
  refine T.f_law.F.ok sc_law (fun vs H Q E h => ?_) (fun cdv A outer s0 H vs Q E hr h => ?_)
  · obtain ⟨a, e⟩ := Mi.c_len h
    exact e
  have hl : vs.length = 1 := by obtain ⟨a, e⟩ := Mi.c_len h; exact e
  obtain ⟨v0, rfl⟩ := Mi.vs1 hl
  clear hl
  obtain ⟨p_script, F, Z, s, h⟩ := Mi.c_start (n := 7) h
  replace s : Mi.Bd ⟨gg T, Z, H⟩ [some (Mi.E.d (Mi.D.seq (List.map Mi.D.int p_script))), none, none, none, none, none, none, none] [] (F) [some v0, none, none, none, none, none, none, none] H := s
  replace h : Mi.R.All (m_law p_script) _ _ := h
  unfold m_law at h
  have nd := sc_law.nd
  have hr1 : Room 1 _ := hr.mono (by decide)
  have hr2 : Room 2 _ := hr.mono (by decide)
  have hr3 : Room 3 _ := hr.mono (by decide)
  have hr5 : Room 5 _ := hr.mono (by decide)
  have hr14 : Room 14 _ := hr.mono (by decide)
  refine Kit.ok_body (σ := [some v0, none, none, none, none, none, none, none]) ((pss_cons (ps_for PassesOwn.never rfl (pi_range1 (by rfl) T.z_range (pa_cons (pe_callB (Kit.k_max rfl) (by rfl) T.z_max (by decide +kernel) (pa_cons pe_int (pa_cons (pe_callB (Kit.k_min rfl) (by rfl) T.z_min (by decide +kernel) (pa_cons pe_int (pa_cons (pe_callB (Kit.kLen K) (by rfl) T.z_len (by decide +kernel) (pa_cons (pv 0) pa_nil)) pa_nil))) pa_nil))) pa_nil)) (pg_name (i := 1) nd rfl (Or.inl rfl))
    (pss_cons (ps_set (i := 2) nd rfl (Or.inl rfl) (pe_call G_law_bag hr1 (by rfl) T.f_law_bag.g T.f_law_bag.F.kp T.f_law_bag.b .nil pass0 (pa_cons (pv 0) (pa_cons (pv 1) pa_nil))))
    (pss_cons (ps_set (i := 3) nd rfl (Or.inl rfl) (pe_make T.c_Digests.M G_Digests___init hr2 (by rfl) T.c_Digests.g T.f_Digests___init.b .nil pass0 (pa_cons (pe_ix (Kit.ixL K) (pe_lst (pa_cons pe_int (pa_cons pe_int (pa_cons pe_int (pa_cons pe_int pa_nil))))) (pe_call G_law_draw hr1 (by rfl) T.f_law_draw.g T.f_law_draw.F.kp T.f_law_draw.b .nil pass0 (pa_cons (pv 2) (pa_cons pe_int pa_nil))) (fun _ _ => rfl)) (pa_cons pe_non pa_nil))))
    (pss_cons (ps_set (i := 4) nd rfl (Or.inl rfl) (pe_call G_law_right hr2 (by rfl) T.f_law_right.g T.f_law_right.F.kp T.f_law_right.b .nil pass0 (pa_cons (pv 2) (pa_cons (pv 3) pa_nil))))
    (pss_cons (ps_for PassesOwn.never rfl (pi_range1 (by rfl) T.z_range (pa_cons (pe_call G_law_draw hr1 (by rfl) T.f_law_draw.g T.f_law_draw.F.kp T.f_law_draw.b .nil pass0 (pa_cons (pv 2) (pa_cons pe_int pa_nil))) pa_nil)) (pg_name (i := 5) nd rfl (Or.inl rfl))
    (pss_cons (ps_set (i := 6) nd rfl (Or.inl rfl) (pe_lst (pa_cons pe_non (pa_cons pe_bl (pa_cons pe_bl (pa_cons (pe_un un_neg pe_int) (pa_cons pe_int (pa_cons pe_int (pa_cons pe_int (pa_cons pe_int (pa_cons pe_int (pa_cons pe_int (pa_cons pe_int (pa_cons pe_int (pa_cons (pe_op op_sub (pe_op op_pow pe_int pe_int) pe_int) (pa_cons pe_str (pa_cons pe_str (pa_cons pe_str (pa_cons pe_str (pa_cons pe_str pa_nil))))))))))))))))))))
    (pss_cons (ps_set (i := 6) nd rfl (Or.inl rfl) (pe_op op_cat (pv 6) (pe_lst (pa_cons (pe_tup pa_nil) (pa_cons (pe_tup (pa_cons pe_int pa_nil)) (pa_cons (pe_tup (pa_cons pe_int pa_nil)) (pa_cons (pe_lst (pa_cons pe_int pa_nil)) (pa_cons (pe_tup (pa_cons pe_str (pa_cons pe_int pa_nil))) (pa_cons (pe_op (Mi.kRepTB K) (pe_tup (pa_cons pe_int pa_nil)) pe_int) pa_nil)))))))))
    (pss_one (ps_set (i := 4) nd rfl (Or.inl rfl) (pe_call G_law_spoilt hr14 (by rfl) T.f_law_spoilt.g T.f_law_spoilt.F.kp T.f_law_spoilt.b .nil pass0 (pa_cons (pv 2) (pa_cons (pv 4) (pa_cons (pe_ix (Kit.ixL K) (pv 6) (pe_call G_law_draw hr1 (by rfl) T.f_law_draw.g T.f_law_draw.F.kp T.f_law_draw.b .nil pass0 (pa_cons (pv 2) (pa_cons pe_int pa_nil))) (fun _ _ => rfl)) pa_nil)))))))))
    (pss_cons (ps_set (i := 7) nd rfl (Or.inl rfl) (pe_call G_is_letter hr5 (by rfl) T.f_is_letter.g T.f_is_letter.F.kp T.f_is_letter.b .nil pass0 (pa_cons (pv 3) (pa_cons (pv 4) pa_nil))))
    (pss_one (ps_if (PW.pt (pw_or (pt_not (pt_val (pe_callB (Kit.kIsi K) (by rfl) T.z_isinstance (by decide +kernel) (pa_cons (pv 7) (pa_cons (pe_bltn (v := .ty "bool") (by rfl) T.z_bool (by decide +kernel) rfl) pa_nil))))) (pw_or1 (pt_cmpR op_ne (pv 7) (pe_call G_law_due hr3 (by rfl) T.f_law_due.g T.f_law_due.F.kp T.f_law_due.b .nil pass0 (pa_cons (pv 4) (pa_cons (pe_op op_sub (pe_meth0 (pv 3) T.c_Digests.cl T.m_Digests_modulus G_Digests_modulus hr1 T.f_Digests_modulus.b .nil pass0) pe_int) pa_nil))) (nomark _)))))
    (pss_one (ps_ret pe_bl))
    pss_nil))))))))
    (pss_one (ps_ret pe_bl)))) rfl ?_
  try dsimp only [L2.cxOf, L2.Cx.nox]
  refine Kit.m_seq ?_
  refine Kit.m_for ?_
  refine Kit.w_rng1 ?_
  refine Kit.w_cons ?_
  refine Kit.w_cb ?_
  refine Kit.w_cons ?_
  refine Kit.w_c ?_
  refine Kit.w_cons ?_
  refine Kit.w_cb ?_
  refine Kit.w_cons ?_
  refine Kit.w_c ?_
  refine Kit.w_cons ?_
  refine Kit.w_cb ?_
  refine Kit.w_cons ?_
  refine Mi.e_var s rfl ?_
  intro _ s
  refine Kit.w_nil ?_
  refine Mi.o_lenQ (List.length_map _) s ?_
  intro s
  refine Kit.w_nil ?_
  refine Kit.w_min ?_
  refine Kit.w_nil ?_
  refine Kit.w_max ?_
  refine Kit.w_nil ?_
  obtain ⟨hc, h⟩ := Mi.R.all_req h
  refine Mi.i_rng1F hc ?_
  refine Mi.m_forE (em := fun x : Int => (Mi.E.d (Mi.D.int x))) (st0 := []) (xs := (Mi.rng 0 ((if (if ((p_script).length : Int) < (20 : Int) then ((p_script).length : Int) else (20 : Int)) > (1 : Int) then (if ((p_script).length : Int) < (20 : Int) then ((p_script).length : Int) else (20 : Int)) else (1 : Int))).toNat)) (s0 := ()) (fun (z2 : Unit) => [some (Mi.E.d (Mi.D.seq (List.map Mi.D.int p_script))), none, none, none, none, none, none, none]) (fun (z2 : Unit) => F) Mi.walk_rng s h ?_ ?_
  · intro x1 z2 v σ H N KK s h hk3 hb5 hr4
    refine Mi.k_gname s ?_
    intro σ s
    refine Kit.m_seq ?_
    refine Mi.m_asgK ?_
    refine Kit.w_call0 ?_
    refine Kit.w_cons ?_
    refine Mi.e_var s rfl ?_
    intro _ s
    refine Kit.w_cons ?_
    refine Mi.e_varS s rfl rfl ?_
    refine Kit.w_nil ?_
    refine Mi.c_callN (p_script, x1) s h (fun _ _ k => ⟨(.cons k.1 (.cons (Mi.val_of rfl) .nil)), k.2⟩) (.refl _) ?_
    intro r6 p7 H s h
    refine Mi.k_asgS s (.adr p7) rfl ?_
    intro σ s
    refine Kit.m_seq ?_
    refine Mi.m_asgK ?_
    refine Kit.w_make ?_
    refine Kit.w_cons ?_
    refine Kit.w_op ?_
    refine Kit.w_lst ?_
    refine Kit.w_cons ?_
    refine Kit.w_c ?_
    refine Kit.w_cons ?_
    refine Kit.w_c ?_
    refine Kit.w_cons ?_
    refine Kit.w_c ?_
    refine Kit.w_cons ?_
    refine Kit.w_c ?_
    refine Kit.w_nil ?_
    refine Mi.o_newL [(Mi.D.int (7 : Int)), (Mi.D.int (13 : Int)), (Mi.D.int (31 : Int)), (Mi.D.int (61 : Int))] s (Nat.le_of_ble_eq_true rfl) (fun _ _ k => ⟨(.cons (Mi.val_of rfl).dat (.cons (Mi.val_of rfl).dat (.cons (Mi.val_of rfl).dat (.cons (Mi.val_of rfl).dat .nil)))), k⟩) ?_
    intro _ H s
    refine Kit.w_call0 ?_
    refine Kit.w_cons ?_
    refine Mi.e_varS s rfl rfl ?_
    refine Kit.w_cons ?_
    refine Kit.w_c ?_
    refine Kit.w_nil ?_
    refine Mi.c_callS (p7, r6, (4 : Int)) s h (fun _ _ k => ⟨(.cons (Mi.val_of rfl) (.cons (Mi.val_of rfl) .nil)), k⟩) (Mi.pk0) (fun _ => rfl) ?_
    intro r8 H s h
    obtain ⟨x9, e0, h⟩ := Mi.R.all_ofO h
    replace e0 := Mi.at_map (f := Mi.D.int) e0
    refine Mi.o_ixL e0 s ?_
    intro v s
    obtain rfl := s.top rfl
    replace s := s.pop
    refine Kit.w_cons ?_
    refine Kit.w_c ?_
    refine Kit.w_nil ?_
    refine Mi.o_make (C := 0) s ?_
    intro p10 H s
    refine Mi.c_callS (p10, x9, ()) s h (fun _ _ k => ⟨(.cons (Mi.val_of rfl) (.cons (Mi.val_of rfl) (.cons (Mi.val_of rfl) .nil))), k⟩) (Mi.pk0) (fun _ => rfl) ?_
    intro r11 H s h
    refine Mi.k_make ?_
    replace s := Mi.k_freezeI (c := 0) (es := [(Mi.E.d (Mi.D.int r11.f_bits)), (Mi.E.d Mi.D.non), (Mi.E.d (Mi.D.int r11.f_modulus))]) (Mi.pk0) rfl s
    refine Mi.k_asg s ?_
    intro σ s
    refine Kit.m_seq ?_
    refine Mi.m_asgK ?_
    refine Kit.w_call0 ?_
    refine Kit.w_cons ?_
    refine Mi.e_varS s rfl rfl ?_
    refine Kit.w_cons ?_
    refine Mi.e_var s rfl ?_
    intro _ s
    refine Kit.w_nil ?_
    refine Mi.c_call (p7, r8.2, r11) s h (fun _ _ k => ⟨(.cons (Mi.val_of rfl) (.cons k.1 .nil)), k.2⟩) (Mi.pk0) ?_
    intro r12 v H s h
    refine Mi.k_asg s ?_
    intro σ s
    refine Kit.m_seq ?_
    refine Kit.m_for ?_
    refine Kit.w_rng1 ?_
    refine Kit.w_cons ?_
    refine Kit.w_call0 ?_
    refine Kit.w_cons ?_
    refine Mi.e_varS s rfl rfl ?_
    refine Kit.w_cons ?_
    refine Kit.w_c ?_
    refine Kit.w_nil ?_
    refine Mi.c_callS (p7, r12.2, (3 : Int)) s h (fun _ _ k => ⟨(.cons (Mi.val_of rfl) (.cons (Mi.val_of rfl) .nil)), k⟩) (Mi.pk0) (fun _ => rfl) ?_
    intro r13 H s h
    refine Kit.w_nil ?_
    obtain ⟨hc, h⟩ := Mi.R.all_req h
    refine Mi.i_rng1F hc ?_
    refine Mi.m_forR (em := fun x : Int => (Mi.E.d (Mi.D.int x))) (st0 := []) (xs := (Mi.rng 0 (r13.1).toNat)) (s0 := (r12.1, r13.2)) (fun (z15 : Mi.D × (Int × Int × Int)) => [some (Mi.E.d (Mi.D.seq (List.map Mi.D.int p_script))), some (Mi.E.d (Mi.D.int x1)), some (Mi.E.adr p7), some (Mi.E.ins 0 [(Mi.E.d (Mi.D.int r11.f_bits)), (Mi.E.d Mi.D.non), (Mi.E.d (Mi.D.int r11.f_modulus))]), some (Mi.E.d z15.1), none, none, none]) (fun (z15 : Mi.D × (Int × Int × Int)) => Mi.pt p7 (Mi.OC.lst [(Mi.D.int z15.2.1), (Mi.D.int z15.2.2.1), (Mi.D.int z15.2.2.2)]) :: F) Mi.walk_rng s h ?_ ?_
    · intro x14 z15 v σ H N KK s h hk16
      refine Mi.k_gname s ?_
      intro σ s
      refine Kit.m_seq ?_
      refine Mi.m_asgK ?_
      refine Kit.w_lst ?_
      refine Kit.w_cons ?_
      refine Kit.w_c ?_
      refine Kit.w_cons ?_
      refine Kit.w_c ?_
      refine Kit.w_cons ?_
      refine Kit.w_c ?_
      refine Kit.w_cons ?_
      refine Kit.w_un ?_
      refine Kit.w_c ?_
      refine Kit.w_U ?_
      refine Kit.w_cons ?_
      refine Kit.w_c ?_
      refine Kit.w_cons ?_
      refine Kit.w_c ?_
      refine Kit.w_cons ?_
      refine Kit.w_c ?_
      refine Kit.w_cons ?_
      refine Kit.w_c ?_
      refine Kit.w_cons ?_
      refine Kit.w_c ?_
      refine Kit.w_cons ?_
      refine Kit.w_c ?_
      refine Kit.w_cons ?_
      refine Kit.w_c ?_
      refine Kit.w_cons ?_
      refine Kit.w_c ?_
      refine Kit.w_cons ?_
      refine Kit.w_op ?_
      refine Kit.w_op ?_
      refine Kit.w_c ?_
      refine Kit.w_c ?_
      refine Kit.w_I (show L2.CPow _ _ from ⟨by decide, by decide, by decide⟩) ?_
      refine Kit.w_c ?_
      refine Kit.w_I0 ?_
      refine Kit.w_cons ?_
      refine Kit.w_c ?_
      refine Kit.w_cons ?_
      refine Kit.w_c ?_
      refine Kit.w_cons ?_
      refine Kit.w_c ?_
      refine Kit.w_cons ?_
      refine Kit.w_c ?_
      refine Kit.w_cons ?_
      refine Kit.w_c ?_
      refine Kit.w_nil ?_
      refine Mi.o_newL [Mi.D.non, (Mi.D.bl true), (Mi.D.bl false), (Mi.D.int (-1 : Int)), (Mi.D.int (0 : Int)), (Mi.D.int (1 : Int)), (Mi.D.int (9 : Int)), (Mi.D.int (17 : Int)), (Mi.D.int (126 : Int)), (Mi.D.int (127 : Int)), (Mi.D.int (65535 : Int)), (Mi.D.int (65536 : Int)), (Mi.D.int (((2 : Int) ^ ((61 : Int)).toNat) - (1 : Int))), (Mi.D.str ("ask" : Str)), (Mi.D.str ("claim" : Str)), (Mi.D.str ("halve" : Str)), (Mi.D.str ("prove" : Str)), (Mi.D.str ("answer" : Str))] s (Nat.le_of_ble_eq_true rfl) (fun _ _ k => ⟨(.cons (Mi.val_of rfl).dat (.cons (Mi.val_of rfl).dat (.cons (Mi.val_of rfl).dat (.cons (Mi.val_of rfl).dat (.cons (Mi.val_of rfl).dat (.cons (Mi.val_of rfl).dat (.cons (Mi.val_of rfl).dat (.cons (Mi.val_of rfl).dat (.cons (Mi.val_of rfl).dat (.cons (Mi.val_of rfl).dat (.cons (Mi.val_of rfl).dat (.cons (Mi.val_of rfl).dat (.cons (Mi.val_of rfl).dat (.cons (Mi.val_of rfl).dat (.cons (Mi.val_of rfl).dat (.cons (Mi.val_of rfl).dat (.cons (Mi.val_of rfl).dat (.cons (Mi.val_of rfl).dat .nil)))))))))))))))))), k⟩) ?_
      intro _ H s
      refine Mi.k_asgG (em := fun y : (List Mi.D) => (Mi.E.d (Mi.D.lst y))) ([Mi.D.non, (Mi.D.bl true), (Mi.D.bl false), (Mi.D.int (-1 : Int)), (Mi.D.int (0 : Int)), (Mi.D.int (1 : Int)), (Mi.D.int (9 : Int)), (Mi.D.int (17 : Int)), (Mi.D.int (126 : Int)), (Mi.D.int (127 : Int)), (Mi.D.int (65535 : Int)), (Mi.D.int (65536 : Int)), (Mi.D.int (((2 : Int) ^ ((61 : Int)).toNat) - (1 : Int))), (Mi.D.str ("ask" : Str)), (Mi.D.str ("claim" : Str)), (Mi.D.str ("halve" : Str)), (Mi.D.str ("prove" : Str)), (Mi.D.str ("answer" : Str))]) s h ?_
      intro x19 σ s h
      refine Kit.m_seq ?_
      refine Mi.m_asgK ?_
      refine Kit.w_op ?_
      refine Mi.e_var s rfl ?_
      intro _ s
      refine Kit.w_lst ?_
      refine Kit.w_cons ?_
      refine Kit.w_tup ?_
      refine Kit.w_nil ?_
      refine Mi.o_newT [] s (Nat.le_of_ble_eq_true rfl) (fun _ _ k => ⟨.nil, k⟩) ?_
      intro _ H s
      refine Kit.w_cons ?_
      refine Kit.w_tup ?_
      refine Kit.w_cons ?_
      refine Kit.w_c ?_
      refine Kit.w_nil ?_
      refine Mi.o_newT [(Mi.D.int (0 : Int))] s (Nat.le_of_ble_eq_true rfl) (fun _ _ k => ⟨(.cons (Mi.val_of rfl).dat .nil), k⟩) ?_
      intro _ H s
      refine Kit.w_cons ?_
      refine Kit.w_tup ?_
      refine Kit.w_cons ?_
      refine Kit.w_c ?_
      refine Kit.w_nil ?_
      refine Mi.o_newT [(Mi.D.int (65536 : Int))] s (Nat.le_of_ble_eq_true rfl) (fun _ _ k => ⟨(.cons (Mi.val_of rfl).dat .nil), k⟩) ?_
      intro _ H s
      refine Kit.w_cons ?_
      refine Kit.w_lst ?_
      refine Kit.w_cons ?_
      refine Kit.w_c ?_
      refine Kit.w_nil ?_
      refine Mi.o_newL [(Mi.D.int (0 : Int))] s (Nat.le_of_ble_eq_true rfl) (fun _ _ k => ⟨(.cons (Mi.val_of rfl).dat .nil), k⟩) ?_
      intro _ H s
      refine Kit.w_cons ?_
      refine Kit.w_tup ?_
      refine Kit.w_cons ?_
      refine Kit.w_c ?_
      refine Kit.w_cons ?_
      refine Kit.w_c ?_
      refine Kit.w_nil ?_
      refine Mi.o_newT [(Mi.D.str ("answer" : Str)), (Mi.D.int (0 : Int))] s (Nat.le_of_ble_eq_true rfl) (fun _ _ k => ⟨(.cons (Mi.val_of rfl).dat (.cons (Mi.val_of rfl).dat .nil)), k⟩) ?_
      intro _ H s
      refine Kit.w_cons ?_
      refine Kit.w_op ?_
      refine Kit.w_tup ?_
      refine Kit.w_cons ?_
      refine Kit.w_c ?_
      refine Kit.w_nil ?_
      refine Mi.o_newT [(Mi.D.int (0 : Int))] s (Nat.le_of_ble_eq_true rfl) (fun _ _ k => ⟨(.cons (Mi.val_of rfl).dat .nil), k⟩) ?_
      intro _ H s
      refine Kit.w_c ?_
      obtain ⟨hc, h⟩ := Mi.R.all_req h
      refine Mi.o_repT (by simpa only [List.length_map] using hc) (Mi.rep_map _ _ _) s ?_
      intro _ H s
      refine Kit.w_nil ?_
      refine Mi.o_newL [(Mi.D.tup []), (Mi.D.tup [(Mi.D.int (0 : Int))]), (Mi.D.tup [(Mi.D.int (65536 : Int))]), (Mi.D.lst (List.map Mi.D.int [(0 : Int)])), (Mi.D.tup [(Mi.D.str ("answer" : Str)), (Mi.D.int (0 : Int))]), (Mi.D.tup (List.map Mi.D.int (Mi.repL [(0 : Int)] (17 : Int))))] s (Nat.le_of_ble_eq_true rfl) (fun _ _ k => ⟨(.cons k.2.2.2.2.2.1.dat (.cons k.2.2.2.2.1.dat (.cons k.2.2.2.1.dat (.cons k.2.2.1.dat (.cons k.2.1.dat (.cons k.1.dat .nil)))))), k.2.2.2.2.2.2⟩) ?_
      intro _ H s
      obtain ⟨hc, h⟩ := Mi.R.all_req h
      refine Mi.o_catL hc rfl s ?_
      intro _ H s
      refine Mi.k_asgG (em := fun y : (List Mi.D) => (Mi.E.d (Mi.D.lst y))) ((x19 ++ [(Mi.D.tup []), (Mi.D.tup [(Mi.D.int (0 : Int))]), (Mi.D.tup [(Mi.D.int (65536 : Int))]), (Mi.D.lst (List.map Mi.D.int [(0 : Int)])), (Mi.D.tup [(Mi.D.str ("answer" : Str)), (Mi.D.int (0 : Int))]), (Mi.D.tup (List.map Mi.D.int (Mi.repL [(0 : Int)] (17 : Int))))])) s h ?_
      intro x20 σ s h
      refine Mi.m_asgK ?_
      refine Kit.w_call0 ?_
      refine Kit.w_cons ?_
      refine Mi.e_varS s rfl rfl ?_
      refine Kit.w_cons ?_
      refine Mi.e_var s rfl ?_
      intro _ s
      refine Kit.w_cons ?_
      refine Kit.w_op ?_
      refine Mi.e_var s rfl ?_
      intro _ s
      refine Kit.w_call0 ?_
      refine Kit.w_cons ?_
      refine Mi.e_varS s rfl rfl ?_
      refine Kit.w_cons ?_
      refine Kit.w_c ?_
      refine Kit.w_nil ?_
      refine Mi.c_callS (p7, z15.2, (24 : Int)) s h (fun _ _ k => ⟨(.cons (Mi.val_of rfl) (.cons (Mi.val_of rfl) .nil)), k⟩) (Mi.pk0) (fun _ => rfl) ?_
      intro r21 H s h
      obtain ⟨x22, e0, h⟩ := Mi.R.all_ofO h
      refine Mi.o_ixL e0 s ?_
      intro v s
      refine Kit.w_nil ?_
      refine Mi.c_call (p7, r21.2, z15.1, x22) s h (fun _ _ k => ⟨(.cons (Mi.val_of rfl) (.cons k.2.1 (.cons k.1 .nil))), k.2.2⟩) (Mi.pk0) ?_
      intro r23 v H s h
      refine Mi.k_asg s ?_
      intro σ s
      exact hk16 (r23.1, r23.2) _ _ (s.less (.same (.same (.same (.same (.same (.no (.no (.same .nil))))))))) h
    intro z15 σ H s h
    refine Kit.m_seq ?_
    refine Mi.m_asgK ?_
    refine Kit.w_call0 ?_
    refine Kit.w_cons ?_
    refine Mi.e_var s rfl ?_
    intro _ s
    refine Kit.w_cons ?_
    refine Mi.e_var s rfl ?_
    intro _ s
    refine Kit.w_nil ?_
    refine Mi.c_callS (r11, z15.1) s h (fun _ _ k => ⟨(.cons k.2.1 (.cons k.1 .nil)), k.2.2⟩) (.refl _) (fun _ => rfl) ?_
    intro r24 H s h
    refine Mi.k_asgS s (Mi.E.d (Mi.D.bl r24)) rfl ?_
    intro σ s
    refine Kit.m_if ?_
    refine Kit.w_or ?_
    refine Kit.w_not ?_
    refine Kit.w_B ?_
    refine Kit.w_cb ?_
    refine Kit.w_cons ?_
    refine Mi.e_varS s rfl rfl ?_
    refine Kit.w_cons ?_
    refine Kit.w_c ?_
    refine Kit.w_nil ?_
    replace s := s.hand (Mi.E.d (Mi.D.bl r24)) rfl
    refine Mi.o_isiBl s ?_
    intro s
    refine Kit.w_blE ?_
    refine Mi.jt_orE (s0 := ()) (fun (z27 : Unit) => Mi.pt p7 (Mi.OC.lst [(Mi.D.int z15.2.1), (Mi.D.int z15.2.2.1), (Mi.D.int z15.2.2.2)]) :: F) h s ?_ ?_
    · intro hb h hk
      refine Kit.w_test ?_
      refine Kit.w_op ?_
      refine Mi.e_varS s rfl rfl ?_
      refine Kit.w_call0 ?_
      refine Kit.w_cons ?_
      refine Mi.e_var s rfl ?_
      intro _ s
      refine Kit.w_cons ?_
      refine Kit.w_op ?_
      refine Kit.w_meth ?_
      refine Mi.e_var s rfl ?_
      intro _ s
      refine Mi.o_insZ rfl s ?_
      refine Kit.w_nil ?_
      refine Mi.c_callS r11 s h (fun _ _ k => ⟨(.cons k.1 .nil), k.2⟩) (.refl _) (fun _ => rfl) ?_
      intro r25 H s h
      refine Kit.w_c ?_
      refine Kit.w_I0 ?_
      refine Kit.w_nil ?_
      refine Mi.c_callS (z15.1, (r25 - (1 : Int))) s h (fun _ _ k => ⟨(.cons k.1 (.cons (Mi.val_of rfl) .nil)), k.2⟩) (.refl _) (fun _ => rfl) ?_
      intro r26 H s h
      refine Kit.w_neB ?_
      refine Kit.w_blE ?_
      exact hk ((!(r24 == r26)), ()) _ s h
    intro y28 H s h
    refine Mi.r_if h ?_ ?_
    · intro hb h
      refine Kit.m_ret ?_
      refine Kit.w_c ?_
      replace s := (s.perm (Mi.pk0)).drop
      exact Mi.k_retS s (hr4 _ h) rfl
    · intro hb h
      refine Kit.m_next ?_
      replace s := (s.perm (Mi.pk0)).drop
      exact hk3 () _ _ (s.less (.same (.no (.no (.no (.no (.same (.same (.no .nil))))))))) h
  intro z2 σ H s h
  refine Kit.m_ret ?_
  refine Kit.w_c ?_
  exact Mi.k_retS s h rfl
/-! ### the law's draws -/
theorem draw_ok {b : Int × Int × Int} {many : Int} (h1 : 1 ≤ many) (h2 : many < 2 ^ 250) : Mi.R.Ends (m_law_draw b many) fun r => 0 ≤ r.1 ∧ r.1 < many := by
  unfold m_law_draw
  refine .ite (fun h => absurd (of_decide_eq_true h) (by omega)) fun _ => ?_
  have fin : ∀ z2 : Int × Int × Int, Mi.R.Ends ((Mi.R.req (Mi.divOk many)).bind fun _ => (Mi.R.req (decide (0 < many))).bind fun _ => Mi.R.ok ((z2.1 % many), ((z2.1 / many), z2.2.1, z2.2.2))) fun r => 0 ≤ r.1 ∧ r.1 < many := fun z2 => by
    refine .req (by unfold Mi.divOk; rw [decide_eq_true (show 0 < many by omega), decide_eq_true h2]; rfl) (.req (decide_eq_true (by omega)) (.ok ⟨Int.emod_nonneg _ (by omega), Int.emod_lt_of_pos _ (by omega)⟩))
  refine .bind (P := fun _ => True) (.ite (fun _ => ?_) fun _ => .ok trivial) fun z _ => fin z
  refine .bind (.eq rfl) fun x hx => ?_
  refine .req ?_ (.ok trivial)
  have h3 : 0 ≤ x := by rw [hx]; exact Int.emod_nonneg _ (by decide)
  have h4 : x < 2147483647 := by rw [hx]; exact Int.emod_lt_of_pos _ (by decide)
  unfold Mi.mulOk
  rw [decide_eq_true (show -(2 ^ 64) < x by omega), decide_eq_true (show x < 2 ^ 64 by omega)]
  rfl
theorem bag_ok {ns : List Int} {k : Int} (h0 : 0 ≤ k) : Mi.R.Ends (m_law_bag ns k) fun _ => True := by
  unfold m_law_bag
  refine .bind (P := fun _ => True) (.ite (fun h => ?_) fun _ => .ok trivial) fun z _ => .ite (fun _ => .ok trivial) fun _ => .ok trivial
  obtain ⟨x, hx, _⟩ := Mi.atI_some (xs := ns) h0 (of_decide_eq_true h)
  exact .ofO hx (.ok trivial)

/-! ### what ends well, by steps: "ends" -/
local macro_rules | `(tactic| walk_at "ends1") => `(tactic| first
  | (refine Mi.R.Ends.bind (draw_ok (by first | decide | omega) (by first | decide | omega)) ?_; intro r hr; have hr1 := hr.1; have hr2 := hr.2; clear hr)
  | (refine Mi.R.Ends.bind (Mi.R.Ends.eq rfl) ?_; intro x hx; subst hx)
  | (refine Mi.R.Ends.ite (fun _ => ?_) (fun _ => ?_))
  | fail)

section
open Mi Mi.R
/-! ### what is told of data -/
def isI (a b : Int) : D → Bool
  | .int i => decide (a ≤ i) && decide (i ≤ b)
  | _ => false
def cnt : D → Bool
  | .int i => decide (0 ≤ i)
  | _ => false
def rowB (n : Int) : D → Bool
  | .tup ds => decide ((ds.length : Int) ≤ n) && ds.all (isI 0 65535)
  | _ => false
def pathB (m : Int) : D → Bool
  | .tup ds => ds.all (isI 0 (m - 1))
  | _ => false
def regB (m : Int) : D → Bool
  | .tup [a, b, c, d, e, f] => isI 0 255 a && (isI 0 65535 b && (isI 0 65535 c && (isI 0 6 d && (isI 0 (m - 1) e && isI 0 16 f))))
  | _ => false
def ansB : D → Bool
  | .tup [.str s, b] => decide (s = "answer") && cnt b
  | _ => false
/-- so deep, rows no longer than that, texts of signs -/
inductive Fine (L : Nat) : Nat → D → Prop
  | non (n) : Fine L n .non
  | bl (n b) : Fine L n (.bl b)
  | int (n i) : Fine L n (.int i)
  | str (n) {s : Str} (h : PySem.PyData.strOk s = true) : Fine L n (.str s)
  | lst (n) (ds) : Fine L n (.lst ds)
  | tup (n) {ds : List D} (h : ds.length ≤ L) (k : ∀ d ∈ ds, Fine L n d) : Fine L (n + 1) (.tup ds)
theorem Fine.mono {L L' n n' : Nat} {d : D} (h : Fine L n d) (hl : L ≤ L') (hn : n ≤ n') : Fine L' n' d := by
  induction h generalizing n' with
  | non => exact .non _
  | bl => exact .bl _ _
  | int => exact .int _ _
  | str _ h => exact .str _ h
  | lst => exact .lst _ _
  | tup n h k ih =>
    obtain ⟨m, rfl⟩ : ∃ m, n' = m + 1 := ⟨n' - 1, by omega⟩
    exact .tup m (Nat.le_trans h hl) fun d hd => ih d hd (by omega)
theorem Fine.len {L n : Nat} {ds : List D} (h : Fine L n (.tup ds)) : ds.length ≤ L := by
  cases h with
  | tup _ h k => exact h
theorem Fine.item {L n : Nat} {ds : List D} {d : D} (h : Fine L n (.tup ds)) (hd : d ∈ ds) : Fine L (n - 1) d := by
  cases h with
  | tup _ h k => exact k d hd
theorem Fine.items {L n : Nat} {ds : List D} (h : Fine L n (.tup ds)) : ∃ m, n = m + 1 ∧ ds.length ≤ L ∧ ∀ d ∈ ds, Fine L m d := by
  cases h with
  | tup m h k => exact ⟨m, rfl, h, k⟩
theorem Fine.strs {L n : Nat} {s : Str} (h : Fine L n (.str s)) : PySem.PyData.strOk s = true := by
  cases h with
  | str _ h => exact h
theorem eqOk_str {s t : Str} (h1 : PySem.PyData.strOk s = true) (h2 : PySem.PyData.strOk t = true) : D.eqOk (.str s) (.str t) = true := by
  simp [D.eqOk, D.py, SeqAt.shaped, PyData.canLay0, PyData.depth, h1, h2]
theorem eqv_str {s t : Str} : D.eqv (.str s) (.str t) = decide (s = t) := by
  simp [D.eqv, D.py, PyData.eqv]
  rw [Bool.beq_eq_decide_eq]
theorem is_integer_eq (d : D) (a b : Int) : m_is_integer d a b = .ok (isI a b d) := by cases d <;> simp [m_is_integer, isI]
theorem is_word_eq (d : D) : m_is_word d = .ok (isI 0 65535 d) := by simp [m_is_word, is_integer_eq]
theorem is_digest_eq (g : Digests_) (d : D) : m_Digests_is_digest g d = .ok (isI 0 (g.f_modulus - 1) d) := by simp [m_Digests_is_digest, is_integer_eq]
theorem is_count_eq (d : D) : m_is_count d = .ok (cnt d) := by cases d <;> simp [m_is_count, cnt]
theorem is_number_eq (d : D) (o : Option Int) : m_law_is_number d o = .ok (cnt d && match o with | none => true | some b => isI 0 b d) := by
  cases d <;> cases o <;> simp [m_law_is_number, cnt, isI]
  all_goals split <;> simp_all
  omega
theorem cnt_isI {d : D} {b : Int} : (cnt d && isI 0 b d) = isI 0 b d := by
  cases d <;> simp [cnt, isI]
theorem is_number_some (d : D) (b : Int) : m_law_is_number d (some b) = .ok (isI 0 b d) := by rw [is_number_eq]; exact congrArg R.ok cnt_isI
theorem is_number_none (d : D) : m_law_is_number d none = .ok (cnt d) := by rw [is_number_eq]; simp
theorem is_tuple_eq (d : D) (n : Int) : m_is_tuple d n = .ok (match d with | .tup ds => decide ((ds.length : Int) = n) | _ => false) := by cases d <;> simp [m_is_tuple]
theorem all_map_id {α : Type} (f : α → Bool) (xs : List α) : (xs.map f).all id = xs.all f := by induction xs <;> simp_all
theorem is_row_eq (d : D) (n : Int) (hn : n ≤ 40000) : m_is_row d n = .ok (rowB n d) := by
  cases d <;> simp [m_is_row, rowB]
  rename_i ds
  split
  · rename_i h
    rw [mapC_spec (e := isI 0 65535) (by omega) (fun x _ => by simp [is_word_eq])]
    simp [all_map_id, h]
  · rename_i h
    simp [h]
theorem path_eq (m : Int) (ds : List D) (hl : ds.length ≤ 40000) : mapC ds () (fun (x5 : D) (z6 : Unit) => R.ok (isI 0 (m - 1) x5, ())) = .ok (ds.map (isI 0 (m - 1)), ()) :=
  mapC_spec hl fun x _ => rfl
theorem tup6 {ds : List D} (h : ds.length = 6) : ∃ a b c d e f, ds = [a, b, c, d, e, f] := by
  match ds, h with
  | [a, b, c, d, e, f], _ => exact ⟨a, b, c, d, e, f, rfl⟩
theorem tup3 {ds : List D} (h : ds.length = 3) : ∃ a b c, ds = [a, b, c] := by
  match ds, h with
  | [a, b, c], _ => exact ⟨a, b, c, rfl⟩
theorem tup7 {ds : List D} (h : ds.length = 7) : ∃ a b c d e f g, ds = [a, b, c, d, e, f, g] := by
  match ds, h with
  | [a, b, c, d, e, f, g], _ => exact ⟨a, b, c, d, e, f, g, rfl⟩
theorem tup10 {ds : List D} (h : ds.length = 10) : ∃ a b c d e f g h i j, ds = [a, b, c, d, e, f, g, h, i, j] := by
  match ds, h with
  | [a, b, c, d, e, f, g, h, i, j], _ => exact ⟨a, b, c, d, e, f, g, h, i, j, rfl⟩
theorem regB_ne {m : Int} {ds : List D} (h : ¬ ds.length = 6) : regB m (.tup ds) = false := by
  unfold regB
  split
  · rename_i e
    injection e with e
    subst e
    exact absurd rfl h
  · rfl
theorem are_registers_eq (g : Digests_) (d : D) : m_are_registers g d = .ok (regB g.f_modulus d) := by
  cases d with
  | tup ds =>
    by_cases h : ds.length = 6
    · obtain ⟨a, b, c, d, e, f, rfl⟩ := tup6 h
      simp [m_are_registers, D.take6, is_integer_eq, is_word_eq, is_digest_eq, regB, c_MARKS]
      cases isI 0 255 a <;> cases isI 0 65535 b <;> cases isI 0 65535 c <;> cases isI 0 6 d <;> cases isI 0 (g.f_modulus - 1) e <;> rfl
    · rw [regB_ne h]
      have h' : ¬ (ds.length : Int) = 6 := by omega
      simp [m_are_registers, h']
  | _ => simp [m_are_registers, regB]
theorem ansB_ne {ds : List D} (h : ¬ ds.length = 2) : ansB (.tup ds) = false := by
  unfold ansB
  split
  · rename_i e
    injection e with e
    subst e
    exact absurd rfl h
  · rfl
theorem len2 {ds : List D} (h : ds.length = 2) : ∃ a b, ds = [a, b] := by
  match ds, h with
  | [a, b], _ => exact ⟨a, b, rfl⟩
theorem at0 {a : D} {r : List D} : atI (a :: r) 0 = some a := atI_nat (j := 0) rfl
theorem at1 {a b : D} {r : List D} : atI (a :: b :: r) 1 = some b := atI_nat (j := 1) rfl
theorem at2 {a b c : D} {r : List D} : atI (a :: b :: c :: r) 2 = some c := atI_nat (j := 2) rfl
theorem is_answer_eq {L n : Nat} (d : D) (hf : Fine L n d) : m_is_answer d = .ok (ansB d) := by
  cases d with
  | tup ds =>
    by_cases h : ds.length = 2
    · obtain ⟨a, b, rfl⟩ := len2 h
      cases a with
      | str s =>
        have hs := (hf.item (d := .str s) (by simp)).strs
        simp [m_is_answer, is_tuple_eq, at0, at1, eqOk_str hs (show PySem.PyData.strOk ("answer" : Str) = true by decide +kernel), eqv_str, is_count_eq, ansB]
        split <;> simp_all
      | _ => simp [m_is_answer, is_tuple_eq, at0, at1, ansB]
    · rw [ansB_ne h]
      have h' : ¬ (ds.length : Int) = 2 := by omega
      simp [m_is_answer, is_tuple_eq, h']
  | _ => simp [m_is_answer, is_tuple_eq, ansB]
def partB (m : Int) (s : Str) (d : D) : Bool :=
  if s = "digest" then isI 0 (m - 1) d else if s = "number" then cnt d else if s = "path" then pathB m d else if s = "registers" then regB m d else if s = "row" then rowB 16 d else if s = "image" then rowB 239 d
  else if s = "inputs" then rowB 16 d || ansB d else if s = "level" then isI 0 8 d else true
theorem is_part_eq {L n : Nat} (g : Digests_) (d : D) (s : Str) (hf : Fine L n d) (hL : L ≤ 40000) : m_is_part g d s = .ok (partB g.f_modulus s d) := by
  unfold m_is_part partB
  simp only [decide_eq_true_eq, is_digest_eq, is_count_eq, are_registers_eq, is_row_eq d 16 (by decide), is_row_eq d 239 (by decide), is_answer_eq d hf, is_integer_eq, bind_ok, bind_ok_id]
  split; · rfl
  split; · rfl
  split
  · cases d with
    | tup ds => simp [path_eq g.f_modulus ds (Nat.le_trans hf.len hL), pathB, all_map_id]
    | _ => simp [pathB]
  split; · rfl
  split; · rfl
  split; · rfl
  split
  · cases rowB 16 d <;> simp
  split <;> rfl
/-! ### a letter -/
def askB : List D → Bool
  | [a, b, c] => rowB 239 a && ((rowB 16 b || ansB b) && isI 0 8 c)
  | _ => false
def claimB (m : Int) : List D → Bool
  | [n, a, b, p, r, d, w] => cnt n && (isI 0 (m - 1) a && (isI 0 (m - 1) b && (pathB m p && (regB m r && (isI 0 (m - 1) d && rowB 16 w)))))
  | _ => false
def halveB (m : Int) : List D → Bool
  | [n, l, i, a, b, c, d, e, f, p] => cnt n && (cnt l && (cnt i && (isI 0 (m - 1) a && (isI 0 (m - 1) b && (isI 0 (m - 1) c && (isI 0 (m - 1) d && (isI 0 (m - 1) e && (isI 0 (m - 1) f && pathB m p))))))))
  | _ => false
def proveB (m : Int) : List D → Bool
  | [n, i, a, b, c, x] => cnt n && (cnt i && (isI 0 (m - 1) a && (isI 0 (m - 1) b && isI 0 (m - 1) c)))
  | _ => false
theorem askB_ne {r : List D} (h : ¬ r.length = 3) : askB r = false := by
  unfold askB; split
  · exact absurd rfl h
  · rfl
theorem claimB_ne {m : Int} {r : List D} (h : ¬ r.length = 7) : claimB m r = false := by
  unfold claimB; split
  · exact absurd rfl h
  · rfl
theorem halveB_ne {m : Int} {r : List D} (h : ¬ r.length = 10) : halveB m r = false := by
  unfold halveB; split
  · exact absurd rfl h
  · rfl
theorem proveB_ne {m : Int} {r : List D} (h : ¬ r.length = 6) : proveB m r = false := by
  unfold proveB; split
  · exact absurd rfl h
  · rfl
def letB (m : Int) : D → Bool
  | .tup (.str s :: ds) => if s = "ask" then askB ds else if s = "claim" then claimB m ds else if s = "halve" then halveB m ds else if s = "prove" then proveB m ds else false
  | _ => false
theorem let_ask {m : Int} {r : List D} : letB m (.tup (.str "ask" :: r)) = askB r := rfl
theorem let_claim {m : Int} {r : List D} : letB m (.tup (.str "claim" :: r)) = claimB m r := rfl
theorem let_halve {m : Int} {r : List D} : letB m (.tup (.str "halve" :: r)) = halveB m r := rfl
theorem let_prove {m : Int} {r : List D} : letB m (.tup (.str "prove" :: r)) = proveB m r := rfl
theorem p_digest {m : Int} {d : D} : partB m "digest" d = isI 0 (m - 1) d := rfl
theorem p_number {m : Int} {d : D} : partB m "number" d = cnt d := rfl
theorem p_path {m : Int} {d : D} : partB m "path" d = pathB m d := rfl
theorem p_registers {m : Int} {d : D} : partB m "registers" d = regB m d := rfl
theorem p_row {m : Int} {d : D} : partB m "row" d = rowB 16 d := rfl
theorem p_image {m : Int} {d : D} : partB m "image" d = rowB 239 d := rfl
theorem p_inputs {m : Int} {d : D} : partB m "inputs" d = (rowB 16 d || ansB d) := rfl
theorem p_level {m : Int} {d : D} : partB m "level" d = isI 0 8 d := rfl
theorem p_anything {m : Int} {d : D} : partB m "anything" d = true := rfl
theorem lk_ask : c_PARTS.lookup ("ask" : Str) = some (["image", "inputs", "level"] : List Str) := rfl
theorem lk_claim : c_PARTS.lookup ("claim" : Str) = some (["number", "digest", "digest", "path", "registers", "digest", "row"] : List Str) := rfl
theorem lk_halve : c_PARTS.lookup ("halve" : Str) = some (["number", "number", "number", "digest", "digest", "digest", "digest", "digest", "digest", "path"] : List Str) := rfl
theorem lk_prove : c_PARTS.lookup ("prove" : Str) = some (["number", "number", "digest", "digest", "digest", "anything"] : List Str) := rfl
theorem lk_none {s : Str} (h1 : ¬ s = "ask") (h2 : ¬ s = "claim") (h3 : ¬ s = "halve") (h4 : ¬ s = "prove") : c_PARTS.lookup s = none := by
  simp [c_PARTS, List.lookup_cons, beq_eq_false_iff_ne.mpr h1, beq_eq_false_iff_ne.mpr h2, beq_eq_false_iff_ne.mpr h3, beq_eq_false_iff_ne.mpr h4]
theorem cut1 {a : D} {r : List D} : cutL (a :: r) (some 1) none = r := by
  unfold cutL
  rw [HT.sIx_none]
  have e : HT.sIx (a :: r).length 0 (some 1) = 1 := by
    have := HT.sIx_nat (a :: r).length 0 1
    simp at this
    simpa using this
  rw [e]
  simp
theorem parts_eq {L n : Nat} (g : Digests_) {ds : List D} {ps : List Str} (hf : ∀ d ∈ ds, Fine L n d) (hL : L ≤ 40000) (hl : ds.length ≤ 40000) :
    mapC (List.zip ds ps) () (fun (x18 : (D × Str)) (z19 : Unit) => (m_is_part g x18.1 x18.2).bind fun r21 => R.ok (r21, ())) = .ok ((List.zip ds ps).map fun p => partB g.f_modulus p.2 p.1, ()) :=
  mapC_spec (by rw [List.length_zip]; omega) fun x hx => by
    rw [is_part_eq g x.1 x.2 (hf x.1 (List.of_mem_zip hx).1) hL]; rfl
theorem is_letter_eq {L n : Nat} (g : Digests_) (d : D) (hf : Fine L n d) (hL : L ≤ 40000) : m_is_letter g d = .ok (letB g.f_modulus d) := by
  cases d with
  | tup ds =>
    cases ds with
    | nil => simp [m_is_letter, letB]
    | cons a r =>
      have hne : ¬ ((r.length : Int) + 1 = 0) := by omega
      cases a with
      | str s =>
        obtain ⟨m, rfl, hl, hi⟩ := hf.items
        have pe := fun ps => parts_eq g (ds := r) (ps := ps) (fun d hd => hi d (List.mem_cons_of_mem _ hd)) hL (Nat.le_trans (by simp at hl; omega) hL)
        simp only [m_is_letter, D.isTup, D.len?, D.at?, D.tup?, at0, ofO_some, bind_ok, List.length_cons, Bool.not_true, if_neg Bool.false_ne_true, D.isStr, D.str?, cut1, pe, hne, decide_false]
        by_cases h1 : s = "ask"
        · subst h1
          rw [let_ask]
          by_cases hr : r.length = 3
          · obtain ⟨a, b, c, rfl⟩ := tup3 hr
            simp [lk_ask, askB, p_image, p_inputs, p_level]
          · have hr' : ¬ (r.length : Int) = 3 := by omega
            rw [askB_ne hr]; simp [lk_ask, hr']
        by_cases h2 : s = "claim"
        · subst h2
          rw [let_claim]
          by_cases hr : r.length = 7
          · obtain ⟨a, b, c, d, e, f, h, rfl⟩ := tup7 hr
            simp [lk_claim, claimB, p_number, p_digest, p_path, p_registers, p_row]
          · have hr' : ¬ (r.length : Int) = 7 := by omega
            rw [claimB_ne hr]; simp [lk_claim, hr']
        by_cases h3 : s = "halve"
        · subst h3
          rw [let_halve]
          by_cases hr : r.length = 10
          · obtain ⟨a, b, c, d, e, f, h, i, j, k, rfl⟩ := tup10 hr
            simp [lk_halve, halveB, p_number, p_digest, p_path]
          · have hr' : ¬ (r.length : Int) = 10 := by omega
            rw [halveB_ne hr]; simp [lk_halve, hr']
        by_cases h4 : s = "prove"
        · subst h4
          rw [let_prove]
          by_cases hr : r.length = 6
          · obtain ⟨a, b, c, d, e, f, rfl⟩ := tup6 hr
            simp [lk_prove, proveB, p_number, p_digest, p_anything]
          · have hr' : ¬ (r.length : Int) = 6 := by omega
            rw [proveB_ne hr]; simp [lk_prove, hr']
        simp [lk_none h1 h2 h3 h4, letB, h1, h2, h3, h4]
      | _ => simp [m_is_letter, letB, at0, hne]
  | _ => simp [m_is_letter, letB]
/-! ### the law's own way to see it -/
def numB (most : Option Int) (d : D) : Bool := match most with
  | none => cnt d
  | some b => isI 0 b d
theorem number_eq (d : D) (o : Option Int) : m_law_is_number d o = .ok (numB o d) := by
  cases o
  · exact is_number_none d
  · exact is_number_some d _
def numsB (most size : Option Int) : D → Bool
  | .tup ds => (match size with | none => true | some s => decide ((ds.length : Int) ≤ s)) && ds.all (numB most)
  | _ => false
theorem filt_none {α : Type} (p : α → Bool) (xs : List α) : decide ((((xs.filterMap fun x => if (!p x) = true then some x else none).length : Nat) : Int) = 0) = xs.all p := by
  induction xs with
  | nil => rfl
  | cons x xs ih =>
    rw [List.filterMap_cons, List.all_cons]
    cases h : p x
    · simp; omega
    · simpa using ih
theorem numbers_eq {L n : Nat} (d : D) (most size : Option Int) (hf : Fine L n d) (hL : L ≤ 40000) : m_law_numbers d most size = .ok (numsB most size d) := by
  cases d with
  | tup ds =>
    have e : filC ds () (fun (x9 : Mi.D) (z10 : Unit) => (m_law_is_number x9 most).bind fun r12 => if (!r12) = true then ( Mi.R.ok (some x9, ())) else Mi.R.ok (none, ())) = .ok (ds.filterMap (fun x => if (!numB most x) = true then some x else none), ()) :=
      filC_spec (Nat.le_trans hf.len hL) fun x _ => by rw [number_eq, bind_ok]; cases numB most x <;> rfl
    have e2 := filt_none (numB most) ds
    cases size with
    | none =>
      simp only [m_law_numbers, D.isTup, Bool.not_true, if_neg Bool.false_ne_true, Option.isSome_none, bind_ok, D.tup?, ofO_some, e, e2, numsB, Bool.true_and]
    | some s =>
      simp only [m_law_numbers, D.isTup, Bool.not_true, if_neg Bool.false_ne_true, Option.isSome_some, if_pos, D.len?, bind_ok, D.tup?, ofO_some, e, e2, numsB]
      by_cases h : s < ds.length
      · simp [h, show ¬ (ds.length : Int) ≤ s by omega]
      · simp [h, show (ds.length : Int) ≤ s by omega]
  | _ => simp [m_law_numbers, numsB]
theorem registers_eq (d : D) (top : Int) : m_law_registers d top = .ok (regB (top + 1) d) := by
  cases d with
  | tup ds =>
    by_cases h : ds.length = 6
    · obtain ⟨a, b, c, d, e, f, rfl⟩ := tup6 h
      have hr : rng 0 6 = [0, 1, 2, 3, 4, 5] := rfl
      have i0 : ∀ {α : Type} (a b c d e f : α), atI [a, b, c, d, e, f] 0 = some a := fun _ _ _ _ _ _ => atI_nat (j := 0) rfl
      have i1 : ∀ {α : Type} (a b c d e f : α), atI [a, b, c, d, e, f] 1 = some b := fun _ _ _ _ _ _ => atI_nat (j := 1) rfl
      have i2 : ∀ {α : Type} (a b c d e f : α), atI [a, b, c, d, e, f] 2 = some c := fun _ _ _ _ _ _ => atI_nat (j := 2) rfl
      have i3 : ∀ {α : Type} (a b c d e f : α), atI [a, b, c, d, e, f] 3 = some d := fun _ _ _ _ _ _ => atI_nat (j := 3) rfl
      have i4 : ∀ {α : Type} (a b c d e f : α), atI [a, b, c, d, e, f] 4 = some e := fun _ _ _ _ _ _ => atI_nat (j := 4) rfl
      have i5 : ∀ {α : Type} (a b c d e f : α), atI [a, b, c, d, e, f] 5 = some f := fun _ _ _ _ _ _ => atI_nat (j := 5) rfl
      simp [m_law_registers, hr, filC, filR, i0, i1, i2, i3, i4, i5, number_eq, numB, regB]
      cases isI 0 255 a <;> cases isI 0 65535 b <;> cases isI 0 65535 c <;> cases isI 0 6 d <;> cases isI 0 top e <;> cases isI 0 16 f <;> simp
    · rw [regB_ne h]
      have h' : ¬ (ds.length : Int) = 6 := by omega
      simp [m_law_registers, h']
  | _ => simp [m_law_registers, regB]
theorem cutNN {α : Type} (xs : List α) (i j : Nat) (hi : i ≤ xs.length) (hj : j ≤ xs.length) : cutL xs (some (i : Int)) (some (j : Int)) = (xs.drop i).take (j - i) := by
  unfold cutL
  rw [HT.sIx_nat, HT.sIx_nat, Nat.min_eq_left hi, Nat.min_eq_left hj]
theorem nums_row {n : Int} {d : D} : numsB (some 65535) (some n) d = rowB n d := by cases d <;> rfl
theorem nums_path {top : Int} {d : D} : numsB (some top) none d = pathB (top + 1) d := by
  cases d with
  | tup ds =>
    show (true && ds.all (isI 0 top)) = ds.all (isI 0 (top + 1 - 1))
    rw [Bool.true_and, Int.add_sub_cancel]
  | _ => rfl
theorem dl_ask : (dlk [(Sum.inr ("ask" : Str), (4 : Int)), (Sum.inr ("claim" : Str), (8 : Int)), (Sum.inr ("halve" : Str), (11 : Int)), (Sum.inr ("prove" : Str), (7 : Int))] (Sum.inr ("ask" : Str) : L2.Key)).getD 0 = 4 := rfl
theorem dl_claim : (dlk [(Sum.inr ("ask" : Str), (4 : Int)), (Sum.inr ("claim" : Str), (8 : Int)), (Sum.inr ("halve" : Str), (11 : Int)), (Sum.inr ("prove" : Str), (7 : Int))] (Sum.inr ("claim" : Str) : L2.Key)).getD 0 = 8 := rfl
theorem dl_halve : (dlk [(Sum.inr ("ask" : Str), (4 : Int)), (Sum.inr ("claim" : Str), (8 : Int)), (Sum.inr ("halve" : Str), (11 : Int)), (Sum.inr ("prove" : Str), (7 : Int))] (Sum.inr ("halve" : Str) : L2.Key)).getD 0 = 11 := rfl
theorem dl_prove : (dlk [(Sum.inr ("ask" : Str), (4 : Int)), (Sum.inr ("claim" : Str), (8 : Int)), (Sum.inr ("halve" : Str), (11 : Int)), (Sum.inr ("prove" : Str), (7 : Int))] (Sum.inr ("prove" : Str) : L2.Key)).getD 0 = 7 := rfl
theorem dl_none {s : Str} (h1 : ¬ s = "ask") (h2 : ¬ s = "claim") (h3 : ¬ s = "halve") (h4 : ¬ s = "prove") : (dlk [(Sum.inr ("ask" : Str), (4 : Int)), (Sum.inr ("claim" : Str), (8 : Int)), (Sum.inr ("halve" : Str), (11 : Int)), (Sum.inr ("prove" : Str), (7 : Int))] (Sum.inr s : L2.Key)).getD 0 = 0 := by
  have n : ∀ {t : Str}, ¬ s = t → decide ((Sum.inr t : L2.Key) = Sum.inr s) = false := fun h => decide_eq_false fun e => h (Sum.inr.inj e).symm
  simp only [dlk, List.find?_cons, n h1, n h2, n h3, n h4, List.find?_nil]
  rfl
theorem eqs {s t : Str} (h1 : PySem.PyData.strOk s = true) (h2 : PySem.PyData.strOk t = true) {β : Type} {f : Unit → R β} : ((R.req (D.eqOk (.str s) (.str t))).bind f) = f () := by rw [eqOk_str h1 h2]; rfl
theorem row_str {n : Int} {s : Str} {r : List D} : rowB n (.tup (.str s :: r)) = false := by simp [rowB, isI]
theorem due_ask {L n : Nat} {a b c : D} {top : Int} (hf : Fine L n (.tup [.str "ask", a, b, c])) (hL : L ≤ 40000) : m_law_due (.tup [.str "ask", a, b, c]) top = .ok (rowB 239 a && ((rowB 16 b || ansB b) && isI 0 8 c)) := by
  have fa := hf.item (d := a) (by simp)
  have fb := hf.item (d := b) (by simp)
  have sk : PySem.PyData.strOk ("ask" : Str) = true := by decide +kernel
  have i0 : atI [D.str "ask", a, b, c] 0 = some (.str "ask") := atI_nat (j := 0) rfl
  have i1 : atI [D.str "ask", a, b, c] 1 = some a := atI_nat (j := 1) rfl
  have i2 : atI [D.str "ask", a, b, c] 2 = some b := atI_nat (j := 2) rfl
  have i3 : atI [D.str "ask", a, b, c] 3 = some c := atI_nat (j := 3) rfl
  simp only [m_law_due, D.isTup, D.isStr, D.len?, D.at?, D.str?, ofO_some, bind_ok, i0, i1, i2, i3, dl_ask, Bool.not_true, if_neg Bool.false_ne_true, eqs sk sk, eqv_str, decide_true, if_pos, numbers_eq a _ _ fa hL, numbers_eq b _ _ fb hL, nums_row, number_eq, numB]
  have tail : ∀ u : Bool, ((if rowB 239 a = true then (if u = true then R.ok (true, ()) else R.ok (rowB 16 b, ())).bind fun y32 => (if y32.1 = true then R.ok (isI 0 8 c, ()) else R.ok (false, ())).bind fun y36 => R.ok (y36.1, ()) else R.ok (false, ())).bind fun y38 => R.ok y38.1) = R.ok (rowB 239 a && ((u || rowB 16 b) && isI 0 8 c)) := fun u => by
    cases rowB 239 a <;> cases u <;> cases rowB 16 b <;> simp
  cases b with
  | tup ds =>
    by_cases h : ds.length = 2
    · obtain ⟨x, y, rfl⟩ := len2 h
      have j0 : atI [x, y] 0 = some x := atI_nat (j := 0) rfl
      have j1 : atI [x, y] 1 = some y := atI_nat (j := 1) rfl
      cases x with
      | str s =>
        have ss := (fb.item (d := .str s) (by simp)).strs
        have sa : PySem.PyData.strOk ("answer" : Str) = true := by decide +kernel
        simp only [D.isTup, D.isStr, D.len?, D.at?, if_pos, bind_ok, ofO_some, j0, j1, List.length_cons, List.length_nil, eqs ss sa, eqv_str, ansB]
        have t := tail true
        by_cases e : s = "answer"
        · subst e
          cases hc : cnt y
          · simp [row_str]
          · simpa [row_str] using t
        · simp [e, row_str]
      | _ =>
        have t := tail false
        simpa [D.isTup, D.isStr, D.len?, D.at?, j0, j1, ansB] using t
    · have h' : ¬ (ds.length : Int) = 2 := by omega
      have t := tail false
      rw [ansB_ne h]
      simpa [D.isTup, D.len?, h'] using t
  | _ =>
    have t := tail false
    simpa [D.isTup, ansB] using t
theorem due_claim {L n : Nat} {q a b p r d w : D} {top : Int} (hf : Fine L n (.tup [.str "claim", q, a, b, p, r, d, w])) (hL : L ≤ 40000) : m_law_due (.tup [.str "claim", q, a, b, p, r, d, w]) top = .ok (claimB (top + 1) [q, a, b, p, r, d, w]) := by
  have fp := hf.item (d := p) (by simp)
  have fw := hf.item (d := w) (by simp)
  have f3 : Fine 40000 (n - 1 + 1) (.tup [a, b, d]) := .tup _ (by simp) fun x hx => (hf.item (d := x) (by simp at hx ⊢; rcases hx with rfl | rfl | rfl <;> simp)).mono hL (Nat.le_refl _)
  have sk : PySem.PyData.strOk ("ask" : Str) = true := by decide +kernel
  have sc : PySem.PyData.strOk ("claim" : Str) = true := by decide +kernel
  have e1 : ¬ ("claim" : Str) = "ask" := by decide +kernel
  have i0 : atI [D.str "claim", q, a, b, p, r, d, w] 0 = some (D.str "claim") := atI_nat (j := 0) rfl
  have i1 : atI [D.str "claim", q, a, b, p, r, d, w] 1 = some q := atI_nat (j := 1) rfl
  have i2 : atI [D.str "claim", q, a, b, p, r, d, w] 2 = some a := atI_nat (j := 2) rfl
  have i3 : atI [D.str "claim", q, a, b, p, r, d, w] 3 = some b := atI_nat (j := 3) rfl
  have i4 : atI [D.str "claim", q, a, b, p, r, d, w] 4 = some p := atI_nat (j := 4) rfl
  have i5 : atI [D.str "claim", q, a, b, p, r, d, w] 5 = some r := atI_nat (j := 5) rfl
  have i6 : atI [D.str "claim", q, a, b, p, r, d, w] 6 = some d := atI_nat (j := 6) rfl
  have i7 : atI [D.str "claim", q, a, b, p, r, d, w] 7 = some w := atI_nat (j := 7) rfl
  simp only [m_law_due, D.isTup, D.isStr, D.len?, D.at?, D.str?, ofO_some, bind_ok, i0, i1, i2, i3, i4, i5, i6, i7, dl_claim, Bool.not_true, if_neg Bool.false_ne_true, eqs sc sk, eqs sc sc, eqv_str, decide_eq_false e1, decide_true, if_pos, numbers_eq p _ _ fp hL, numbers_eq w _ _ fw hL, numbers_eq _ _ _ f3 (Nat.le_refl _), registers_eq, nums_row, nums_path, number_eq, numB]
  have e3 : pathB (top + 1) (.tup [a, b, d]) = (isI 0 top a && (isI 0 top b && isI 0 top d)) := by rw [← nums_path]; simp [numsB, numB]
  have e4 : top + 1 - 1 = top := Int.add_sub_cancel _ _
  rw [e3]
  simp only [claimB, e4]
  cases cnt q <;> cases isI 0 top a <;> cases isI 0 top b <;> cases isI 0 top d <;> cases pathB (top + 1) p <;> cases regB (top + 1) r <;> cases rowB 16 w <;> simp
theorem due_halve {L n : Nat} {q l i a b c d e f p : D} {top : Int} (hf : Fine L n (.tup [.str "halve", q, l, i, a, b, c, d, e, f, p])) (hL : L ≤ 40000) : m_law_due (.tup [.str "halve", q, l, i, a, b, c, d, e, f, p]) top = .ok (halveB (top + 1) [q, l, i, a, b, c, d, e, f, p]) := by
  have fp := hf.item (d := p) (by simp)
  have f2 : Fine 40000 (n - 1 + 1) (.tup [l, i]) := .tup _ (by simp) fun x hx => (hf.item (d := x) (by simp at hx ⊢; rcases hx with rfl | rfl <;> simp)).mono hL (Nat.le_refl _)
  have f6 : Fine 40000 (n - 1 + 1) (.tup [a, b, c, d, e, f]) := .tup _ (by simp) fun x hx => (hf.item (d := x) (by simp at hx ⊢; rcases hx with rfl | rfl | rfl | rfl | rfl | rfl <;> simp)).mono hL (Nat.le_refl _)
  have sk : PySem.PyData.strOk ("ask" : Str) = true := by decide +kernel
  have sc : PySem.PyData.strOk ("claim" : Str) = true := by decide +kernel
  have sh : PySem.PyData.strOk ("halve" : Str) = true := by decide +kernel
  have e1 : ¬ ("halve" : Str) = "ask" := by decide +kernel
  have e2 : ¬ ("halve" : Str) = "claim" := by decide +kernel
  have c2 : cutL [D.str "halve", q, l, i, a, b, c, d, e, f, p] (some 2) (some 4) = [l, i] := cutNN _ 2 4 (by simp) (by simp)
  have c6 : cutL [D.str "halve", q, l, i, a, b, c, d, e, f, p] (some 4) (some 10) = [a, b, c, d, e, f] := cutNN _ 4 10 (by simp) (by simp)
  have i0 : atI [D.str "halve", q, l, i, a, b, c, d, e, f, p] 0 = some (D.str "halve") := atI_nat (j := 0) rfl
  have i1 : atI [D.str "halve", q, l, i, a, b, c, d, e, f, p] 1 = some q := atI_nat (j := 1) rfl
  have i2 : atI [D.str "halve", q, l, i, a, b, c, d, e, f, p] 2 = some l := atI_nat (j := 2) rfl
  have i3 : atI [D.str "halve", q, l, i, a, b, c, d, e, f, p] 3 = some i := atI_nat (j := 3) rfl
  have i4 : atI [D.str "halve", q, l, i, a, b, c, d, e, f, p] 4 = some a := atI_nat (j := 4) rfl
  have i5 : atI [D.str "halve", q, l, i, a, b, c, d, e, f, p] 5 = some b := atI_nat (j := 5) rfl
  have i6 : atI [D.str "halve", q, l, i, a, b, c, d, e, f, p] 6 = some c := atI_nat (j := 6) rfl
  have i7 : atI [D.str "halve", q, l, i, a, b, c, d, e, f, p] 7 = some d := atI_nat (j := 7) rfl
  have i8 : atI [D.str "halve", q, l, i, a, b, c, d, e, f, p] 8 = some e := atI_nat (j := 8) rfl
  have i9 : atI [D.str "halve", q, l, i, a, b, c, d, e, f, p] 9 = some f := atI_nat (j := 9) rfl
  have i10 : atI [D.str "halve", q, l, i, a, b, c, d, e, f, p] 10 = some p := atI_nat (j := 10) rfl
  simp only [m_law_due, D.isTup, D.isStr, D.len?, D.at?, D.str?, D.tup?, ofO_some, bind_ok, i0, i1, i10, dl_halve, Bool.not_true, if_neg Bool.false_ne_true, eqs sh sk, eqs sh sc, eqs sh sh, eqv_str, decide_eq_false e1, decide_eq_false e2, decide_true, if_pos, c2, c6, numbers_eq p _ _ fp hL, numbers_eq _ _ _ f2 (Nat.le_refl _), numbers_eq _ _ _ f6 (Nat.le_refl _), nums_path, number_eq, numB]
  have e3 : numsB none none (.tup [l, i]) = (cnt l && cnt i) := by simp [numsB, numB]
  have e5 : pathB (top + 1) (.tup [a, b, c, d, e, f]) = (isI 0 top a && (isI 0 top b && (isI 0 top c && (isI 0 top d && (isI 0 top e && isI 0 top f))))) := by rw [← nums_path]; simp [numsB, numB]
  have e4 : top + 1 - 1 = top := Int.add_sub_cancel _ _
  rw [e3, e5]
  simp only [halveB, e4]
  cases cnt q <;> cases cnt l <;> cases cnt i <;> cases pathB (top + 1) p <;> cases isI 0 top a <;> cases isI 0 top b <;> cases isI 0 top c <;> cases isI 0 top d <;> cases isI 0 top e <;> cases isI 0 top f <;> rfl
theorem due_prove {L n : Nat} {q i a b c x : D} {top : Int} (hf : Fine L n (.tup [.str "prove", q, i, a, b, c, x])) (hL : L ≤ 40000) : m_law_due (.tup [.str "prove", q, i, a, b, c, x]) top = .ok (proveB (top + 1) [q, i, a, b, c, x]) := by
  have f3 : Fine 40000 (n - 1 + 1) (.tup [a, b, c]) := .tup _ (by simp) fun x hx => (hf.item (d := x) (by simp at hx ⊢; rcases hx with rfl | rfl | rfl <;> simp)).mono hL (Nat.le_refl _)
  have sk : PySem.PyData.strOk ("ask" : Str) = true := by decide +kernel
  have sc : PySem.PyData.strOk ("claim" : Str) = true := by decide +kernel
  have sh : PySem.PyData.strOk ("halve" : Str) = true := by decide +kernel
  have sp : PySem.PyData.strOk ("prove" : Str) = true := by decide +kernel
  have e1 : ¬ ("prove" : Str) = "ask" := by decide +kernel
  have e2 : ¬ ("prove" : Str) = "claim" := by decide +kernel
  have e6 : ¬ ("prove" : Str) = "halve" := by decide +kernel
  have c3 : cutL [D.str "prove", q, i, a, b, c, x] (some 3) (some 6) = [a, b, c] := cutNN _ 3 6 (by simp) (by simp)
  have i0 : atI [D.str "prove", q, i, a, b, c, x] 0 = some (D.str "prove") := atI_nat (j := 0) rfl
  have i1 : atI [D.str "prove", q, i, a, b, c, x] 1 = some q := atI_nat (j := 1) rfl
  have i2 : atI [D.str "prove", q, i, a, b, c, x] 2 = some i := atI_nat (j := 2) rfl
  have i3 : atI [D.str "prove", q, i, a, b, c, x] 3 = some a := atI_nat (j := 3) rfl
  have i4 : atI [D.str "prove", q, i, a, b, c, x] 4 = some b := atI_nat (j := 4) rfl
  have i5 : atI [D.str "prove", q, i, a, b, c, x] 5 = some c := atI_nat (j := 5) rfl
  have i6 : atI [D.str "prove", q, i, a, b, c, x] 6 = some x := atI_nat (j := 6) rfl
  simp only [m_law_due, D.isTup, D.isStr, D.len?, D.at?, D.str?, D.tup?, ofO_some, bind_ok, i0, i1, i2, dl_prove, Bool.not_true, if_neg Bool.false_ne_true, eqs sp sk, eqs sp sc, eqs sp sh, eqv_str, decide_eq_false e1, decide_eq_false e2, decide_eq_false e6, decide_true, if_pos, c3, numbers_eq _ _ _ f3 (Nat.le_refl _), nums_path, number_eq, numB]
  have e3 : pathB (top + 1) (.tup [a, b, c]) = (isI 0 top a && (isI 0 top b && isI 0 top c)) := by rw [← nums_path]; simp [numsB, numB]
  have e4 : top + 1 - 1 = top := Int.add_sub_cancel _ _
  rw [e3]
  simp only [proveB, e4]
  cases cnt q <;> cases cnt i <;> cases isI 0 top a <;> cases isI 0 top b <;> cases isI 0 top c <;> rfl
theorem law_due_eq {L n : Nat} {d : D} {top : Int} (hf : Fine L n d) (hL : L ≤ 40000) : m_law_due d top = .ok (letB (top + 1) d) := by
  cases d with
  | tup ds =>
    cases ds with
    | nil => simp [m_law_due, letB]
    | cons a r =>
      have hne : ¬ ((r.length : Int) + 1 = 0) := by omega
      cases a with
      | str s =>
        have bad : ¬ (dlk [(Sum.inr ("ask" : Str), (4 : Int)), (Sum.inr ("claim" : Str), (8 : Int)), (Sum.inr ("halve" : Str), (11 : Int)), (Sum.inr ("prove" : Str), (7 : Int))] (Sum.inr s : L2.Key)).getD 0 = (r.length : Int) + 1 → m_law_due (.tup (.str s :: r)) top = .ok false := fun h => by
          simp [m_law_due, at0, hne, h]
        by_cases h1 : s = "ask"
        · subst h1
          rw [let_ask]
          by_cases hr : r.length = 3
          · obtain ⟨a, b, c, rfl⟩ := tup3 hr
            exact due_ask hf hL
          · rw [askB_ne hr, bad (by rw [dl_ask]; omega)]
        by_cases h2 : s = "claim"
        · subst h2
          rw [let_claim]
          by_cases hr : r.length = 7
          · obtain ⟨a, b, c, d, e, f, g, rfl⟩ := tup7 hr
            exact due_claim hf hL
          · rw [claimB_ne hr, bad (by rw [dl_claim]; omega)]
        by_cases h3 : s = "halve"
        · subst h3
          rw [let_halve]
          by_cases hr : r.length = 10
          · obtain ⟨a, b, c, d, e, f, g, h, i, j, rfl⟩ := tup10 hr
            exact due_halve hf hL
          · rw [halveB_ne hr, bad (by rw [dl_halve]; omega)]
        by_cases h4 : s = "prove"
        · subst h4
          rw [let_prove]
          by_cases hr : r.length = 6
          · obtain ⟨a, b, c, d, e, f, rfl⟩ := tup6 hr
            exact due_prove hf hL
          · rw [proveB_ne hr, bad (by rw [dl_prove]; omega)]
        rw [bad (by rw [dl_none h1 h2 h3 h4]; omega)]
        simp [letB, h1, h2, h3, h4]
      | _ => simp [m_law_due, letB, at0, hne]
  | _ => simp [m_law_due, letB]
/-! ### letters that are drawn, and spoilt -/
theorem fine_ints {L n : Nat} {xs : List Int} (h : xs.length ≤ L) : Fine L (n + 1) (.tup (xs.map D.int)) := .tup _ (by rw [List.length_map]; exact h) fun d hd => by
  obtain ⟨i, _, rfl⟩ := List.mem_map.mp hd
  exact .int _ _
theorem repL_len {α : Type} {x : α} {k : Int} : (repL [x] k).length = k.toNat := by
  unfold repL
  induction k.toNat with
  | zero => rfl
  | succ n ih => rw [List.replicate_succ, List.flatten_cons, List.length_append, ih]; simp; omega
theorem rep1 {α : Type} {x : α} {k : Int} (h0 : 0 ≤ k) (h1 : k ≤ 1000) : repTOk [x].length k = true := by
  unfold repTOk
  rw [decide_eq_true h0, decide_eq_true h1]
  rfl
local macro_rules | `(tactic| walk_at "fine") => `(tactic| repeat' first
  | exact Fine.int _ _
  | exact Fine.non _
  | exact Fine.bl _ _
  | exact Fine.lst _ _
  | exact Fine.str _ (by decide +kernel)
  | exact fine_ints (by first | assumption | (rw [repL_len]; omega) | (simp; done) | (simp; omega))
  | assumption
  | (refine Fine.tup _ (by first | (simp; done) | (simp; omega)) ?_; intro d hd; simp only [List.mem_cons, List.not_mem_nil, or_false] at hd)
  | (rename_i hd; rcases hd with hd | hd)
  | (rename_i hd; subst hd)
  | (rename_i hd; cases hd; done))
theorem right_ok {b : Int × Int × Int} {g : Digests_} : Ends (m_law_right b g) fun r => Fine 240 3 r.1 := by
  unfold m_law_right
  refine .bind (.eq rfl) ?_
  rintro _ rfl
  walk_at "ends1"
  walk_at "ends1"
  obtain ⟨x5, e5, _⟩ := atI_some (xs := [(0 : Int), (1 : Int), (7 : Int), ((10 : Int) ^ ((9 : Int)).toNat)]) (by assumption) (by simp; assumption)
  refine .ofO e5 ?_
  walk_at "ends1"
  obtain ⟨x7, e7, _⟩ := atI_some (xs := [(0 : Int), (1 : Int), g.f_modulus - 1]) (by assumption) (by simp; assumption)
  refine .ofO e7 ?_
  walk_at "ends1"
  rename_i r8 h80 h81
  refine .req (rep1 h80 (by omega)) ?_
  have l9 : (repL [x7] r8.1).length ≤ 240 := by rw [repL_len]; omega
  generalize repL [x7] r8.1 = x9 at l9
  refine .bind (.eq rfl) ?_
  rintro x9 rfl
  walk_at "ends1"
  obtain ⟨x11, e11, m11⟩ := atI_some (xs := [(0 : Int), (1 : Int), (16 : Int)]) (by assumption) (by simp; assumption)
  refine .ofO e11 ?_
  have b11 : 0 ≤ x11 ∧ x11 ≤ 16 := by simp at m11; omega
  refine .req (rep1 b11.1 (by omega)) ?_
  have l12 : (repL [(65535 : Int)] x11).length ≤ 240 := by rw [repL_len]; omega
  generalize repL [(65535 : Int)] x11 = x12 at l12
  refine .bind (.eq rfl) ?_
  rintro x12 rfl
  walk_at "ends1"
  refine .ite (fun _ => ?_) fun _ => ?_
  · walk_at "ends1"
    obtain ⟨x15, e15, m15⟩ := atI_some (xs := [(Mi.D.tup (List.map Mi.D.int x12)), (Mi.D.tup [(Mi.D.str ("answer" : Str)), (Mi.D.int x5)]), (Mi.D.tup []), (Mi.D.tup [(Mi.D.int (3 : Int)), (Mi.D.int (4 : Int))])]) (by assumption) (by simp; assumption)
    refine .ofO e15 ?_
    have f15 : Fine 240 2 x15 := by
      simp only [List.mem_cons, List.not_mem_nil, or_false] at m15
      rcases m15 with rfl | rfl | rfl | rfl <;> walk_at "fine"
    walk_at "ends1"
    obtain ⟨x17, e17, m17⟩ := atI_some (xs := [(0 : Int), (1 : Int), (239 : Int)]) (by assumption) (by simp; assumption)
    refine .ofO e17 ?_
    have b17 : 0 ≤ x17 ∧ x17 ≤ 239 := by simp at m17; omega
    refine .req (rep1 b17.1 (by omega)) ?_
    walk_at "ends1"
    refine .ok ?_
    walk_at "fine"
  refine .ite (fun _ => ?_) fun _ => ?_
  · walk_at "ends1"
    walk_at "ends1"
    walk_at "ends1"
    refine .bind (.eq rfl) ?_
    rintro _ rfl
    refine .ok ?_
    walk_at "fine"
  refine .ite (fun _ => ?_) fun _ => ?_
  · walk_at "ends1"
    refine .ok ?_
    walk_at "fine"
  · walk_at "ends1"
    obtain ⟨x25, e25, m25⟩ := atI_some (xs := [Mi.D.non, (Mi.D.tup []), (Mi.D.str ("x" : Str)), (Mi.D.tup [(Mi.D.tup [(Mi.D.int (0 : Int)), (Mi.D.int (0 : Int)), (Mi.D.int (0 : Int)), (Mi.D.int (0 : Int)), (Mi.D.int (7 : Int)), (Mi.D.int (0 : Int))]), (Mi.D.int (0 : Int)), (Mi.D.tup [])])]) (by assumption) (by simp; assumption)
    refine .ofO e25 ?_
    have f25 : Fine 240 2 x25 := by
      simp only [List.mem_cons, List.not_mem_nil, or_false] at m25
      rcases m25 with rfl | rfl | rfl | rfl <;> walk_at "fine"
    refine .ok ?_
    walk_at "fine"
end

section
open Mi Mi.R
local macro_rules | `(tactic| walk_at "fine") => `(tactic| repeat' first
  | exact Fine.int _ _
  | exact Fine.non _
  | exact Fine.bl _ _
  | exact Fine.lst _ _
  | exact Fine.str _ (by decide +kernel)
  | exact fine_ints (by first | assumption | (rw [repL_len]; omega) | (simp; done) | (simp; omega))
  | assumption
  | (refine Fine.tup _ (by first | (simp; done) | (simp; omega)) ?_; intro d hd; simp only [List.mem_cons, List.not_mem_nil, or_false] at hd)
  | (rename_i hd; rcases hd with hd | hd)
  | (rename_i hd; subst hd)
  | (rename_i hd; cases hd; done))
theorem fits_ok {n m : Nat} (h : n + m ≤ 100000) : fits n m = true := by unfold fits; exact decide_eq_true (by omega)
theorem cut_mem {α : Type} {xs : List α} {lo hi : Option Int} {x : α} (h : x ∈ cutL xs lo hi) : x ∈ xs := by
  unfold cutL at h
  exact List.mem_of_mem_drop (List.mem_of_mem_take h)
theorem cut_len {α : Type} {xs : List α} {lo hi : Option Int} : (cutL xs lo hi).length ≤ xs.length := by
  unfold cutL
  rw [List.length_take, List.length_drop]
  omega
/-- the three parts of a row: ahead of a place, the place, behind -/
theorem cut_head {α : Type} {xs : List α} {i : Nat} (h : i ≤ xs.length) : cutL xs none (some (i : Int)) = xs.take i := by
  unfold cutL
  rw [HT.sIx_none, HT.sIx_nat, Nat.min_eq_left h]
  simp
theorem cut_tail {α : Type} {xs : List α} {i : Nat} (h : i ≤ xs.length) : cutL xs (some (i : Int)) none = xs.drop i := by
  unfold cutL
  rw [HT.sIx_none, HT.sIx_nat, Nat.min_eq_left h]
  rw [List.take_of_length_le (by rw [List.length_drop]; omega)]
theorem cut_mid_len {α : Type} {xs : List α} {i j : Nat} : (cutL xs (some (i : Int)) (some (j : Int))).length ≤ j - i := by
  unfold cutL
  rw [HT.sIx_nat, HT.sIx_nat, List.length_take]
  omega
theorem fine_app {L n : Nat} {ds : List D} (h : ds.length ≤ L) (k : ∀ d ∈ ds, Fine L n d) : Fine L (n + 1) (.tup ds) := .tup _ h k
theorem spoilt_ok : ∀ (f n L : Nat) (b : Int × Int × Int) (v odd : D), Fine L n v → Fine L 1 odd → n < f → L ≤ 1000 → Ends (m_law_spoilt f b v odd) fun r => Fine (L + 1) (n + 1) r.1
  | 0, _, _, _, _, _, _, _, h, _ => absurd h (Nat.not_lt_zero _)
  | f + 1, n, L, b, v, odd, hv, ho, hf, hL => by
    have ho' : Fine (L + 1) (n + 1) odd := ho.mono (by omega) (by omega)
    cases v with
    | tup ds =>
      obtain ⟨m, rfl, hl, hi⟩ := hv.items
      unfold m_law_spoilt
      simp only [D.isTup, D.len?, D.tup?, D.at?, ofO_some, bind_ok, Bool.not_true, if_neg Bool.false_ne_true]
      refine .bind (P := fun y => y.1 = false → ds ≠ []) ?_ fun y hy => ?_
      · refine .bind (P := fun y => y.1 = false → ds ≠ []) (.ite (fun h => .ok fun z => Bool.noConfusion z) fun h => ?_) fun y h => .ok h
        refine .bind (draw_ok (by decide) (by decide)) fun r _ => .ok fun _ e => h (by subst e; rfl)
      refine .ite (fun _ => .ok ho') fun h => ?_
      have hne : ds ≠ [] := hy (by cases h9 : y.1 <;> simp_all)
      have hpos : 1 ≤ ds.length := Nat.pos_of_ne_zero fun e => hne (List.eq_nil_of_length_eq_zero e)
      refine .bind (draw_ok (by omega) (by
        have : (ds.length : Int) < 2 ^ 250 := by
          have : (1000 : Int) < 2 ^ 250 := by decide
          omega
        exact this)) fun r9 h9 => ?_
      obtain ⟨k, hk⟩ := Int.eq_ofNat_of_zero_le h9.1
      have hk2 : k < ds.length := by omega
      rw [hk]
      refine .bind (draw_ok (by decide) (by decide)) fun r10 _ => ?_
      have e1 : ((k : Int) + 1) = ((k + 1 : Nat) : Int) := by omega
      have e2 : ((k : Int) + 2) = ((k + 2 : Nat) : Int) := by omega
      have hh := cut_head (xs := ds) (i := k) (by omega)
      have t0 := cut_tail (xs := ds) (i := k) (by omega)
      have t1 := cut_tail (xs := ds) (i := k + 1) (by omega)
      have m1 := cut_mid_len (xs := ds) (i := k) (j := k + 1)
      have m2 := cut_mid_len (xs := ds) (i := k + 1) (j := k + 2)
      have l0 := cut_len (xs := ds) (lo := some ((k + 2 : Nat) : Int)) (hi := none)
      have t2 : (cutL ds (some ((k + 2 : Nat) : Int)) none).length ≤ ds.length - (k + 2) ∨ (cutL ds (some ((k + 2 : Nat) : Int)) none).length = 0 := by
        by_cases h : k + 2 ≤ ds.length
        · left; rw [cut_tail h, List.length_drop]; exact Nat.le_refl _
        · right
          unfold cutL
          rw [HT.sIx_none, HT.sIx_nat, List.length_take, List.length_drop]
          omega
      have mem : ∀ {lo hi : Option Int} {x : D}, x ∈ cutL ds lo hi → Fine (L + 1) (m + 1) x := fun h => (hi _ (cut_mem h)).mono (by omega) (by omega)
      rw [e1, e2]
      have mem2 : ∀ {xs : List D} {x : D}, x ∈ xs ++ [] → x ∈ xs := fun h => by simpa using h
      refine .ite (fun _ => ?_) fun _ => .ite (fun _ => ?_) fun _ => .ite (fun _ => ?_) fun _ => .ite (fun _ => ?_) fun _ => ?_
      · refine .req (fits_ok (by rw [hh, t1, List.length_take, List.length_drop]; omega)) (.ok (fine_app ?_ ?_))
        · rw [List.length_append, hh, t1, List.length_take, List.length_drop]; omega
        · intro d hd
          rcases List.mem_append.mp hd with h | h <;> exact mem h
      · refine .req (fits_ok (by rw [hh, List.length_take]; simp; omega)) (.req (fits_ok (by rw [List.length_append, hh, t0, List.length_take, List.length_drop]; simp; omega)) (.ok (fine_app ?_ ?_)))
        · rw [List.length_append, List.length_append, hh, t0, List.length_take, List.length_drop]; simp; omega
        · intro d hd
          rcases List.mem_append.mp hd with h | h
          · rcases List.mem_append.mp h with h | h
            · exact mem h
            · rw [List.mem_singleton.mp h]; exact ho.mono (by omega) (by omega)
          · exact mem h
      · refine .req (fits_ok (by rw [hh, List.length_take]; omega)) (.req (fits_ok (by rw [List.length_append, hh, t0, List.length_take, List.length_drop]; omega)) (.ok (fine_app ?_ ?_)))
        · rw [List.length_append, List.length_append, hh, t0, List.length_take, List.length_drop]; omega
        · intro d hd
          rcases List.mem_append.mp hd with h | h
          · rcases List.mem_append.mp h with h | h <;> exact mem h
          · exact mem h
      · refine .req (fits_ok (by rw [hh, List.length_take]; omega)) (.req (fits_ok (by rw [List.length_append, hh, List.length_take]; omega)) (.req (fits_ok (by rw [List.length_append, List.length_append, hh, List.length_take]; omega)) (.ok (fine_app ?_ ?_))))
        · rw [List.length_append, List.length_append, List.length_append, hh, List.length_take]; omega
        · intro d hd
          rcases List.mem_append.mp hd with h | h
          · rcases List.mem_append.mp h with h | h
            · rcases List.mem_append.mp h with h | h <;> exact mem h
            · exact mem h
          · exact mem h
      · obtain ⟨x, hx, hm⟩ := atI_some (xs := ds) (i := (k : Int)) (by omega) (by omega)
        refine .ofO hx ?_
        refine .bind (spoilt_ok f m L _ x odd (hi x hm) ho (by omega) hL) fun r24 h24 => ?_
        refine .req (fits_ok (by rw [hh, List.length_take]; simp; omega)) (.req (fits_ok (by rw [List.length_append, hh, t1, List.length_take, List.length_drop]; simp; omega)) (.ok (fine_app ?_ ?_)))
        · rw [List.length_append, List.length_append, hh, t1, List.length_take, List.length_drop]; simp; omega
        · intro d hd
          rcases List.mem_append.mp hd with h | h
          · rcases List.mem_append.mp h with h | h
            · exact mem h
            · rw [List.mem_singleton.mp h]; exact h24
          · exact mem h
    | _ =>
      unfold m_law_spoilt
      simp only [D.isTup, Bool.not_false, if_true, bind_ok]
      exact .ok ho'
/-! ### the law -/
theorem init_ok {n : Int} (h0 : 0 ≤ n) (h1 : n ≤ 1000000) : Ends (m_Digests___init n ()) fun _ => True := by
  unfold m_Digests___init
  exact .req (by unfold shlOk; rw [decide_eq_true h0, decide_eq_true h1]; rfl) (.ok trivial)
theorem m_law_true (ns : List Int) (hl : ns.length ≤ 63) : m_law ns = .ok true := by
  have E : Ends (m_law ns) fun b => b = true := by
    unfold m_law
    generalize hN : (if (if (ns.length : Int) < 20 then (ns.length : Int) else 20) > 1 then (if (ns.length : Int) < 20 then (ns.length : Int) else 20) else 1) = N
    have bN : 0 ≤ N ∧ N ≤ 20 := by subst hN; split <;> split at * <;> omega
    refine .req (by unfold rOk; rw [decide_eq_true (show -(2 ^ 62) ≤ N by omega), decide_eq_true (show N < 2 ^ 62 by omega)]; rfl) ?_
    refine .bind (forE_inv (fun _ => True) _ _ trivial fun k z hk _ => ?_) fun r ⟨s, e, _⟩ => by subst e; exact .ok rfl
    have hk0 := (mem_rng.mp hk).1
    refine .bind (bag_ok hk0) fun b _ => ?_
    walk_at "ends1"
    obtain ⟨x9, e9, m9⟩ := atI_some (xs := [(7 : Int), (13 : Int), (31 : Int), (61 : Int)]) (by assumption) (by simp; assumption)
    refine .ofO e9 ?_
    have b9 : 0 ≤ x9 ∧ x9 ≤ 61 := by simp at m9; omega
    refine .bind (init_ok b9.1 (by omega)) fun g _ => ?_
    refine .bind right_ok fun r12 h12 => ?_
    walk_at "ends1"
    rename_i r13 h130 h131
    refine .req (by unfold rOk; rw [decide_eq_true (show -(2 ^ 62) ≤ r13.1 by omega), decide_eq_true (show r13.1 < 2 ^ 62 by omega)]; rfl) ?_
    refine .bind (P := fun z => Fine 244 7 z.1) ((forR_idx (fun i z => Fine (240 + i) (3 + i) z.1) _ _ 0 h12 fun j x z h1 h2 _ hz => ?_).mono fun z hz => hz.mono (by rw [rng_length]; omega) (by rw [rng_length]; omega)) fun z15 hz => ?_
    · rw [rng_length] at h2
      refine .bind (.eq rfl) fun x19 e19 => ?_
      refine .req (rep1 (by decide) (by decide)) ?_
      refine .req (by rw [e19]; rfl) ?_
      refine .bind (.eq rfl) fun x20 e20 => ?_
      walk_at "ends1"
      have l20 : x20.length = 24 := by rw [e20, e19]; rfl
      have f20 : ∀ d ∈ x20, Fine (240 + j) 1 d := by
        intro d hd
        rw [e20, e19] at hd
        simp only [List.mem_append, List.mem_cons, List.not_mem_nil, or_false] at hd
        rcases hd with (rfl | rfl | rfl | rfl | rfl | rfl | rfl | rfl | rfl | rfl | rfl | rfl | rfl | rfl | rfl | rfl | rfl | rfl) | (rfl | rfl | rfl | rfl | rfl | rfl) <;> walk_at "fine"
      obtain ⟨x22, e22, m22⟩ := atI_some (xs := x20) (by assumption) (by rw [l20]; assumption)
      refine .ofO e22 ?_
      refine .bind (spoilt_ok 12 (3 + j) (240 + j) _ z.1 x22 hz (f20 x22 m22) (by omega) (by omega)) fun r23 h23 => .ok h23
    · rw [is_letter_eq g z15.1 hz (by decide)]
      refine .bind (.eq rfl) fun r24 h24 => ?_
      have e26 : m_law_due z15.1 (g.f_modulus - 1) = .ok (letB g.f_modulus z15.1) := by
        have := law_due_eq (top := g.f_modulus - 1) hz (by decide)
        rwa [Int.sub_add_cancel] at this
      have ey : (if (!((Mi.D.bl r24)).isBl) = true then Mi.R.ok (true, ()) else (m_Digests_modulus g).bind fun r25 => (m_law_due z15.1 ((r25 - (1 : Int)))).bind fun r26 => Mi.R.ok ((!(r24 == r26)), ())) = .ok (false, ()) := by
        simp [m_Digests_modulus, e26, h24]
      rw [ey]
      exact .ok ⟨(), rfl, trivial⟩
  obtain ⟨b, e, rfl⟩ := E
  exact e
end

theorem ok_lawF (T : Txt w K mg) : FnOk P w K mg base CX0 15 T.f_law.f T.f_law.fd ["script"] (Mi.spLaw K) := (ok_law T).imp fun _ _ _ _ h => Mi.law_imp (g := gg T) m_law_true h
end
theorem all_mk {l : PySem.W.OpenLaw} {w : World} {K : PySem.W.Frag} {h : Heap} {mg : Str → Option Value} {fa : Addr} (X : K.In h) (G : h.Ns mainGlobals mg) (hfa : mg "law" = some (.ref fa))
    {od0 an0 : Option Addr} {sl0 : Array (Option Value)} {oc0 kV0 dc0 pm0 cd0 ct0 : Value} {f0 : Addr}
    {od1 an1 : Option Addr} {sl1 : Array (Option Value)} {oc1 kV1 dc1 pm1 cd1 ct1 : Value} {f1 : Addr}
    {od2 an2 : Option Addr} {sl2 : Array (Option Value)} {oc2 kV2 dc2 pm2 cd2 ct2 : Value} {f2 : Addr}
    {od3 an3 : Option Addr} {sl3 : Array (Option Value)} {oc3 kV3 dc3 pm3 cd3 ct3 : Value} {f3 : Addr}
    {od4 an4 : Option Addr} {sl4 : Array (Option Value)} {oc4 kV4 dc4 pm4 cd4 ct4 : Value} {f4 : Addr}
    {od5 an5 : Option Addr} {sl5 : Array (Option Value)} {oc5 kV5 dc5 pm5 cd5 ct5 : Value} {f5 : Addr}
    {od6 an6 : Option Addr} {sl6 : Array (Option Value)} {oc6 kV6 dc6 pm6 cd6 ct6 : Value} {f6 : Addr}
    {od7 an7 : Option Addr} {sl7 : Array (Option Value)} {oc7 kV7 dc7 pm7 cd7 ct7 : Value} {f7 : Addr}
    {od8 an8 : Option Addr} {sl8 : Array (Option Value)} {oc8 kV8 dc8 pm8 cd8 ct8 : Value} {f8 : Addr}
    {od9 an9 : Option Addr} {sl9 : Array (Option Value)} {oc9 kV9 dc9 pm9 cd9 ct9 : Value} {f9 : Addr}
    {od10 an10 : Option Addr} {sl10 : Array (Option Value)} {oc10 kV10 dc10 pm10 cd10 ct10 : Value} {f10 : Addr}
    {od11 an11 : Option Addr} {sl11 : Array (Option Value)} {oc11 kV11 dc11 pm11 cd11 ct11 : Value} {f11 : Addr}
    {od12 an12 : Option Addr} {sl12 : Array (Option Value)} {oc12 kV12 dc12 pm12 cd12 ct12 : Value} {f12 : Addr}
    {od13 an13 : Option Addr} {sl13 : Array (Option Value)} {oc13 kV13 dc13 pm13 cd13 ct13 : Value} {f13 : Addr}
    {od14 an14 : Option Addr} {sl14 : Array (Option Value)} {oc14 kV14 dc14 pm14 cd14 ct14 : Value} {f14 : Addr}
    {od15 an15 : Option Addr} {sl15 : Array (Option Value)} {oc15 kV15 dc15 pm15 cd15 ct15 : Value} {f15 : Addr}
    {od16 an16 : Option Addr} {sl16 : Array (Option Value)} {oc16 kV16 dc16 pm16 cd16 ct16 : Value} {f16 : Addr}
    {od17 an17 : Option Addr} {sl17 : Array (Option Value)} {oc17 kV17 dc17 pm17 cd17 ct17 : Value} {f17 : Addr}
    {od18 an18 : Option Addr} {sl18 : Array (Option Value)} {oc18 kV18 dc18 pm18 cd18 ct18 : Value} {f18 : Addr}
    {od19 an19 : Option Addr} {sl19 : Array (Option Value)} {oc19 kV19 dc19 pm19 cd19 ct19 : Value} {f19 : Addr}
    {od20 an20 : Option Addr} {sl20 : Array (Option Value)} {oc20 kV20 dc20 pm20 cd20 ct20 : Value} {f20 : Addr}
    {C_Digests : Addr}
    {a_MARKS : Addr} {o_MARKS : Obj}
    {t_MOST_IMAGE : Tok}
    {t_MOST_INPUTS : Tok}
    {t_MOST_LEVEL : Tok}
    {t_MOST_TOLD : Tok}
    {t_MOST_WORD : Tok}
    {a_PARTS : Addr} {es_PARTS : Array DictEntry} {n_PARTS : Nat} {a_PARTS_0 : Addr} {o_PARTS_0 : Obj} {a_PARTS_1 : Addr} {o_PARTS_1 : Obj} {a_PARTS_2 : Addr} {o_PARTS_2 : Obj} {a_PARTS_3 : Addr} {o_PARTS_3 : Obj}
    {t_PLACES : Tok}
    (aC_Digests : PySem.W.nsIn K mainGlobals "Digests" = some (some (.ref C_Digests)))
    (a0 : PySem.W.nsIn K mainGlobals "is_integer" = some (some (.ref f0)))
    (l0 : K.lookup f0 = some ⟨oc0, od0, .func (PySem.W.fnOf "is_integer" "is_integer" (defArgs s_is_integer) (defBody s_is_integer) (defScope s_is_integer) .none kV0 dc0 pm0 an0 cd0 ct0), sl0⟩)
    (c0 : PySem.W.codeIn K cd0 "is_integer" = true)
    (k0 : PySem.W.keepIn K (.ref f0) = true)
    (a1 : PySem.W.nsIn K mainGlobals "is_word" = some (some (.ref f1)))
    (l1 : K.lookup f1 = some ⟨oc1, od1, .func (PySem.W.fnOf "is_word" "is_word" (defArgs s_is_word) (defBody s_is_word) (defScope s_is_word) .none kV1 dc1 pm1 an1 cd1 ct1), sl1⟩)
    (c1 : PySem.W.codeIn K cd1 "is_word" = true)
    (k1 : PySem.W.keepIn K (.ref f1) = true)
    (a2 : PySem.W.findIn K (.ref C_Digests) "__init__" = some (some (.ref f2)))
    (i2 : PySem.W.isFn K (.ref f2) = true)
    (l2 : K.lookup f2 = some ⟨oc2, od2, .func (PySem.W.fnOf "__init__" "Digests.__init__" (defArgs s_Digests___init) (defBody s_Digests___init) (defScope s_Digests___init) .none kV2 dc2 pm2 an2 cd2 ct2), sl2⟩)
    (c2 : PySem.W.codeIn K cd2 "Digests.__init__" = true)
    (k2 : PySem.W.keepIn K (.ref f2) = true)
    (a3 : PySem.W.findIn K (.ref C_Digests) "modulus" = some (some (.ref f3)))
    (i3 : PySem.W.isFn K (.ref f3) = true)
    (l3 : K.lookup f3 = some ⟨oc3, od3, .func (PySem.W.fnOf "modulus" "Digests.modulus" (defArgs s_Digests_modulus) (defBody s_Digests_modulus) (defScope s_Digests_modulus) .none kV3 dc3 pm3 an3 cd3 ct3), sl3⟩)
    (c3 : PySem.W.codeIn K cd3 "Digests.modulus" = true)
    (k3 : PySem.W.keepIn K (.ref f3) = true)
    (a4 : PySem.W.findIn K (.ref C_Digests) "is_digest" = some (some (.ref f4)))
    (i4 : PySem.W.isFn K (.ref f4) = true)
    (l4 : K.lookup f4 = some ⟨oc4, od4, .func (PySem.W.fnOf "is_digest" "Digests.is_digest" (defArgs s_Digests_is_digest) (defBody s_Digests_is_digest) (defScope s_Digests_is_digest) .none kV4 dc4 pm4 an4 cd4 ct4), sl4⟩)
    (c4 : PySem.W.codeIn K cd4 "Digests.is_digest" = true)
    (k4 : PySem.W.keepIn K (.ref f4) = true)
    (a5 : PySem.W.nsIn K mainGlobals "is_count" = some (some (.ref f5)))
    (l5 : K.lookup f5 = some ⟨oc5, od5, .func (PySem.W.fnOf "is_count" "is_count" (defArgs s_is_count) (defBody s_is_count) (defScope s_is_count) .none kV5 dc5 pm5 an5 cd5 ct5), sl5⟩)
    (c5 : PySem.W.codeIn K cd5 "is_count" = true)
    (k5 : PySem.W.keepIn K (.ref f5) = true)
    (a6 : PySem.W.nsIn K mainGlobals "is_tuple" = some (some (.ref f6)))
    (l6 : K.lookup f6 = some ⟨oc6, od6, .func (PySem.W.fnOf "is_tuple" "is_tuple" (defArgs s_is_tuple) (defBody s_is_tuple) (defScope s_is_tuple) .none kV6 dc6 pm6 an6 cd6 ct6), sl6⟩)
    (c6 : PySem.W.codeIn K cd6 "is_tuple" = true)
    (k6 : PySem.W.keepIn K (.ref f6) = true)
    (a7 : PySem.W.nsIn K mainGlobals "is_row" = some (some (.ref f7)))
    (l7 : K.lookup f7 = some ⟨oc7, od7, .func (PySem.W.fnOf "is_row" "is_row" (defArgs s_is_row) (defBody s_is_row) (defScope s_is_row) .none kV7 dc7 pm7 an7 cd7 ct7), sl7⟩)
    (c7 : PySem.W.codeIn K cd7 "is_row" = true)
    (k7 : PySem.W.keepIn K (.ref f7) = true)
    (a8 : PySem.W.nsIn K mainGlobals "are_registers" = some (some (.ref f8)))
    (l8 : K.lookup f8 = some ⟨oc8, od8, .func (PySem.W.fnOf "are_registers" "are_registers" (defArgs s_are_registers) (defBody s_are_registers) (defScope s_are_registers) .none kV8 dc8 pm8 an8 cd8 ct8), sl8⟩)
    (c8 : PySem.W.codeIn K cd8 "are_registers" = true)
    (k8 : PySem.W.keepIn K (.ref f8) = true)
    (a9 : PySem.W.nsIn K mainGlobals "is_letter" = some (some (.ref f9)))
    (l9 : K.lookup f9 = some ⟨oc9, od9, .func (PySem.W.fnOf "is_letter" "is_letter" (defArgs s_is_letter) (defBody s_is_letter) (defScope s_is_letter) .none kV9 dc9 pm9 an9 cd9 ct9), sl9⟩)
    (c9 : PySem.W.codeIn K cd9 "is_letter" = true)
    (k9 : PySem.W.keepIn K (.ref f9) = true)
    (a10 : PySem.W.nsIn K mainGlobals "is_part" = some (some (.ref f10)))
    (l10 : K.lookup f10 = some ⟨oc10, od10, .func (PySem.W.fnOf "is_part" "is_part" (defArgs s_is_part) (defBody s_is_part) (defScope s_is_part) .none kV10 dc10 pm10 an10 cd10 ct10), sl10⟩)
    (c10 : PySem.W.codeIn K cd10 "is_part" = true)
    (k10 : PySem.W.keepIn K (.ref f10) = true)
    (a11 : PySem.W.nsIn K mainGlobals "is_answer" = some (some (.ref f11)))
    (l11 : K.lookup f11 = some ⟨oc11, od11, .func (PySem.W.fnOf "is_answer" "is_answer" (defArgs s_is_answer) (defBody s_is_answer) (defScope s_is_answer) .none kV11 dc11 pm11 an11 cd11 ct11), sl11⟩)
    (c11 : PySem.W.codeIn K cd11 "is_answer" = true)
    (k11 : PySem.W.keepIn K (.ref f11) = true)
    (a12 : PySem.W.nsIn K mainGlobals "_law_bag" = some (some (.ref f12)))
    (l12 : K.lookup f12 = some ⟨oc12, od12, .func (PySem.W.fnOf "_law_bag" "_law_bag" (defArgs s_law_bag) (defBody s_law_bag) (defScope s_law_bag) .none kV12 dc12 pm12 an12 cd12 ct12), sl12⟩)
    (c12 : PySem.W.codeIn K cd12 "_law_bag" = true)
    (k12 : PySem.W.keepIn K (.ref f12) = true)
    (a13 : PySem.W.nsIn K mainGlobals "_law_draw" = some (some (.ref f13)))
    (l13 : K.lookup f13 = some ⟨oc13, od13, .func (PySem.W.fnOf "_law_draw" "_law_draw" (defArgs s_law_draw) (defBody s_law_draw) (defScope s_law_draw) .none kV13 dc13 pm13 an13 cd13 ct13), sl13⟩)
    (c13 : PySem.W.codeIn K cd13 "_law_draw" = true)
    (k13 : PySem.W.keepIn K (.ref f13) = true)
    (a14 : PySem.W.nsIn K mainGlobals "_law_spoilt" = some (some (.ref f14)))
    (l14 : K.lookup f14 = some ⟨oc14, od14, .func (PySem.W.fnOf "_law_spoilt" "_law_spoilt" (defArgs s_law_spoilt) (defBody s_law_spoilt) (defScope s_law_spoilt) .none kV14 dc14 pm14 an14 cd14 ct14), sl14⟩)
    (c14 : PySem.W.codeIn K cd14 "_law_spoilt" = true)
    (k14 : PySem.W.keepIn K (.ref f14) = true)
    (a15 : PySem.W.nsIn K mainGlobals "_law_right" = some (some (.ref f15)))
    (l15 : K.lookup f15 = some ⟨oc15, od15, .func (PySem.W.fnOf "_law_right" "_law_right" (defArgs s_law_right) (defBody s_law_right) (defScope s_law_right) .none kV15 dc15 pm15 an15 cd15 ct15), sl15⟩)
    (c15 : PySem.W.codeIn K cd15 "_law_right" = true)
    (k15 : PySem.W.keepIn K (.ref f15) = true)
    (a16 : PySem.W.nsIn K mainGlobals "_law_is_number" = some (some (.ref f16)))
    (l16 : K.lookup f16 = some ⟨oc16, od16, .func (PySem.W.fnOf "_law_is_number" "_law_is_number" (defArgs s_law_is_number) (defBody s_law_is_number) (defScope s_law_is_number) .none kV16 dc16 pm16 an16 cd16 ct16), sl16⟩)
    (c16 : PySem.W.codeIn K cd16 "_law_is_number" = true)
    (k16 : PySem.W.keepIn K (.ref f16) = true)
    (a17 : PySem.W.nsIn K mainGlobals "_law_numbers" = some (some (.ref f17)))
    (l17 : K.lookup f17 = some ⟨oc17, od17, .func (PySem.W.fnOf "_law_numbers" "_law_numbers" (defArgs s_law_numbers) (defBody s_law_numbers) (defScope s_law_numbers) .none kV17 dc17 pm17 an17 cd17 ct17), sl17⟩)
    (c17 : PySem.W.codeIn K cd17 "_law_numbers" = true)
    (k17 : PySem.W.keepIn K (.ref f17) = true)
    (a18 : PySem.W.nsIn K mainGlobals "_law_registers" = some (some (.ref f18)))
    (l18 : K.lookup f18 = some ⟨oc18, od18, .func (PySem.W.fnOf "_law_registers" "_law_registers" (defArgs s_law_registers) (defBody s_law_registers) (defScope s_law_registers) .none kV18 dc18 pm18 an18 cd18 ct18), sl18⟩)
    (c18 : PySem.W.codeIn K cd18 "_law_registers" = true)
    (k18 : PySem.W.keepIn K (.ref f18) = true)
    (a19 : PySem.W.nsIn K mainGlobals "_law_due" = some (some (.ref f19)))
    (l19 : K.lookup f19 = some ⟨oc19, od19, .func (PySem.W.fnOf "_law_due" "_law_due" (defArgs s_law_due) (defBody s_law_due) (defScope s_law_due) .none kV19 dc19 pm19 an19 cd19 ct19), sl19⟩)
    (c19 : PySem.W.codeIn K cd19 "_law_due" = true)
    (k19 : PySem.W.keepIn K (.ref f19) = true)
    (a20 : PySem.W.nsIn K mainGlobals "law" = some (some (.ref f20)))
    (l20 : K.lookup f20 = some ⟨oc20, od20, .func (PySem.W.fnOf "law" "law" (defArgs s_law) (defBody s_law) (defScope s_law) .none kV20 dc20 pm20 an20 cd20 ct20), sl20⟩)
    (c20 : PySem.W.codeIn K cd20 "law" = true)
    (k20 : PySem.W.keepIn K (.ref f20) = true)
    (pg_Digests : PySem.W.plainGet K C_Digests Str.empty = true)
    (hd_Digests : PySem.W.hasDictIn K C_Digests = true)
    (po_Digests : PySem.W.plainOver K C_Digests = true)
    (sa_Digests : PySem.W.findIn K (.ref C_Digests) "__setattr__" = some (some (.builtin "object.__setattr__")))
    (mk_Digests : PySem.W.makesIn K C_Digests = true)
    (kc_Digests : PySem.W.keepIn K (.ref C_Digests) = true)
    (n_Digests_bits : PySem.W.findIn K (.ref C_Digests) "_bits" = some none)
    (n_Digests_book : PySem.W.findIn K (.ref C_Digests) "_book" = some none)
    (n_Digests_modulus : PySem.W.findIn K (.ref C_Digests) "_modulus" = some none)
    (g_MARKS : PySem.W.nsIn K mainGlobals "MARKS" = some (some (.ref a_MARKS)))
    (w_MARKS : K.lookup a_MARKS = some o_MARKS)
    (v_MARKS : Kit.tupB o_MARKS [.str "long", .str "done", .str "divided", .str "place", .str "input", .str "full", .str "bad"] = true)
    (g_MOST_IMAGE : PySem.W.nsIn K mainGlobals "MOST_IMAGE" = some (some (.int 239 t_MOST_IMAGE)))
    (g_MOST_INPUTS : PySem.W.nsIn K mainGlobals "MOST_INPUTS" = some (some (.int 16 t_MOST_INPUTS)))
    (g_MOST_LEVEL : PySem.W.nsIn K mainGlobals "MOST_LEVEL" = some (some (.int 8 t_MOST_LEVEL)))
    (g_MOST_TOLD : PySem.W.nsIn K mainGlobals "MOST_TOLD" = some (some (.int 16 t_MOST_TOLD)))
    (g_MOST_WORD : PySem.W.nsIn K mainGlobals "MOST_WORD" = some (some (.int 65535 t_MOST_WORD)))
    (g_PARTS : PySem.W.nsIn K mainGlobals "PARTS" = some (some (.ref a_PARTS)))
    (w_PARTS : K.lookup a_PARTS = some ⟨.type "dict", none, .dict es_PARTS n_PARTS, #[]⟩)
    (lit_PARTS : PySem.W.KeysLit w.params es_PARTS.toList)
    (v_sPARTS : (a_PARTS == sysModules) = false)
    (v_kPARTS : es_PARTS.toList.map Kit.keyStr = ([some "ask", some "claim", some "halve", some "prove"] : List (Option Str)))
    (x_PARTS_0 : PySem.W.nsIn K a_PARTS "ask" = some (some (.ref a_PARTS_0)))
    (y_PARTS_0 : K.lookup a_PARTS_0 = some o_PARTS_0)
    (v_tPARTS_0 : Kit.tupB o_PARTS_0 [.str "image", .str "inputs", .str "level"] = true)
    (x_PARTS_1 : PySem.W.nsIn K a_PARTS "claim" = some (some (.ref a_PARTS_1)))
    (y_PARTS_1 : K.lookup a_PARTS_1 = some o_PARTS_1)
    (v_tPARTS_1 : Kit.tupB o_PARTS_1 [.str "number", .str "digest", .str "digest", .str "path", .str "registers", .str "digest", .str "row"] = true)
    (x_PARTS_2 : PySem.W.nsIn K a_PARTS "halve" = some (some (.ref a_PARTS_2)))
    (y_PARTS_2 : K.lookup a_PARTS_2 = some o_PARTS_2)
    (v_tPARTS_2 : Kit.tupB o_PARTS_2 [.str "number", .str "number", .str "number", .str "digest", .str "digest", .str "digest", .str "digest", .str "digest", .str "digest", .str "path"] = true)
    (x_PARTS_3 : PySem.W.nsIn K a_PARTS "prove" = some (some (.ref a_PARTS_3)))
    (y_PARTS_3 : K.lookup a_PARTS_3 = some o_PARTS_3)
    (v_tPARTS_3 : Kit.tupB o_PARTS_3 [.str "number", .str "number", .str "digest", .str "digest", .str "digest", .str "anything"] = true)
    (g_PLACES : PySem.W.nsIn K mainGlobals "PLACES" = some (some (.int 256 t_PLACES)))
    (z_all : PySem.W.nsIn K mainGlobals "all" = some none)
    (z_bool : PySem.W.nsIn K mainGlobals "bool" = some none)
    (z_int : PySem.W.nsIn K mainGlobals "int" = some none)
    (z_isinstance : PySem.W.nsIn K mainGlobals "isinstance" = some none)
    (z_len : PySem.W.nsIn K mainGlobals "len" = some none)
    (z_max : PySem.W.nsIn K mainGlobals "max" = some none)
    (z_min : PySem.W.nsIn K mainGlobals "min" = some none)
    (z_range : PySem.W.nsIn K mainGlobals "range" = some none)
    (z_str : PySem.W.nsIn K mainGlobals "str" = some none)
    (z_tuple : PySem.W.nsIn K mainGlobals "tuple" = some none)
    (z_zip : PySem.W.nsIn K mainGlobals "zip" = some none)
    : ∃ fd : FuncData, (∀ (s : Shared) (v : Value), BindsTo s fd ⟨[v], []⟩ [("script", v)]) ∧ ∀ base : Heap, K.In base → base.Ns mainGlobals mg → FnOk l.prog w K mg base CX0 15 fa fd ["script"] (Mi.spLaw K) := by
  have e := hfa.symm.trans (PySem.W.mg_of X G a20)
  have e2 : f20 = fa := by
    injection e with e
    injection e with e
    exact e.symm
  subst e2
  have F0 := fun_mk (st := s_is_integer) l0 c0 k0
  have b0 := F0.binds (ps := ["value", "least", "greatest"]) fun _ _ _ _ _ _ us hl => match us, hl with | [_, _, _], _ => rfl
  have F1 := fun_mk (st := s_is_word) l1 c1 k1
  have b1 := F1.binds (ps := ["value"]) fun _ _ _ _ _ _ us hl => match us, hl with | [_], _ => rfl
  have F2 := fun_mk (st := s_Digests___init) l2 c2 k2
  have b2 := F2.binds (ps := ["self", "bits", "book"]) fun _ _ _ _ _ _ us hl => match us, hl with | [_, _, _], _ => rfl
  have F3 := fun_mk (st := s_Digests_modulus) l3 c3 k3
  have b3 := F3.binds (ps := ["self"]) fun _ _ _ _ _ _ us hl => match us, hl with | [_], _ => rfl
  have F4 := fun_mk (st := s_Digests_is_digest) l4 c4 k4
  have b4 := F4.binds (ps := ["self", "value"]) fun _ _ _ _ _ _ us hl => match us, hl with | [_, _], _ => rfl
  have F5 := fun_mk (st := s_is_count) l5 c5 k5
  have b5 := F5.binds (ps := ["value"]) fun _ _ _ _ _ _ us hl => match us, hl with | [_], _ => rfl
  have F6 := fun_mk (st := s_is_tuple) l6 c6 k6
  have b6 := F6.binds (ps := ["value", "many"]) fun _ _ _ _ _ _ us hl => match us, hl with | [_, _], _ => rfl
  have F7 := fun_mk (st := s_is_row) l7 c7 k7
  have b7 := F7.binds (ps := ["value", "most", "is_item"]) fun _ _ _ _ _ _ us hl => match us, hl with | [_, _, _], _ => rfl
  have F8 := fun_mk (st := s_are_registers) l8 c8 k8
  have b8 := F8.binds (ps := ["digests", "value"]) fun _ _ _ _ _ _ us hl => match us, hl with | [_, _], _ => rfl
  have F9 := fun_mk (st := s_is_letter) l9 c9 k9
  have b9 := F9.binds (ps := ["digests", "value"]) fun _ _ _ _ _ _ us hl => match us, hl with | [_, _], _ => rfl
  have F10 := fun_mk (st := s_is_part) l10 c10 k10
  have b10 := F10.binds (ps := ["digests", "value", "part"]) fun _ _ _ _ _ _ us hl => match us, hl with | [_, _, _], _ => rfl
  have F11 := fun_mk (st := s_is_answer) l11 c11 k11
  have b11 := F11.binds (ps := ["value"]) fun _ _ _ _ _ _ us hl => match us, hl with | [_], _ => rfl
  have F12 := fun_mk (st := s_law_bag) l12 c12 k12
  have b12 := F12.binds (ps := ["script", "k"]) fun _ _ _ _ _ _ us hl => match us, hl with | [_, _], _ => rfl
  have F13 := fun_mk (st := s_law_draw) l13 c13 k13
  have b13 := F13.binds (ps := ["bag", "many"]) fun _ _ _ _ _ _ us hl => match us, hl with | [_, _], _ => rfl
  have F14 := fun_mk (st := s_law_spoilt) l14 c14 k14
  have b14 := F14.binds (ps := ["bag", "value", "odd"]) fun _ _ _ _ _ _ us hl => match us, hl with | [_, _, _], _ => rfl
  have F15 := fun_mk (st := s_law_right) l15 c15 k15
  have b15 := F15.binds (ps := ["bag", "digests"]) fun _ _ _ _ _ _ us hl => match us, hl with | [_, _], _ => rfl
  have F16 := fun_mk (st := s_law_is_number) l16 c16 k16
  have b16 := F16.binds (ps := ["value", "most"]) fun _ _ _ _ _ _ us hl => match us, hl with | [_, _], _ => rfl
  have F17 := fun_mk (st := s_law_numbers) l17 c17 k17
  have b17 := F17.binds (ps := ["value", "most", "size"]) fun _ _ _ _ _ _ us hl => match us, hl with | [_, _, _], _ => rfl
  have F18 := fun_mk (st := s_law_registers) l18 c18 k18
  have b18 := F18.binds (ps := ["value", "top"]) fun _ _ _ _ _ _ us hl => match us, hl with | [_, _], _ => rfl
  have F19 := fun_mk (st := s_law_due) l19 c19 k19
  have b19 := F19.binds (ps := ["value", "top"]) fun _ _ _ _ _ _ us hl => match us, hl with | [_, _], _ => rfl
  have F20 := fun_mk (st := s_law) l20 c20 k20
  have b20 := F20.binds (ps := ["script"]) fun _ _ _ _ _ _ us hl => match us, hl with | [_], _ => rfl
  let T : Txt w K mg := {
    f_is_integer := ⟨⟨f0, _, F0, b0⟩, PySem.W.mg_of X G a0⟩
    f_is_word := ⟨⟨f1, _, F1, b1⟩, PySem.W.mg_of X G a1⟩
    f_Digests___init := ⟨f2, _, F2, b2⟩
    f_Digests_modulus := ⟨f3, _, F3, b3⟩
    f_Digests_is_digest := ⟨f4, _, F4, b4⟩
    f_is_count := ⟨⟨f5, _, F5, b5⟩, PySem.W.mg_of X G a5⟩
    f_is_tuple := ⟨⟨f6, _, F6, b6⟩, PySem.W.mg_of X G a6⟩
    f_is_row := ⟨⟨f7, _, F7, b7⟩, PySem.W.mg_of X G a7⟩
    f_are_registers := ⟨⟨f8, _, F8, b8⟩, PySem.W.mg_of X G a8⟩
    f_is_letter := ⟨⟨f9, _, F9, b9⟩, PySem.W.mg_of X G a9⟩
    f_is_part := ⟨⟨f10, _, F10, b10⟩, PySem.W.mg_of X G a10⟩
    f_is_answer := ⟨⟨f11, _, F11, b11⟩, PySem.W.mg_of X G a11⟩
    f_law_bag := ⟨⟨f12, _, F12, b12⟩, PySem.W.mg_of X G a12⟩
    f_law_draw := ⟨⟨f13, _, F13, b13⟩, PySem.W.mg_of X G a13⟩
    f_law_spoilt := ⟨⟨f14, _, F14, b14⟩, PySem.W.mg_of X G a14⟩
    f_law_right := ⟨⟨f15, _, F15, b15⟩, PySem.W.mg_of X G a15⟩
    f_law_is_number := ⟨⟨f16, _, F16, b16⟩, PySem.W.mg_of X G a16⟩
    f_law_numbers := ⟨⟨f17, _, F17, b17⟩, PySem.W.mg_of X G a17⟩
    f_law_registers := ⟨⟨f18, _, F18, b18⟩, PySem.W.mg_of X G a18⟩
    f_law_due := ⟨⟨f19, _, F19, b19⟩, PySem.W.mg_of X G a19⟩
    f_law := ⟨⟨f20, _, F20, b20⟩, PySem.W.mg_of X G a20⟩
    c_Digests := ⟨C_Digests, ⟨pg_Digests, hd_Digests, po_Digests, sa_Digests⟩, ⟨mk_Digests, a2, i2, kc_Digests⟩, PySem.W.mg_of X G aC_Digests⟩
    m_Digests_modulus := ⟨a3, i3, k3⟩
    m_Digests_is_digest := ⟨a4, i4, k4⟩
    n_Digests_bits := n_Digests_bits
    n_Digests_book := n_Digests_book
    n_Digests_modulus := n_Digests_modulus
    a_MARKS := a_MARKS
    g_MARKS := PySem.W.mg_of X G g_MARKS
    w_MARKS := Kit.ktup_of w_MARKS v_MARKS
    t_MOST_IMAGE := t_MOST_IMAGE
    g_MOST_IMAGE := PySem.W.mg_of X G g_MOST_IMAGE
    t_MOST_INPUTS := t_MOST_INPUTS
    g_MOST_INPUTS := PySem.W.mg_of X G g_MOST_INPUTS
    t_MOST_LEVEL := t_MOST_LEVEL
    g_MOST_LEVEL := PySem.W.mg_of X G g_MOST_LEVEL
    t_MOST_TOLD := t_MOST_TOLD
    g_MOST_TOLD := PySem.W.mg_of X G g_MOST_TOLD
    t_MOST_WORD := t_MOST_WORD
    g_MOST_WORD := PySem.W.mg_of X G g_MOST_WORD
    a_PARTS := a_PARTS
    g_PARTS := PySem.W.mg_of X G g_PARTS
    d_PARTS := Kit.ktab_mk w_PARTS lit_PARTS v_sPARTS v_kPARTS <| .cons x_PARTS_0 (Kit.ktup_of y_PARTS_0 v_tPARTS_0) <| .cons x_PARTS_1 (Kit.ktup_of y_PARTS_1 v_tPARTS_1) <| .cons x_PARTS_2 (Kit.ktup_of y_PARTS_2 v_tPARTS_2) <| .cons x_PARTS_3 (Kit.ktup_of y_PARTS_3 v_tPARTS_3) <| .nil
    t_PLACES := t_PLACES
    g_PLACES := PySem.W.mg_of X G g_PLACES
    z_all := PySem.W.mg_none_of X G z_all
    z_bool := PySem.W.mg_none_of X G z_bool
    z_int := PySem.W.mg_none_of X G z_int
    z_isinstance := PySem.W.mg_none_of X G z_isinstance
    z_len := PySem.W.mg_none_of X G z_len
    z_max := PySem.W.mg_none_of X G z_max
    z_min := PySem.W.mg_none_of X G z_min
    z_range := PySem.W.mg_none_of X G z_range
    z_str := PySem.W.mg_none_of X G z_str
    z_tuple := PySem.W.mg_none_of X G z_tuple
    z_zip := PySem.W.mg_none_of X G z_zip }
  exact ⟨PySem.W.fnOf "law" "law" (defArgs s_law) (defBody s_law) (defScope s_law) .none kV20 dc20 pm20 an20 cd20 ct20, fun s v => .of_eq rfl, fun base _ _ => ok_lawF T⟩
end My
open PySem PySem.W PyProof.Rows
set_option maxHeartbeats 0 in
theorem PySem.Challenge.cw_onestepcourt_k52_letters_holds : PySem.Challenge.rw_onestepcourt_k52_letters.Holds := by
  w_on; o_law; k_head; (case hw => w_witness2)
  k_fill
  refine L2.walk_of (l := PySem.Challenge.rw_onestepcourt_k52_letters) (n := 63) (k := 15) (x := "script") (CX := fun _ => L2.CX0) (sp := fun w => Mi.spLaw _) rfl (by decide) rfl ⟨rfl, by decide, by decide⟩ (fun w h Y => PySem.W.kIn_of Y) ?F (fun _ _ a ns hl _ hS => Mi.spLaw_of hl hS) (fun _ _ _ _ _ h => h)
  case F =>
    intro w mg fa h KX G hmg
    refine' My.all_mk KX G hmg ?aC_Digests ?a0 ?l0 ?c0 ?k0 ?a1 ?l1 ?c1 ?k1 ?a2 ?i2 ?l2 ?c2 ?k2 ?a3 ?i3 ?l3 ?c3 ?k3 ?a4 ?i4 ?l4 ?c4 ?k4 ?a5 ?l5 ?c5 ?k5 ?a6 ?l6 ?c6 ?k6 ?a7 ?l7 ?c7 ?k7 ?a8 ?l8 ?c8 ?k8 ?a9 ?l9 ?c9 ?k9 ?a10 ?l10 ?c10 ?k10 ?a11 ?l11 ?c11 ?k11 ?a12 ?l12 ?c12 ?k12 ?a13 ?l13 ?c13 ?k13 ?a14 ?l14 ?c14 ?k14 ?a15 ?l15 ?c15 ?k15 ?a16 ?l16 ?c16 ?k16 ?a17 ?l17 ?c17 ?k17 ?a18 ?l18 ?c18 ?k18 ?a19 ?l19 ?c19 ?k19 ?a20 ?l20 ?c20 ?k20 ?pg_Digests ?hd_Digests ?po_Digests ?sa_Digests ?mk_Digests ?kc_Digests ?n_Digests_bits ?n_Digests_book ?n_Digests_modulus ?g_MARKS ?w_MARKS ?v_MARKS ?g_MOST_IMAGE ?g_MOST_INPUTS ?g_MOST_LEVEL ?g_MOST_TOLD ?g_MOST_WORD ?g_PARTS ?w_PARTS ?lit_PARTS ?v_sPARTS ?v_kPARTS ?x_PARTS_0 ?y_PARTS_0 ?v_tPARTS_0 ?x_PARTS_1 ?y_PARTS_1 ?v_tPARTS_1 ?x_PARTS_2 ?y_PARTS_2 ?v_tPARTS_2 ?x_PARTS_3 ?y_PARTS_3 ?v_tPARTS_3 ?g_PLACES ?z_all ?z_bool ?z_int ?z_isinstance ?z_len ?z_max ?z_min ?z_range ?z_str ?z_tuple ?z_zip
    (case aC_Digests => k_is)
    (case a0 => k_is)
    (case l0 => k_is)
    (case c0 => k_is)
    (case k0 => k_is)
    (case a1 => k_is)
    (case l1 => k_is)
    (case c1 => k_is)
    (case k1 => k_is)
    (case a2 => k_is)
    (case i2 => k_is)
    (case l2 => k_is)
    (case c2 => k_is)
    (case k2 => k_is)
    (case a3 => k_is)
    (case i3 => k_is)
    (case l3 => k_is)
    (case c3 => k_is)
    (case k3 => k_is)
    (case a4 => k_is)
    (case i4 => k_is)
    (case l4 => k_is)
    (case c4 => k_is)
    (case k4 => k_is)
    (case a5 => k_is)
    (case l5 => k_is)
    (case c5 => k_is)
    (case k5 => k_is)
    (case a6 => k_is)
    (case l6 => k_is)
    (case c6 => k_is)
    (case k6 => k_is)
    (case a7 => k_is)
    (case l7 => k_is)
    (case c7 => k_is)
    (case k7 => k_is)
    (case a8 => k_is)
    (case l8 => k_is)
    (case c8 => k_is)
    (case k8 => k_is)
    (case a9 => k_is)
    (case l9 => k_is)
    (case c9 => k_is)
    (case k9 => k_is)
    (case a10 => k_is)
    (case l10 => k_is)
    (case c10 => k_is)
    (case k10 => k_is)
    (case a11 => k_is)
    (case l11 => k_is)
    (case c11 => k_is)
    (case k11 => k_is)
    (case a12 => k_is)
    (case l12 => k_is)
    (case c12 => k_is)
    (case k12 => k_is)
    (case a13 => k_is)
    (case l13 => k_is)
    (case c13 => k_is)
    (case k13 => k_is)
    (case a14 => k_is)
    (case l14 => k_is)
    (case c14 => k_is)
    (case k14 => k_is)
    (case a15 => k_is)
    (case l15 => k_is)
    (case c15 => k_is)
    (case k15 => k_is)
    (case a16 => k_is)
    (case l16 => k_is)
    (case c16 => k_is)
    (case k16 => k_is)
    (case a17 => k_is)
    (case l17 => k_is)
    (case c17 => k_is)
    (case k17 => k_is)
    (case a18 => k_is)
    (case l18 => k_is)
    (case c18 => k_is)
    (case k18 => k_is)
    (case a19 => k_is)
    (case l19 => k_is)
    (case c19 => k_is)
    (case k19 => k_is)
    (case a20 => k_is)
    (case l20 => k_is)
    (case c20 => k_is)
    (case k20 => k_is)
    (case pg_Digests => k_is)
    (case hd_Digests => k_is)
    (case po_Digests => k_is)
    (case sa_Digests => k_is)
    (case mk_Digests => k_is)
    (case kc_Digests => k_is)
    (case n_Digests_bits => k_is)
    (case n_Digests_book => k_is)
    (case n_Digests_modulus => k_is)
    (case g_MARKS => k_is)
    (case w_MARKS => k_is)
    (case v_MARKS => first | rfl | with_unfolding_all rfl | kernel_rfl)
    (case g_MOST_IMAGE => k_is)
    (case g_MOST_INPUTS => k_is)
    (case g_MOST_LEVEL => k_is)
    (case g_MOST_TOLD => k_is)
    (case g_MOST_WORD => k_is)
    (case g_PARTS => k_is)
    (case w_PARTS => k_is)
    (case lit_PARTS => k_keys)
    (case v_sPARTS => first | rfl | with_unfolding_all rfl | kernel_rfl)
    (case v_kPARTS => first | rfl | with_unfolding_all rfl | kernel_rfl)
    (case x_PARTS_0 => k_is)
    (case y_PARTS_0 => k_is)
    (case v_tPARTS_0 => first | rfl | with_unfolding_all rfl | kernel_rfl)
    (case x_PARTS_1 => k_is)
    (case y_PARTS_1 => k_is)
    (case v_tPARTS_1 => first | rfl | with_unfolding_all rfl | kernel_rfl)
    (case x_PARTS_2 => k_is)
    (case y_PARTS_2 => k_is)
    (case v_tPARTS_2 => first | rfl | with_unfolding_all rfl | kernel_rfl)
    (case x_PARTS_3 => k_is)
    (case y_PARTS_3 => k_is)
    (case v_tPARTS_3 => first | rfl | with_unfolding_all rfl | kernel_rfl)
    (case g_PLACES => k_is)
    (case z_all => k_is)
    (case z_bool => k_is)
    (case z_int => k_is)
    (case z_isinstance => k_is)
    (case z_len => k_is)
    (case z_max => k_is)
    (case z_min => k_is)
    (case z_range => k_is)
    (case z_str => k_is)
    (case z_tuple => k_is)
    (case z_zip => k_is)


