import PyProof.Rows.All
import Wide.All
import OpenK.AllK
import Wide.FinOn
import HandS.ForMost
import HandS.Wide
import HandS.Evl
import HandS.IsInst
import HandS.TupAny
import HandS.TupMul
import HandS.TupLe
import HandS.Dict
import HandS.Conv
import HandS.SetKeys
import HandS.TupLen
import KE.KDictKeyed
import HandS.Deep
import HandS.Style
import PySem.Challenge.RW_onestepcourt_k08_memory
set_option Elab.async false
set_option linter.all false
set_option maxRecDepth 100000
namespace Kit
open PySem PySem.Spec PyProof.Rows L2 Evl
abbrev St := L2.St
/-! ### facts of the text -/
structure GFn (K : PySem.W.Frag) (x qual : Str) (st : Stmt) (ps : List Str) where
  f : Addr
  fd : FuncData
  F : Fun K x qual st f fd
  b : Binds K fd ps []
structure GFn' (K : PySem.W.Frag) (mg : Str → Option Value) (x qual : Str) (st : Stmt) (ps : List Str) extends GFn K x qual st ps where
  g : mg x = some (.ref f)
structure GCl (K : PySem.W.Frag) (mg : Str → Option Value) (x : Str) (fI : Addr) where
  C : Addr
  cl : Cls K C
  M : Mk K C fI
  g : mg x = some (.ref C)
/-- an attribute read; a method's receiver; a new instance; an attribute stored -/
def FldOf (K : PySem.W.Frag) (f : Str) (x : V) (H : Hp) (Q : VK) : Prop := ∃ a C dx fs v, x = .ref a ∧ H a = some (.ins C dx fs) ∧ Cls K C ∧ NoAttr K C f ∧ fs.lookup f = some v ∧ Q v H
def InsOf (C : Addr) (m : Str) (x : V) (H : Hp) (R : Prop) : Prop := ∃ a dx fs, x = .ref a ∧ H a = some (.ins C dx fs) ∧ fs.lookup m = none ∧ R
def MakeOf (C : Addr) (sp : Sp) (E : XK) (vs : List V) (H : Hp) (Q : VK) : Prop := ∀ x dx, H x = none → H dx = none → dx ≠ x → sp (.ref x :: vs) (upd (upd H dx (.own x)) x (.ins C dx [])) (fun v H2 => v = .non ∧ Q (.ref x) H2) E
def PutOf (K : PySem.W.Frag) (f : Str) (y x : V) (H : Hp) (R : Hp → Prop) : Prop := ∃ a C dx fs, x = .ref a ∧ H a = some (.ins C dx fs) ∧ Cls K C ∧ NoAttr K C f ∧ fs.length < 1000 ∧ R (upd H a (.ins C dx (putF f y fs)))
/-- a new object of so many items -/
def Alloc (n : Nat) (o : HO) (H : Hp) (Q : VK) : Prop := n ≤ sizeLine ∧ ∀ p, H p = none → Q (.ref p) (upd H p o)
/-! ### a statement with its four ways out -/
def Sm (t : TS) (nx : St → Hp → Prop) (rt : VK) (bk ct : St → Hp → Prop) (σ : St) (H : Hp) : Prop := t ⟨nx, rt, bk, ct⟩ σ H
section
variable {σ : St} {H H1 H2 : Hp} {Q : VK} {R : Bool → Hp → Prop} {A : List V → Hp → Prop} {i n : Nat} {v x y : V} {ta tb te tv : TE} {tl tr : TA} {b : Bool} {K : PySem.W.Frag} {a C dx p : Addr} {fs : List (Str × V)} {f : Str} {t u c : TT}
theorem w_var (h : σ[i]? = some (some v)) (q : Q v H) : tVar i σ H Q := ⟨v, h, q⟩
theorem w_c (q : Q v H) : tC v σ H Q := q
theorem w_op {r : R2} (h : ta σ H fun x H1 => tb σ H1 fun y H2 => r x y H2 Q) : tOp r ta tb σ H Q := h
theorem w_un {r : V → Hp → VK → Prop} (h : ta σ H fun x H1 => r x H1 Q) : tUn r ta σ H Q := h
theorem w_cb {r : List V → Hp → VK → Prop} (h : tl σ H fun vs H1 => r vs H1 Q) : tCB r tl σ H Q := h
theorem w_nil (q : A [] H) : tNil σ H A := q
theorem w_cons (h : te σ H fun x H1 => tr σ H1 fun xs H2 => A (x :: xs) H2) : tCons te tr σ H A := h
theorem w_tup (h : tl σ H fun xs H1 => Alloc xs.length (.tup xs) H1 Q) : tTup tl σ H Q := h
theorem w_lst (h : tl σ H fun xs H1 => Alloc xs.length (.lst xs) H1 Q) : tLst tl σ H Q := h
theorem w_call {sp : Sp} {dvs : List V} {E : XK} (h : tl σ H fun vs H1 => sp (vs ++ dvs) H1 Q E) : tCall sp dvs E tl σ H Q := h
theorem w_test (h : te σ H fun x H' => ∃ k, x = .bl k ∧ R k H') : tTest te σ H R := h
theorem w_B (h : te σ H fun x H' => ∃ k, x = .bl k ∧ R k H') : tB te σ H R := h
theorem w_and (h : t σ H fun c H1 => if c = true then u σ H1 R else R false H1) : tAnd t u σ H R := h
theorem w_or (h : t σ H fun c H1 => if c = true then R true H1 else u σ H1 R) : tOr t u σ H R := h
theorem w_not (h : t σ H fun c H1 => R (!c) H1) : tNot t σ H R := h
theorem w_andV (h : ta σ H fun x H1 => ∃ c, x = .bl c ∧ if c = true then tb σ H1 Q else Q (.bl false) H1) : tAndV ta tb σ H Q := h
theorem w_orV (h : ta σ H fun x H1 => ∃ c, x = .bl c ∧ if c = true then Q (.bl true) H1 else tb σ H1 Q) : tOrV ta tb σ H Q := h
theorem w_notV (h : ta σ H fun x H1 => ∃ c, x = .bl c ∧ Q (.bl (!c)) H1) : tNotV ta σ H Q := h
theorem w_ifE (h : t σ H fun c H1 => if c = true then ta σ H1 Q else tb σ H1 Q) : tIf t ta tb σ H Q := h
theorem w_fld (h : ta σ H fun x H1 => FldOf K f x H1 Q) : tFld K ta f σ H Q := h
theorem w_rd {v : V} (h : H a = some (.ins C dx fs)) (cl : Cls K C) (n : NoAttr K C f) (l : fs.lookup f = some v) (q : Q v H) : FldOf K f (.ref a) H Q := ⟨a, C, dx, fs, v, rfl, h, cl, n, l, q⟩
theorem w_meth {m : Str} {sp : Sp} {E : XK} (h : ta σ H fun x H1 => InsOf C m x H1 (tl σ H1 fun vs H2 => sp (x :: vs) H2 Q E)) : tMeth C m sp [] E ta tl σ H Q := by
  have e : tMeth C m sp [] E ta tl σ H Q = (ta σ H fun x H1 => InsOf C m x H1 (tl σ H1 fun vs H2 => sp (x :: vs) H2 Q E)) := by unfold tMeth InsOf; simp only [List.append_nil]
  rw [e]; exact h
theorem w_ins {m : Str} {R : Prop} (h : H a = some (.ins C dx fs)) (l : fs.lookup m = none) (r : R) : InsOf C m (.ref a) H R := ⟨a, dx, fs, rfl, h, l, r⟩
theorem w_make {sp : Sp} {E : XK} (h : tl σ H fun vs H1 => MakeOf C sp E vs H1 Q) : tMake C sp [] E tl σ H Q := by
  have e : tMake C sp [] E tl σ H Q = (tl σ H fun vs H1 => MakeOf C sp E vs H1 Q) := by unfold tMake MakeOf; simp only [List.append_nil]
  rw [e]; exact h
theorem w_made {sp : Sp} {E : XK} {vs : List V} (h : ∀ x dx H2, H x = none → Ex H H2 → H2 x = some (.ins C dx []) → sp (.ref x :: vs) H2 (fun v H3 => v = .non ∧ Q (.ref x) H3) E) : MakeOf C sp E vs H Q :=
  fun x dx hx hd hn => h x dx _ hx (fun b o hb => by rw [upd_ne (ne_of_none hb hx), upd_ne (ne_of_none hb hd)]; exact hb) upd_same
theorem w_bl {k : Bool} (q : R k H) : ∃ k', V.bl k = .bl k' ∧ R k' H := ⟨k, rfl, q⟩
theorem w_blE {k : Bool} {P : Bool → Prop} (q : P k) : ∃ k', V.bl k = .bl k' ∧ P k' := ⟨k, rfl, q⟩
/-- operators -/
theorem w_I0 {g : Int → Int → V} {i j : Int} (q : Q (g i j) H) : rI0 g (.int i) (.int j) H Q := ⟨i, j, rfl, rfl, q⟩
theorem w_I {C : Int → Int → Prop} {g : Int → Int → V} {i j : Int} (hc : C i j) (q : Q (g i j) H) : rI C g (.int i) (.int j) H Q := ⟨i, j, rfl, rfl, hc, q⟩
theorem w_U {g : Int → V} {i : Int} (q : Q (g i) H) : rU g (.int i) H Q := ⟨i, rfl, q⟩
theorem w_eqI {i j : Int} (q : Q (.bl (decide (i = j))) H) : rEq (.int i) (.int j) H Q := ⟨rfl, by
  have e : decide (V.int i = V.int j) = decide (i = j) := by
    by_cases h : i = j
    · subst h; rw [decide_eq_true rfl, decide_eq_true rfl]
    · rw [decide_eq_false h, decide_eq_false (fun z => h (V.int.inj z))]
  rw [e]; exact q⟩
theorem w_neI {i j : Int} (q : Q (.bl (!decide (i = j))) H) : rNe (.int i) (.int j) H Q := ⟨rfl, by
  have e : decide (V.int i = V.int j) = decide (i = j) := by
    by_cases h : i = j
    · subst h; rw [decide_eq_true rfl, decide_eq_true rfl]
    · rw [decide_eq_false h, decide_eq_false (fun z => h (V.int.inj z))]
  rw [e]; exact q⟩
theorem w_eqB {i j : Bool} (q : Q (.bl (i == j)) H) : rEq (.bl i) (.bl j) H Q := ⟨rfl, by rw [dec_bl]; exact q⟩
theorem w_neB {i j : Bool} (q : Q (.bl (!(i == j))) H) : rNe (.bl i) (.bl j) H Q := ⟨rfl, by rw [dec_bl]; exact q⟩
theorem w_eqS {i : Str} (q : Q (.bl true) H) : rEq (.str i) (.str i) H Q := ⟨rfl, by rw [decide_eq_true rfl]; exact q⟩
theorem w_eqSF {i j : Str} (h : decide (i = j) = false) (q : Q (.bl false) H) : rEq (.str i) (.str j) H Q := ⟨rfl, by
  rw [decide_eq_false (fun z => of_decide_eq_false h (V.str.inj z))]; exact q⟩
theorem w_eqSd {i j : Str} (q : Q (.bl (decide (i = j))) H) : rEq (.str i) (.str j) H Q := ⟨rfl, by
  have e : decide (V.str i = V.str j) = decide (i = j) := by
    by_cases h : i = j
    · subst h; rw [decide_eq_true rfl, decide_eq_true rfl]
    · rw [decide_eq_false h, decide_eq_false (fun z => h (V.str.inj z))]
  rw [e]; exact q⟩
theorem w_neS {i : Str} (q : Q (.bl false) H) : rNe (.str i) (.str i) H Q := ⟨rfl, by rw [decide_eq_true rfl]; exact q⟩
theorem w_isN (q : Q (.bl (decide (x = .non))) H) : (fun (x y : V) (H : Hp) (Q : VK) => y = .non ∧ Q (.bl (decide (x = .non))) H) x .non H Q := ⟨rfl, q⟩
theorem w_ixL {p : Addr} {xs : List V} {i : Int} (h : SqL K H p xs) (ha : atI xs i = some v) (q : Q v H) : rIxL K (.ref p) (.int i) H Q := ⟨p, xs, i, v, rfl, rfl, h, ha, q⟩
theorem w_ixT {p : Addr} {xs : List V} {i : Int} (h : SqT K H p xs) (ha : atI xs i = some v) (q : Q v H) : rIxT K (.ref p) (.int i) H Q := ⟨p, xs, i, v, rfl, rfl, h, ha, q⟩
theorem w_inL {neg : Bool} {p : Addr} {xs : List V} (h : SqL K H p xs) (hx : flatV x = true) (ha : xs.all flatV = true) (q : Q (.bl (if neg then !inV x xs else inV x xs)) H) : rIn K neg x (.ref p) H Q := ⟨p, xs, rfl, Or.inl h, hx, ha, q⟩
theorem w_inT {neg : Bool} {p : Addr} {xs : List V} (h : SqT K H p xs) (hx : flatV x = true) (ha : xs.all flatV = true) (q : Q (.bl (if neg then !inV x xs else inV x xs)) H) : rIn K neg x (.ref p) H Q := ⟨p, xs, rfl, Or.inr h, hx, ha, q⟩
theorem w_call0 {sp : Sp} {E : XK} (h : tl σ H fun vs H1 => sp vs H1 Q E) : tCall sp [] E tl σ H Q := by
  have e : tCall sp [] E tl σ H Q = (tl σ H fun vs H1 => sp vs H1 Q E) := by unfold tCall; simp only [List.append_nil]
  rw [e]; exact h
theorem w_inLt {p : Addr} {xs : List V} (h : SqL K H p xs ∨ SqT K H p xs) (hb : (flatV x && xs.all flatV && inV x xs) = true) (q : Q (.bl true) H) : rIn K false x (.ref p) H Q := by
  simp only [Bool.and_eq_true] at hb
  exact ⟨p, xs, rfl, h, hb.1.1, hb.1.2, by rw [hb.2]; exact q⟩
theorem w_inLf {p : Addr} {xs : List V} (h : SqL K H p xs ∨ SqT K H p xs) (hb : (flatV x && xs.all flatV && !inV x xs) = true) (q : Q (.bl false) H) : rIn K false x (.ref p) H Q := by
  simp only [Bool.and_eq_true, Bool.not_eq_true'] at hb
  exact ⟨p, xs, rfl, h, hb.1.1, hb.1.2, by rw [hb.2]; exact q⟩
/-- built-ins by names -/
def rInt : List V → Hp → VK → Prop := fun xs H Q => (∃ i, xs = [.int i] ∧ Q (.int i) H) ∨ ∃ k, xs = [.bl k] ∧ Q (.int (if k then 1 else 0)) H
def rMax : List V → Hp → VK → Prop := fun xs H Q => ∃ i j, xs = [.int i, .int j] ∧ Q (.int (if j > i then j else i)) H
def rMin : List V → Hp → VK → Prop := fun xs H Q => ∃ i j, xs = [.int i, .int j] ∧ Q (.int (if j < i then j else i)) H
def rAbs : List V → Hp → VK → Prop := fun xs H Q => ∃ i, xs = [.int i] ∧ Q (.int (if i < 0 then -i else i)) H
def rTupS (K : PySem.W.Frag) : List V → Hp → VK → Prop := fun xs H Q => ∃ p ys, xs = [.ref p] ∧ ((SqL K H p ys ∧ ∀ l, H l = none → Q (.ref l) (upd H l (.tup ys))) ∨ (SqT K H p ys ∧ Q (.ref p) H))
theorem k_int {X : Cx} : CallR X (.type "int") rInt := call_int1
theorem k_max {X : Cx} (hc : X.calm = true) : CallR X (.builtin "max") rMax := call_max2 hc
theorem k_min {X : Cx} (hc : X.calm = true) : CallR X (.builtin "min") rMin := call_min2 hc
theorem k_abs {X : Cx} : CallR X (.builtin "abs") rAbs := call_abs
theorem k_len {X : Cx} : CallR X (.builtin "len") (rLenS X.K) := call_len_seq
theorem k_list {X : Cx} : CallR X (.type "list") (rListS X.K) := call_list_of
theorem k_tuple {X : Cx} : CallR X (.type "tuple") (rTupS X.K) := call_tuple_of
theorem w_int {i : Int} (q : Q (.int i) H) : rInt [.int i] H Q := .inl ⟨i, rfl, q⟩
theorem w_intB {k : Bool} (q : Q (.int (if k = true then 1 else 0)) H) : rInt [.bl k] H Q := .inr ⟨k, rfl, q⟩
theorem w_max {i j : Int} (q : Q (.int (if j > i then j else i)) H) : rMax [.int i, .int j] H Q := ⟨i, j, rfl, q⟩
theorem w_min {i j : Int} (q : Q (.int (if j < i then j else i)) H) : rMin [.int i, .int j] H Q := ⟨i, j, rfl, q⟩
theorem w_abs {i : Int} (q : Q (.int (if i < 0 then -i else i)) H) : rAbs [.int i] H Q := ⟨i, rfl, q⟩
theorem w_len {p : Addr} {xs : List V} (h : SqL K H p xs ∨ SqT K H p xs) (q : Q (.int (xs.length : Int)) H) : rLenS K [.ref p] H Q := ⟨p, xs, rfl, h, q⟩
theorem w_list {p : Addr} {xs : List V} (h : SqL K H p xs ∨ SqT K H p xs) (q : ∀ l H2, H l = none → Ex H H2 → H2 l = some (.lst xs) → Q (.ref l) H2) : rListS K [.ref p] H Q := ⟨p, xs, rfl, h, fun l hl => q l _ hl (Ex.new hl) upd_same⟩
theorem w_tuple {p : Addr} {xs : List V} (h : SqL K H p xs) (q : ∀ l H2, H l = none → Ex H H2 → H2 l = some (.tup xs) → Q (.ref l) H2) : rTupS K [.ref p] H Q := ⟨p, xs, rfl, .inl ⟨h, fun l hl => q l _ hl (Ex.new hl) upd_same⟩⟩
theorem w_tupleT {p : Addr} {xs : List V} (h : SqT K H p xs) (q : Q (.ref p) H) : rTupS K [.ref p] H Q := ⟨p, xs, rfl, .inr ⟨h, q⟩⟩
def rIsNo : R2 := fun x y H Q => y = .non ∧ Q (.bl (decide (x = .non))) H
def rNotNo : R2 := fun x y H Q => y = .non ∧ Q (.bl (!decide (x = .non))) H
theorem k_isN {X : Cx} : OpR X (compareOp .Is) rIsNo := op_isN
theorem k_notN {X : Cx} : OpR X (compareOp .IsNot) rNotNo := op_notN
theorem w_isNN (q : Q (.bl true) H) : rIsNo .non .non H Q := ⟨rfl, q⟩
theorem w_isNI {i : Int} (q : Q (.bl false) H) : rIsNo (.int i) .non H Q := ⟨rfl, q⟩
theorem w_isNB {i : Bool} (q : Q (.bl false) H) : rIsNo (.bl i) .non H Q := ⟨rfl, q⟩
theorem w_isNR {i : Addr} (q : Q (.bl false) H) : rIsNo (.ref i) .non H Q := ⟨rfl, q⟩
theorem w_notNN (q : Q (.bl false) H) : rNotNo .non .non H Q := ⟨rfl, q⟩
theorem w_notNI {i : Int} (q : Q (.bl true) H) : rNotNo (.int i) .non H Q := ⟨rfl, q⟩
theorem w_notNB {i : Bool} (q : Q (.bl true) H) : rNotNo (.bl i) .non H Q := ⟨rfl, q⟩
theorem w_notNR {i : Addr} (q : Q (.bl true) H) : rNotNo (.ref i) .non H Q := ⟨rfl, q⟩
theorem w_dget {td ty : TE} (h : td σ H fun x H1 => ty σ H1 fun y H2 => ∃ a v, x = .ref a ∧ DGet H2 a y (some v) ∧ Q v H2) : tDGet td ty σ H Q := h
theorem w_disp {trs : List (TE × TE)} (h : ∀ p H1, H p = none → Ex H H1 → H1 p = some (.dK []) → tPairs trs σ H1 fun ps H2 => H2 p = some (.dK []) ∧ ∃ kvs : List (Key × V), ps = kvs.map (fun kv => (kV kv.1, kv.2)) ∧ kvs.length ≤ 15 ∧ Q (.ref p) (upd H2 p (.dK (mergeK [] kvs)))) : tDisp trs σ H Q :=
  fun p hp => h p _ hp (Ex.new hp) upd_same
theorem w_pp {tk tv : TE} {r : List (TE × TE)} {B : List (V × V) → Hp → Prop} (h : tk σ H fun x H1 => tv σ H1 fun y H2 => tPairs r σ H2 fun ps H3 => B ((x, y) :: ps) H3) : tPairs ((tk, tv) :: r) σ H B := h
theorem w_pn {B : List (V × V) → Hp → Prop} (h : B [] H) : tPairs [] σ H B := h
theorem w_bm {T : String} {r : V → List V → Hp → VK → Prop} {to : TE} (h : to σ H fun x H1 => tyV K T x H1 ∧ tl σ H1 fun xs H2 => r x xs H2 Q) : tBM K T r to tl σ H Q := h
theorem w_bm0 {T : String} {r : V → List V → Hp → VK → Prop} {to : TE} (h : to σ H fun x H1 => tyV K T x H1 ∧ r x [] H1 Q) : tBM0 K T r to σ H Q := h
theorem w_tyL {p : Addr} {xs : List V} {W : Prop} (h : SqL K H p xs) (r : W) : tyV K "list" (.ref p) H ∧ W := ⟨Or.inl ⟨rfl, _, h⟩, r⟩
theorem w_app {l : Addr} {xs : List V} {y : V} (h : H l = some (.lst xs)) (hz : xs.length < 100000) (q : ∀ H2, (∀ b o, b ≠ l → H b = some o → H2 b = some o) → H2 l = some (.lst (xs ++ [y])) → Q .non H2) : rAppend (.ref l) [y] H Q :=
  ⟨l, xs, y, rfl, rfl, h, sz_lt hz, q _ (fun b o n hb => by rw [upd_ne n]; exact hb) upd_same⟩
theorem w_sl {r : V → Option Int → Option Int → Hp → VK → Prop} {to th : TO} (h : te σ H fun x H1 => to σ H1 fun l H2 => th σ H2 fun u H3 => r x l u H3 Q) : tSl r te to th σ H Q := h
theorem w_po {W : Option Int → Hp → Prop} (h : W none H) : tNoPart σ H W := h
def PartOf (W : Option Int → Hp → Prop) (x : V) (H : Hp) : Prop := ∃ i, x = .int i ∧ W (some i) H
theorem w_ps {W : Option Int → Hp → Prop} (h : te σ H fun x H1 => PartOf W x H1) : tPart te σ H W := h
theorem w_pi {W : Option Int → Hp → Prop} {i : Int} (h : W (some i) H) : PartOf W (.int i) H := ⟨i, rfl, h⟩
theorem w_slL {a : Addr} {xs : List V} {lo hi : Option Int} (h : SqL K H a xs) (q : ∀ p H2, H p = none → Ex H H2 → H2 p = some (.lst (cutV xs lo hi)) → Q (.ref p) H2) : rSlL K (.ref a) lo hi H Q := ⟨a, xs, rfl, h, fun p hp => q p _ hp (Ex.new hp) upd_same⟩
theorem cut_whole {xs : List V} {lo hi : Option Int} (h : HT.sIx xs.length 0 lo = 0 ∧ HT.sIx xs.length xs.length hi = xs.length) : cutV xs lo hi = xs := by
  unfold cutV
  rw [h.1, h.2]
  simp
theorem w_slT {a : Addr} {xs : List V} {lo hi : Option Int} (h : SqT K H a xs) (q : ∀ p H2, Ex H H2 → SqT K H2 p (cutV xs lo hi) → Q (.ref p) H2) : rSlA K (.ref a) lo hi H Q :=
  ⟨a, xs, rfl, h, fun e => q a H (Ex.refl H) (by rw [cut_whole e]; exact h), fun _ p hp => q p _ (Ex.new hp) (st_of upd_same)⟩
theorem w_catT {a b : Addr} {xs ys : List V} (h : SqT K H a xs) (h2 : SqT K H b ys) (hl : xs.length + ys.length ≤ 100000) (q : ∀ p H2, Ex H H2 → SqT K H2 p (xs ++ ys) → Q (.ref p) H2) : rCatA K (.ref a) (.ref b) H Q :=
  ⟨a, b, xs, ys, rfl, rfl, h, h2, sz_of hl, fun e => q b H (Ex.refl H) (by rw [e]; exact h2), fun _ e => q a H (Ex.refl H) (by rw [e, List.append_nil]; exact h), fun _ _ p hp => q p _ (Ex.new hp) (st_of upd_same)⟩
theorem w_catL {a b : Addr} {xs ys : List V} (h : H a = some (.lst xs)) (h2 : H b = some (.lst ys)) (hl : xs.length + ys.length ≤ 100000) (q : ∀ p H2, H p = none → Ex H H2 → H2 p = some (.lst (xs ++ ys)) → Q (.ref p) H2) : rCat (.ref a) (.ref b) H Q :=
  ⟨a, b, xs, ys, rfl, rfl, h, h2, sz_of hl, fun p hp => q p _ hp (Ex.new hp) upd_same⟩
theorem w_isi {x : V} {n : String} {t : String} {b : Bool} (ty : TyX K H x (.type t)) (e : kitB t n = some b) (q : Q (.bl b) H) : rIsi K [x, .ty n] H Q := ⟨x, .ty n, .type t, .type n, b, rfl, ClsV.ty n, ty, kit_ty e, q⟩
theorem w_isiInt {i : Int} {n : String} {b : Bool} (e : kitB "int" n = some b) (q : Q (.bl b) H) : rIsi K [.int i, .ty n] H Q := w_isi (.base (.int i)) e q
theorem w_isiNon {n : String} {b : Bool} (e : kitB "NoneType" n = some b) (q : Q (.bl b) H) : rIsi K [.non, .ty n] H Q := w_isi (.base .non) e q
theorem w_isiBl {i : Bool} {n : String} {b : Bool} (e : kitB "bool" n = some b) (q : Q (.bl b) H) : rIsi K [.bl i, .ty n] H Q := w_isi (.base (.bl i)) e q
theorem w_isiStr {i : Str} {n : String} {b : Bool} (e : kitB "str" n = some b) (q : Q (.bl b) H) : rIsi K [.str i, .ty n] H Q := w_isi (.base (.str i)) e q
theorem w_isiTup {p : Addr} {xs : List V} {n : String} {b : Bool} (h : SqT K H p xs) (e : kitB "tuple" n = some b) (q : Q (.bl b) H) : rIsi K [.ref p, .ty n] H Q := by
  rcases h with (h | ⟨o, h⟩) | ⟨o, _, _, h, c, _⟩
  · exact w_isi (.base (.tup h)) e q
  · exact w_isi (.fTuple h) e q
  · exact w_isi (.kTuple h c) e q
theorem w_isiLst {p : Addr} {xs : List V} {n : String} {b : Bool} (h : SqL K H p xs) (e : kitB "list" n = some b) (q : Q (.bl b) H) : rIsi K [.ref p, .ty n] H Q := by
  rcases h with (h | ⟨o, h⟩) | ⟨o, _, _, h, c, _⟩
  · exact w_isi (.base (.lst h)) e q
  · exact w_isi (.base (.frz h)) e q
  · exact w_isi (.kList h c) e q
theorem w_isiDK {p : Addr} {xs : List (Key × V)} {n : String} {b : Bool} (h : H p = some (.dK xs)) (e : kitB "dict" n = some b) (q : Q (.bl b) H) : rIsi K [.ref p, .ty n] H Q := w_isi (.base (.dK h)) e q
theorem w_neD {d e : PyData} (hx : Dp K H x d) (hy : Dp K H y e) (sd : SeqAt.shaped d = true) (se : SeqAt.shaped e = true) (q : Q (.bl (!PyData.eqv d e)) H) : rNeD K x y H Q := ⟨d, e, hx, hy, sd, se, q⟩
theorem w_eqD {d e : PyData} (hx : Dp K H x d) (hy : Dp K H y e) (sd : SeqAt.shaped d = true) (se : SeqAt.shaped e = true) (q : Q (.bl (PyData.eqv d e)) H) : rEqD K x y H Q := ⟨d, e, hx, hy, sd, se, q⟩
/-- a flat value as data -/
def flatD : V → PyData
  | .bl b => .bool b
  | .int i => .int i
  | .str x => .str x
  | _ => .none
def isFl : V → Bool
  | .non | .bl _ | .int _ | .str _ => true
  | _ => false
theorem dp_flat {v : V} (h : isFl v = true) : Dp K H v (flatD v) := by
  cases v <;> first | exact .non | exact .bl _ | exact .int _ | exact .str _ | cases h
theorem dp_flats : ∀ {vs : List V}, vs.all isFl = true → DpAll K H vs (vs.map flatD)
  | [], _ => .nil
  | v :: vs, h => by
    rw [List.all_cons, Bool.and_eq_true] at h
    exact .cons (dp_flat h.1) (dp_flats h.2)
theorem dp_lst {p : Addr} {vs : List V} (h : SqL K H p vs) (f : vs.all isFl = true) : Dp K H (.ref p) (.list (vs.map flatD)) := .lst h (dp_flats f)
theorem dp_tup {p : Addr} {vs : List V} (h : SqT K H p vs) (f : vs.all isFl = true) : Dp K H (.ref p) (.tuple (vs.map flatD)) := .tup h (dp_flats f)
theorem int_at {ns : List Int} {k : Int} (h0 : 0 ≤ k) (h : k < ((ns.map V.int).length : Int)) : ∃ c, atI (ns.map V.int) k = some (.int c) := by
  obtain ⟨j, rfl⟩ := Int.eq_ofNat_of_zero_le h0
  have hj : j < ns.length := by rw [List.length_map] at h; omega
  refine ⟨ns[j], atI_nat (j := j) ?_⟩
  rw [List.getElem?_map, List.getElem?_eq_getElem hj]
  rfl
/-- a new object -/
theorem w_new {m : Nat} {o : HO} (hm : m ≤ 100000) (k : ∀ p H2, H p = none → Ex H H2 → H2 p = some o → Q (.ref p) H2) : Alloc m o H Q :=
  ⟨sz_of hm, fun p hp => k p _ hp (Ex.new hp) upd_same⟩
/-- ifs over a known bool -/
theorem i_T {A B : Prop} (h : A) : if true = true then A else B := iteT h
theorem i_F {A B : Prop} (h : B) : if false = true then A else B := iteF h
theorem i_N {A B : Prop} {k : Bool} (h : if k = true then B else A) : if (!k) = true then A else B := by
  cases k
  · exact iteT (by rw [if_neg Bool.false_ne_true] at h; exact h)
  · exact iteF (by rw [if_pos rfl] at h; exact h)
theorem i_D {A B c : Prop} [Decidable c] (h1 : c → A) (h2 : ¬ c → B) : if decide c = true then A else B := by
  by_cases h : c
  · rw [decide_eq_true h]; exact iteT (h1 h)
  · rw [decide_eq_false h]; exact iteF (h2 h)
theorem i_R {A B : Prop} {α : Type} {x : α} [Decidable (x = x)] (h : A) : if decide (x = x) = true then A else B := by rw [decide_eq_true rfl]; exact iteT h
theorem i_DT {A B c : Prop} [Decidable c] (h : c) (h1 : A) : if decide c = true then A else B := by rw [decide_eq_true h]; exact iteT h1
theorem i_DF {A B c : Prop} [Decidable c] (h : ¬ c) (h1 : B) : if decide c = true then A else B := by rw [decide_eq_false h]; exact iteF h1
theorem i_B {A B : Prop} {k : Bool} (h1 : k = true → A) (h2 : k = false → B) : if k = true then A else B := by
  cases k
  · exact iteF (h2 rfl)
  · exact iteT (h1 rfl)
end
section
variable {σ : St} {H : Hp} {nx bk ct : St → Hp → Prop} {rt : VK} {t u : TS} {c : TT} {te : TE} {i : Nat} {K : PySem.W.Frag}
theorem m_norm {σ' : St} (e : σ = σ') (h : Sm t nx rt bk ct σ' H) : Sm t nx rt bk ct σ H := by rw [e]; exact h
theorem m_seq (h : Sm t (fun σ H => Sm u nx rt bk ct σ H) rt bk ct σ H) : Sm (tSeq t u) nx rt bk ct σ H := h
theorem m_cut (M : St → Hp → Prop) (h : Sm t M rt bk ct σ H) (k : ∀ σ H, M σ H → Sm u nx rt bk ct σ H) : Sm (tCut t u) nx rt bk ct σ H := ⟨M, h, k⟩
theorem m_asg (h : te σ H fun v H1 => nx (σ.set i (some v)) H1) : Sm (tAsg te (gName i)) nx rt bk ct σ H := h
theorem m_asgG {g : TG} (h : te σ H fun v H1 => g v σ H1 nx) : Sm (tAsg te g) nx rt bk ct σ H := h
theorem m_ret (h : te σ H rt) : Sm (tRet te) nx rt bk ct σ H := h
theorem m_retN (h : rt .non H) : Sm tRetN nx rt bk ct σ H := h
theorem m_drop (h : te σ H fun _ H1 => nx σ H1) : Sm (tDrop te) nx rt bk ct σ H := h
theorem m_next (h : nx σ H) : Sm tNext nx rt bk ct σ H := h
theorem m_brk (h : bk σ H) : Sm tBreak nx rt bk ct σ H := h
theorem m_cont (h : ct σ H) : Sm tCont nx rt bk ct σ H := h
theorem m_if (h : c σ H fun b H1 => if b = true then Sm t nx rt bk ct σ H1 else Sm u nx rt bk ct σ H1) : Sm (tIfS c t u) nx rt bk ct σ H := h
theorem m_fld {ta tv : TE} {f : Str} (h : tv σ H fun y H1 => ta σ H1 fun x H2 => PutOf K f y x H2 (nx σ)) : Sm (sFld K ta tv f) nx rt bk ct σ H := h
theorem m_aug {ti : TIp} {v : V} (hx : σ[i]? = some (some v)) (h : te σ H fun y H1 => ti v y H1 fun z H2 => nx (σ.set i (some z)) H2) : Sm (tAug i te ti) nx rt bk ct σ H := ⟨v, hx, h⟩
/-- o[i] = e over a list that stands in H by itself -/
theorem m_setL {p : Addr} {xs : List V} {k : Int} {j : Nat} {v : V} {Q : Hp → Prop} (h : H p = some (.lst xs)) (hj : ixN xs.length k = some j) (q : Q (upd H p (.lst (xs.set j v)))) : rSetL (.ref p) (.int k) v H Q := ⟨p, xs, k, j, rfl, rfl, h, hj, q⟩
theorem m_gsub {to ti : TE} {ts : TSet} {v : V} {Q : St → Hp → Prop} (h : to σ H fun o H1 => ti σ H1 fun i H2 => ts o i v H2 fun H3 => Q σ H3) : gSub to ti ts v σ H Q := h
/-- a loop over what J walks -/
def Fj (J : It) (g : TG) (t : TS) (nx : St → Hp → Prop) (rt : VK) (σ : St) (H : Hp) : Prop := ∃ W : Nat → Nat → St → Hp → Prop, (∃ m, W 0 m σ H) ∧ ∀ i m σ H, W i m σ H →
  (J.stop i H ∧ nx σ H) ∨ (J.go i H ∧ ∃ N : St → Hp → Prop, (∀ σ' H', N σ' H' → ∃ m', m' < m ∧ W (i + 1) m' σ' H') ∧ ∀ x H', J.yld i H x H' → g x σ H' fun σ2 H2 => t { nx := N, rt := rt, ct := N, bk := nx } σ2 H2)
theorem m_for {wi : TI} {g : TG} (h : wi σ H fun J H1 => Fj J g t nx rt σ H1) : Sm (tFor wi g t) nx rt bk ct σ H := h
theorem w_rng1 {tl : TA} {R : It → Hp → Prop} (h : tl σ H fun vs H1 => ∃ j : Int, vs = [.int j] ∧ -(2 ^ 62) ≤ j ∧ j < 2 ^ 62 ∧ R (Itr 0 j.toNat) H1) : iRng1 tl σ H R := h
theorem w_rng2 {tl : TA} {R : It → Hp → Prop} (h : tl σ H fun vs H1 => ∃ i j : Int, vs = [.int i, .int j] ∧ (-(2 ^ 62) ≤ i ∧ i < 2 ^ 62 ∧ -(2 ^ 62) ≤ j ∧ j < 2 ^ 62) ∧ R (Itr i (j - i).toNat) H1) : iRng2 tl σ H R := h
theorem w_itl {te : TE} {R : It → Hp → Prop} (h : te σ H fun x H1 => ∃ a, x = .ref a ∧ (∃ xs, SqL K H1 a xs) ∧ R (Itl K a) H1) : iList K te σ H R := h
theorem w_itt {te : TE} {R : It → Hp → Prop} (h : te σ H fun x H1 => ∃ a, x = .ref a ∧ (∃ xs, SqT K H1 a xs) ∧ R (Itt K a) H1) : iTup K te σ H R := h
theorem f_rng1 {j : Nat} {n : Int} (h0 : 0 ≤ n) (h1 : n ≤ 100000) (Pv : Nat → St → Hp → Prop) (p0 : Pv 0 σ H)
    (hs : ∀ (i : Nat) σ' H', (i : Int) < n → Pv i σ' H' → Sm t (Pv (i + 1)) rt nx (Pv (i + 1)) (σ'.set j (some (.int (i : Int)))) H') (hd : ∀ σ' H', Pv n.toNat σ' H' → nx σ' H') :
    ∃ k : Int, [V.int n] = [.int k] ∧ -(2 ^ 62) ≤ k ∧ k < 2 ^ 62 ∧ Fj (Itr 0 k.toNat) (gName j) t nx rt σ H := by
  refine ⟨n, rfl, by omega, by omega, for_range (D := ⟨nx, rt, nx, nx⟩) (lo := 0) (n := n.toNat) Pv p0 (fun i σ' H' hi p => ?_) hd⟩
  have e0 : (0 : Int) + (i : Int) = (i : Int) := Int.zero_add _
  show t { nx := Pv (i + 1), rt := rt, ct := Pv (i + 1), bk := nx } (σ'.set j (some (.int ((0 : Int) + (i : Int))))) H'
  rw [e0]
  exact hs i σ' H' (by omega) p
theorem f_rng2 {j : Nat} {lo n : Int} (h0 : -100000 ≤ lo ∧ lo ≤ 100000 ∧ -100000 ≤ n ∧ n ≤ 100000) (Pv : Nat → St → Hp → Prop) (p0 : Pv 0 σ H)
    (hs : ∀ (i : Nat) σ' H', lo + (i : Int) < n → Pv i σ' H' → Sm t (Pv (i + 1)) rt nx (Pv (i + 1)) (σ'.set j (some (.int (lo + (i : Int))))) H') (hd : ∀ σ' H', Pv (n - lo).toNat σ' H' → nx σ' H') :
    ∃ i k : Int, [V.int lo, V.int n] = [.int i, .int k] ∧ (-(2 ^ 62) ≤ i ∧ i < 2 ^ 62 ∧ -(2 ^ 62) ≤ k ∧ k < 2 ^ 62) ∧ Fj (Itr i (k - i).toNat) (gName j) t nx rt σ H :=
  ⟨lo, n, rfl, ⟨by omega, by omega, by omega, by omega⟩, for_range (D := ⟨nx, rt, nx, nx⟩) (lo := lo) (n := (n - lo).toNat) Pv p0 (fun i σ' H' hi p => hs i σ' H' (by omega) p) hd⟩
theorem f_list {g : TG} {a : Addr} {xs : List V} (hx : SqL K H a xs) (Pv : Nat → St → Hp → Prop) (p0 : Pv 0 σ H) (hl : ∀ i σ' H', i ≤ xs.length → Pv i σ' H' → SqL K H' a xs)
    (hs : ∀ i x σ' H', xs[i]? = some x → Pv i σ' H' → g x σ' H' fun σ2 H2 => Sm t (Pv (i + 1)) rt nx (Pv (i + 1)) σ2 H2) (hd : ∀ σ' H', Pv xs.length σ' H' → nx σ' H') :
    ∃ b, V.ref a = .ref b ∧ (∃ ys, SqL K H b ys) ∧ Fj (Itl K b) g t nx rt σ H := ⟨a, rfl, ⟨xs, hx⟩, for_list (D := ⟨nx, rt, nx, nx⟩) Pv p0 hl hs hd⟩
theorem f_tup {g : TG} {a : Addr} {xs : List V} (hx : SqT K H a xs) (Pv : Nat → St → Hp → Prop) (p0 : Pv 0 σ H) (hl : ∀ i σ' H', i ≤ xs.length → Pv i σ' H' → SqT K H' a xs)
    (hs : ∀ i x σ' H', xs[i]? = some x → Pv i σ' H' → g x σ' H' fun σ2 H2 => Sm t (Pv (i + 1)) rt nx (Pv (i + 1)) σ2 H2) (hd : ∀ σ' H', Pv xs.length σ' H' → nx σ' H') :
    ∃ b, V.ref a = .ref b ∧ (∃ ys, SqT K H b ys) ∧ Fj (Itt K b) g t nx rt σ H := ⟨a, rfl, ⟨xs, hx⟩, for_tup (D := ⟨nx, rt, nx, nx⟩) Pv p0 hl hs hd⟩
/-- a turn of a while -/
def Turn (W : Nat → St → Hp → Prop) (m : Nat) (t : TS) (nx : St → Hp → Prop) (rt : VK) (σ : St) (H : Hp) : Prop := ∃ N : St → Hp → Prop, (∀ σ' H', N σ' H' → ∃ m', m' < m ∧ W m' σ' H') ∧ t ⟨N, rt, nx, N⟩ σ H
theorem turn_go {W : Nat → St → Hp → Prop} {m : Nat} (h : Sm t (fun σ' H' => ∃ m', m' < m ∧ W m' σ' H') rt nx (fun σ' H' => ∃ m', m' < m ∧ W m' σ' H') σ H) : Turn W m t nx rt σ H := ⟨_, fun _ _ h => h, h⟩
theorem m_whileT (W : Nat → St → Hp → Prop) (m0 : Nat) (h0 : W m0 σ H) (hs : ∀ m σ' H', W m σ' H' → c σ' H' fun b H1 => if b = true then Turn W m t nx rt σ' H1 else nx σ' H1) : Sm (tWhile c t) nx rt bk ct σ H := ⟨W, ⟨m0, h0⟩, hs⟩
theorem m_while (W : Nat → St → Hp → Prop) (m0 : Nat) (h0 : W m0 σ H)
    (hs : ∀ m σ' H', W m σ' H' → c σ' H' fun b H1 => if b = true then Sm t (fun σ2 H2 => ∃ m', m' < m ∧ W m' σ2 H2) rt nx (fun σ2 H2 => ∃ m', m' < m ∧ W m' σ2 H2) σ' H1 else nx σ' H1)
    (mono : ∀ σ H (A B : Bool → Hp → Prop), (∀ b H, A b H → B b H) → c σ H A → c σ H B) : Sm (tWhile c t) nx rt bk ct σ H := by
  refine ⟨W, ⟨m0, h0⟩, fun m σ' H' hw => mono _ _ _ _ (fun b H1 h => ?_) (hs m σ' H' hw)⟩
  cases b
  · exact iteF (by rw [if_neg Bool.false_ne_true] at h; exact h)
  · refine iteT ⟨fun σ2 H2 => ∃ m', m' < m ∧ W m' σ2 H2, fun _ _ n => n, ?_⟩
    rw [if_pos rfl] at h
    exact h
end
theorem divW {i j : Int} (h : 0 < j) (hb : j < 2 ^ 250) : CDivW i j := wide_div (b := 250) h (by omega) (by decide) (by decide)
/-- a written tuple of texts and ints -/
def KTup (K : PySem.W.Frag) (a : Addr) (xs : List V) : Prop := ∃ (o : Obj) (its : Array Value) (n : Nat), K.lookup a = some o ∧ o.cls = .type "tuple" ∧ o.data = .seq its n ∧ its.size ≤ sizeLine ∧ Vals xs its.toList
def relB : V → Value → Bool
  | .int i, .int j _ => i == j
  | .str x, .str y _ => x == y
  | _, _ => false
def relsB : List V → List Value → Bool
  | [], [] => true
  | x :: xs, u :: us => relB x u && relsB xs us
  | _, _ => false
def tupB (o : Obj) (xs : List V) : Bool := (match o.cls with | .type t => t == "tuple" | _ => false) && match o.data with | .seq its _ => decide (its.size ≤ sizeLine) && relsB xs its.toList | _ => false
theorem relB_of : ∀ {x : V} {u : Value}, relB x u = true → RelV x u
  | .int i, .int j t, h => by
    have e : i = j := eq_of_beq h
    exact ⟨t, by rw [e]⟩
  | .str i, .str j t, h => by
    have e : i = j := eq_of_beq h
    exact ⟨t, by rw [e]⟩
theorem relsB_of : ∀ {xs : List V} {us : List Value}, relsB xs us = true → Vals xs us
  | [], [], _ => .nil
  | x :: xs, u :: us, h => by
    unfold relsB at h
    rw [Bool.and_eq_true] at h
    exact .cons (relB_of h.1) (relsB_of h.2)
theorem ktup_of {K : PySem.W.Frag} {a : Addr} {o : Obj} {xs : List V} (h : K.lookup a = some o) (t : tupB o xs = true) : KTup K a xs := by
  unfold tupB at t
  rw [Bool.and_eq_true] at t
  obtain ⟨t1, t2⟩ := t
  obtain ⟨cls, dd, data, sl⟩ := o
  cases data with
  | seq its n =>
    simp only [Bool.and_eq_true, decide_eq_true_eq] at t2
    cases cls with
    | type c =>
      have e : c = "tuple" := eq_of_beq t1
      subst e
      exact ⟨_, its, n, h, rfl, rfl, t2.1, relsB_of t2.2⟩
    | _ => cases t1
  | _ => cases t2
theorem KTup.sq {K : PySem.W.Frag} {a : Addr} {xs : List V} (h : KTup K a xs) (H : Hp) : SqT K H a xs := Or.inr h
theorem ok_body {X : Cx} {body : List Stmt} {t : TS} {Q : VK} {σ σ0 : St} {H : Hp} (h : PSs X body t) (e : σ0 = σ) (q : Sm t (fun _ H' => Q .non H') Q (fun _ _ => False) (fun _ _ => False) σ H) :
    ∃ t : TS, PSs X body t ∧ t { nx := fun _ H' => Q .non H', rt := Q } σ0 H := ⟨t, h, by subst e; exact q⟩
/-- all but one object as it was -/
def ExBut (p : Addr) (H H' : Hp) : Prop := ∀ b o, b ≠ p → H b = some o → H' b = some o
theorem ExBut.ex {p : Addr} {H0 H H' : Hp} (e : Ex H0 H) (h : H0 p = none) (m : ExBut p H H') : Ex H0 H' := fun b o hb => m b o (ne_of_none hb h) (e b o hb)
theorem ExBut.refl (p : Addr) (H : Hp) : ExBut p H H := fun _ _ _ h => h
theorem ExBut.trans {p : Addr} {H H1 H2 : Hp} (a : ExBut p H H1) (b : ExBut p H1 H2) : ExBut p H H2 := fun c o n h => b c o n (a c o n h)
theorem ExBut.of {p : Addr} {H H' : Hp} (e : Ex H H') : ExBut p H H' := fun b o _ h => e b o h
theorem ExBut.upd {p : Addr} {H H' : Hp} {o : HO} (e : ExBut p H H') : ExBut p H (upd H' p o) := fun b u n h => by rw [upd_ne n]; exact e b u n h
theorem ex_snoc {H H1 H2 : Hp} (b : Ex H1 H2) (a : Ex H H1) : Ex H H2 := a.trans b
theorem but_snoc {p : Addr} {H H1 H2 : Hp} (b : ExBut p H1 H2) (a : ExBut p H H1) : ExBut p H H2 := a.trans b
theorem but_snocE {p : Addr} {H H1 H2 : Hp} (b : Ex H1 H2) (a : ExBut p H H1) : ExBut p H H2 := a.trans (.of b)
theorem w_put {K : PySem.W.Frag} {H : Hp} {a C dx : Addr} {fs fs' : List (Str × V)} {f : Str} {y : V} {R : Hp → Prop} (h : H a = some (.ins C dx fs)) (cl : Cls K C) (n : NoAttr K C f) (hl : fs.length < 1000) (e : putF f y fs = fs') (q : ∀ H2, ExBut a H H2 → H2 a = some (.ins C dx fs') → R H2) : PutOf K f y (.ref a) H R :=
  ⟨a, C, dx, fs, rfl, h, cl, n, hl, q _ (ExBut.upd (ExBut.refl a H)) (by rw [e]; exact upd_same)⟩
theorem ex_but {p : Addr} {H0 H H' : Hp} (m : ExBut p H H') (h : H0 p = none) (e : Ex H0 H) : Ex H0 H' := ExBut.ex e h m
theorem but_get {p a : Addr} {H H' : Hp} {o : HO} (m : ExBut p H H') (n : a ≠ p) (h : H a = some o) : H' a = some o := m a o n h
theorem w_setL {p : Addr} {xs ys : List V} {k : Int} {j : Nat} {v : V} {H : Hp} {Q : Hp → Prop} (h : H p = some (.lst xs)) (hj : ixN xs.length k = some j) (e : xs.set j v = ys) (q : ∀ H2, ExBut p H H2 → H2 p = some (.lst ys) → Q H2) : rSetL (.ref p) (.int k) v H Q :=
  ⟨p, xs, k, j, rfl, rfl, h, hj, q _ (ExBut.upd (ExBut.refl p H)) (by rw [e]; exact upd_same)⟩
theorem ex_get {H1 H2 : Hp} {a : Addr} {o : HO} (e : Ex H1 H2) (h : H1 a = some o) : H2 a = some o := e a o h
theorem small {n m : Nat} (h : n ≤ m) (hm : m ≤ 1000) : n ≤ 1000 := Nat.le_trans h hm
end Kit

namespace Kit
open PySem PySem.Spec PyProof.Rows L2 Evl
/-! ### the walk by words: "wp" goes as far as it can, "wp1" one step; "hp": what stands at an address; "sq": a list, a tuple is there; "side": a side condition -/
end Kit

namespace Kit
open PySem PySem.Spec PyProof.Rows L2 Evl
/-! ### comprehensions -/
def Lcj (J : It) (g : TG) (tt : TT) (te : TE) (vs : List Nat) (σ : St) (H1 : Hp) (Q : VK) : Prop := ∀ D, H1 D = none → ∃ W : Nat → Nat → Hp → Prop, (∃ m, W 0 m (upd H1 D (.lst []))) ∧ ∀ i m H, W i m H →
  (J.stop i H ∧ Q (.ref D) H) ∨ (J.go i H ∧ ∃ Nx : Hp → Prop, (∀ H', Nx H' → ∃ m', m' < m ∧ W (i + 1) m' H') ∧ ∀ x H', J.yld i H x H' → g x (wipe σ vs) H' fun σ2 H2 => wipe σ2 vs = wipe σ vs ∧ tt σ2 H2 fun b H3 =>
    if b = true then te σ2 H3 fun y H4 => ∃ acc, H4 D = some (.lst acc) ∧ acc.length < sizeLine ∧ Nx (upd H4 D (.lst (acc ++ [y]))) else Nx H3)
section
variable {σ : St} {H : Hp} {Q : VK} {j : Nat} {vs : List Nat} {te : TE} {tt : TT} {K : PySem.W.Frag}
theorem w_lc {wi : TI} {g : TG} {tt : TT} (h : wi σ H fun J H1 => Lcj J g tt te vs σ H1 Q) : tLc wi g tt te vs σ H Q := h
theorem w_rng3 {tl : TA} {R : It → Hp → Prop} (h : tl σ H fun vs H1 => ∃ (i j c : Int) (n : Nat), vs = [.int i, .int j, .int c] ∧ RgC i j c n ∧ R (Itc i c n) H1) : iRng3 tl σ H R := h
/-- what J walks, while S stands -/
structure Walks (J : It) (n : Nat) (x : Nat → V) (S : Hp → Prop) : Prop where
  stop : ∀ H, S H → J.stop n H
  go : ∀ i H, S H → i < n → J.go i H
  yld : ∀ i H y H', S H → i < n → J.yld i H y H' → H' = H ∧ y = x i
theorem walks_rng {lo : Int} {n : Nat} : Walks (Itr lo n) n (fun i => .int (lo + i)) (fun _ => True) := ⟨fun _ _ => Nat.le_refl n, fun _ _ _ h => h, fun _ _ _ _ _ _ h => h⟩
theorem walks_rngC {lo c : Int} {n : Nat} : Walks (Itc lo c n) n (fun i => .int (lo + (i : Nat) * c)) (fun _ => True) := ⟨fun _ _ => Nat.le_refl n, fun _ _ _ h => h, fun _ _ _ _ _ _ h => h⟩
theorem walks_list {a : Addr} {xs : List V} : Walks (Itl K a) xs.length (fun i => (xs[i]?).getD .non) (fun H => SqL K H a xs) := by
  refine ⟨fun H h => ⟨xs, h, Nat.le_refl _⟩, fun i H h hi => ⟨xs, xs[i], h, List.getElem?_eq_getElem hi⟩, fun i H y H' h hi hy => ⟨hy.1, ?_⟩⟩
  rw [hy.2 xs h]
  rfl
theorem walks_tup {a : Addr} {xs : List V} : Walks (Itt K a) xs.length (fun i => (xs[i]?).getD .non) (fun H => SqT K H a xs) := by
  refine ⟨fun H h => ⟨xs, h, Nat.le_refl _⟩, fun i H h hi => ⟨xs, xs[i], h, List.getElem?_eq_getElem hi⟩, fun i H y H' h hi hy => ⟨hy.1, ?_⟩⟩
  rw [hy.2 xs h]
  rfl
/-- any turn's word: Iv by the new list's address, the turn, what it holds -/
theorem l_any {J : It} {n : Nat} {x : Nat → V} {S : Hp → Prop} (w : Walks J n x S) (hn : n ≤ 40000) (hw : ∀ v, wipe ((wipe σ vs).set j (some v)) vs = wipe σ vs)
    (Iv : Addr → Nat → List V → Hp → Prop) (hS : ∀ D i acc H', Iv D i acc H' → S H') (h0 : ∀ D, H D = none → Iv D 0 [] (upd H D (.lst [])))
    (he : ∀ D i acc H', H D = none → i < n → acc.length ≤ i → H' D = some (.lst acc) → Iv D i acc H' → ∀ R : Bool → Hp → Prop, (∀ H2, H2 D = some (.lst acc) → Iv D (i + 1) acc H2 → R false H2) →
      (∀ H2, (∀ R2 : VK, (∀ y H3, H3 D = some (.lst acc) → Iv D (i + 1) (acc ++ [y]) (upd H3 D (.lst (acc ++ [y]))) → R2 y H3) → te ((wipe σ vs).set j (some (x i))) H2 R2) → R true H2) → tt ((wipe σ vs).set j (some (x i))) H' R)
    (q : ∀ D acc H2, H D = none → acc.length ≤ n → H2 D = some (.lst acc) → Iv D n acc H2 → Q (.ref D) H2) : Lcj J (gName j) tt te vs σ H Q := by
  intro D hD
  refine ⟨fun i m H' => i ≤ n ∧ m = n - i ∧ ∃ acc, acc.length ≤ i ∧ H' D = some (.lst acc) ∧ Iv D i acc H', ⟨n, Nat.zero_le _, by omega, [], Nat.le_refl 0, upd_same, h0 D hD⟩, fun i m H' ⟨hi, hm, acc, ha, hd, iv⟩ => ?_⟩
  by_cases hlt : i < n
  · refine .inr ⟨w.go i H' (hS _ _ _ _ iv) hlt, fun H'' => ∃ acc, acc.length ≤ i + 1 ∧ H'' D = some (.lst acc) ∧ Iv D (i + 1) acc H'', fun H'' h => ⟨n - (i + 1), by omega, by omega, rfl, h⟩, fun y H'' hy => ?_⟩
    obtain ⟨rfl, rfl⟩ := w.yld i H' y H'' (hS _ _ _ _ iv) hlt hy
    refine ⟨hw _, ?_⟩
    refine he D i acc H'' hD hlt ha hd iv _ (fun H2 h2 iv2 => ?_) fun H2 h => ?_
    · exact iteF ⟨acc, by omega, h2, iv2⟩
    · refine iteT (h _ fun v H3 h3 iv3 => ?_)
      exact ⟨acc, h3, sz_lt (by omega), acc ++ [v], by rw [List.length_append]; exact Nat.succ_le_succ ha, upd_same, iv3⟩
  · have e : i = n := by omega
    subst e
    exact .inl ⟨w.stop H' (hS _ _ _ _ iv), q D acc H' hD ha hd iv⟩
/-- items that only make new objects, no test: Pe says what the i-th is -/
theorem l_grow {J : It} {n : Nat} {x : Nat → V} {S : Hp → Prop} (w : Walks J n x S) (hn : n ≤ 40000) (hw : ∀ v, wipe ((wipe σ vs).set j (some v)) vs = wipe σ vs)
    (s0 : S H) (sm : ∀ H1 H2, Ex H1 H2 → S H1 → S H2) (Pe : Addr → Nat → V → Hp → Prop) (pm : ∀ D i v H1 H2, ExBut D H1 H2 → Pe D i v H1 → Pe D i v H2)
    (he : ∀ D i acc H', H D = none → i < n → Ex H H' → H' D = some (.lst acc) → ∀ R : VK, (∀ v H2, Ex H' H2 → Pe D i v H2 → R v H2) → te ((wipe σ vs).set j (some (x i))) H' R)
    (q : ∀ D ys H2, H D = none → Ex H H2 → H2 D = some (.lst ys) → ys.length = n → (∀ i y, ys[i]? = some y → Pe D i y H2) → Q (.ref D) H2) : Lcj J (gName j) tYes te vs σ H Q := by
  refine l_any w hn hw (fun D i acc H' => H D = none ∧ Ex H H' ∧ acc.length = i ∧ ∀ k y, acc[k]? = some y → Pe D k y H') (fun D i acc H' h => sm _ _ h.2.1 s0) (fun D hD => ⟨hD, Ex.new hD, rfl, fun k y h => by simp at h⟩) ?_ ?_
  · intro D i acc H' hD hi ha hd ⟨_, e, hl, hp⟩ R r1 r2
    refine r2 H' fun R2 r => ?_
    refine he D i acc H' hD hi e hd R2 fun v H2 e2 pv => ?_
    have m1 : ExBut D H' (upd H2 D (.lst (acc ++ [v]))) := ExBut.upd (.of e2)
    have m2 : ExBut D H2 (upd H2 D (.lst (acc ++ [v]))) := ExBut.upd (.refl D H2)
    refine r v H2 (e2 D _ hd) ⟨hD, ExBut.ex e hD m1, by rw [List.length_append, hl]; rfl, fun k y hk => ?_⟩
    by_cases h : k < acc.length
    · rw [List.getElem?_append_left h] at hk
      exact pm D k y _ _ m1 (hp k y hk)
    · have hlen : k < (acc ++ [v]).length := (List.getElem?_eq_some_iff.mp hk).1
      rw [List.length_append] at hlen
      have e : k = acc.length := by simp at hlen; omega
      rw [e, List.getElem?_concat_length] at hk
      cases hk
      rw [e, hl]
      exact pm D i v _ _ m2 pv
  · intro D acc H2 hD _ hd ⟨_, e, hl, hp⟩
    exact q D acc H2 hD e hd hl hp
theorem eq_map {ys : List V} {n : Nat} {v : Nat → V} (hl : ys.length = n) (h : ∀ i y, ys[i]? = some y → y = v i) : ys = (List.range n).map v := by
  apply List.ext_getElem?
  intro i
  by_cases hi : i < n
  · rw [List.getElem?_map, List.getElem?_range hi, List.getElem?_eq_getElem (by omega)]
    exact congrArg some (h i _ (List.getElem?_eq_getElem (by omega)))
  · rw [List.getElem?_eq_none (by omega), List.getElem?_eq_none (by rw [List.length_map, List.length_range]; omega)]
/-- items that are told: the i-th is v i -/
theorem l_val {J : It} {n : Nat} {x : Nat → V} {S : Hp → Prop} (w : Walks J n x S) (hn : n ≤ 40000) (hw : ∀ v, wipe ((wipe σ vs).set j (some v)) vs = wipe σ vs)
    (s0 : S H) (sm : ∀ H1 H2, Ex H1 H2 → S H1 → S H2) (v : Nat → V)
    (he : ∀ i H', i < n → Ex H H' → ∀ R : VK, (∀ H2, Ex H' H2 → R (v i) H2) → te ((wipe σ vs).set j (some (x i))) H' R)
    (q : ∀ p H2, H p = none → Ex H H2 → H2 p = some (.lst ((List.range n).map v)) → Q (.ref p) H2) : Lcj J (gName j) tYes te vs σ H Q :=
  l_grow w hn hw s0 sm (fun _ i y _ => y = v i) (fun _ _ _ _ _ _ h => h) (fun D i acc H' hD hi e hd R r => he i H' hi e R fun H2 e2 => r _ H2 e2 rfl)
    fun D ys H2 hD e hd hl hp => q D H2 hD e (by rw [hd, eq_map hl hp])
/-- over range(n) -/
theorem l_rng1 {n : Int} (h0 : 0 ≤ n) (hn : n ≤ 40000) (hw : ∀ v, wipe ((wipe σ vs).set j (some v)) vs = wipe σ vs) (v : Nat → V)
    (he : ∀ (i : Nat) H', (i : Int) < n → Ex H H' → ∀ R : VK, (∀ H2, Ex H' H2 → R (v i) H2) → te ((wipe σ vs).set j (some (.int (i : Int)))) H' R)
    (q : ∀ p H2, H p = none → Ex H H2 → H2 p = some (.lst ((List.range n.toNat).map v)) → Q (.ref p) H2) :
    ∃ k : Int, [V.int n] = [.int k] ∧ -(2 ^ 62) ≤ k ∧ k < 2 ^ 62 ∧ Lcj (Itr 0 k.toNat) (gName j) tYes te vs σ H Q :=
  ⟨n, rfl, by omega, by omega, l_val walks_rng (by omega) hw trivial (fun _ _ _ h => h) v (fun i H' hi e R r => by
    have e0 : (0 : Int) + (i : Int) = (i : Int) := Int.zero_add _
    show te ((wipe σ vs).set j (some (.int (0 + (i : Int))))) H' R
    rw [e0]
    exact he i H' (by omega) e R r) q⟩
/-- over range(0, n, 2) -/
theorem l_rng2 {n : Int} {m : Nat} (h0 : n = 2 * m) (hn : m ≤ 40000) (hw : ∀ v, wipe ((wipe σ vs).set j (some v)) vs = wipe σ vs) (v : Nat → V)
    (he : ∀ (i : Nat) H', i < m → Ex H H' → ∀ R : VK, (∀ H2, Ex H' H2 → R (v i) H2) → te ((wipe σ vs).set j (some (.int (2 * (i : Int))))) H' R)
    (q : ∀ p H2, H p = none → Ex H H2 → H2 p = some (.lst ((List.range m).map v)) → Q (.ref p) H2) :
    ∃ (a b c : Int) (k : Nat), [V.int 0, V.int n, V.int 2] = [.int a, .int b, .int c] ∧ RgC a b c k ∧ Lcj (Itc a c k) (gName j) tYes te vs σ H Q := by
  have hr : RgC 0 n 2 m := by
    refine ⟨by decide, by decide, ?_, ?_⟩
    · subst h0
      unfold Builtin.Range.small Builtin.Range.rangeSize
      rw [if_pos (show (2 : Int) > 0 by decide), if_pos (show (2 : Int) > 0 by decide)]
      have hf : ∀ x : Int, 0 ≤ x → x ≤ 100000 → Builtin.Range.rangeFitsLong x = true := fun x h1 h2 => by
        unfold Builtin.Range.rangeFitsLong
        simp only [Bool.and_eq_true, decide_eq_true_eq]
        omega
      have h3 : (0 : Int) ≤ (if (0 : Int) < 2 * (m : Int) then (2 * (m : Int) - 0 - 1) / 2 + 1 else 0) ∧ (if (0 : Int) < 2 * (m : Int) then (2 * (m : Int) - 0 - 1) / 2 + 1 else 0) ≤ 100000 := by split <;> omega
      rw [hf 0 (by omega) (by omega), hf (2 * (m : Int)) (by omega) (by omega), hf 2 (by omega) (by omega), hf _ h3.1 h3.2, hf (2 * (m : Int) + (2 - 1)) (by omega) (by omega)]
      simp
    · subst h0
      unfold Builtin.Range.rangeSize
      split <;> omega
  refine ⟨0, n, 2, m, rfl, hr, l_val walks_rngC hn hw trivial (fun _ _ _ h => h) v (fun i H' hi e R r => ?_) q⟩
  have e0 : (0 : Int) + (i : Int) * 2 = 2 * (i : Int) := by omega
  show te ((wipe σ vs).set j (some (.int (0 + (i : Int) * 2)))) H' R
  rw [e0]
  exact he i H' hi e R r
/-- over a list -/
theorem l_list {a : Addr} {xs : List V} (hx : SqL K H a xs) (hn : xs.length ≤ 40000) (hw : ∀ v, wipe ((wipe σ vs).set j (some v)) vs = wipe σ vs) (v : Nat → V)
    (he : ∀ (i : Nat) x H', xs[i]? = some x → Ex H H' → ∀ R : VK, (∀ H2, Ex H' H2 → R (v i) H2) → te ((wipe σ vs).set j (some x)) H' R)
    (q : ∀ p H2, H p = none → Ex H H2 → H2 p = some (.lst ((List.range xs.length).map v)) → Q (.ref p) H2) :
    ∃ b, V.ref a = .ref b ∧ (∃ ys, SqL K H b ys) ∧ Lcj (Itl K b) (gName j) tYes te vs σ H Q :=
  ⟨a, rfl, ⟨xs, hx⟩, l_val walks_list hn hw hx (fun _ _ e h => ex_l e h) v (fun i H' hi e R r => by
    have z : xs[i]? = some xs[i] := List.getElem?_eq_getElem hi
    show te ((wipe σ vs).set j (some ((xs[i]?).getD .non))) H' R
    rw [z]
    exact he i xs[i] H' z e R r) q⟩
theorem l_tup {a : Addr} {xs : List V} (hx : SqT K H a xs) (hn : xs.length ≤ 40000) (hw : ∀ v, wipe ((wipe σ vs).set j (some v)) vs = wipe σ vs) (v : Nat → V)
    (he : ∀ (i : Nat) x H', xs[i]? = some x → Ex H H' → ∀ R : VK, (∀ H2, Ex H' H2 → R (v i) H2) → te ((wipe σ vs).set j (some x)) H' R)
    (q : ∀ p H2, H p = none → Ex H H2 → H2 p = some (.lst ((List.range xs.length).map v)) → Q (.ref p) H2) :
    ∃ b, V.ref a = .ref b ∧ (∃ ys, SqT K H b ys) ∧ Lcj (Itt K b) (gName j) tYes te vs σ H Q :=
  ⟨a, rfl, ⟨xs, hx⟩, l_val walks_tup hn hw hx (fun _ _ e h => ex_t e h) v (fun i H' hi e R r => by
    have z : xs[i]? = some xs[i] := List.getElem?_eq_getElem hi
    show te ((wipe σ vs).set j (some ((xs[i]?).getD .non))) H' R
    rw [z]
    exact he i xs[i] H' z e R r) q⟩
end
end Kit

namespace Kit
open PySem PySem.Spec PyProof.Rows L2 Evl
/-! ### the rules that speak of the written part, with it named -/
section
variable (K : PySem.W.Frag) {X : Cx}
theorem ixL (h : X.K = K := by rfl) : IxR X (rIxL K) := h ▸ ix_list
theorem ixT (h : X.K = K := by rfl) : IxR X (rIxT K) := h ▸ ix_tup
theorem kLen (h : X.K = K := by rfl) : CallR X (.builtin "len") (rLenS K) := h ▸ call_len_seq
theorem kList (h : X.K = K := by rfl) : CallR X (.type "list") (rListS K) := h ▸ call_list_of
theorem kTuple (h : X.K = K := by rfl) : CallR X (.type "tuple") (rTupS K) := h ▸ call_tuple_of
theorem kIn (h : X.K = K := by rfl) : OpR X (compareOp .In) (rIn K false) := h ▸ op_in_seq
theorem kNotIn (h : X.K = K := by rfl) : OpR X (compareOp .NotIn) (rIn K true) := h ▸ op_notIn_seq
theorem kEqD (hu : X.A.units + 64 < cLine) (h : X.K = K := by rfl) : OpR X (compareOp .Eq) (rEqD K) := h ▸ op_eqD hu
theorem kNeD (hu : X.A.units + 64 < cLine) (h : X.K = K := by rfl) : OpR X (compareOp .NotEq) (rNeD K) := h ▸ op_neD hu
theorem kCat (h : X.K = K := by rfl) : OpR X (binaryOp .Add) (rCatA K) := h ▸ op_catA
theorem kRepT (h : X.K = K := by rfl) : OpR X (binaryOp .Mult) (rRepT K) := h ▸ op_repT
theorem kSlL (h : X.K = K := by rfl) : SlR X (rSlL K) := h ▸ sl_list
theorem kSlT (h : X.K = K := by rfl) : SlR X (rSlA K) := h ▸ sl_tupA
theorem kIsi (h : X.K = K := by rfl) : CallR X (.builtin "isinstance") (rIsi K) := h ▸ call_isi
theorem kFld {e : Expr} {ta : TE} {f : Str} {pos : Pos} (he : PE X e ta) (hb : attributeBase e f X.env (eval e X.env) = eval e X.env) (h : X.K = K := by rfl) : PE X (.Attribute e f pos) (tFld K ta f) := h ▸ pe_fld he hb
theorem kSet {o value : Expr} {ta tv : TE} {f : Str} {pos pos' : Pos} (ha : PE X o ta) (hv : PE X value tv) (hs : swapsWith value (some (.Attribute o f pos')) pos.line X.env = pure false) (h : X.K = K := by rfl) : PS X (.Assign [.Attribute o f pos'] value pos) (sFld K ta tv f) := h ▸ ps_fld ha hv hs
theorem kpList {tg l : Expr} {tl : TE} (hl : PE X l tl) (h : X.K = K := by rfl) : PI X tg l (iList K tl) := h ▸ pi_list hl
theorem kpTup {tg l : Expr} {tl : TE} (hl : PE X l tl) (h : X.K = K := by rfl) : PI X tg l (iTup K tl) := h ▸ pi_tup hl
theorem kgTup {es : List Expr} {k : Nat} {t : TGs} {n : Nat} {pos : Pos} (hc : X.calm = true) (hg : PGs X es t) (hn : (assignEach es X.env).length = n := by rfl) (hst : (assignEach es X.env).findIdx? (·.1) = none := by rfl) (h : X.K = K := by rfl) : PG X (.Tuple es k pos) (gTup K n t) := h ▸ pg_tup hc hg hn hst
end
end Kit

namespace Kit
open PySem PySem.Spec PyProof.Rows L2 Evl
/-! ### == of data -/
def isFlN : V → Bool
  | .non | .bl _ | .int _ => true
  | _ => false
theorem fln_fl : ∀ {vs : List V}, vs.all isFlN = true → vs.all isFl = true
  | [], _ => rfl
  | v :: vs, h => by
    rw [List.all_cons, Bool.and_eq_true] at h ⊢
    refine ⟨?_, fln_fl h.2⟩
    cases v <;> first | rfl | cases h.1
theorem flats_ok : ∀ {vs : List V}, vs.all isFlN = true → PyData.canLayAll0 (vs.map flatD) = true ∧ PyData.depthAll (vs.map flatD) = 0
  | [], _ => ⟨rfl, rfl⟩
  | v :: vs, h => by
    rw [List.all_cons, Bool.and_eq_true] at h
    obtain ⟨h1, h2⟩ := flats_ok h.2
    have h3 : (flatD v).canLay0 = true ∧ PyData.depth (flatD v) = 0 := by
      cases v <;> first | (cases h.1; done) | exact ⟨by simp [flatD, PyData.canLay0], by simp [flatD, PyData.depth]⟩
    rw [List.map_cons, PyData.canLayAll0, PyData.depthAll, h1, h2, h3.1, h3.2]
    exact ⟨rfl, rfl⟩
theorem shaped_tup {vs : List V} (h : vs.all isFlN = true) : SeqAt.shaped (.tuple (vs.map flatD)) = true := by
  obtain ⟨h1, h2⟩ := flats_ok h
  unfold SeqAt.shaped
  rw [PyData.canLay0, PyData.depth, h1, h2]
  rfl
theorem shaped_lst {vs : List V} (h : vs.all isFlN = true) : SeqAt.shaped (.list (vs.map flatD)) = true := by
  obtain ⟨h1, h2⟩ := flats_ok h
  unfold SeqAt.shaped
  rw [PyData.canLay0, PyData.depth, h1, h2]
  rfl
theorem ints_fln : ∀ r : List Int, (r.map V.int).all isFlN = true
  | [] => rfl
  | _ :: r => by
    rw [List.map_cons, List.all_cons, ints_fln r]
    rfl
theorem eqvAll_ints : ∀ r s : List Int, PyData.eqvAll ((r.map V.int).map flatD) ((s.map V.int).map flatD) = decide (r = s)
  | [], [] => by simp [PyData.eqvAll]
  | [], _ :: _ => by simp [PyData.eqvAll]
  | _ :: _, [] => by simp [PyData.eqvAll]
  | x :: r, y :: s => by
    show PyData.eqvAll (.int x :: (r.map V.int).map flatD) (.int y :: (s.map V.int).map flatD) = _
    rw [PyData.eqvAll, eqvAll_ints r s]
    by_cases h : x = y
    · subst h
      simp [PyData.eqv]
    · simp [PyData.eqv, h]
section
variable {H : Hp} {Q : VK} {K : PySem.W.Frag} {a b : Addr} {r s : List Int}
theorem w_neTT (h1 : SqT K H a (r.map V.int)) (h2 : SqT K H b (s.map V.int)) (q : Q (.bl (!decide (r = s))) H) : rNeD K (.ref a) (.ref b) H Q :=
  w_neD (dp_tup h1 (fln_fl (ints_fln r))) (dp_tup h2 (fln_fl (ints_fln s))) (shaped_tup (ints_fln r)) (shaped_tup (ints_fln s)) (by rw [PyData.eqv, eqvAll_ints]; exact q)
theorem w_eqTT (h1 : SqT K H a (r.map V.int)) (h2 : SqT K H b (s.map V.int)) (q : Q (.bl (decide (r = s))) H) : rEqD K (.ref a) (.ref b) H Q :=
  w_eqD (dp_tup h1 (fln_fl (ints_fln r))) (dp_tup h2 (fln_fl (ints_fln s))) (shaped_tup (ints_fln r)) (shaped_tup (ints_fln s)) (by rw [PyData.eqv, eqvAll_ints]; exact q)
theorem w_neLL (h1 : SqL K H a (r.map V.int)) (h2 : SqL K H b (s.map V.int)) (q : Q (.bl (!decide (r = s))) H) : rNeD K (.ref a) (.ref b) H Q :=
  w_neD (dp_lst h1 (fln_fl (ints_fln r))) (dp_lst h2 (fln_fl (ints_fln s))) (shaped_lst (ints_fln r)) (shaped_lst (ints_fln s)) (by rw [PyData.eqv, eqvAll_ints]; exact q)
theorem w_eqLL (h1 : SqL K H a (r.map V.int)) (h2 : SqL K H b (s.map V.int)) (q : Q (.bl (decide (r = s))) H) : rEqD K (.ref a) (.ref b) H Q :=
  w_eqD (dp_lst h1 (fln_fl (ints_fln r))) (dp_lst h2 (fln_fl (ints_fln s))) (shaped_lst (ints_fln r)) (shaped_lst (ints_fln s)) (by rw [PyData.eqv, eqvAll_ints]; exact q)
end
end Kit
namespace Kit
open PySem PySem.Spec PyProof.Rows L2 Evl
/-! ### steps of the walk that ask nothing: found by the goal's head -/
class Step (G : Prop) (G' : outParam Prop) : Prop where
  go : G' → G
theorem step {G G' : Prop} [h : Step G G'] (x : G') : G := h.go x
class GetN (l : St) (i : Nat) (v : outParam V) : Prop where
  eq : l[i]? = some (some v)
class SetN (l : St) (i : Nat) (f : outParam (V → St)) : Prop where
  eq : ∀ v, l.set i (some v) = f v
section
variable {l : St} {a : Option V} {v : V} {n : Nat} {f : V → St}
instance : GetN (some v :: l) 0 v := ⟨rfl⟩
instance [h : GetN l n v] : GetN (a :: l) (n + 1) v := ⟨h.eq⟩
instance : SetN (a :: l) 0 (fun v => some v :: l) := ⟨fun _ => rfl⟩
instance [h : SetN l n f] : SetN (a :: l) (n + 1) (fun v => a :: f v) := ⟨fun v => congrArg (a :: ·) (h.eq v)⟩
end
section
variable {σ : St} {H H1 H2 : Hp} {Q : VK} {R : Bool → Hp → Prop} {A : List V → Hp → Prop} {i n : Nat} {v x y : V} {ta tb te tv : TE} {tl tr : TA} {b : Bool} {K : PySem.W.Frag} {C dx p : Addr} {fs : List (Str × V)} {f : Str} {t u c : TT}
instance [h : GetN σ i v] : Step (tVar i σ H Q) (Q v H) := ⟨fun q => w_var h.eq q⟩
instance : Step (tC v σ H Q) (Q v H) := ⟨w_c⟩
instance {r : R2} : Step (tOp r ta tb σ H Q) (ta σ H fun x H1 => tb σ H1 fun y H2 => r x y H2 Q) := ⟨w_op⟩
instance {r : V → Hp → VK → Prop} : Step (tUn r ta σ H Q) (ta σ H fun x H1 => r x H1 Q) := ⟨w_un⟩
instance {r : List V → Hp → VK → Prop} : Step (tCB r tl σ H Q) (tl σ H fun vs H1 => r vs H1 Q) := ⟨w_cb⟩
instance : Step (tNil σ H A) (A [] H) := ⟨w_nil⟩
instance : Step (tCons te tr σ H A) (te σ H fun x H1 => tr σ H1 fun xs H2 => A (x :: xs) H2) := ⟨w_cons⟩
instance : Step (tTup tl σ H Q) (tl σ H fun xs H1 => Alloc xs.length (.tup xs) H1 Q) := ⟨w_tup⟩
instance : Step (tLst tl σ H Q) (tl σ H fun xs H1 => Alloc xs.length (.lst xs) H1 Q) := ⟨w_lst⟩
instance {sp : Sp} {E : XK} : Step (tCall sp [] E tl σ H Q) (tl σ H fun vs H1 => sp vs H1 Q E) := ⟨w_call0⟩
instance : Step (tTest te σ H R) (te σ H fun x H' => ∃ k, x = .bl k ∧ R k H') := ⟨w_test⟩
instance : Step (tB te σ H R) (te σ H fun x H' => ∃ k, x = .bl k ∧ R k H') := ⟨w_B⟩
instance : Step (tAnd t u σ H R) (t σ H fun c H1 => if c = true then u σ H1 R else R false H1) := ⟨w_and⟩
instance : Step (tOr t u σ H R) (t σ H fun c H1 => if c = true then R true H1 else u σ H1 R) := ⟨w_or⟩
instance : Step (tNot t σ H R) (t σ H fun c H1 => R (!c) H1) := ⟨w_not⟩
instance : Step (tAndV ta tb σ H Q) (ta σ H fun x H1 => ∃ c, x = .bl c ∧ if c = true then tb σ H1 Q else Q (.bl false) H1) := ⟨w_andV⟩
instance : Step (tOrV ta tb σ H Q) (ta σ H fun x H1 => ∃ c, x = .bl c ∧ if c = true then Q (.bl true) H1 else tb σ H1 Q) := ⟨w_orV⟩
instance : Step (tNotV ta σ H Q) (ta σ H fun x H1 => ∃ c, x = .bl c ∧ Q (.bl (!c)) H1) := ⟨w_notV⟩
instance : Step (tIf t ta tb σ H Q) (t σ H fun c H1 => if c = true then ta σ H1 Q else tb σ H1 Q) := ⟨w_ifE⟩
instance : Step (tFld K ta f σ H Q) (ta σ H fun x H1 => FldOf K f x H1 Q) := ⟨w_fld⟩
instance {m : Str} {sp : Sp} {E : XK} : Step (tMeth C m sp [] E ta tl σ H Q) (ta σ H fun x H1 => InsOf C m x H1 (tl σ H1 fun vs H2 => sp (x :: vs) H2 Q E)) := ⟨w_meth⟩
instance {sp : Sp} {E : XK} : Step (tMake C sp [] E tl σ H Q) (tl σ H fun vs H1 => MakeOf C sp E vs H1 Q) := ⟨w_make⟩
instance {k : Bool} {P : Bool → Prop} : Step (∃ k', V.bl k = V.bl k' ∧ P k') (P k) := ⟨w_blE⟩
instance {g : Int → Int → V} {i j : Int} : Step (rI0 g (.int i) (.int j) H Q) (Q (g i j) H) := ⟨w_I0⟩
instance {g : Int → V} {i : Int} : Step (rU g (.int i) H Q) (Q (g i) H) := ⟨w_U⟩
instance {i j : Int} : Step (rEq (.int i) (.int j) H Q) (Q (.bl (decide (i = j))) H) := ⟨w_eqI⟩
instance {i j : Int} : Step (rNe (.int i) (.int j) H Q) (Q (.bl (!decide (i = j))) H) := ⟨w_neI⟩
instance {i j : Bool} : Step (rEq (.bl i) (.bl j) H Q) (Q (.bl (i == j)) H) := ⟨w_eqB⟩
instance {i : Int} : Step (rInt [.int i] H Q) (Q (.int i) H) := ⟨w_int⟩
instance {i j : Int} : Step (rMax [.int i, .int j] H Q) (Q (.int (if j > i then j else i)) H) := ⟨w_max⟩
instance {i j : Int} : Step (rMin [.int i, .int j] H Q) (Q (.int (if j < i then j else i)) H) := ⟨w_min⟩
instance {i : Int} : Step (rAbs [.int i] H Q) (Q (.int (if i < 0 then -i else i)) H) := ⟨w_abs⟩
instance : Step (rIsNo .non .non H Q) (Q (.bl true) H) := ⟨w_isNN⟩
instance {i : Int} : Step (rIsNo (.int i) .non H Q) (Q (.bl false) H) := ⟨w_isNI⟩
instance {i : Bool} : Step (rIsNo (.bl i) .non H Q) (Q (.bl false) H) := ⟨w_isNB⟩
instance {i : Addr} : Step (rIsNo (.ref i) .non H Q) (Q (.bl false) H) := ⟨w_isNR⟩
instance : Step (rNotNo .non .non H Q) (Q (.bl false) H) := ⟨w_notNN⟩
instance {i : Int} : Step (rNotNo (.int i) .non H Q) (Q (.bl true) H) := ⟨w_notNI⟩
instance {i : Bool} : Step (rNotNo (.bl i) .non H Q) (Q (.bl true) H) := ⟨w_notNB⟩
instance {i : Addr} : Step (rNotNo (.ref i) .non H Q) (Q (.bl true) H) := ⟨w_notNR⟩
instance {T : String} {r : V → List V → Hp → VK → Prop} {to : TE} : Step (tBM K T r to tl σ H Q) (to σ H fun x H1 => tyV K T x H1 ∧ tl σ H1 fun xs H2 => r x xs H2 Q) := ⟨w_bm⟩
instance {T : String} {r : V → List V → Hp → VK → Prop} {to : TE} : Step (tBM0 K T r to σ H Q) (to σ H fun x H1 => tyV K T x H1 ∧ r x [] H1 Q) := ⟨w_bm0⟩
instance {r : V → Option Int → Option Int → Hp → VK → Prop} {to th : TO} : Step (L2.tSl r te to th σ H Q) (te σ H fun x H1 => to σ H1 fun l H2 => th σ H2 fun u H3 => r x l u H3 Q) := ⟨w_sl⟩
instance {W : Option Int → Hp → Prop} : Step (tNoPart σ H W) (W none H) := ⟨w_po⟩
instance {W : Option Int → Hp → Prop} : Step (tPart te σ H W) (te σ H fun x H1 => PartOf W x H1) := ⟨w_ps⟩
instance {W : Option Int → Hp → Prop} {i : Int} : Step (PartOf W (.int i) H) (W (some i) H) := ⟨w_pi⟩
instance {A B : Prop} : Step (if true = true then A else B) A := ⟨i_T⟩
instance {A B : Prop} : Step (if false = true then A else B) B := ⟨i_F⟩
instance {A B : Prop} {k : Bool} : Step (if (!k) = true then A else B) (if k = true then B else A) := ⟨i_N⟩
end
section
variable {σ : St} {H : Hp} {nx bk ct : St → Hp → Prop} {rt : VK} {t u : TS} {c : TT} {te : TE} {i : Nat} {K : PySem.W.Frag} {vs : List Nat} {Q : VK}
instance (priority := 2000) {l : St} {v : V} {f : V → St} [h : SetN l i f] : Step (Sm t nx rt bk ct (l.set i (some v)) H) (Sm t nx rt bk ct (f v) H) := ⟨fun q => by rw [h.eq]; exact q⟩
instance : Step (Sm (tSeq t u) nx rt bk ct σ H) (Sm t (fun σ H => Sm u nx rt bk ct σ H) rt bk ct σ H) := ⟨m_seq⟩
instance (priority := high) {f : V → St} [h : SetN σ i f] : Step (Sm (tAsg te (gName i)) nx rt bk ct σ H) (te σ H fun v H1 => nx (f v) H1) := ⟨fun q => m_asg (by simp only [h.eq]; exact q)⟩
instance (priority := low) {g : TG} : Step (Sm (tAsg te g) nx rt bk ct σ H) (te σ H fun v H1 => g v σ H1 nx) := ⟨m_asgG⟩
instance : Step (Sm (tRet te) nx rt bk ct σ H) (te σ H rt) := ⟨m_ret⟩
instance : Step (Sm tRetN nx rt bk ct σ H) (rt .non H) := ⟨m_retN⟩
instance : Step (Sm (tDrop te) nx rt bk ct σ H) (te σ H fun _ H1 => nx σ H1) := ⟨m_drop⟩
instance : Step (Sm tNext nx rt bk ct σ H) (nx σ H) := ⟨m_next⟩
instance : Step (Sm tBreak nx rt bk ct σ H) (bk σ H) := ⟨m_brk⟩
instance : Step (Sm tCont nx rt bk ct σ H) (ct σ H) := ⟨m_cont⟩
instance : Step (Sm (tIfS c t u) nx rt bk ct σ H) (c σ H fun b H1 => if b = true then Sm t nx rt bk ct σ H1 else Sm u nx rt bk ct σ H1) := ⟨m_if⟩
instance {ta tv : TE} {f : Str} : Step (Sm (sFld K ta tv f) nx rt bk ct σ H) (tv σ H fun y H1 => ta σ H1 fun x H2 => PutOf K f y x H2 (nx σ)) := ⟨m_fld⟩
instance {wi : TI} {g : TG} : Step (Sm (tFor wi g t) nx rt bk ct σ H) (wi σ H fun J H1 => Fj J g t nx rt σ H1) := ⟨m_for⟩
instance {tl : TA} {R : It → Hp → Prop} : Step (iRng1 tl σ H R) (tl σ H fun vs H1 => ∃ j : Int, vs = [.int j] ∧ -(2 ^ 62) ≤ j ∧ j < 2 ^ 62 ∧ R (Itr 0 j.toNat) H1) := ⟨w_rng1⟩
instance {tl : TA} {R : It → Hp → Prop} : Step (iRng2 tl σ H R) (tl σ H fun vs H1 => ∃ i j : Int, vs = [.int i, .int j] ∧ (-(2 ^ 62) ≤ i ∧ i < 2 ^ 62 ∧ -(2 ^ 62) ≤ j ∧ j < 2 ^ 62) ∧ R (Itr i (j - i).toNat) H1) := ⟨w_rng2⟩
instance {tl : TA} {R : It → Hp → Prop} : Step (iRng3 tl σ H R) (tl σ H fun vs H1 => ∃ (i j c : Int) (n : Nat), vs = [.int i, .int j, .int c] ∧ RgC i j c n ∧ R (Itc i c n) H1) := ⟨w_rng3⟩
instance {R : It → Hp → Prop} : Step (iList K te σ H R) (te σ H fun x H1 => ∃ a, x = .ref a ∧ (∃ xs, SqL K H1 a xs) ∧ R (Itl K a) H1) := ⟨w_itl⟩
instance {R : It → Hp → Prop} : Step (iTup K te σ H R) (te σ H fun x H1 => ∃ a, x = .ref a ∧ (∃ xs, SqT K H1 a xs) ∧ R (Itt K a) H1) := ⟨w_itt⟩
instance {wi : TI} {g : TG} {tt : TT} : Step (tLc wi g tt te vs σ H Q) (wi σ H fun J H1 => Lcj J g tt te vs σ H1 Q) := ⟨w_lc⟩
end
end Kit

set_option Elab.async false
set_option linter.all false
namespace KM
/-! ### rows, their levels, roots and paths, for any fold f -/
section
variable (f : Int → Int → Int)
def pairs : List Int → List Int
  | x :: y :: r => f x y :: pairs r
  | _ => []
def levs : Nat → List Int → List (List Int)
  | 0, r => [r]
  | k + 1, r => r :: levs k (pairs f r)
def rootM : Nat → List Int → Int
  | 0, r => r.headD 0
  | k + 1, r => rootM k (pairs f r)
def nb (p : Nat) : Nat := if p % 2 = 0 then p + 1 else p - 1
def pathM : Nat → List Int → Nat → List Int
  | 0, _, _ => []
  | k + 1, r, p => (r[nb p]?).getD 0 :: pathM k (pairs f r) (p / 2)
def rootBy : Nat → Int → List Int → Int
  | _, d, [] => d
  | p, d, x :: r => rootBy (p / 2) (if p % 2 = 0 then f d x else f x d) r
variable {f}
theorem pairs_len : ∀ (r : List Int) {n : Nat}, r.length = 2 * n → (pairs f r).length = n
  | [], 0, _ => rfl
  | [], n + 1, h => by simp at h
  | [_], n, h => by simp at h; omega
  | x :: y :: r, 0, h => by simp at h
  | x :: y :: r, n + 1, h => by
    have h2 : r.length = 2 * n := by simp at h; omega
    show (f x y :: pairs f r).length = n + 1
    rw [List.length_cons, pairs_len r h2]
theorem pairs_get : ∀ (r : List Int) {i : Nat} {x y : Int}, r[2 * i]? = some x → r[2 * i + 1]? = some y → (pairs f r)[i]? = some (f x y)
  | [], i, _, _, h, _ => by simp at h
  | [_], 0, _, _, _, h => by simp at h
  | [_], i + 1, _, _, h, _ => by
    rw [show 2 * (i + 1) = 2 * i + 1 + 1 by omega] at h
    simp at h
  | a :: b :: r, 0, x, y, h, h2 => by
    have e1 : a = x := by simpa using h
    have e2 : b = y := by simpa using h2
    subst e1 e2
    rfl
  | a :: b :: r, i + 1, x, y, h, h2 => by
    rw [show 2 * (i + 1) = 2 * i + 1 + 1 by omega] at h
    rw [show 2 * (i + 1) + 1 = 2 * i + 1 + 1 + 1 by omega] at h2
    exact pairs_get r (i := i) (by simpa using h) (by simpa using h2)
theorem pairs_append : ∀ (a b : List Int) {n : Nat}, a.length = 2 * n → pairs f (a ++ b) = pairs f a ++ pairs f b
  | [], b, _, _ => rfl
  | [_], _, n, h => by simp at h; omega
  | x :: y :: r, b, 0, h => by simp at h
  | x :: y :: r, b, n + 1, h => by
    have h2 : r.length = 2 * n := by simp at h; omega
    show f x y :: pairs f (r ++ b) = f x y :: pairs f r ++ pairs f b
    rw [pairs_append r b h2]
    rfl
theorem two_pow (k : Nat) : 2 ^ (k + 1) = 2 * 2 ^ k := by rw [Nat.pow_succ]; omega
theorem root_halves : ∀ (k : Nat) (a b : List Int), a.length = 2 ^ k → b.length = 2 ^ k → rootM f (k + 1) (a ++ b) = f (rootM f k a) (rootM f k b)
  | 0, a, b, ha, hb => by
    match a, b, ha, hb with
    | [x], [y], _, _ => rfl
  | k + 1, a, b, ha, hb => by
    rw [two_pow] at ha hb
    show rootM f (k + 1) (pairs f (a ++ b)) = f (rootM f k (pairs f a)) (rootM f k (pairs f b))
    rw [pairs_append a b ha]
    exact root_halves k _ _ (pairs_len a ha) (pairs_len b hb)
theorem path_left : ∀ (k : Nat) (a b : List Int) (p : Nat), a.length = 2 ^ k → b.length = 2 ^ k → p < 2 ^ k → pathM f (k + 1) (a ++ b) p = pathM f k a p ++ [rootM f k b]
  | 0, a, b, p, ha, hb, hp => by
    match a, b, ha, hb with
    | [x], [y], _, _ =>
      have e : p = 0 := by omega
      subst e
      rfl
  | k + 1, a, b, p, ha, hb, hp => by
    have hp2 : nb p < a.length := by
      rw [ha, two_pow]
      rw [two_pow] at hp
      unfold nb
      split <;> omega
    rw [two_pow] at ha hb hp
    show ((a ++ b)[nb p]?).getD 0 :: pathM f (k + 1) (pairs f (a ++ b)) (p / 2) = (a[nb p]?).getD 0 :: pathM f k (pairs f a) (p / 2) ++ [rootM f k (pairs f b)]
    rw [pairs_append a b ha, path_left k _ _ (p / 2) (pairs_len a ha) (pairs_len b hb) (by omega), List.getElem?_append_left hp2]
    rfl
theorem path_right : ∀ (k : Nat) (a b : List Int) (p : Nat), a.length = 2 ^ k → b.length = 2 ^ k → p < 2 ^ k → pathM f (k + 1) (a ++ b) (2 ^ k + p) = pathM f k b p ++ [rootM f k a]
  | 0, a, b, p, ha, hb, hp => by
    match a, b, ha, hb with
    | [x], [y], _, _ =>
      have e : p = 0 := by omega
      subst e
      rfl
  | k + 1, a, b, p, ha, hb, hp => by
    rw [two_pow] at ha hb hp ⊢
    have hn : nb (2 * 2 ^ k + p) = a.length + nb p := by
      rw [ha]
      unfold nb
      by_cases h : p % 2 = 0
      · rw [if_pos h, if_pos (by omega)]; omega
      · rw [if_neg h, if_neg (by omega)]; omega
    have hd : (2 * 2 ^ k + p) / 2 = 2 ^ k + p / 2 := by omega
    show ((a ++ b)[nb (2 * 2 ^ k + p)]?).getD 0 :: pathM f (k + 1) (pairs f (a ++ b)) ((2 * 2 ^ k + p) / 2) = (b[nb p]?).getD 0 :: pathM f k (pairs f b) (p / 2) ++ [rootM f k (pairs f a)]
    rw [pairs_append a b ha, hd, path_right k _ _ (p / 2) (pairs_len a ha) (pairs_len b hb) (by omega), hn, List.getElem?_append_right (Nat.le_add_right _ _), Nat.add_sub_cancel_left]
    rfl
theorem path_len : ∀ (k : Nat) (r : List Int) (p : Nat), (pathM f k r p).length = k
  | 0, _, _ => rfl
  | k + 1, r, p => by
    show (_ :: pathM f k _ _).length = _
    rw [List.length_cons, path_len k]
theorem levs_len : ∀ (k : Nat) (r : List Int), (levs f k r).length = k + 1
  | 0, _ => rfl
  | k + 1, r => by
    show (r :: levs f k (pairs f r)).length = _
    rw [List.length_cons, levs_len k]
/-- the root by its path -/
theorem rootBy_path : ∀ (k : Nat) (r : List Int) (p : Nat) (d : Int), r.length = 2 ^ k → r[p]? = some d → rootBy f p d (pathM f k r p) = rootM f k r
  | 0, r, p, d, hr, hd => by
    match r, hr with
    | [x], _ =>
      cases p with
      | zero =>
        have e : x = d := by simpa using hd
        subst e
        rfl
      | succ p => simp at hd
  | k + 1, r, p, d, hr, hd => by
    rw [two_pow] at hr
    have hp : p < 2 * 2 ^ k := by
      have := (List.getElem?_eq_some_iff.mp hd).1
      omega
    have hl : (pairs f r).length = 2 ^ k := pairs_len r hr
    show rootBy f (p / 2) (if p % 2 = 0 then f d ((r[nb p]?).getD 0) else f ((r[nb p]?).getD 0) d) (pathM f k (pairs f r) (p / 2)) = rootM f k (pairs f r)
    refine rootBy_path k _ (p / 2) _ hl ?_
    by_cases h : p % 2 = 0
    · have e : nb p = p + 1 := by unfold nb; rw [if_pos h]
      have hq : p + 1 < r.length := by omega
      rw [if_pos h, e, List.getElem?_eq_getElem hq]
      refine pairs_get r (i := p / 2) ?_ ?_
      · rw [show 2 * (p / 2) = p by omega]; exact hd
      · rw [show 2 * (p / 2) + 1 = p + 1 by omega, List.getElem?_eq_getElem hq]; rfl
    · have e : nb p = p - 1 := by unfold nb; rw [if_neg h]
      have hq : p - 1 < r.length := by omega
      rw [if_neg h, e, List.getElem?_eq_getElem hq]
      refine pairs_get r (i := p / 2) ?_ ?_
      · rw [show 2 * (p / 2) = p - 1 by omega, List.getElem?_eq_getElem hq]; rfl
      · rw [show 2 * (p / 2) + 1 = p by omega]; exact hd
end
end KM

set_option Elab.async false
set_option linter.all false
set_option maxRecDepth 100000
set_option maxHeartbeats 4000000
/-! A book's dicts: keys (kind, text), a text being a number or a tuple of numbers. -/
namespace Kit
open PySem PySem.Spec PyProof.Rows L2 Evl
inductive TK where
  | num (i : Int)
  | nums (is : List Int)
deriving DecidableEq
def TK.nk : TK → NestedKey
  | .num i => .num i
  | .nums is => .tup (is.map .num)
/-- the value x is the text t -/
def TVal (H : Hp) : TK → V → Prop
  | .num i, x => x = .int i
  | .nums is, x => ∃ a, x = .ref a ∧ H a = some (.tup (is.map V.int))
abbrev BK := Str × TK
def bk (k : BK) : NestedKey := .tup [.text k.1, k.2.nk]
def KeyAt (H : Hp) (k : BK) (b : Addr) : Prop := ∃ x, H b = some (.tup [.str k.1, x]) ∧ TVal H k.2 x
theorem nums_inj : ∀ {a b : List Int}, a.map NestedKey.num = b.map NestedKey.num → a = b
  | [], [], _ => rfl
  | [], _ :: _, e => by simp at e
  | _ :: _, [], e => by simp at e
  | x :: a, y :: b, e => by
    simp only [List.map_cons, List.cons.injEq, NestedKey.num.injEq] at e
    rw [e.1, nums_inj e.2]
theorem nk_inj {a b : TK} (e : a.nk = b.nk) : a = b := by
  cases a <;> cases b <;> simp only [TK.nk, NestedKey.num.injEq, NestedKey.tup.injEq, reduceCtorEq] at e
  · rw [e]
  · rw [nums_inj e]
theorem bk_inj {a b : BK} (e : bk a = bk b) : a = b := by
  obtain ⟨a1, a2⟩ := a
  obtain ⟨b1, b2⟩ := b
  simp only [bk, NestedKey.tup.injEq, List.cons.injEq, NestedKey.text.injEq, and_true] at e
  rw [e.1, nk_inj e.2]
theorem depth_nums : ∀ is : List Int, NestedKey.depthAll (is.map .num) = 0
  | [] => rfl
  | _ :: is => by rw [List.map_cons, NestedKey.depthAll, depth_nums is]; rfl
theorem bk_depth (k : BK) : (bk k).depth ≤ 8 := by
  obtain ⟨x, t⟩ := k
  cases t <;> simp [bk, TK.nk, NestedKey.depth, NestedKey.depthAll, depth_nums]
theorem nums_all {h : Heap} : ∀ {is : List Int} {us : List Value}, Vals (is.map V.int) us → NestedAll h (is.map .num) us
  | [], _, r => by cases r; exact .nil
  | i :: is, _, r => by
    rw [List.map_cons] at r
    cases r with
    | cons a t =>
      obtain ⟨z, rfl⟩ := (show ∃ z, _ = Value.int i z from a)
      exact .cons (.int i z) (nums_all t)
section
variable {P : Program} {w : World} {H H' : Hp} {h : Heap} {a b : Addr} {k : BK} {t : TK} {x : V} {u : Value}
theorem tval_is (ok : HOk P w H h) (r : RelV x u) (e : TVal H t x) : NestedIs h t.nk u := by
  cases t with
  | num i =>
    obtain rfl := e
    obtain ⟨z, rfl⟩ := (show ∃ z, u = Value.int i z from r)
    exact .int i z
  | nums is =>
    obtain ⟨c, rfl, e⟩ := e
    obtain rfl := (show u = Value.ref c from r)
    obtain ⟨_, its, rs, o, h1, h2, n, h3⟩ := (show ObjOk P w H h c (.tup _) from ok c _ e)
    exact .tup h1 h2 h3 (by rw [List.toList_toArray]; exact nums_all rs)
theorem key_is (ok : HOk P w H h) (e : KeyAt H k b) : (nestedKind P w).is h (bk k) b := by
  obtain ⟨x, e, t⟩ := e
  obtain ⟨_, its, rs, o, h1, h2, n, h3⟩ := (show ObjOk P w H h b (.tup _) from ok b _ e)
  refine ⟨.tup h1 h2 h3 ?_, bk_depth k⟩
  rw [List.toList_toArray]
  cases rs with
  | cons r1 r2 =>
    cases r2 with
    | cons r2 r3 =>
      cases r3
      obtain ⟨z, rfl⟩ := (show ∃ z, _ = Value.str k.1 z from r1)
      exact .cons (.text _ z) (.cons (tval_is ok r2 t) .nil)
theorem TVal.mono (m : ∀ c xs, H c = some (.tup xs) → H' c = some (.tup xs)) (e : TVal H t x) : TVal H' t x := by
  cases t with
  | num i => exact e
  | nums is => exact let ⟨c, e1, e2⟩ := e; ⟨c, e1, m _ _ e2⟩
theorem KeyAt.mono (m : ∀ c xs, H c = some (.tup xs) → H' c = some (.tup xs)) (e : KeyAt H k b) : KeyAt H' k b := let ⟨x, e1, e2⟩ := e; ⟨x, m _ _ e1, e2.mono m⟩
end
/-- the entries that stand in the dict, and what is told of them -/
def ERel (H : Hp) (p : BK × V) (q : NestedKey × Addr × Value) : Prop := q.1 = bk p.1 ∧ KeyAt H p.1 q.2.1 ∧ RelV p.2 q.2.2
abbrev Ents (H : Hp) := Paired (ERel H)
def bkPhi (P : Program) (w : World) (a : Addr) (xs : List (NestedKey × Addr × Value)) (h : Heap) : Prop :=
  xs.length ≤ sizeLine ∧ (a == sysModules) = false ∧ ∃ o es ep, h.get? a = some o ∧ o.ExactDict ∧ o.data = .dict es ep ∧ es.toList = xs.map (entryOfKey (nestedKind P w)) ∧ (xs.map (·.1)).Nodup
def bkO (P : Program) (w : World) (a : Addr) (xs : List (NestedKey × Addr × Value)) : HO := .ext (bkPhi P w a xs)
/-- at a: a book's dict -/
def BkAt (P : Program) (w : World) (H : Hp) (a : Addr) (kvs : List (BK × V)) : Prop := (kvs = [] ∧ H a = some (.dK [])) ∨ ∃ xs, H a = some (bkO P w a xs) ∧ Ents H kvs xs
section
variable {P : Program} {w : World} {H H' : Hp} {h : Heap} {a b : Addr} {k : BK} {kvs : List (BK × V)} {xs : List (NestedKey × Addr × Value)} {y : V} {u : Value}
theorem Ents.mono (m : ∀ c zs, H c = some (.tup zs) → H' c = some (.tup zs)) (r : Ents H kvs xs) : Ents H' kvs xs := Paired.mapP r fun _ _ z => ⟨z.1, z.2.1.mono m, z.2.2⟩
theorem BkAt.mono (e : BkAt P w H a kvs) (ha : ∀ o, H a = some o → H' a = some o) (m : ∀ c zs, H c = some (.tup zs) → H' c = some (.tup zs)) : BkAt P w H' a kvs := by
  rcases e with ⟨e1, e2⟩ | ⟨xs, e1, e2⟩
  · exact .inl ⟨e1, ha _ e2⟩
  · exact .inr ⟨xs, ha _ e1, Ents.mono m e2⟩
theorem BkAt.ex (e : BkAt P w H a kvs) (x : Ex H H') : BkAt P w H' a kvs := e.mono (fun o => x _ o) fun c zs => x c _
theorem Ents.find (r : Ents H kvs xs) (k : BK) : RelO (valV kvs k) ((atKey xs (bk k)).map (·.2)) := by
  induction r with
  | nil => exact True.intro
  | @cons p q ps qs z t ih =>
    obtain ⟨z1, _, z3⟩ := z
    by_cases e : p.1 = k
    · rw [valV_pos e, show atKey (q :: qs) (bk k) = some q.2 from by simp [atKey, List.find?_cons, z1, e]]
      exact z3
    · have e' : ¬ q.1 = bk k := fun c => e (bk_inj (z1.symm.trans c))
      rw [valV_neg e, show atKey (q :: qs) (bk k) = atKey qs (bk k) from by simp [atKey, List.find?_cons, e']]
      exact ih
theorem Ents.store (r : Ents H kvs xs) (hb : KeyAt H k b) (ry : RelV y u) : Ents H (putK kvs k y) (storedH xs (bk k) b u) := by
  have same : (kvs.any fun kv => decide (kv.1 = k)) = (atKey xs (bk k)).isSome := by rw [valV_any, (r.find k).isSome_eq, Option.isSome_map]
  unfold putK storedH
  rw [same]
  cases (atKey xs (bk k)).isSome with
  | false => exact Paired.snoc r ⟨rfl, hb, ry⟩
  | true =>
    show Ents H (kvs.map _) (xs.map _)
    clear same
    induction r with
    | nil => exact .nil
    | @cons p q ps qs z t ih =>
      refine .cons ?_ ih
      obtain ⟨z1, z2, z3⟩ := z
      unfold putAt
      show ERel H (if p.1 = k then (p.1, y) else p) _
      by_cases e : p.1 = k
      · rw [if_pos e, if_pos (z1.trans (congrArg bk e))]
        exact ⟨z1, z2, ry⟩
      · rw [if_neg e, if_neg fun c => e (bk_inj (z1.symm.trans c))]
        exact ⟨z1, z2, z3⟩
theorem ents_is (ok : HOk P w H h) : ∀ {kvs : List (BK × V)} {xs : List (NestedKey × Addr × Value)}, Ents H kvs xs → ∀ x ∈ xs, (nestedKind P w).is h x.1 x.2.1
  | _, _, .nil => fun _ m => nomatch m
  | _, _, .cons z t => fun x m => by
    rcases List.mem_cons.mp m with rfl | m
    · rw [z.1]
      exact key_is ok z.2.1
    · exact ents_is ok t x m
theorem bk_of (ok : HOk P w H h) (e : BkAt P w H a kvs) : kvs.length ≤ sizeLine ∧ (a == sysModules) = false ∧ ∃ xs, Ents H kvs xs ∧ h.DictOfH (nestedKind P w) a xs := by
  rcases e with ⟨rfl, e⟩ | ⟨xs, e, r⟩
  · obtain ⟨z, hd, vs, rel, o, es, ep, h1, h2, h3, _, h5, _⟩ := dk_of ok e
    cases rel
    refine ⟨z, hd, [], .nil, o, es, ep, h1, h2, h3, ?_, fun _ m => (nomatch m), List.nodup_nil⟩
    cases hes : es.toList with
    | nil => rfl
    | cons _ _ => rw [hes] at h5; cases h5
  · obtain ⟨z, hd, o, es, ep, h1, h2, h3, h4, h5⟩ := (show ObjOk P w H h a (.ext (bkPhi P w a xs)) from ok a _ e).1
    exact ⟨by rw [Paired.length r]; exact z, hd, xs, r, o, es, ep, h1, h2, h3, h4, ents_is ok r, h5⟩
theorem bk_mut (e : BkAt P w H a kvs) : Mut (H a) := by
  rcases e with ⟨_, e⟩ | ⟨_, e, _⟩ <;> (rw [e]; exact True.intro)
theorem bk_no (e : BkAt P w H a kvs) {c : Addr} {zs : List V} (hc : H c = some (.tup zs)) : c ≠ a := by
  rintro rfl
  rcases e with ⟨_, e⟩ | ⟨_, e, _⟩ <;> (rw [hc] at e; cases e)
theorem bk_new (z : xs.length ≤ sizeLine) (hd : (a == sysModules) = false) (dd : h.DictOfH (nestedKind P w) a xs) : ObjOk P w H h a (bkO P w a xs) := by
  obtain ⟨o, es, ep, h1, h2, h3, h4, _, h5⟩ := dd
  exact ⟨⟨z, hd, o, es, ep, h1, h2, h3, h4, h5⟩, ⟨o, h1⟩, fun g1 g2 q m => let ⟨q1, q2, o', es', ep', p1, p2⟩ := q; ⟨q1, q2, o', es', ep', m _ p1, p2⟩⟩
theorem bk_put (e : BkAt P w H a kvs) (r : Ents H kvs xs) (hb : KeyAt H k b) (ry : RelV y u) : BkAt P w (upd H a (bkO P w a (storedH xs (bk k) b u))) a (putK kvs k y) :=
  .inr ⟨_, upd_same, Ents.mono (fun c zs hc => by rw [upd_ne (bk_no e hc)]; exact hc) (r.store hb ry)⟩
theorem storedH_len {κ : Type} [DecidableEq κ] (xs : List (κ × Addr × Value)) (q : κ) (b : Addr) (u : Value) : (storedH xs q b u).length ≤ xs.length + 1 := by
  unfold storedH
  split <;> simp
theorem room8 {A : Around} (hu : A.units + 64 < cLine) : (nestedKind P w).room A.in1 := by
  show A.units + 1 + 8 < cLine
  omega
end
section
variable {X : Cx} {pins : List (Addr × Obj)} {σ : St} {H : Hp} {s : Shared} {a b : Addr} {y : V} {r : Value} {k : BK} {kvs : List (BK × V)} {A : Around} {E : Value → Shared → Prop}
theorem bk_write {h' : Heap} {t' : Nat} {xs : List (NestedKey × Addr × Value)} {u : Value} (I : Inv X pins σ H s) (e : BkAt X.prog X.w H a kvs) (hs : Heap.SameBut a s.heap h') (hd : (a == sysModules) = false) (hl : xs.length < sizeLine)
    (dd : h'.DictOfH (nestedKind X.prog X.w) a (storedH xs (bk k) b u)) : Inv X pins σ (upd H a (bkO X.prog X.w a (storedH xs (bk k) b u))) { s with heap := h', toks := t' } := by
  have there : ∃ q, h'.get? a = some q := let ⟨q, _, _, hq, _⟩ := dd; ⟨q, hq⟩
  exact d_write I (bk_mut e) hs there (bk_new (Nat.le_trans (storedH_len ..) hl) hd dd)
theorem bk_setItem {Q : Unit → Shared → Prop} (hu : A.units + 64 < cLine) (I : Inv X pins σ H s) (e : BkAt X.prog X.w H a kvs) (hb : KeyAt H k b) (hl : kvs.length < sizeLine) (ry : RelV y r)
    (q : ∀ H' s', ExBut a H H' → BkAt X.prog X.w H' a (putK kvs k y) → Inv X pins σ H' s' → Q () s') : wpAny (model X.prog X.w) A (setItem (.ref a) (.ref b) r) Q E s := by
  obtain ⟨z, hd, xs, rel, dd⟩ := bk_of I.hok e
  have hx : xs.length < sizeLine := by rw [← Paired.length rel]; exact hl
  exact wpAny_setItem_heap (hsz := Nat.le_of_lt hx) (room8 hu) (key_is I.hok hb) dd fun h' dd' hs => q _ _ (ExBut.upd (ExBut.refl a H)) (bk_put e rel hb ry) (bk_write I e hs hd hx dd')
theorem bk_setd {Q : Value → Shared → Prop} (hu : A.units + 64 < cLine) (I : Inv X pins σ H s) (e : BkAt X.prog X.w H a kvs) (hb : KeyAt H k b) (hl : kvs.length < sizeLine) (ry : RelV y r)
    (q1 : ∀ v, valV kvs k = some v → ∀ v' s', RelV v v' → Inv X pins σ H s' → Q v' s')
    (q2 : valV kvs k = none → ∀ H' s', ExBut a H H' → BkAt X.prog X.w H' a (putK kvs k y) → Inv X pins σ H' s' → Q r s') : wpAny (model X.prog X.w) A (call (.builtin "dict.setdefault") [.ref a, .ref b, r]) Q E s := by
  obtain ⟨z, hd, xs, rel, dd⟩ := bk_of I.hok e
  have hx : xs.length < sizeLine := by rw [← Paired.length rel]; exact hl
  have f := rel.find k
  refine call_setdefault_heap (hsz := Nat.le_of_lt hx) (room8 hu) (key_is I.hok hb) hd dd (fun p hp => ?_) fun hn h' dd' hs => ?_
  · rw [hp] at f
    cases hv : valV kvs k with
    | none => rw [hv] at f; exact (show False from f).elim
    | some v => rw [hv] at f; exact q1 v hv _ _ f (I.tok _)
  · rw [hn] at f
    cases hv : valV kvs k with
    | some v => rw [hv] at f; exact (show False from f).elim
    | none => exact q2 hv _ _ (ExBut.upd (ExBut.refl a H)) (bk_put e rel hb ry) (bk_write I e hs hd hx dd')
end
/-! ### the rules -/
def BkIn (P : Program) (w : World) (x : V) (H : Hp) (R : Addr → Prop) : Prop := ∃ a, x = .ref a ∧ (∃ kvs, BkAt P w H a kvs) ∧ R a
def BkPut (P : Program) (w : World) (a : Addr) (y v : V) (H : Hp) (W : Hp → Prop) : Prop := ∃ kvs k b, BkAt P w H a kvs ∧ y = .ref b ∧ KeyAt H k b ∧ kvs.length < sizeLine ∧ ∀ H', ExBut a H H' → BkAt P w H' a (putK kvs k v) → W H'
def BkSetd (P : Program) (w : World) (a : Addr) (y v : V) (H : Hp) (Q : VK) : Prop := ∃ kvs k b, BkAt P w H a kvs ∧ y = .ref b ∧ KeyAt H k b ∧ kvs.length < sizeLine ∧ (∀ u, valV kvs k = some u → Q u H) ∧ (valV kvs k = none → ∀ H', ExBut a H H' → BkAt P w H' a (putK kvs k v) → Q v H')
def sBkPut (P : Program) (w : World) (td ty tv : TE) : TS := fun D σ H => tv σ H fun v H1 => td σ H1 fun x H2 => ty σ H2 fun y H3 => ∃ a, x = .ref a ∧ BkPut P w a y v H3 (D.nx σ)
def tBkSetd (P : Program) (w : World) (td ty tx : TE) : TE := fun σ H Q => td σ H fun x H1 => BkIn P w x H1 fun a => ty σ H1 fun y H2 => tx σ H2 fun z H3 => BkSetd P w a y z H3 Q
def rLenB (P : Program) (w : World) : List V → Hp → VK → Prop := fun xs H Q => ∃ p kvs, xs = [.ref p] ∧ BkAt P w H p kvs ∧ Q (.int (kvs.length : Int)) H
section
variable {X : Cx} {o i f value : Expr} {td ty tv tx : TE} {pos pos' : Pos}
theorem bkPut' (hu : X.A.units + 64 < cLine) (ho : PE X o td) (hi : PE X i ty) (hv : PE X value tv) (hs : swapsWith value (some (.Subscript o i pos')) pos.line X.env = pure false) : PS X (.Assign [.Subscript o i pos'] value pos) (sBkPut X.prog X.w td ty tv) := by
  constructor
  intro pins s σ H D I h
  refine wpAny_Assign_Subscript ?_ hs
  refine thn (hv.run pins s σ H _ I h) fun r s1 z1 => ?_
  obtain ⟨v, H1, I1, rv, z1⟩ := z1
  refine thn (ho.run pins s1 σ H1 _ I1 z1) fun u s2 z2 => ?_
  obtain ⟨x, H2, I2, rx, z2⟩ := z2
  refine thn (hi.run pins s2 σ H2 _ I2 z2) fun iv s3 z3 => ?_
  obtain ⟨y, H3, I3, ry, a, rfl, kvs, k, b, e, rfl, hb, hl, q⟩ := z3
  obtain rfl := (show u = Value.ref a from rx)
  obtain rfl := (show iv = Value.ref b from ry)
  exact bk_setItem hu I3 e hb hl rv fun H4 s4 m e4 I4 => ⟨σ, H4, I4, q H4 m e4⟩
theorem bkSetd' {apos cpos : Pos} (hu : X.A.units + 64 < cLine) (ho : PE X o td) (hi : PE X i ty) (hf : PE X f tx) (m : M2 X o "setdefault" apos i f cpos) : PE X (.Call (.Attribute o "setdefault" apos) [i, f] [] cpos) (tBkSetd X.prog X.w td ty tx) := by
  constructor
  intro pins s σ H Q I h
  refine wpAny_Call_method m.base m.few m.line PySem.F.plainAttrs_dict PySem.F.slot_dict_setdefault PySem.F.type_dict_setdefault ?_
  refine thn (ho.run pins s σ H _ I h) fun u s1 z1 => ?_
  obtain ⟨x, H1, I1, rx, a, rfl, ⟨kv1, e1⟩, z1⟩ := z1
  obtain rfl := (show u = Value.ref a from rx)
  obtain ⟨_, _, xs, _, dd⟩ := bk_of I1.hok e1
  refine ⟨dd.typeIs, fun c hc => ?_, ?_⟩
  · cases hc
    obtain ⟨ob, _, _, g1, g2, _⟩ := dd
    exact ⟨ob, g1, g2.2.1⟩
  · rw [m.trees]
    refine Calls.callWith_builtin rfl (Calls.evalArgs_plain (Calls.spliced_cons ?_))
    refine thn (hi.run pins s1 σ H1 _ I1 z1) fun iv s2 z2 => ?_
    obtain ⟨y, H2, I2, ry, z2⟩ := z2
    refine Calls.spliced_cons (thn (hf.run pins s2 σ H2 _ I2 z2) fun fv s3 z3 => ?_)
    obtain ⟨z, H3, I3, rz, kvs, k, b, e, rfl, hb, hl, q1, q2⟩ := z3
    obtain rfl := (show iv = Value.ref b from ry)
    exact Calls.spliced_nil (bk_setd hu I3 e hb hl rz (fun v hv v' s4 r4 I4 => ⟨v, H3, I4, r4, q1 v hv⟩) fun hn H4 s4 m4 e4 I4 => ⟨z, H4, I4, rz, q2 hn H4 m4 e4⟩)
theorem bkLen' : CallR X (.builtin "len") (rLenB X.prog X.w) := by
  intro pins s σ H xs us Q I r h
  obtain ⟨p, kvs, rfl, e, q⟩ := h
  obtain ⟨u, rfl, rx⟩ := vals1 r
  obtain rfl := (show u = Value.ref p from rx)
  obtain ⟨z, hd, ys, rel, dd⟩ := bk_of I.hok e
  have hl := Paired.length rel
  rw [hl] at z q
  exact call_len_dictH hd dd (by rw [sizeLine_eq] at z; omega) ⟨.int ys.length, H, I.tok _, ⟨_, rfl⟩, q⟩
variable (P : Program) (w : World)
theorem bkPut (hu : X.A.units + 64 < cLine) (ho : PE X o td) (hi : PE X i ty) (hv : PE X value tv) (hs : swapsWith value (some (.Subscript o i pos')) pos.line X.env = pure false) (h1 : X.prog = P := by rfl) (h2 : X.w = w := by rfl) :
    PS X (.Assign [.Subscript o i pos'] value pos) (sBkPut P w td ty tv) := h1 ▸ h2 ▸ bkPut' hu ho hi hv hs
theorem bkSetd {apos cpos : Pos} (hu : X.A.units + 64 < cLine) (ho : PE X o td) (hi : PE X i ty) (hf : PE X f tx) (m : M2 X o "setdefault" apos i f cpos) (h1 : X.prog = P := by rfl) (h2 : X.w = w := by rfl) :
    PE X (.Call (.Attribute o "setdefault" apos) [i, f] [] cpos) (tBkSetd P w td ty tx) := h1 ▸ h2 ▸ bkSetd' hu ho hi hf m
theorem bkLen (h1 : X.prog = P := by rfl) (h2 : X.w = w := by rfl) : CallR X (.builtin "len") (rLenB P w) := h1 ▸ h2 ▸ bkLen'
end
end Kit

namespace Kit
open PySem PySem.Spec PyProof.Rows L2 Evl
/-! ### == of texts, rows of texts -/
def TK.data : TK → PyData
  | .num i => .int i
  | .nums is => .tuple ((is.map V.int).map flatD)
section
variable {H H' : Hp} {K : PySem.W.Frag} {t t' : TK} {x y : V} {Q : VK}
theorem TVal.dp (e : TVal H t x) : Dp K H x t.data := by
  cases t with
  | num i => exact (show x = V.int i from e) ▸ Dp.int i
  | nums is => exact let ⟨a, e1, e2⟩ := e; e1 ▸ dp_tup (st_of e2) (fln_fl (ints_fln is))
theorem TK.lay (t : TK) : t.data.canLay0 = true ∧ PyData.depth t.data ≤ 1 := by
  cases t with
  | num i => exact ⟨rfl, Nat.zero_le _⟩
  | nums is =>
    obtain ⟨h1, h2⟩ := flats_ok (ints_fln is)
    exact ⟨h1, by show PyData.depthAll _ + 1 ≤ 1; rw [h2]; exact Nat.le_refl 1⟩
theorem TK.shaped (t : TK) : SeqAt.shaped t.data = true := by
  unfold SeqAt.shaped
  rw [t.lay.1, decide_eq_true (Nat.le_trans t.lay.2 (by decide))]
  rfl
theorem TK.eqv (t t' : TK) : PyData.eqv t.data t'.data = decide (t = t') := by
  cases t <;> cases t'
  · rename_i i j
    by_cases h : i = j
    · subst h; simp [TK.data, PyData.eqv]
    · simp [TK.data, PyData.eqv, h]
  · simp [TK.data, PyData.eqv]
  · simp [TK.data, PyData.eqv]
  · rename_i a b
    show PyData.eqvAll _ _ = _
    rw [eqvAll_ints]
    by_cases h : a = b
    · subst h; simp
    · simp [h]
theorem w_neTV (h1 : TVal H t x) (h2 : TVal H t' y) (q : Q (.bl (!decide (t = t'))) H) : rNeD K x y H Q := w_neD h1.dp h2.dp t.shaped t'.shaped (by rw [TK.eqv]; exact q)
theorem w_eqTV (h1 : TVal H t x) (h2 : TVal H t' y) (q : Q (.bl (decide (t = t'))) H) : rEqD K x y H Q := w_eqD h1.dp h2.dp t.shaped t'.shaped (by rw [TK.eqv]; exact q)
end
abbrev Rw := Str × TK × Int
def Rw.data (r : Rw) : PyData := .tuple [.str r.1, r.2.1.data, .int r.2.2]
/-- the value v is the row r -/
def RowAt (H : Hp) (r : Rw) (v : V) : Prop := ∃ a x, v = .ref a ∧ H a = some (.tup [.str r.1, x, .int r.2.2]) ∧ TVal H r.2.1 x
section
variable {H H' : Hp} {K : PySem.W.Frag} {r r' : Rw} {v x y : V} {Q : VK} {rs : List Rw} {vs : List V}
theorem RowAt.mono (m : ∀ c xs, H c = some (.tup xs) → H' c = some (.tup xs)) (e : RowAt H r v) : RowAt H' r v := let ⟨a, x, e1, e2, e3⟩ := e; ⟨a, x, e1, m _ _ e2, e3.mono m⟩
theorem RowAt.dp (e : RowAt H r v) : Dp K H v r.data := by
  obtain ⟨a, x, rfl, e, t⟩ := e
  exact .tup (st_of e) (.cons (.str _) (.cons t.dp (.cons (.int _) .nil)))
theorem rows_dp (h : Paired (RowAt H) rs vs) : DpAll K H vs (rs.map Rw.data) := by
  induction h with
  | nil => exact .nil
  | cons a _ ih => exact .cons a.dp ih
theorem Rw.lay (ok : PyData.strOk r.1 = true) : r.data.canLay0 = true ∧ PyData.depth r.data ≤ 2 := by
  have l := r.2.1.lay
  refine ⟨?_, ?_⟩
  · simp [Rw.data, PyData.canLay0, PyData.canLayAll0, ok, l.1]
  · have l2 := l.2
    simp only [Rw.data, PyData.depth, PyData.depthAll]
    omega
theorem Rw.shaped (ok : PyData.strOk r.1 = true) : SeqAt.shaped r.data = true := by
  have l := Rw.lay ok
  unfold SeqAt.shaped
  rw [l.1, decide_eq_true (Nat.le_trans l.2 (by decide))]
  rfl
theorem rows_lay : ∀ {rs : List Rw}, (∀ r ∈ rs, PyData.strOk r.1 = true) → PyData.canLayAll0 (rs.map Rw.data) = true ∧ PyData.depthAll (rs.map Rw.data) ≤ 2
  | [], _ => ⟨rfl, Nat.zero_le _⟩
  | r :: rs, ok => by
    have l := Rw.lay (ok r (List.mem_cons_self ..))
    have m := rows_lay fun r h => ok r (List.mem_cons_of_mem _ h)
    rw [List.map_cons, PyData.canLayAll0, PyData.depthAll, l.1, m.1]
    exact ⟨rfl, Nat.max_le.mpr ⟨l.2, m.2⟩⟩
theorem rows_shaped (ok : ∀ r ∈ rs, PyData.strOk r.1 = true) : SeqAt.shaped (.list (rs.map Rw.data)) = true := by
  have l := rows_lay ok
  unfold SeqAt.shaped
  rw [show (PyData.list (rs.map Rw.data)).canLay0 = true from l.1, show PyData.depth (PyData.list (rs.map Rw.data)) = PyData.depthAll (rs.map Rw.data) + 1 from rfl, decide_eq_true (Nat.le_trans (Nat.succ_le_succ l.2) (by decide))]
  rfl
theorem Rw.eqv (r r' : Rw) : PyData.eqv r.data r'.data = decide (r = r') := by
  obtain ⟨k, t, d⟩ := r
  obtain ⟨k', t', d'⟩ := r'
  simp only [Rw.data, PyData.eqv, PyData.eqvAll, TK.eqv, Bool.and_true]
  rw [Bool.eq_iff_iff]
  simp [Prod.ext_iff]
theorem w_notInRows {p : Addr} (hv : RowAt H r v) (hp : SqL K H p vs) (hr : Paired (RowAt H) rs vs) (ok1 : PyData.strOk r.1 = true) (ok : ∀ r ∈ rs, PyData.strOk r.1 = true) (q : Q (.bl (!decide (r ∈ rs))) H) : rNotInD K v (.ref p) H Q := by
  refine ⟨r.data, rs.map Rw.data, hv.dp, .lst hp (rows_dp hr), Rw.shaped ok1, rows_shaped ok, ?_⟩
  have e : ((rs.map Rw.data).any fun z => PyData.eqv z r.data) = decide (r ∈ rs) := by
    rw [List.any_map, Bool.eq_iff_iff, List.any_eq_true, decide_eq_true_iff]
    constructor
    · rintro ⟨z, hz, e⟩
      rw [Function.comp_apply, Rw.eqv, decide_eq_true_iff] at e
      exact e ▸ hz
    · exact fun h => ⟨r, h, by rw [Function.comp_apply, Rw.eqv, decide_eq_true rfl]⟩
  rw [e]
  exact q
end
section
variable (K : PySem.W.Frag) {X : Cx}
theorem kNotInD (hu : X.A.units + 65 < cLine) (h : X.K = K := by rfl) : OpR X (compareOp .NotIn) (rNotInD K) := h ▸ op_notInD hu
end
theorem units65 {k : Nat} {A : Around} (hr : Room k A) : A.units + 65 < cLine := by have := hr.un; omega
theorem w_dnew {σ : St} {H : Hp} {Q : VK} (q : ∀ p H2, H p = none → Ex H H2 → H2 p = some (.dK []) → Q (.ref p) H2) : tDNewK σ H Q := fun p hp => q p _ hp (Ex.new hp) upd_same
theorem m_bkPut {P : Program} {w : World} {td ty tv : TE} {nx : St → Hp → Prop} {rt : VK} {bk ct : St → Hp → Prop} {σ : St} {H : Hp} (h : tv σ H fun v H1 => td σ H1 fun x H2 => ty σ H2 fun y H3 => ∃ a, x = .ref a ∧ BkPut P w a y v H3 (nx σ)) :
    Sm (sBkPut P w td ty tv) nx rt bk ct σ H := h
theorem w_bkSetd {P : Program} {w : World} {td ty tx : TE} {σ : St} {H : Hp} {Q : VK} (h : td σ H fun x H1 => BkIn P w x H1 fun a => ty σ H1 fun y H2 => tx σ H2 fun z H3 => BkSetd P w a y z H3 Q) : tBkSetd P w td ty tx σ H Q := h
/-! ### what a call on a book keeps: all but the book and dicts -/
def mutB : HO → Bool
  | .dK _ | .dT _ | .ext _ => true
  | _ => false
def KeepB (p : Addr) (H H' : Hp) : Prop := ∀ b o, b ≠ p → H b = some o → mutB o = false → H' b = some o
section
variable {p d : Addr} {H H1 H2 : Hp} {P : Program} {w : World} {K : PySem.W.Frag} {xs : List V}
theorem KeepB.of (e : Ex H H1) : KeepB p H H1 := fun b o _ h _ => e b o h
theorem KeepB.but (e : ExBut p H H1) : KeepB p H H1 := fun b o n h _ => e b o n h
theorem KeepB.trans (a : KeepB p H H1) (b : KeepB p H1 H2) : KeepB p H H2 := fun c o n h m => b c o n (a c o n h m) m
theorem bk_is {kvs : List (BK × V)} (e : BkAt P w H d kvs) : ∃ o, H d = some o ∧ mutB o = true := by
  rcases e with ⟨_, e⟩ | ⟨_, e, _⟩ <;> exact ⟨_, e, rfl⟩
theorem KeepB.dict {kvs : List (BK × V)} (e : BkAt P w H d kvs) (m : ExBut d H H1) : KeepB p H H1 := fun b o _ h z => by
  refine m b o ?_ h
  rintro rfl
  obtain ⟨o', e1, e2⟩ := bk_is e
  rw [h] at e1
  cases e1
  rw [z] at e2
  cases e2
theorem KeepB.tup {C dx : Addr} {fs : List (Str × V)} (k : KeepB p H H1) (hp : H p = some (.ins C dx fs)) (c : Addr) (zs : List V) (h : H c = some (.tup zs)) : H1 c = some (.tup zs) :=
  k c _ (by rintro rfl; rw [hp] at h; cases h) h rfl
theorem KeepB.lst {C dx : Addr} {fs : List (Str × V)} (k : KeepB p H H1) (hp : H p = some (.ins C dx fs)) (c : Addr) (zs : List V) (h : H c = some (.lst zs)) : H1 c = some (.lst zs) :=
  k c _ (by rintro rfl; rw [hp] at h; cases h) h rfl
theorem KeepB.sqL {C dx : Addr} {fs : List (Str × V)} (k : KeepB p H H1) (hp : H p = some (.ins C dx fs)) {c : Addr} (h : SqL K H c xs) : SqL K H1 c xs := by
  rcases h with (h | ⟨o, h⟩) | h
  · exact .inl (.inl (k.lst hp c _ h))
  · exact .inl (.inr ⟨o, k c _ (by rintro rfl; rw [hp] at h; cases h) h rfl⟩)
  · exact .inr h
end
end Kit

namespace Kit
open PySem PySem.Spec PyProof.Rows L2 Evl
theorem paired_get {α β : Type} {F : α → β → Prop} {l : List α} {m : List β} (h : Paired F l m) : ∀ {i : Nat} {v : β}, m[i]? = some v → ∃ r, l[i]? = some r ∧ F r v := by
  induction h with
  | nil => intro i v h; simp at h
  | cons a t ih =>
    intro i v h
    cases i with
    | zero =>
      rw [List.getElem?_cons_zero] at h
      exact ⟨_, rfl, Option.some.inj h ▸ a⟩
    | succ i =>
      rw [List.getElem?_cons_succ] at h
      exact ih h
/-- [x for x in xs if ..], the test leaving the heap -/
theorem l_filter {K : PySem.W.Frag} {a : Addr} {xs : List V} {vs : List Nat} {σ : St} {j : Nat} {tt : TT} {te : TE} {H : Hp} {Q : VK} (hx : SqL K H a xs) (hn : xs.length ≤ 40000) (hw : ∀ v, wipe ((wipe σ vs).set j (some v)) vs = wipe σ vs) (b : Nat → Bool)
    (ht : ∀ i x H', xs[i]? = some x → Ex H H' → ∀ R : Bool → Hp → Prop, R (b i) H' → tt ((wipe σ vs).set j (some x)) H' R) (he : ∀ x H' (R : VK), R x H' → te ((wipe σ vs).set j (some x)) H' R)
    (q : ∀ p H2 ys, H p = none → Ex H H2 → H2 p = some (.lst ys) → (∀ y ∈ ys, ∃ i, xs[i]? = some y ∧ b i = true) → (ys = [] → ∀ i, i < xs.length → b i = false) → ys.length ≤ xs.length → Q (.ref p) H2) :
    ∃ c, V.ref a = .ref c ∧ (∃ ys, SqL K H c ys) ∧ Lcj (Itl K c) (gName j) tt te vs σ H Q := by
  refine ⟨a, rfl, ⟨xs, hx⟩, l_any walks_list hn hw (fun D i acc H' => H D = none ∧ Ex H H' ∧ (∀ y ∈ acc, ∃ k, xs[k]? = some y ∧ b k = true) ∧ (acc = [] → ∀ k, k < i → b k = false)) (fun D i acc H' h => ex_l h.2.1 hx) (fun D hD => ⟨hD, Ex.new hD, fun y h => (nomatch h), fun _ k h => (nomatch h)⟩) ?_ ?_⟩
  · intro D i acc H' hD hi ha hd ⟨_, e, h1, h2⟩ R r1 r2
    have z : xs[i]? = some xs[i] := List.getElem?_eq_getElem hi
    show tt ((wipe σ vs).set j (some ((xs[i]?).getD .non))) H' R
    rw [z]
    refine ht i xs[i] H' z e R ?_
    cases hb : b i with
    | false =>
      refine r1 H' hd ⟨hD, e, h1, fun hz k hk => ?_⟩
      by_cases h : k < i
      · exact h2 hz k h
      · rw [show k = i from by omega]; exact hb
    | true =>
      refine r2 H' fun R2 r => ?_
      show te ((wipe σ vs).set j (some ((xs[i]?).getD .non))) H' R2
      rw [z]
      refine he xs[i] H' R2 (r xs[i] H' hd ⟨hD, ExBut.ex e hD (ExBut.upd (ExBut.refl D H')), fun y hy => ?_, fun hz => by simp at hz⟩)
      rcases List.mem_append.mp hy with hy | hy
      · exact h1 y hy
      · rw [List.mem_singleton.mp hy]
        exact ⟨i, z, hb⟩
  · intro D acc H2 hD hl hd ⟨_, e, h1, h2⟩
    exact q D H2 acc hD e hd h1 h2 hl
end Kit

namespace Kit
open PySem PySem.Spec PyProof.Rows L2 Evl
/-- a statement, then the rest, with what stands between them said -/
theorem m_cutN {a b : TS} {nx bk ct : St → Hp → Prop} {rt : VK} {σ : St} {H : Hp} (M : St → Hp → Prop) (k : ∀ N : St → Hp → Prop, (∀ σ H, M σ H → N σ H) → Sm a N rt bk ct σ H) (h : ∀ σ H, M σ H → Sm b nx rt bk ct σ H) : Sm (tSeq a b) nx rt bk ct σ H := k _ h
end Kit

namespace Kit
open PySem PySem.Spec PyProof.Rows L2 Evl
section
variable {σ : St} {H : Hp} {Q : VK} {ta tb tc : TE} {r r' : R2} {a b : Bool}
theorem w_chain (h : ta σ H fun x H1 => tb σ H1 fun y H2 => r x y H2 fun z H3 => ∃ k, z = .bl k ∧ (if k = true then tc σ H3 fun w' H4 => r' y w' H4 Q else Q (.bl false) H3)) : tChain r r' ta tb tc σ H Q := h
theorem w_isB (q : Q (.bl (decide (a = b))) H) : rIsB (.bl a) (.bl b) H Q := ⟨a, b, rfl, rfl, q⟩
theorem w_notB (q : Q (.bl (!decide (a = b))) H) : rNotB (.bl a) (.bl b) H Q := ⟨a, b, rfl, rfl, q⟩
end
theorem foldl_take {α β : Type} {f : β → α → β} {l : List α} {i : Nat} {x : α} {b : β} (h : l[i]? = some x) : (l.take (i + 1)).foldl f b = f ((l.take i).foldl f b) x := by
  rw [List.take_succ, h, List.foldl_append]
  rfl
end Kit

set_option Elab.async false
set_option linter.all false
set_option maxRecDepth 100000
set_option maxHeartbeats 4000000
/-! what a call on a book keeps: all but the book and its own dicts; and nothing goes away -/
namespace Kit
open PySem PySem.Spec PyProof.Rows L2 Evl
def mutE : HO → Bool
  | .dK _ | .ext _ => true
  | _ => false
def KeepE (p : Addr) (H H' : Hp) : Prop := (∀ b o, b ≠ p → H b = some o → mutE o = false → H' b = some o) ∧ ∀ b, H' b = none → H b = none
section
variable {p d : Addr} {H H1 H2 : Hp} {P : Program} {w : World} {K : PySem.W.Frag} {xs : List V} {o : HO}
theorem KeepE.of (e : Ex H H1) : KeepE p H H1 := ⟨fun b o _ h _ => e b o h, fun _ h => fresh_back e h⟩
theorem back_but {a : Addr} (e : ExBut a H H1) (h : H1 a = some o) : ∀ b, H1 b = none → H b = none := fun b hb => by
  cases hh : H b with
  | none => rfl
  | some o' =>
    by_cases z : b = a
    · rw [z, h] at hb; cases hb
    · rw [e b o' z hh] at hb; cases hb
theorem KeepE.but (e : ExBut p H H1) (h : H1 p = some o) : KeepE p H H1 := ⟨fun b o n h _ => e b o n h, back_but e h⟩
theorem KeepE.trans (a : KeepE p H H1) (b : KeepE p H1 H2) : KeepE p H H2 := ⟨fun c o n h m => b.1 c o n (a.1 c o n h m) m, fun x h => a.2 x (b.2 x h)⟩
theorem bk_isE {kvs : List (BK × V)} (e : BkAt P w H d kvs) : ∃ o, H d = some o ∧ mutE o = true := by
  rcases e with ⟨_, e⟩ | ⟨_, e, _⟩ <;> exact ⟨_, e, rfl⟩
theorem KeepE.dict {kvs : List (BK × V)} (e : BkAt P w H d kvs) (m : ExBut d H H1) (h : H1 d = some o) : KeepE p H H1 := by
  refine ⟨fun b o2 _ hb z => m b o2 ?_ hb, back_but m h⟩
  rintro rfl
  obtain ⟨o3, e1, e2⟩ := bk_isE e
  rw [hb] at e1
  cases e1
  rw [z] at e2
  cases e2
theorem KeepE.tup {C dx : Addr} {fs : List (Str × V)} (k : KeepE p H H1) (hp : H p = some (.ins C dx fs)) (c : Addr) (zs : List V) (h : H c = some (.tup zs)) : H1 c = some (.tup zs) :=
  k.1 c _ (by rintro rfl; rw [hp] at h; cases h) h rfl
theorem KeepE.lst {C dx : Addr} {fs : List (Str × V)} (k : KeepE p H H1) (hp : H p = some (.ins C dx fs)) (c : Addr) (zs : List V) (h : H c = some (.lst zs)) : H1 c = some (.lst zs) :=
  k.1 c _ (by rintro rfl; rw [hp] at h; cases h) h rfl
theorem KeepE.sqL {C dx : Addr} {fs : List (Str × V)} (k : KeepE p H H1) (hp : H p = some (.ins C dx fs)) {c : Addr} (h : SqL K H c xs) : SqL K H1 c xs := by
  rcases h with (h | ⟨o, h⟩) | h
  · exact .inl (.inl (k.lst hp c _ h))
  · exact .inl (.inr ⟨o, k.1 c _ (by rintro rfl; rw [hp] at h; cases h) h rfl⟩)
  · exact .inr h
end
end Kit

set_option Elab.async false
set_option linter.all false
set_option maxRecDepth 100000
set_option maxHeartbeats 4000000
namespace My
open PySem PySem.Spec PyProof.Rows L2
/-! ### the walk: "wp" goes as far as it can, "wp1" one step; "hp": what stands at an address; "ex": a heap grown; "sqL", "sqT": a list, a tuple to be read; "side": a side condition; "ix": an item -/
local macro_rules | `(tactic| walk_at "hp") => `(tactic| first | with_reducible assumption | exact Kit.ex_get (by with_reducible assumption) (by walk_at "hp") | fail)
local macro_rules | `(tactic| walk_at "ex") => `(tactic| first | with_reducible assumption | with_reducible exact Evl.Ex.refl _ | exact Kit.ex_snoc (by with_reducible assumption) (by walk_at "ex") | exact Kit.ex_but (by with_reducible assumption) (by with_reducible assumption) (by walk_at "ex") | fail)
local macro_rules | `(tactic| walk_at "but") => `(tactic| first | with_reducible assumption | with_reducible exact Kit.ExBut.refl _ _ | exact Kit.but_snoc (by with_reducible assumption) (by walk_at "but") | exact Kit.but_snocE (by with_reducible assumption) (by walk_at "but") | fail)
local macro_rules | `(tactic| walk_at "sqL") => `(tactic| first | with_reducible assumption | exact Evl.sq_of (by with_reducible assumption) | exact Evl.ex_l (by with_reducible assumption) (by walk_at "sqL") | fail)
local macro_rules | `(tactic| walk_at "sqT") => `(tactic| first | with_reducible assumption | exact Evl.st_of (by with_reducible assumption) | exact Evl.ex_t (by with_reducible assumption) (by walk_at "sqT") | fail)
local macro_rules | `(tactic| walk_at "sq2") => `(tactic| first | with_reducible assumption | exact Or.inr (Evl.st_of (by with_reducible assumption)) | exact Or.inl (Evl.sq_of (by with_reducible assumption)) | exact Or.inl (by walk_at "sqL") | exact Or.inr (by walk_at "sqT") | fail)
local macro_rules | `(tactic| walk_at "len") => `(tactic| (first | assumption | omega | fail))
local macro_rules | `(tactic| walk_at "len2") => `(tactic| first | exact Nat.le_of_ble_eq_true rfl | omega | (simp; omega) | fail)
local macro_rules | `(tactic| walk_at "side") => `(tactic| first | (with_reducible exact trivial) | (show (0 : Int) < _; omega) | (show (0 : Int) < _; decide) | (show L2.CDiv _ _; exact ⟨by omega, by omega⟩) | (show L2.CMul _ _; exact .inr ⟨by omega, by omega⟩) | (show L2.CMul _ _; exact .inl ⟨by omega, by omega⟩) | (show L2.CDivW _ _; exact Kit.divW (by omega) (by omega)) | (show L2.CDivW _ _; exact Kit.divW (by decide) (by decide)) | (show L2.CPow _ _; exact ⟨by decide, by decide, by decide⟩) | fail)
local macro_rules | `(tactic| walk_at "ix") => `(tactic| first | exact L2.atI_nat (j := 0) rfl | exact L2.atI_nat (j := 1) rfl | exact L2.atI_nat (j := 2) rfl | exact L2.atI_nat (j := 3) rfl | exact L2.atI_nat (j := 4) rfl | exact L2.atI_nat (j := 5) rfl | assumption | fail)
local macro_rules | `(tactic| walk_at "norm") => `(tactic| ((with_reducible show Kit.Sm _ _ _ _ _ (List.set _ _ _) _); refine Kit.m_norm (by simp only [List.set_cons_succ, List.set_cons_zero]; exact rfl) ?_))
local macro_rules | `(tactic| walk_at "wpA") => `(tactic| first
  | with_reducible refine Kit.i_R ?_
  | ((with_reducible refine Kit.i_D ?_ ?_) <;> intro _)
  | ((with_reducible show L2.rI _ _ _ _ _ _); refine Kit.w_I (by walk_at "side") ?_)
  | ((with_reducible show Kit.Alloc _ _ _ _); refine Kit.w_new (by first | exact Nat.le_of_ble_eq_true rfl | walk_at "len") ?_; intro _ _ _ _ _)
  | ((with_reducible show L2.rIxL _ _ (V.int _) _ _); refine Kit.w_ixL (by walk_at "sqL") (by walk_at "ix") ?_)
  | ((with_reducible show L2.rIxT _ _ (V.int _) _ _); refine Kit.w_ixT (by walk_at "sqT") (by walk_at "ix") ?_)
  | ((with_reducible show L2.rIn _ false _ _ _ _); first | refine Kit.w_inLt (by walk_at "sq2") (by decide +kernel) ?_ | refine Kit.w_inLf (by walk_at "sq2") (by decide +kernel) ?_)
  | ((with_reducible show L2.rEq (V.str _) _ _ _); first | with_reducible refine Kit.w_eqS ?_ | refine Kit.w_eqSF (by decide +kernel) ?_)
  | fail)
local macro_rules | `(tactic| walk_at "wpB") => `(tactic| first
  | ((with_reducible show L2.rSlL _ _ _ _ _ _); refine Kit.w_slL (by walk_at "sqL") ?_; intro _ _ _ _ _)
  | ((with_reducible show L2.rSlA _ _ _ _ _ _); refine Kit.w_slT (by walk_at "sqT") ?_; intro _ _ _ _)
  | ((with_reducible show L2.rCatA _ _ _ _ _); refine Kit.w_catT (by walk_at "sqT") (by walk_at "sqT") (by walk_at "len2") ?_; intro _ _ _ _)
  | ((with_reducible show L2.rCat _ _ _ _); refine Kit.w_catL (by walk_at "hp") (by walk_at "hp") (by walk_at "len2") ?_; intro _ _ _ _ _)
  | ((with_reducible show L2.tyV _ "list" _ _ ∧ _); refine Kit.w_tyL (by walk_at "sqL") ?_)
  | ((with_reducible refine Kit.w_made ?_); intro _ _ _ _ _ _)
  | ((with_reducible show Evl.rLenS _ _ _ _); refine Kit.w_len (by walk_at "sq2") ?_)
  | ((with_reducible show Evl.rListS _ _ _ _); refine Kit.w_list (by walk_at "sq2") ?_; intro _ _ _ _ _)
  | ((with_reducible show Kit.rTupS _ _ _ _); first | (refine Kit.w_tuple (by walk_at "sqL") ?_; intro _ _ _ _ _) | refine Kit.w_tupleT (by walk_at "sqT") ?_)
  | ((with_reducible show L2.rSetL _ (V.int _) _ _ _); refine Kit.w_setL (by walk_at "hp") (by first | exact rfl | exact Evl.ixN_nat (by omega)) (by first | (simp only [List.set_cons_succ, List.set_cons_zero]; exact rfl) | exact rfl) ?_; intro _ _ _)
  | ((with_reducible show L2.rNeD _ _ _ _ _); first | refine Kit.w_neTT (by walk_at "sqT") (by walk_at "sqT") ?_ | refine Kit.w_neLL (by walk_at "sqL") (by walk_at "sqL") ?_)
  | ((with_reducible show L2.rEqD _ _ _ _ _); first | refine Kit.w_eqTT (by walk_at "sqT") (by walk_at "sqT") ?_ | refine Kit.w_eqLL (by walk_at "sqL") (by walk_at "sqL") ?_)
  | fail)
local macro_rules | `(tactic| walk_at "wpC") => `(tactic| first
  | with_reducible refine Kit.w_intB ?_
  | ((with_reducible show L2.rIsi _ _ _ _); first | refine Kit.w_isiInt (b := true) (by decide +kernel) ?_ | refine Kit.w_isiInt (b := false) (by decide +kernel) ?_ | refine Kit.w_isiNon (b := true) (by decide +kernel) ?_ | refine Kit.w_isiNon (b := false) (by decide +kernel) ?_ | refine Kit.w_isiBl (b := true) (by decide +kernel) ?_ | refine Kit.w_isiBl (b := false) (by decide +kernel) ?_ | refine Kit.w_isiStr (b := true) (by decide +kernel) ?_ | refine Kit.w_isiStr (b := false) (by decide +kernel) ?_ | refine Kit.w_isiTup (b := true) (by walk_at "sqT") (by decide +kernel) ?_ | refine Kit.w_isiTup (b := false) (by walk_at "sqT") (by decide +kernel) ?_ | refine Kit.w_isiLst (b := true) (by walk_at "sqL") (by decide +kernel) ?_ | refine Kit.w_isiLst (b := false) (by walk_at "sqL") (by decide +kernel) ?_)
  | with_reducible refine Kit.m_gsub ?_
  | with_reducible refine Kit.w_dget ?_
  | ((with_reducible refine Kit.w_disp ?_); intro _ _ _ _ _)
  | with_reducible refine Kit.w_pp ?_
  | with_reducible refine Kit.w_pn ?_
  | fail)
local macro_rules | `(tactic| walk_at "wpS") => `(tactic| first
  | ((with_reducible show L2.tVar _ _ _ _); refine Kit.w_var rfl ?_)
  | with_reducible refine Kit.w_op ?_
  | with_reducible refine Kit.w_c ?_
  | with_reducible refine Kit.w_cons ?_
  | with_reducible refine Kit.w_nil ?_
  | ((with_reducible show Kit.Sm _ _ _ _ _ _ _); first
      | ((with_reducible show Kit.Sm _ _ _ _ _ (List.set _ _ _) _); refine Kit.m_norm (by simp only [List.set_cons_succ, List.set_cons_zero]; exact rfl) ?_)
      | with_reducible refine Kit.m_seq ?_
      | with_reducible refine Kit.m_asg ?_
      | with_reducible refine Kit.m_if ?_
      | with_reducible refine Kit.m_ret ?_
      | with_reducible refine Kit.m_next ?_
      | with_reducible refine Kit.m_asgG ?_
      | with_reducible refine Kit.m_drop ?_
      | with_reducible refine Kit.m_fld ?_
      | with_reducible refine Kit.m_for ?_
      | with_reducible refine Kit.m_retN ?_
      | with_reducible refine Kit.m_cont ?_
      | with_reducible refine Kit.m_brk ?_)
  | with_reducible refine Kit.w_test ?_
  | with_reducible refine Kit.w_bl ?_
  | with_reducible refine Kit.w_blE ?_
  | with_reducible refine Kit.w_I0 ?_
  | with_reducible refine Kit.w_eqI ?_
  | with_reducible refine Kit.i_T ?_
  | with_reducible refine Kit.i_F ?_
  | with_reducible refine Kit.i_N ?_
  | with_reducible refine Kit.w_cb ?_
  | with_reducible refine Kit.w_call0 ?_
  | with_reducible refine Kit.w_tup ?_
  | with_reducible refine Kit.w_lst ?_
  | with_reducible refine Kit.w_int ?_
  | with_reducible refine Kit.w_not ?_
  | with_reducible refine Kit.w_and ?_
  | with_reducible refine Kit.w_or ?_
  | with_reducible refine Kit.w_B ?_
  | with_reducible refine Kit.w_ifE ?_
  | with_reducible refine Kit.w_fld ?_
  | with_reducible refine Kit.w_meth ?_
  | with_reducible refine Kit.w_sl ?_
  | with_reducible refine Kit.w_po ?_
  | with_reducible refine Kit.w_ps ?_
  | with_reducible refine Kit.w_pi ?_
  | with_reducible refine Kit.w_bm ?_
  | with_reducible refine Kit.w_bm0 ?_
  | with_reducible refine Kit.w_make ?_
  | with_reducible refine Kit.w_neI ?_
  | with_reducible refine Kit.w_un ?_
  | with_reducible refine Kit.w_U ?_
  | with_reducible refine Kit.w_andV ?_
  | with_reducible refine Kit.w_orV ?_
  | with_reducible refine Kit.w_notV ?_
  | with_reducible refine Kit.w_eqB ?_
  | with_reducible refine Kit.w_max ?_
  | with_reducible refine Kit.w_min ?_
  | with_reducible refine Kit.w_abs ?_
  | ((with_reducible show Kit.rIsNo _ _ _ _); first | with_reducible refine Kit.w_isNN ?_ | with_reducible refine Kit.w_isNI ?_ | with_reducible refine Kit.w_isNB ?_ | with_reducible refine Kit.w_isNR ?_)
  | ((with_reducible show Kit.rNotNo _ _ _ _); first | with_reducible refine Kit.w_notNN ?_ | with_reducible refine Kit.w_notNI ?_ | with_reducible refine Kit.w_notNB ?_ | with_reducible refine Kit.w_notNR ?_)
  | with_reducible refine Kit.w_rng1 ?_
  | with_reducible refine Kit.w_rng2 ?_
  | with_reducible refine Kit.w_rng3 ?_
  | with_reducible refine Kit.w_lc ?_
  | with_reducible refine Kit.w_itl ?_
  | with_reducible refine Kit.w_itt ?_
  | fail)
local macro_rules | `(tactic| walk_at "wpZ") => `(tactic| first
  | ((with_reducible refine Kit.i_B ?_ ?_) <;> intro _)
  | fail)
local macro_rules | `(tactic| walk_at "wp1") => `(tactic| first | walk_at "wpA" | walk_at "wpB" | walk_at "wpC" | walk_at "wpZ" | walk_at "wpS")
local macro_rules | `(tactic| walk_at "wp") => `(tactic| repeat' (first | with_reducible refine Kit.step ?_ | walk_at "wp1"))

/-! ### the text by places -/
def topS (i : Nat) : Stmt := PySem.Challenge.pw_onestepcourt_k08_memory.main.body.getD i (.Pass ⟨0, 0, 0, 0⟩)
abbrev s_root_of : Stmt := topS 3
abbrev N_root_of : List Str := ["digests", "row"]
theorem sc_root_of : FnScope N_root_of ["digests", "row"] (defScope s_root_of) := ⟨rfl, rfl, rfl, by decide +kernel, rfl, by decide +kernel, by decide +kernel⟩
abbrev s_path_of : Stmt := topS 4
abbrev N_path_of : List Str := ["digests", "row", "place"]
theorem sc_path_of : FnScope N_path_of ["digests", "row", "place"] (defScope s_path_of) := ⟨rfl, rfl, rfl, by decide +kernel, rfl, by decide +kernel, by decide +kernel⟩
abbrev s_levels_of : Stmt := topS 5
abbrev N_levels_of : List Str := ["digests", "row", "levels", "below", "k"]
theorem sc_levels_of : FnScope N_levels_of ["digests", "row"] (defScope s_levels_of) := ⟨rfl, rfl, rfl, by decide +kernel, rfl, by decide +kernel, by decide +kernel⟩
abbrev s_path_in : Stmt := topS 6
abbrev N_path_in : List Str := ["levels", "place", "path", "level", "neighbour"]
theorem sc_path_in : FnScope N_path_in ["levels", "place"] (defScope s_path_in) := ⟨rfl, rfl, rfl, by decide +kernel, rfl, by decide +kernel, by decide +kernel⟩
abbrev s_Memory___init : Stmt := inClass (topS 7) 0
abbrev N_Memory___init : List Str := ["self", "digests", "words", "word"]
theorem sc_Memory___init : FnScope N_Memory___init ["self", "digests", "words"] (defScope s_Memory___init) := ⟨rfl, rfl, rfl, by decide +kernel, rfl, by decide +kernel, by decide +kernel⟩
abbrev s_Memory_word : Stmt := inClass (topS 7) 1
abbrev N_Memory_word : List Str := ["self", "place"]
theorem sc_Memory_word : FnScope N_Memory_word ["self", "place"] (defScope s_Memory_word) := ⟨rfl, rfl, rfl, by decide +kernel, rfl, by decide +kernel, by decide +kernel⟩
abbrev s_Memory_change : Stmt := inClass (topS 7) 2
abbrev N_Memory_change : List Str := ["self", "place", "word", "at", "height", "below"]
theorem sc_Memory_change : FnScope N_Memory_change ["self", "place", "word"] (defScope s_Memory_change) := ⟨rfl, rfl, rfl, by decide +kernel, rfl, by decide +kernel, by decide +kernel⟩
abbrev s_Memory_words : Stmt := inClass (topS 7) 3
abbrev N_Memory_words : List Str := ["self"]
theorem sc_Memory_words : FnScope N_Memory_words ["self"] (defScope s_Memory_words) := ⟨rfl, rfl, rfl, by decide +kernel, rfl, by decide +kernel, by decide +kernel⟩
abbrev s_Memory_root : Stmt := inClass (topS 7) 4
abbrev N_Memory_root : List Str := ["self"]
theorem sc_Memory_root : FnScope N_Memory_root ["self"] (defScope s_Memory_root) := ⟨rfl, rfl, rfl, by decide +kernel, rfl, by decide +kernel, by decide +kernel⟩
abbrev s_Memory_path : Stmt := inClass (topS 7) 5
abbrev N_Memory_path : List Str := ["self", "place"]
theorem sc_Memory_path : FnScope N_Memory_path ["self", "place"] (defScope s_Memory_path) := ⟨rfl, rfl, rfl, by decide +kernel, rfl, by decide +kernel, by decide +kernel⟩
abbrev s_Digests___init : Stmt := inClass (topS 9) 0
abbrev N_Digests___init : List Str := ["self", "bits", "book"]
theorem sc_Digests___init : FnScope N_Digests___init ["self", "bits", "book"] (defScope s_Digests___init) := ⟨rfl, rfl, rfl, by decide +kernel, rfl, by decide +kernel, by decide +kernel⟩
abbrev s_Digests_leaf : Stmt := inClass (topS 9) 1
abbrev N_Digests_leaf : List Str := ["self", "word"]
theorem sc_Digests_leaf : FnScope N_Digests_leaf ["self", "word"] (defScope s_Digests_leaf) := ⟨rfl, rfl, rfl, by decide +kernel, rfl, by decide +kernel, by decide +kernel⟩
abbrev s_Digests_fold : Stmt := inClass (topS 9) 2
abbrev N_Digests_fold : List Str := ["self", "left", "right", "mixed", "digest"]
theorem sc_Digests_fold : FnScope N_Digests_fold ["self", "left", "right"] (defScope s_Digests_fold) := ⟨rfl, rfl, rfl, by decide +kernel, rfl, by decide +kernel, by decide +kernel⟩
abbrev s_Digests__noted : Stmt := inClass (topS 9) 7
abbrev N_Digests__noted : List Str := ["self", "kind", "text", "digest"]
theorem sc_Digests__noted : FnScope N_Digests__noted ["self", "kind", "text", "digest"] (defScope s_Digests__noted) := ⟨rfl, rfl, rfl, by decide +kernel, rfl, by decide +kernel, by decide +kernel⟩
abbrev s_Book___init : Stmt := inClass (topS 10) 0
abbrev N_Book___init : List Str := ["self"]
theorem sc_Book___init : FnScope N_Book___init ["self"] (defScope s_Book___init) := ⟨rfl, rfl, rfl, by decide +kernel, rfl, by decide +kernel, by decide +kernel⟩
abbrev s_Book_add : Stmt := inClass (topS 10) 1
abbrev N_Book_add : List Str := ["self", "kind", "text", "digest"]
theorem sc_Book_add : FnScope N_Book_add ["self", "kind", "text", "digest"] (defScope s_Book_add) := ⟨rfl, rfl, rfl, by decide +kernel, rfl, by decide +kernel, by decide +kernel⟩
abbrev s_Book_count : Stmt := inClass (topS 10) 3
abbrev N_Book_count : List Str := ["self"]
theorem sc_Book_count : FnScope N_Book_count ["self"] (defScope s_Book_count) := ⟨rfl, rfl, rfl, by decide +kernel, rfl, by decide +kernel, by decide +kernel⟩
abbrev s_law_draws : Stmt := topS 12
abbrev N_law_draws : List Str := ["script", "start", "most", "draws", "cell", "number", "mixed", "k"]
theorem sc_law_draws : FnScope N_law_draws ["script", "start", "most"] (defScope s_law_draws) := ⟨rfl, rfl, rfl, by decide +kernel, rfl, by decide +kernel, by decide +kernel⟩
abbrev s_law_levels : Stmt := topS 13
abbrev N_law_levels : List Str := ["digests", "row", "levels", "last", "word", "k"]
theorem sc_law_levels : FnScope N_law_levels ["digests", "row"] (defScope s_law_levels) := ⟨rfl, rfl, rfl, by decide +kernel, rfl, by decide +kernel, by decide +kernel⟩
abbrev s_law_told : Stmt := topS 14
abbrev N_law_told : List Str := ["texts", "levels", "row", "places", "place", "level", "pair"]
theorem sc_law_told : FnScope N_law_told ["texts", "levels", "row", "places"] (defScope s_law_told) := ⟨rfl, rfl, rfl, by decide +kernel, rfl, by decide +kernel, by decide +kernel⟩
abbrev s_law : Stmt := topS 15
abbrev N_law : List Str := ["script", "draws", "digests", "size", "row", "book", "memory", "texts", "draw", "place", "word", "other", "leaves", "k", "one"]
theorem sc_law : FnScope N_law ["script"] (defScope s_law) := ⟨rfl, rfl, rfl, by decide +kernel, rfl, by decide +kernel, by decide +kernel⟩
/-! ### what the top has written -/
structure Txt (K : PySem.W.Frag) (mg : Str → Option Value) where
  f_root_of : Kit.GFn' K mg "root_of" "root_of" s_root_of ["digests", "row"]
  f_path_of : Kit.GFn' K mg "path_of" "path_of" s_path_of ["digests", "row", "place"]
  f_levels_of : Kit.GFn' K mg "levels_of" "levels_of" s_levels_of ["digests", "row"]
  f_path_in : Kit.GFn' K mg "path_in" "path_in" s_path_in ["levels", "place"]
  f_Memory___init : Kit.GFn K "__init__" "Memory.__init__" s_Memory___init ["self", "digests", "words"]
  f_Memory_word : Kit.GFn K "word" "Memory.word" s_Memory_word ["self", "place"]
  f_Memory_change : Kit.GFn K "change" "Memory.change" s_Memory_change ["self", "place", "word"]
  f_Memory_words : Kit.GFn K "words" "Memory.words" s_Memory_words ["self"]
  f_Memory_root : Kit.GFn K "root" "Memory.root" s_Memory_root ["self"]
  f_Memory_path : Kit.GFn K "path" "Memory.path" s_Memory_path ["self", "place"]
  f_Digests___init : Kit.GFn K "__init__" "Digests.__init__" s_Digests___init ["self", "bits", "book"]
  f_Digests_leaf : Kit.GFn K "leaf" "Digests.leaf" s_Digests_leaf ["self", "word"]
  f_Digests_fold : Kit.GFn K "fold" "Digests.fold" s_Digests_fold ["self", "left", "right"]
  f_Digests__noted : Kit.GFn K "_noted" "Digests._noted" s_Digests__noted ["self", "kind", "text", "digest"]
  f_Book___init : Kit.GFn K "__init__" "Book.__init__" s_Book___init ["self"]
  f_Book_add : Kit.GFn K "add" "Book.add" s_Book_add ["self", "kind", "text", "digest"]
  f_Book_count : Kit.GFn K "count" "Book.count" s_Book_count ["self"]
  f_law_draws : Kit.GFn' K mg "_law_draws" "_law_draws" s_law_draws ["script", "start", "most"]
  f_law_levels : Kit.GFn' K mg "_law_levels" "_law_levels" s_law_levels ["digests", "row"]
  f_law_told : Kit.GFn' K mg "_law_told" "_law_told" s_law_told ["texts", "levels", "row", "places"]
  f_law : Kit.GFn' K mg "law" "law" s_law ["script"]
  c_Memory : Kit.GCl K mg "Memory" f_Memory___init.f
  m_Memory_word : Meth K c_Memory.C "word" f_Memory_word.f
  m_Memory_change : Meth K c_Memory.C "change" f_Memory_change.f
  m_Memory_words : Meth K c_Memory.C "words" f_Memory_words.f
  m_Memory_root : Meth K c_Memory.C "root" f_Memory_root.f
  m_Memory_path : Meth K c_Memory.C "path" f_Memory_path.f
  n_Memory_digests : NoAttr K c_Memory.C "_digests"
  n_Memory_words : NoAttr K c_Memory.C "_words"
  n_Memory_levels : NoAttr K c_Memory.C "_levels"
  c_Digests : Kit.GCl K mg "Digests" f_Digests___init.f
  m_Digests_leaf : Meth K c_Digests.C "leaf" f_Digests_leaf.f
  m_Digests_fold : Meth K c_Digests.C "fold" f_Digests_fold.f
  m_Digests__noted : Meth K c_Digests.C "_noted" f_Digests__noted.f
  n_Digests_bits : NoAttr K c_Digests.C "_bits"
  n_Digests_book : NoAttr K c_Digests.C "_book"
  n_Digests_modulus : NoAttr K c_Digests.C "_modulus"
  c_Book : Kit.GCl K mg "Book" f_Book___init.f
  m_Book_add : Meth K c_Book.C "add" f_Book_add.f
  m_Book_count : Meth K c_Book.C "count" f_Book_count.f
  n_Book_texts : NoAttr K c_Book.C "_texts"
  n_Book_firsts : NoAttr K c_Book.C "_firsts"
  n_Book_collided : NoAttr K c_Book.C "_collided"
  t_PLACES : Tok
  g_PLACES : mg "PLACES" = some (.int 256 t_PLACES)
  z_abs : mg "abs" = none
  z_int : mg "int" = none
  z_len : mg "len" = none
  z_list : mg "list" = none
  z_range : mg "range" = none
  z_tuple : mg "tuple" = none
def fl_Memory (v0 v1 v2 : V) : List (Str × V) := [("_digests", v0), ("_words", v1), ("_levels", v2)]
section
variable {K : PySem.W.Frag} {mg : Str → Option Value} {H : Hp} {p C dx : Addr} {v0 v1 v2 : V} {Q : VK} {R : Prop}
theorem rd_Memory_digests (T : Txt K mg) (h : H p = some (.ins T.c_Memory.C dx (fl_Memory v0 v1 v2))) (q : Q v0 H) : Kit.FldOf K "_digests" (.ref p) H Q := Kit.w_rd h T.c_Memory.cl T.n_Memory_digests rfl q
theorem pt_Memory_digests (T : Txt K mg) {y : V} {W : Hp → Prop} (h : H p = some (.ins T.c_Memory.C dx (fl_Memory v0 v1 v2))) (q : ∀ H2, Kit.ExBut p H H2 → H2 p = some (.ins T.c_Memory.C dx (fl_Memory y v1 v2)) → W H2) : Kit.PutOf K "_digests" y (.ref p) H W := Kit.w_put h T.c_Memory.cl T.n_Memory_digests (Nat.lt_of_lt_of_le (Nat.lt_of_le_of_lt (Nat.le_refl 3) (by decide : 3 < 100)) (by decide)) rfl q
theorem in_Memory_digests (T : Txt K mg) {y : V} {W : Hp → Prop} (h : H p = some (.ins T.c_Memory.C dx [])) (q : ∀ H2, Kit.ExBut p H H2 → H2 p = some (.ins T.c_Memory.C dx ([("_digests", y)])) → W H2) : Kit.PutOf K "_digests" y (.ref p) H W := Kit.w_put h T.c_Memory.cl T.n_Memory_digests (Nat.lt_of_lt_of_le (Nat.lt_of_le_of_lt (Nat.le_refl 0) (by decide : 0 < 100)) (by decide)) rfl q
theorem rd_Memory_words (T : Txt K mg) (h : H p = some (.ins T.c_Memory.C dx (fl_Memory v0 v1 v2))) (q : Q v1 H) : Kit.FldOf K "_words" (.ref p) H Q := Kit.w_rd h T.c_Memory.cl T.n_Memory_words rfl q
theorem pt_Memory_words (T : Txt K mg) {y : V} {W : Hp → Prop} (h : H p = some (.ins T.c_Memory.C dx (fl_Memory v0 v1 v2))) (q : ∀ H2, Kit.ExBut p H H2 → H2 p = some (.ins T.c_Memory.C dx (fl_Memory v0 y v2)) → W H2) : Kit.PutOf K "_words" y (.ref p) H W := Kit.w_put h T.c_Memory.cl T.n_Memory_words (Nat.lt_of_lt_of_le (Nat.lt_of_le_of_lt (Nat.le_refl 3) (by decide : 3 < 100)) (by decide)) rfl q
theorem in_Memory_words (T : Txt K mg) {y : V} {W : Hp → Prop} (h : H p = some (.ins T.c_Memory.C dx [("_digests", v0)])) (q : ∀ H2, Kit.ExBut p H H2 → H2 p = some (.ins T.c_Memory.C dx ([("_digests", v0), ("_words", y)])) → W H2) : Kit.PutOf K "_words" y (.ref p) H W := Kit.w_put h T.c_Memory.cl T.n_Memory_words (Nat.lt_of_lt_of_le (Nat.lt_of_le_of_lt (Nat.le_refl 1) (by decide : 1 < 100)) (by decide)) rfl q
theorem rd_Memory_levels (T : Txt K mg) (h : H p = some (.ins T.c_Memory.C dx (fl_Memory v0 v1 v2))) (q : Q v2 H) : Kit.FldOf K "_levels" (.ref p) H Q := Kit.w_rd h T.c_Memory.cl T.n_Memory_levels rfl q
theorem pt_Memory_levels (T : Txt K mg) {y : V} {W : Hp → Prop} (h : H p = some (.ins T.c_Memory.C dx (fl_Memory v0 v1 v2))) (q : ∀ H2, Kit.ExBut p H H2 → H2 p = some (.ins T.c_Memory.C dx (fl_Memory v0 v1 y)) → W H2) : Kit.PutOf K "_levels" y (.ref p) H W := Kit.w_put h T.c_Memory.cl T.n_Memory_levels (Nat.lt_of_lt_of_le (Nat.lt_of_le_of_lt (Nat.le_refl 3) (by decide : 3 < 100)) (by decide)) rfl q
theorem in_Memory_levels (T : Txt K mg) {y : V} {W : Hp → Prop} (h : H p = some (.ins T.c_Memory.C dx [("_digests", v0), ("_words", v1)])) (q : ∀ H2, Kit.ExBut p H H2 → H2 p = some (.ins T.c_Memory.C dx (fl_Memory v0 v1 y)) → W H2) : Kit.PutOf K "_levels" y (.ref p) H W := Kit.w_put h T.c_Memory.cl T.n_Memory_levels (Nat.lt_of_lt_of_le (Nat.lt_of_le_of_lt (Nat.le_refl 2) (by decide : 2 < 100)) (by decide)) rfl q
theorem me_Memory_word (h : H p = some (.ins C dx (fl_Memory v0 v1 v2))) (r : R) : Kit.InsOf C "word" (.ref p) H R := Kit.w_ins h rfl r
theorem me_Memory_change (h : H p = some (.ins C dx (fl_Memory v0 v1 v2))) (r : R) : Kit.InsOf C "change" (.ref p) H R := Kit.w_ins h rfl r
theorem me_Memory_words (h : H p = some (.ins C dx (fl_Memory v0 v1 v2))) (r : R) : Kit.InsOf C "words" (.ref p) H R := Kit.w_ins h rfl r
theorem me_Memory_root (h : H p = some (.ins C dx (fl_Memory v0 v1 v2))) (r : R) : Kit.InsOf C "root" (.ref p) H R := Kit.w_ins h rfl r
theorem me_Memory_path (h : H p = some (.ins C dx (fl_Memory v0 v1 v2))) (r : R) : Kit.InsOf C "path" (.ref p) H R := Kit.w_ins h rfl r
end
def fl_Digests (v0 v1 v2 : V) : List (Str × V) := [("_bits", v0), ("_book", v1), ("_modulus", v2)]
section
variable {K : PySem.W.Frag} {mg : Str → Option Value} {H : Hp} {p C dx : Addr} {v0 v1 v2 : V} {Q : VK} {R : Prop}
theorem rd_Digests_bits (T : Txt K mg) (h : H p = some (.ins T.c_Digests.C dx (fl_Digests v0 v1 v2))) (q : Q v0 H) : Kit.FldOf K "_bits" (.ref p) H Q := Kit.w_rd h T.c_Digests.cl T.n_Digests_bits rfl q
theorem pt_Digests_bits (T : Txt K mg) {y : V} {W : Hp → Prop} (h : H p = some (.ins T.c_Digests.C dx (fl_Digests v0 v1 v2))) (q : ∀ H2, Kit.ExBut p H H2 → H2 p = some (.ins T.c_Digests.C dx (fl_Digests y v1 v2)) → W H2) : Kit.PutOf K "_bits" y (.ref p) H W := Kit.w_put h T.c_Digests.cl T.n_Digests_bits (Nat.lt_of_lt_of_le (Nat.lt_of_le_of_lt (Nat.le_refl 3) (by decide : 3 < 100)) (by decide)) rfl q
theorem in_Digests_bits (T : Txt K mg) {y : V} {W : Hp → Prop} (h : H p = some (.ins T.c_Digests.C dx [])) (q : ∀ H2, Kit.ExBut p H H2 → H2 p = some (.ins T.c_Digests.C dx ([("_bits", y)])) → W H2) : Kit.PutOf K "_bits" y (.ref p) H W := Kit.w_put h T.c_Digests.cl T.n_Digests_bits (Nat.lt_of_lt_of_le (Nat.lt_of_le_of_lt (Nat.le_refl 0) (by decide : 0 < 100)) (by decide)) rfl q
theorem rd_Digests_book (T : Txt K mg) (h : H p = some (.ins T.c_Digests.C dx (fl_Digests v0 v1 v2))) (q : Q v1 H) : Kit.FldOf K "_book" (.ref p) H Q := Kit.w_rd h T.c_Digests.cl T.n_Digests_book rfl q
theorem pt_Digests_book (T : Txt K mg) {y : V} {W : Hp → Prop} (h : H p = some (.ins T.c_Digests.C dx (fl_Digests v0 v1 v2))) (q : ∀ H2, Kit.ExBut p H H2 → H2 p = some (.ins T.c_Digests.C dx (fl_Digests v0 y v2)) → W H2) : Kit.PutOf K "_book" y (.ref p) H W := Kit.w_put h T.c_Digests.cl T.n_Digests_book (Nat.lt_of_lt_of_le (Nat.lt_of_le_of_lt (Nat.le_refl 3) (by decide : 3 < 100)) (by decide)) rfl q
theorem in_Digests_book (T : Txt K mg) {y : V} {W : Hp → Prop} (h : H p = some (.ins T.c_Digests.C dx [("_bits", v0)])) (q : ∀ H2, Kit.ExBut p H H2 → H2 p = some (.ins T.c_Digests.C dx ([("_bits", v0), ("_book", y)])) → W H2) : Kit.PutOf K "_book" y (.ref p) H W := Kit.w_put h T.c_Digests.cl T.n_Digests_book (Nat.lt_of_lt_of_le (Nat.lt_of_le_of_lt (Nat.le_refl 1) (by decide : 1 < 100)) (by decide)) rfl q
theorem rd_Digests_modulus (T : Txt K mg) (h : H p = some (.ins T.c_Digests.C dx (fl_Digests v0 v1 v2))) (q : Q v2 H) : Kit.FldOf K "_modulus" (.ref p) H Q := Kit.w_rd h T.c_Digests.cl T.n_Digests_modulus rfl q
theorem pt_Digests_modulus (T : Txt K mg) {y : V} {W : Hp → Prop} (h : H p = some (.ins T.c_Digests.C dx (fl_Digests v0 v1 v2))) (q : ∀ H2, Kit.ExBut p H H2 → H2 p = some (.ins T.c_Digests.C dx (fl_Digests v0 v1 y)) → W H2) : Kit.PutOf K "_modulus" y (.ref p) H W := Kit.w_put h T.c_Digests.cl T.n_Digests_modulus (Nat.lt_of_lt_of_le (Nat.lt_of_le_of_lt (Nat.le_refl 3) (by decide : 3 < 100)) (by decide)) rfl q
theorem in_Digests_modulus (T : Txt K mg) {y : V} {W : Hp → Prop} (h : H p = some (.ins T.c_Digests.C dx [("_bits", v0), ("_book", v1)])) (q : ∀ H2, Kit.ExBut p H H2 → H2 p = some (.ins T.c_Digests.C dx (fl_Digests v0 v1 y)) → W H2) : Kit.PutOf K "_modulus" y (.ref p) H W := Kit.w_put h T.c_Digests.cl T.n_Digests_modulus (Nat.lt_of_lt_of_le (Nat.lt_of_le_of_lt (Nat.le_refl 2) (by decide : 2 < 100)) (by decide)) rfl q
theorem me_Digests_leaf (h : H p = some (.ins C dx (fl_Digests v0 v1 v2))) (r : R) : Kit.InsOf C "leaf" (.ref p) H R := Kit.w_ins h rfl r
theorem me_Digests_fold (h : H p = some (.ins C dx (fl_Digests v0 v1 v2))) (r : R) : Kit.InsOf C "fold" (.ref p) H R := Kit.w_ins h rfl r
theorem me_Digests__noted (h : H p = some (.ins C dx (fl_Digests v0 v1 v2))) (r : R) : Kit.InsOf C "_noted" (.ref p) H R := Kit.w_ins h rfl r
end
def fl_Book (v0 v1 v2 : V) : List (Str × V) := [("_texts", v0), ("_firsts", v1), ("_collided", v2)]
section
variable {K : PySem.W.Frag} {mg : Str → Option Value} {H : Hp} {p C dx : Addr} {v0 v1 v2 : V} {Q : VK} {R : Prop}
theorem rd_Book_texts (T : Txt K mg) (h : H p = some (.ins T.c_Book.C dx (fl_Book v0 v1 v2))) (q : Q v0 H) : Kit.FldOf K "_texts" (.ref p) H Q := Kit.w_rd h T.c_Book.cl T.n_Book_texts rfl q
theorem pt_Book_texts (T : Txt K mg) {y : V} {W : Hp → Prop} (h : H p = some (.ins T.c_Book.C dx (fl_Book v0 v1 v2))) (q : ∀ H2, Kit.ExBut p H H2 → H2 p = some (.ins T.c_Book.C dx (fl_Book y v1 v2)) → W H2) : Kit.PutOf K "_texts" y (.ref p) H W := Kit.w_put h T.c_Book.cl T.n_Book_texts (Nat.lt_of_lt_of_le (Nat.lt_of_le_of_lt (Nat.le_refl 3) (by decide : 3 < 100)) (by decide)) rfl q
theorem in_Book_texts (T : Txt K mg) {y : V} {W : Hp → Prop} (h : H p = some (.ins T.c_Book.C dx [])) (q : ∀ H2, Kit.ExBut p H H2 → H2 p = some (.ins T.c_Book.C dx ([("_texts", y)])) → W H2) : Kit.PutOf K "_texts" y (.ref p) H W := Kit.w_put h T.c_Book.cl T.n_Book_texts (Nat.lt_of_lt_of_le (Nat.lt_of_le_of_lt (Nat.le_refl 0) (by decide : 0 < 100)) (by decide)) rfl q
theorem rd_Book_firsts (T : Txt K mg) (h : H p = some (.ins T.c_Book.C dx (fl_Book v0 v1 v2))) (q : Q v1 H) : Kit.FldOf K "_firsts" (.ref p) H Q := Kit.w_rd h T.c_Book.cl T.n_Book_firsts rfl q
theorem pt_Book_firsts (T : Txt K mg) {y : V} {W : Hp → Prop} (h : H p = some (.ins T.c_Book.C dx (fl_Book v0 v1 v2))) (q : ∀ H2, Kit.ExBut p H H2 → H2 p = some (.ins T.c_Book.C dx (fl_Book v0 y v2)) → W H2) : Kit.PutOf K "_firsts" y (.ref p) H W := Kit.w_put h T.c_Book.cl T.n_Book_firsts (Nat.lt_of_lt_of_le (Nat.lt_of_le_of_lt (Nat.le_refl 3) (by decide : 3 < 100)) (by decide)) rfl q
theorem in_Book_firsts (T : Txt K mg) {y : V} {W : Hp → Prop} (h : H p = some (.ins T.c_Book.C dx [("_texts", v0)])) (q : ∀ H2, Kit.ExBut p H H2 → H2 p = some (.ins T.c_Book.C dx ([("_texts", v0), ("_firsts", y)])) → W H2) : Kit.PutOf K "_firsts" y (.ref p) H W := Kit.w_put h T.c_Book.cl T.n_Book_firsts (Nat.lt_of_lt_of_le (Nat.lt_of_le_of_lt (Nat.le_refl 1) (by decide : 1 < 100)) (by decide)) rfl q
theorem rd_Book_collided (T : Txt K mg) (h : H p = some (.ins T.c_Book.C dx (fl_Book v0 v1 v2))) (q : Q v2 H) : Kit.FldOf K "_collided" (.ref p) H Q := Kit.w_rd h T.c_Book.cl T.n_Book_collided rfl q
theorem pt_Book_collided (T : Txt K mg) {y : V} {W : Hp → Prop} (h : H p = some (.ins T.c_Book.C dx (fl_Book v0 v1 v2))) (q : ∀ H2, Kit.ExBut p H H2 → H2 p = some (.ins T.c_Book.C dx (fl_Book v0 v1 y)) → W H2) : Kit.PutOf K "_collided" y (.ref p) H W := Kit.w_put h T.c_Book.cl T.n_Book_collided (Nat.lt_of_lt_of_le (Nat.lt_of_le_of_lt (Nat.le_refl 3) (by decide : 3 < 100)) (by decide)) rfl q
theorem in_Book_collided (T : Txt K mg) {y : V} {W : Hp → Prop} (h : H p = some (.ins T.c_Book.C dx [("_texts", v0), ("_firsts", v1)])) (q : ∀ H2, Kit.ExBut p H H2 → H2 p = some (.ins T.c_Book.C dx (fl_Book v0 v1 y)) → W H2) : Kit.PutOf K "_collided" y (.ref p) H W := Kit.w_put h T.c_Book.cl T.n_Book_collided (Nat.lt_of_lt_of_le (Nat.lt_of_le_of_lt (Nat.le_refl 2) (by decide : 2 < 100)) (by decide)) rfl q
theorem me_Book_add (h : H p = some (.ins C dx (fl_Book v0 v1 v2))) (r : R) : Kit.InsOf C "add" (.ref p) H R := Kit.w_ins h rfl r
theorem me_Book_count (h : H p = some (.ins C dx (fl_Book v0 v1 v2))) (r : R) : Kit.InsOf C "count" (.ref p) H R := Kit.w_ins h rfl r
end
local macro_rules | `(tactic| walk_at "wp1") => `(tactic| ((with_reducible show Kit.FldOf _ _ _ _ _); first | with_reducible refine rd_Memory_digests _ (by walk_at "hp") ?_ | with_reducible refine rd_Memory_words _ (by walk_at "hp") ?_ | with_reducible refine rd_Memory_levels _ (by walk_at "hp") ?_ | with_reducible refine rd_Digests_bits _ (by walk_at "hp") ?_ | with_reducible refine rd_Digests_book _ (by walk_at "hp") ?_ | with_reducible refine rd_Digests_modulus _ (by walk_at "hp") ?_ | with_reducible refine rd_Book_texts _ (by walk_at "hp") ?_ | with_reducible refine rd_Book_firsts _ (by walk_at "hp") ?_ | with_reducible refine rd_Book_collided _ (by walk_at "hp") ?_))
local macro_rules | `(tactic| walk_at "wp1") => `(tactic| ((with_reducible show Kit.InsOf _ _ _ _ _); first | with_reducible refine me_Memory_word (by walk_at "hp") ?_ | with_reducible refine me_Memory_change (by walk_at "hp") ?_ | with_reducible refine me_Memory_words (by walk_at "hp") ?_ | with_reducible refine me_Memory_root (by walk_at "hp") ?_ | with_reducible refine me_Memory_path (by walk_at "hp") ?_ | with_reducible refine me_Digests_leaf (by walk_at "hp") ?_ | with_reducible refine me_Digests_fold (by walk_at "hp") ?_ | with_reducible refine me_Digests__noted (by walk_at "hp") ?_ | with_reducible refine me_Book_add (by walk_at "hp") ?_ | with_reducible refine me_Book_count (by walk_at "hp") ?_))
local macro_rules | `(tactic| walk_at "wp1") => `(tactic| ((with_reducible show Kit.PutOf _ _ _ _ _ _); first | (with_reducible refine pt_Memory_digests _ (by walk_at "hp") ?_; intro _ _ _) | (with_reducible refine in_Memory_digests _ (by walk_at "hp") ?_; intro _ _ _) | (with_reducible refine pt_Memory_words _ (by walk_at "hp") ?_; intro _ _ _) | (with_reducible refine in_Memory_words _ (by walk_at "hp") ?_; intro _ _ _) | (with_reducible refine pt_Memory_levels _ (by walk_at "hp") ?_; intro _ _ _) | (with_reducible refine in_Memory_levels _ (by walk_at "hp") ?_; intro _ _ _) | (with_reducible refine pt_Digests_bits _ (by walk_at "hp") ?_; intro _ _ _) | (with_reducible refine in_Digests_bits _ (by walk_at "hp") ?_; intro _ _ _) | (with_reducible refine pt_Digests_book _ (by walk_at "hp") ?_; intro _ _ _) | (with_reducible refine in_Digests_book _ (by walk_at "hp") ?_; intro _ _ _) | (with_reducible refine pt_Digests_modulus _ (by walk_at "hp") ?_; intro _ _ _) | (with_reducible refine in_Digests_modulus _ (by walk_at "hp") ?_; intro _ _ _) | (with_reducible refine pt_Book_texts _ (by walk_at "hp") ?_; intro _ _ _) | (with_reducible refine in_Book_texts _ (by walk_at "hp") ?_; intro _ _ _) | (with_reducible refine pt_Book_firsts _ (by walk_at "hp") ?_; intro _ _ _) | (with_reducible refine in_Book_firsts _ (by walk_at "hp") ?_; intro _ _ _) | (with_reducible refine pt_Book_collided _ (by walk_at "hp") ?_; intro _ _ _) | (with_reducible refine in_Book_collided _ (by walk_at "hp") ?_; intro _ _ _)))
theorem ex_done {Q : VK} {v u : V} {H H' : Hp} (q : ∀ H', Evl.Ex H H' → Q v H') (e : Evl.Ex H H') (h : v = u) : Q u H' := h ▸ q H' e
section
variable {P : Program} {w : World} {K : PySem.W.Frag} {mg : Str → Option Value} {base : Heap}

/-! ### the law's draws: some list of ints -/
def sp_law_draws (K : PySem.W.Frag) : Sp := fun vs H Q _ => ∃ (a : Addr) (ns : List Int) (most : Int), vs = [.ref a, .int 0, .int most] ∧ SqL K H a (ns.map V.int) ∧ ns.length ≤ 63 ∧ 0 ≤ most ∧ most ≤ 1000 ∧
  ∀ p H' (ds : List Int), H p = none → Evl.Ex H H' → H' p = some (.lst (ds.map V.int)) → (ds.length : Int) ≤ most → Q (.ref p) H'
theorem cut_front {xs : List V} {n : Int} (h : 0 ≤ n) : cutV xs none (some n) = xs.take n.toNat := by
  obtain ⟨j, rfl⟩ := Int.eq_ofNat_of_zero_le h
  unfold cutV
  rw [HT.sIx_none, HT.sIx_nat]
  show (xs.drop 0).take (min j xs.length - 0) = xs.take j
  rw [List.drop_zero, Nat.sub_zero]
  by_cases hj : j ≤ xs.length
  · rw [Nat.min_eq_left hj]
  · rw [Nat.min_eq_right (by omega), List.take_length, List.take_of_length_le (by omega)]
theorem cut_zero {xs : List V} : cutV xs (some 0) none = xs := by
  unfold cutV
  rw [HT.sIx_none]
  have e : HT.sIx xs.length 0 (some 0) = 0 := by
    have := HT.sIx_nat xs.length 0 0
    simpa using this
  rw [e]
  simp
def DrawInv (s : Addr) (D : Addr) (H1 : Hp) (most : Int) (i : Nat) (σ : L2.St) (H : Hp) : Prop := ∃ (ds : List Int) (y4 y5 y6 y7 : Option V), σ = [some (.ref s), some (.int 0), some (.int most), some (.ref D), y4, y5, y6, y7] ∧ Kit.ExBut D H1 H ∧ H D = some (.lst (ds.map V.int)) ∧ ds.length ≤ 12 * i
theorem map_snoc {ds : List Int} {x : Int} : ds.map V.int ++ [.int x] = (ds ++ [x]).map V.int := by rw [List.map_append]; rfl
theorem ok_law_draws (T : Txt K mg) : FnOk P w K mg base CX0 1 T.f_law_draws.f T.f_law_draws.fd ["script", "start", "most"] (sp_law_draws K) := by
  refine T.f_law_draws.F.ok sc_law_draws (fun vs H Q E h => ?_) (fun cdv A outer s H vs Q E hr h => ?_)
  · obtain ⟨a, ns, most, rfl, ha, hl, m0, m1, q⟩ := h
    rfl
  obtain ⟨a, ns, most, rfl, ha, hl, m0, m1, q⟩ := h
  have nd := sc_law_draws.nd
  refine Kit.ok_body (σ := [some _, some _, some _, none, none, none, none, none]) ((pss_cons (ps_set (i := 3) nd rfl (Or.inl rfl) (pe_lst pa_nil))
    (pss_cons (ps_for PassesOwn.never rfl (Kit.kpList K (pe_slice (Kit.kSlL K) (pv 0) (po_some (pv 1)) po_none)) (pg_name (i := 4) nd rfl (Or.inl rfl))
    (pss_cons (ps_set (i := 5) nd rfl (Or.inl rfl) (pe_callB Kit.k_abs (by rfl) T.z_abs (by decide +kernel) (pa_cons (pe_callTy Kit.k_int (by rfl) T.z_int (by decide +kernel) (pa_cons (pv 4) pa_nil)) pa_nil)))
    (pss_one (ps_if (pt_cmpR op_lt (pv 5) (pe_op op_pow pe_int pe_int) (nomark _))
    (pss_cons (ps_set (i := 6) nd rfl (Or.inl rfl) (pe_op op_mod (pe_callTy Kit.k_int (by rfl) T.z_int (by decide +kernel) (pa_cons (pe_op op_add (pe_op op_mul (pv 5) pe_int) pe_int) pa_nil)) pe_int))
    (pss_cons (ps_expr (pe_bm PySem.F.plainAttrs_list PySem.F.slot_list_append PySem.F.type_list_append mt_append (pv 3) (pa_cons (pe_op op_add (pe_op op_mul (pv 6) pe_int) (pe_op op_mod (pe_callTy Kit.k_int (by rfl) T.z_int (by decide +kernel) (pa_cons (pe_op op_add (pe_op op_mul (pv 6) pe_int) (pv 5)) pa_nil)) pe_int)) pa_nil)))
    (pss_one (ps_expr (pe_bm PySem.F.plainAttrs_list PySem.F.slot_list_append PySem.F.type_list_append mt_append (pv 3) (pa_cons (pe_op op_add (pe_op op_mul (pe_op op_mod (pe_callTy Kit.k_int (by rfl) T.z_int (by decide +kernel) (pa_cons (pe_op op_add (pe_op op_add (pe_op op_mul (pv 6) pe_int) (pe_op op_fdiv (pv 5) pe_int)) pe_int) pa_nil)) pe_int) pe_int) (pe_op op_mod (pv 5) pe_int)) pa_nil))))))
    (pss_one (ps_for PassesOwn.never rfl (pi_range1 (by rfl) T.z_range (pa_cons pe_int pa_nil)) (pg_name (i := 7) nd rfl (Or.inl rfl))
    (pss_cons (ps_if (pt_cmpR op_gt (pv 5) pe_int (nomark _))
    (pss_one (ps_expr (pe_bm PySem.F.plainAttrs_list PySem.F.slot_list_append PySem.F.type_list_append mt_append (pv 3) (pa_cons (pe_op op_mod (pe_callTy Kit.k_int (by rfl) T.z_int (by decide +kernel) (pa_cons (pv 5) pa_nil)) (pe_op op_pow pe_int pe_int)) pa_nil))))
    pss_nil)
    (pss_one (ps_set (i := 5) nd rfl (Or.inl rfl) (pe_op op_fdivW (pv 5) (pe_op op_pow pe_int pe_int)))))))))))
    (pss_one (ps_ret (pe_slice (Kit.kSlL K) (pv 3) po_none (po_some (pv 2)))))))) rfl ?_
  try dsimp only [L2.cxOf, L2.Cx.nox]
  walk_at "wp"
  rename_i D H1 n1 e1 f1 c H2 n2 e2 f2
  rw [cut_zero] at f2
  have hDc : D ≠ c := ne_of_none f1 n2
  refine Kit.f_list (Evl.sq_of f2) (DrawInv a D H2 most) ⟨[], _, _, _, _, rfl, Kit.ExBut.refl _ _, e2 _ _ f1, Nat.le_refl 0⟩ ?_ ?_ ?_
  · rintro i σ' H' _ ⟨ds, y4, y5, y6, y7, rfl, m, _⟩
    exact Evl.sq_of (m _ _ hDc.symm f2)
  · rintro i x σ' H' hx ⟨ds, y4, y5, y6, y7, rfl, m, g, hds⟩
    have hi : i < 63 := by
      have := (List.getElem?_eq_some_iff.mp hx).1
      rw [List.length_map] at this
      omega
    obtain ⟨n, rfl⟩ : ∃ n, x = .int n := by
      rw [List.getElem?_map] at hx
      cases h : ns[i]? with
      | none => rw [h] at hx; cases hx
      | some n => rw [h] at hx; exact ⟨n, (Option.some.inj hx).symm⟩
    show Kit.Sm _ _ _ _ _ _ _
    walk_at "wp"
    · refine Kit.w_app g (by rw [List.length_map]; omega) fun H3 m3 f3 => ?_
      rw [map_snoc] at f3
      walk_at "wp"
      refine Kit.w_app f3 (by rw [List.length_map, List.length_append]; simp; omega) fun H4 m4 f4 => ?_
      rw [map_snoc] at f4
      walk_at "wp"
      exact ⟨_, _, _, _, _, rfl, (m.trans m3).trans m4, f4, by simp; omega⟩
    · refine Kit.f_rng1 (by decide) (by decide) (fun k σ' H' => ∃ (ds2 : List Int) (z : Int) (y7 : Option V), σ' = [some (.ref a), some (.int 0), some (.int most), some (.ref D), some (.int n), some (.int z), y6, y7] ∧ Kit.ExBut D H2 H' ∧ H' D = some (.lst (ds2.map V.int)) ∧ ds2.length ≤ 12 * i + k) ⟨ds, _, y7, rfl, m, g, hds⟩ ?_ ?_
      · rintro k σ3 H3 hk ⟨ds2, z, y7, rfl, m3, g3, hd3⟩
        walk_at "wp"
        · refine Kit.w_app g3 (by rw [List.length_map]; omega) fun H4 m4 f4 => ?_
          rw [map_snoc] at f4
          walk_at "wp"
          exact ⟨_, _, _, rfl, m3.trans m4, f4, by simp; omega⟩
        · exact ⟨_, _, _, rfl, m3, g3, by omega⟩
      · rintro σ3 H3 ⟨ds2, z, y7, rfl, m3, g3, hd3⟩
        exact ⟨_, _, _, _, _, rfl, m3, g3, by
          have : (12 : Int).toNat = 12 := rfl
          omega⟩
  · rintro σ' H' ⟨ds, y4, y5, y6, y7, rfl, m, g, hds⟩
    have e : Evl.Ex H H' := Kit.ex_but m n1 (e1.trans e2)
    walk_at "wp"
    rename_i p H3 n3 e3 f3
    rw [cut_front m0, ← List.map_take] at f3
    exact q p H3 _ (Evl.fresh_back e n3) (e.trans e3) f3 (by rw [List.length_take]; omega)
theorem use_law_draws {K : PySem.W.Frag} {a : Addr} {ns : List Int} {most : Int} {H : Hp} {Q : VK} {E : XK} (ha : SqL K H a (ns.map V.int)) (hl : ns.length ≤ 63) (m0 : 0 ≤ most) (m1 : most ≤ 1000)
    (q : ∀ p H' (ds : List Int), H p = none → Evl.Ex H H' → H' p = some (.lst (ds.map V.int)) → (ds.length : Int) ≤ most → Q (.ref p) H') : sp_law_draws K [.ref a, .int 0, .int most] H Q E := ⟨a, ns, most, rfl, ha, hl, m0, m1, q⟩

/-! ### a book -/
def addT (T : List Kit.BK) (k : Kit.BK) : List Kit.BK := if k ∈ T then T else T ++ [k]
def findF (F : List (Kit.BK × Kit.TK)) (k : Kit.BK) : Option Kit.TK := (F.find? fun f => decide (f.1 = k)).map (·.2)
def addF (F : List (Kit.BK × Kit.TK)) (k : Kit.BK) (t : Kit.TK) : List (Kit.BK × Kit.TK) := match findF F k with
  | some _ => F
  | none => F ++ [(k, t)]
def addC (c : Bool) (F : List (Kit.BK × Kit.TK)) (k : Kit.BK) (t : Kit.TK) : Bool := match findF F k with
  | some t0 => if t0 = t then c else true
  | none => c
def yesT (T : List Kit.BK) : List (Kit.BK × V) := T.map fun k => (k, V.bl true)
abbrev FRel (H : Hp) := Paired fun (f : Kit.BK × Kit.TK) (q : Kit.BK × V) => q.1 = f.1 ∧ Kit.TVal H f.2 q.2
theorem FRel.mono {H H' : Hp} {F : List (Kit.BK × Kit.TK)} {kv : List (Kit.BK × V)} (m : ∀ c xs, H c = some (.tup xs) → H' c = some (.tup xs)) (r : FRel H F kv) : FRel H' F kv := Paired.mapP r fun _ _ z => ⟨z.1, z.2.mono m⟩
theorem FRel.find {H : Hp} {F : List (Kit.BK × Kit.TK)} {kv : List (Kit.BK × V)} (r : FRel H F kv) (k : Kit.BK) : (∃ t v, findF F k = some t ∧ valV kv k = some v ∧ Kit.TVal H t v) ∨ (findF F k = none ∧ valV kv k = none) := by
  induction r with
  | nil => exact .inr ⟨rfl, rfl⟩
  | @cons f q fs qs z t ih =>
    obtain ⟨z1, z2⟩ := z
    by_cases e : f.1 = k
    · exact .inl ⟨f.2, q.2, by simp [findF, List.find?_cons, e], valV_pos (z1.trans e), z2⟩
    · rw [valV_neg fun h => e (z1.symm.trans h), show findF (f :: fs) k = findF fs k from by simp [findF, List.find?_cons, e]]
      exact ih
theorem valV_yes (T : List Kit.BK) (k : Kit.BK) : ((yesT T).any fun kv => decide (kv.1 = k)) = decide (k ∈ T) := by
  unfold yesT
  rw [List.any_map, Bool.eq_iff_iff, List.any_eq_true, decide_eq_true_iff]
  constructor
  · rintro ⟨x, hx, e⟩
    exact (of_decide_eq_true e : x = k) ▸ hx
  · exact fun h => ⟨k, h, decide_eq_true rfl⟩
theorem put_yes (T : List Kit.BK) (k : Kit.BK) : putK (yesT T) k (V.bl true) = yesT (addT T k) := by
  unfold putK addT
  rw [valV_yes]
  by_cases h : k ∈ T
  · rw [if_pos (decide_eq_true h), if_pos h]
    unfold yesT
    rw [List.map_map]
    refine List.map_congr_left fun x _ => ?_
    show (if x = k then (x, V.bl true) else (x, V.bl true)) = (x, V.bl true)
    split <;> rfl
  · rw [if_neg (by rw [decide_eq_false h]; exact Bool.false_ne_true), if_neg h]
    unfold yesT
    rw [List.map_append]
    rfl
theorem put_new {κ : Type} [DecidableEq κ] {kv : List (κ × V)} {k : κ} {v : V} (h : valV kv k = none) : putK kv k v = kv ++ [(k, v)] := by
  unfold putK
  rw [valV_any, h]
  exact if_neg Bool.false_ne_true
/-- at p: a book that has met the texts T, the firsts F -/
def BookAt (P : Program) (w : World) (C : Addr) (H : Hp) (p : Addr) (T : List Kit.BK) (F : List (Kit.BK × Kit.TK)) (c : Bool) : Prop :=
  ∃ dx d1 d2 kv, H p = some (.ins C dx (fl_Book (.ref d1) (.ref d2) (.bl c))) ∧ Kit.BkAt P w H d1 (yesT T) ∧ Kit.BkAt P w H d2 kv ∧ d1 ≠ d2 ∧ FRel H F kv
theorem BookAt.ex {P : Program} {w : World} {C p : Addr} {H H' : Hp} {T : List Kit.BK} {F : List (Kit.BK × Kit.TK)} {c : Bool} (e : Evl.Ex H H') (b : BookAt P w C H p T F c) : BookAt P w C H' p T F c :=
  let ⟨dx, d1, d2, kv, h1, h2, h3, h4, h5⟩ := b
  ⟨dx, d1, d2, kv, e _ _ h1, h2.ex e, h3.ex e, h4, h5.mono fun c xs => e c _⟩
def sp_Book_init (C : Addr) : Sp := fun vs H Q _ => ∃ (p dx : Addr), vs = [.ref p] ∧ H p = some (.ins C dx []) ∧ ∀ H' d1 d2, Kit.ExBut p H H' → H' p = some (.ins C dx (fl_Book (.ref d1) (.ref d2) (.bl false))) → H' d1 = some (.dK []) → H' d2 = some (.dK []) → d1 ≠ d2 → Q .non H'
local macro_rules | `(tactic| walk_at "wp1") => `(tactic| first
  | ((with_reducible refine Kit.w_dnew ?_); intro _ _ _ _ _)
  | with_reducible refine Kit.m_bkPut ?_
  | with_reducible refine Kit.w_bkSetd ?_)
theorem ok_Book___init (T : Txt K mg) : FnOk P w K mg base CX0 1 T.f_Book___init.f T.f_Book___init.fd ["self"] (sp_Book_init T.c_Book.C) := by
  refine T.f_Book___init.F.ok sc_Book___init (fun vs H Q E h => ?_) (fun cdv A outer s H vs Q E hr h => ?_)
  · obtain ⟨p, dx, rfl, hp, q⟩ := h
    rfl
  obtain ⟨p, dx, rfl, hp, q⟩ := h
  have nd := sc_Book___init.nd
  refine Kit.ok_body (σ := [some _]) ((pss_cons (Kit.kSet K (pv 0) pe_dnewK rfl)
    (pss_cons (Kit.kSet K (pv 0) pe_dnewK rfl)
    (pss_one (Kit.kSet K (pv 0) pe_bl rfl))))) rfl ?_
  walk_at "wp"
  rename_i d1 H1 n1 e1 f1 H2 m2 f2 d2 H3 n3 e3 f3 H4 m4 f4 H5 m5 f5
  have a1 : d1 ≠ p := (ne_of_none hp n1).symm
  have a2 : d2 ≠ p := (ne_of_none f2 n3).symm
  have g1 := m2 _ _ a1 f1
  exact q H5 d1 d2 (by walk_at "but") f5 (m5 _ _ a1 (m4 _ _ a1 (e3 _ _ g1))) (m5 _ _ a2 (m4 _ _ a2 f3)) (ne_of_none g1 n3)
theorem use_Book {P : Program} {w : World} {C : Addr} {H : Hp} {Q : VK} {E : XK} (k : ∀ p H', H p = none → Evl.Ex H H' → BookAt P w C H' p [] [] false → Q (.ref p) H') : Kit.MakeOf C (sp_Book_init C) E [] H Q := by
  refine Kit.w_made fun x dx H2 hx e h => ⟨x, dx, rfl, h, fun H3 d1 d2 m h3 h4 h5 n => ⟨rfl, k x H3 hx (Kit.ex_but m hx e) ⟨dx, d1, d2, [], h3, .inl ⟨rfl, h4⟩, .inl ⟨rfl, h5⟩, n, .nil⟩⟩⟩
def sp_Book_add (P : Program) (w : World) (C : Addr) : Sp := fun vs H Q _ => ∃ (p : Addr) (kd : Str) (x : V) (d : Int) (t : Kit.TK) (TT : List Kit.BK) (F : List (Kit.BK × Kit.TK)) (c : Bool), vs = [.ref p, .str kd, x, .int d] ∧ BookAt P w C H p TT F c ∧ Kit.TVal H t x ∧ TT.length ≤ 100000 ∧ F.length ≤ 100000 ∧
  ∀ H', Kit.KeepE p H H' → BookAt P w C H' p (addT TT (kd, t)) (addF F (kd, .num d) t) (addC c F (kd, .num d) t) → Q .non H'
theorem FRel.len {H : Hp} {F : List (Kit.BK × Kit.TK)} {kv : List (Kit.BK × V)} (r : FRel H F kv) : F.length = kv.length := Paired.length r
theorem sz1 {n : Nat} (h : n ≤ 100000) : n < sizeLine := by rw [sizeLine_eq]; omega
theorem bk_apart {P : Program} {w : World} {H H' : Hp} {d1 d2 : Addr} {kv kv2 : List (Kit.BK × V)} (h2 : Kit.BkAt P w H d2 kv2) (h1 : Kit.BkAt P w H d1 kv) (n : d2 ≠ d1) (m : Kit.ExBut d1 H H') : Kit.BkAt P w H' d2 kv2 := h2.mono (fun o h => m _ o n h) fun c zs h => m c _ (Kit.bk_no h1 h) h
theorem ok_Book_add (T : Txt K mg) : FnOk P w K mg base CX0 1 T.f_Book_add.f T.f_Book_add.fd ["self", "kind", "text", "digest"] (sp_Book_add P w T.c_Book.C) := by
  refine T.f_Book_add.F.ok sc_Book_add (fun vs H Q E h => ?_) (fun cdv A outer s H vs Q E hr h => ?_)
  · obtain ⟨p, kd, x, d, t, TT, F, c, rfl, ⟨dx, d1, d2, kv, hp, b1, b2, nd12, fr⟩, tv, l1, l2, q⟩ := h
    rfl
  obtain ⟨p, kd, x, d, t, TT, F, c, rfl, ⟨dx, d1, d2, kv, hp, b1, b2, nd12, fr⟩, tv, l1, l2, q⟩ := h
  have nd := sc_Book_add.nd
  refine Kit.ok_body (σ := [some _, some _, some _, some _]) ((pss_cons (Kit.bkPut P w hr.units (Kit.kFld K (pv 0) rfl) (pe_tup (pa_cons (pv 1) (pa_cons (pv 2) pa_nil))) pe_bl rfl)
    (pss_one (ps_if (pt_cmpR (Kit.kNeD K hr.units) (Kit.bkSetd P w hr.units (Kit.kFld K (pv 0) rfl) (pe_tup (pa_cons (pv 1) (pa_cons (pv 3) pa_nil))) (pv 2) ⟨rfl, rfl, rfl, rfl⟩) (pv 2) (nomark _))
    (pss_one (Kit.kSet K (pv 0) pe_bl rfl))
    pss_nil)))) rfl ?_
  have tv0 := tv
  walk_at "wp"
  rename_i a H1 n1 e1 f1
  have p1 : d1 ≠ p := by rintro rfl; obtain ⟨o, z1, z2⟩ := Kit.bk_is b1; rw [hp] at z1; cases z1; cases z2
  have p2 : d2 ≠ p := by rintro rfl; obtain ⟨o, z1, z2⟩ := Kit.bk_is b2; rw [hp] at z1; cases z1; cases z2
  refine ⟨d1, rfl, yesT TT, (kd, t), a, b1.ex e1, rfl, ⟨x, f1, tv.mono fun c zs => e1 c _⟩, sz1 (by unfold yesT; rw [List.length_map]; exact l1), fun H2 m2 b1' => ?_⟩
  rw [put_yes] at b1'
  have tup2 : ∀ c zs, H c = some (.tup zs) → H2 c = some (.tup zs) := fun c zs h => m2 c _ (Kit.bk_no (b1.ex e1) (e1 c _ h)) (e1 c _ h)
  have b2' := bk_apart (b2.ex e1) (b1.ex e1) nd12.symm m2
  have hp2 := m2 _ _ p1.symm (e1 _ _ hp)
  have k2 : Kit.KeepE p H H2 := (Kit.KeepE.of e1).trans (Kit.KeepE.dict (b1.ex e1) m2 (Kit.bk_is b1').choose_spec.1)
  walk_at "wp"
  refine ⟨d2, rfl, ⟨kv, b2'⟩, ?_⟩
  walk_at "wp"
  rename_i b H3 n3 e3 f3
  have tup3 : ∀ c zs, H c = some (.tup zs) → H3 c = some (.tup zs) := fun c zs h => e3 c _ (tup2 c zs h)
  have k3 := k2.trans (Kit.KeepE.of e3)
  have b1' := b1'.ex e3
  have b2' := b2'.ex e3
  have fr := fr.mono tup3
  have tv := tv.mono tup3
  have hp3 := e3 _ _ hp2
  refine ⟨kv, (kd, .num d), b, b2', rfl, ⟨_, f3, rfl⟩, sz1 (by rw [← fr.len]; exact l2), fun v hv => ?_, fun hn H4 m4 b4 => ?_⟩
  · rcases fr.find (kd, .num d) with ⟨t0, v0, hf, hv0, tv0⟩ | ⟨_, hn⟩
    · obtain rfl : v0 = v := Option.some.inj (hv0.symm.trans hv)
      have ef : addF F (kd, .num d) t = F := by unfold addF; rw [hf]
      have ec : addC c F (kd, .num d) t = if t0 = t then c else true := by unfold addC; rw [hf]
      rw [ef, ec] at q
      walk_at "wp"
      refine Kit.w_neTV tv0 tv ?_
      by_cases h : t0 = t
      · rw [if_pos h] at q
        rw [decide_eq_true h]
        walk_at "wp"
        exact q _ k3 ⟨dx, d1, d2, kv, hp3, b1', b2', nd12, fr⟩
      · rw [if_neg h] at q
        rw [decide_eq_false h]
        walk_at "wp"
        rename_i H5 m5 f5
        have tup5 : ∀ c zs, H3 c = some (.tup zs) → H5 c = some (.tup zs) := fun c zs h => m5 c _ (by rintro rfl; rw [hp3] at h; cases h) h
        exact q _ (k3.trans (Kit.KeepE.but m5 f5)) ⟨dx, d1, d2, kv, f5, b1'.mono (fun o h => m5 _ o p1 h) tup5, b2'.mono (fun o h => m5 _ o p2 h) tup5, nd12, fr.mono tup5⟩
    · rw [hn] at hv
      cases hv
  · rcases fr.find (kd, .num d) with ⟨t0, v0, hf, hv0, tv0⟩ | ⟨hf, _⟩
    · rw [hn] at hv0
      cases hv0
    · have ef : addF F (kd, .num d) t = F ++ [((kd, .num d), t)] := by unfold addF; rw [hf]
      have ec : addC c F (kd, .num d) t = c := by unfold addC; rw [hf]
      rw [ef, ec] at q
      rw [put_new hn] at b4
      have tup4 : ∀ c zs, H3 c = some (.tup zs) → H4 c = some (.tup zs) := fun c zs h => m4 c _ (Kit.bk_no b2' h) h
      walk_at "wp"
      refine Kit.w_neTV (tv.mono tup4) (tv.mono tup4) ?_
      rw [decide_eq_true rfl]
      walk_at "wp"
      exact q _ (k3.trans (Kit.KeepE.dict b2' m4 (Kit.bk_is b4).choose_spec.1)) ⟨dx, d1, d2, _, m4 _ _ p2.symm hp3, bk_apart b1' b2' nd12 m4, b4, nd12, (fr.mono tup4).snoc ⟨rfl, tv.mono tup4⟩⟩
def sp_Book_coll (P : Program) (w : World) (C : Addr) : Sp := fun vs H Q _ => ∃ (p : Addr) (TT : List Kit.BK) (F : List (Kit.BK × Kit.TK)) (c : Bool), vs = [.ref p] ∧ BookAt P w C H p TT F c ∧ Q (.bl c) H
def sp_Book_count (P : Program) (w : World) (C : Addr) : Sp := fun vs H Q _ => ∃ (p : Addr) (TT : List Kit.BK) (F : List (Kit.BK × Kit.TK)) (c : Bool), vs = [.ref p] ∧ BookAt P w C H p TT F c ∧ Q (.int (TT.length : Int)) H
theorem ok_Book_count (T : Txt K mg) : FnOk P w K mg base CX0 1 T.f_Book_count.f T.f_Book_count.fd ["self"] (sp_Book_count P w T.c_Book.C) := by
  refine T.f_Book_count.F.ok sc_Book_count (fun vs H Q E h => ?_) (fun cdv A outer s H vs Q E hr h => ?_)
  · obtain ⟨p, TT, F, c, rfl, ⟨dx, d1, d2, kv, hp, b1, b2, nd12, fr⟩, q⟩ := h
    rfl
  obtain ⟨p, TT, F, c, rfl, ⟨dx, d1, d2, kv, hp, b1, b2, nd12, fr⟩, q⟩ := h
  have nd := sc_Book_count.nd
  refine Kit.ok_body (σ := [some _]) ((pss_one (ps_ret (pe_callB (Kit.bkLen P w) (by rfl) T.z_len (by decide +kernel) (pa_cons (Kit.kFld K (pv 0) rfl) pa_nil))))) rfl ?_
  walk_at "wp"
  refine ⟨d1, yesT TT, rfl, b1, ?_⟩
  rw [show (yesT TT).length = TT.length from List.length_map _]
  exact q
theorem BookAt.ins {P : Program} {w : World} {C p : Addr} {H : Hp} {TT : List Kit.BK} {F : List (Kit.BK × Kit.TK)} {c : Bool} {x : Str} {R : Prop} (b : BookAt P w C H p TT F c) (l : ∀ d1 d2 c, (fl_Book d1 d2 c).lookup x = none) (r : R) : Kit.InsOf C x (.ref p) H R := let ⟨_, _, _, _, h, _⟩ := b; Kit.w_ins h (l _ _ _) r
theorem BookAt.butL {P : Program} {w : World} {C p r : Addr} {H H' : Hp} {TT : List Kit.BK} {F : List (Kit.BK × Kit.TK)} {c : Bool} {vs : List V} (b : BookAt P w C H p TT F c) (hr : H r = some (.lst vs)) (m : Kit.ExBut r H H') : BookAt P w C H' p TT F c := by
  obtain ⟨dx, d1, d2, kv, h1, h2, h3, h4, h5⟩ := b
  have tp : ∀ c zs, H c = some (.tup zs) → H' c = some (.tup zs) := fun c zs h => m c _ (by rintro rfl; rw [hr] at h; cases h) h
  refine ⟨dx, d1, d2, kv, m _ _ (by rintro rfl; rw [hr] at h1; cases h1) h1, h2.mono (fun o h => m _ _ ?_ h) tp, h3.mono (fun o h => m _ _ ?_ h) tp, h4, h5.mono tp⟩
  · rintro rfl
    obtain ⟨o, z1, z2⟩ := Kit.bk_is h2
    rw [hr] at z1; cases z1; cases z2
  · rintro rfl
    obtain ⟨o, z1, z2⟩ := Kit.bk_is h3
    rw [hr] at z1; cases z1; cases z2
local macro_rules | `(tactic| walk_at "wp1") => `(tactic| ((with_reducible show Kit.InsOf _ _ _ _ _); refine BookAt.ins (by assumption) (fun _ _ _ => rfl) ?_))

/-! ### digests, with or without a book -/
def leafI (m x : Int) : Int := (48271 * x + 11) % m
def foldI (m x y : Int) : Int := (y * y + 3 * x + 7 * y + 1 + (69621 * x + 16807 * y + 5) * (69621 * x + 16807 * y + 5)) % m
def stepI (m d n : Int) : Int := ((d + n) * (d + 48611) + 52774 * n + 19) % m
def stateI (m : Int) (ns : List Int) : Int := ns.foldl (stepI m) 3
def Dg (m x : Int) : Prop := 0 ≤ x ∧ x < m
inductive IsBits : Int → Prop where
  | b7 : IsBits 7 | b13 : IsBits 13 | b31 : IsBits 31 | b61 : IsBits 61
theorem IsBits.or {b : Int} (h : IsBits b) : b = 7 ∨ b = 13 ∨ b = 31 ∨ b = 61 := by cases h <;> simp
theorem IsBits.m {b : Int} (h : IsBits b) : 100 < 2 ^ b.toNat - (1 : Int) ∧ 2 ^ b.toNat - (1 : Int) < 2 ^ 62 := by cases h <;> decide
theorem mulW {i j : Int} (ha : i.natAbs < 2 ^ 100) (hb : j.natAbs < 2 ^ 100) : CMulW i j := wide_mul (a := 100) (b := 100) ha hb (by decide) (by decide) (by decide)
/-- what a digest's note on its book comes to -/
def NoteK (P : Program) (w : World) (C : Addr) (H : Hp) (bk : V) (k : Kit.BK) (d : Int) (R : Hp → Prop) : Prop := (bk = .non ∧ ∀ H', Evl.Ex H H' → R H') ∨
  ∃ pb TT F c, bk = .ref pb ∧ BookAt P w C H pb TT F c ∧ TT.length ≤ 100000 ∧ F.length ≤ 100000 ∧ ∀ H', Kit.KeepE pb H H' → BookAt P w C H' pb (addT TT k) (addF F (k.1, .num d) k.2) (addC c F (k.1, .num d) k.2) → R H'
theorem NoteK.ex {P : Program} {w : World} {C : Addr} {H H1 : Hp} {bk : V} {k : Kit.BK} {d : Int} {R : Hp → Prop} (n : NoteK P w C H bk k d R) (e : Evl.Ex H H1) : NoteK P w C H1 bk k d R := by
  rcases n with ⟨h, q⟩ | ⟨pb, TT, F, c, h, b, l1, l2, q⟩
  · exact .inl ⟨h, fun H' e' => q H' (e.trans e')⟩
  · exact .inr ⟨pb, TT, F, c, h, b.ex e, l1, l2, fun H' k' b' => q H' ((Kit.KeepE.of e).trans k') b'⟩
theorem NoteK.of {P : Program} {w : World} {C : Addr} {H : Hp} {bk : V} {k : Kit.BK} {d d' : Int} {R : Hp → Prop} (n : NoteK P w C H bk k d R) (h : d = d') : NoteK P w C H bk k d' R := h ▸ n
def DigO (C : Addr) (H : Hp) (d : Addr) (m : Int) (bk : V) : Prop := ∃ dx b, H d = some (.ins C dx (fl_Digests (.int b) bk (.int m)))
def sp_Digests_init (C : Addr) : Sp := fun vs H Q _ => ∃ (p dx : Addr) (b : Int) (bk : V), vs = [.ref p, .int b, bk] ∧ H p = some (.ins C dx []) ∧ 0 ≤ b ∧ b ≤ 61 ∧ ∀ H', Kit.ExBut p H H' → H' p = some (.ins C dx (fl_Digests (.int b) bk (.int (2 ^ b.toNat - 1)))) → Q .non H'
theorem ok_Digests___init (T : Txt K mg) : FnOk P w K mg base CX0 1 T.f_Digests___init.f T.f_Digests___init.fd ["self", "bits", "book"] (sp_Digests_init T.c_Digests.C) := by
  refine T.f_Digests___init.F.ok sc_Digests___init (fun vs H Q E h => ?_) (fun cdv A outer s H vs Q E hr h => ?_)
  · obtain ⟨p, dx, b, bk, rfl, hp, b0, b1, q⟩ := h
    rfl
  obtain ⟨p, dx, b, bk, rfl, hp, b0, b1, q⟩ := h
  have nd := sc_Digests___init.nd
  refine Kit.ok_body (σ := [some _, some _, some _]) ((pss_cons (Kit.kSet K (pv 0) (pv 1) rfl)
    (pss_cons (Kit.kSet K (pv 0) (pv 2) rfl)
    (pss_one (Kit.kSet K (pv 0) (pe_op op_sub (pe_op op_shl pe_int (pv 1)) pe_int) rfl))))) rfl ?_
  walk_at "wp"
  refine Kit.w_I (show CPow 1 b from ⟨b0, by omega, by decide⟩) ?_
  walk_at "wp"
  rename_i f
  refine q _ (by walk_at "but") ?_
  rw [Int.one_mul] at f
  exact f
theorem use_Digests {C : Addr} {b : Int} {bk : V} {H : Hp} {Q : VK} {E : XK} (hb : IsBits b) (k : ∀ p dx H', H p = none → Evl.Ex H H' → H' p = some (.ins C dx (fl_Digests (.int b) bk (.int (2 ^ b.toNat - 1)))) → Q (.ref p) H') : Kit.MakeOf C (sp_Digests_init C) E [.int b, bk] H Q := by
  have b0 := hb.or
  refine Kit.w_made fun x dx H2 hx e h => ?_
  exact ⟨x, dx, b, bk, rfl, h, by omega, by omega, fun H3 m h3 => ⟨rfl, k x dx H3 hx (Kit.ex_but m hx e) h3⟩⟩
local macro_rules | `(tactic| walk_at "wp1") => `(tactic| ((with_reducible show Kit.MakeOf _ (sp_Digests_init _) _ [_, _] _ _); refine use_Digests (by assumption) ?_; intro _ _ _ _ _ _))
def sp_noted (P : Program) (w : World) (C CB : Addr) : Sp := fun vs H Q _ => ∃ (p dx : Addr) (b m bk : V) (kd : Str) (x : V) (t : Kit.TK) (d : Int), vs = [.ref p, .str kd, x, .int d] ∧ H p = some (.ins C dx (fl_Digests b bk m)) ∧ Kit.TVal H t x ∧ NoteK P w CB H bk (kd, t) d fun H' => Q (.int d) H'
theorem ok_Digests__noted (T : Txt K mg) : FnOk P w K mg base CX0 2 T.f_Digests__noted.f T.f_Digests__noted.fd ["self", "kind", "text", "digest"] (sp_noted P w T.c_Digests.C T.c_Book.C) := by
  have G_Book_add := ok_Book_add (P := P) (w := w) (base := base) T
  refine T.f_Digests__noted.F.ok sc_Digests__noted (fun vs H Q E h => ?_) (fun cdv A outer s H vs Q E hr h => ?_)
  · obtain ⟨p, dx, b, m, bk, kd, x, t, d, rfl, hp, tv, nk⟩ := h
    rfl
  obtain ⟨p, dx, b, m, bk, kd, x, t, d, rfl, hp, tv, nk⟩ := h
  have nd := sc_Digests__noted.nd
  have hr1 : Room 1 _ := hr.mono (by decide)
  refine Kit.ok_body (σ := [some _, some _, some _, some _]) ((pss_cons (ps_if (pt_cmpR Kit.k_notN (Kit.kFld K (pv 0) rfl) pe_non (nomark _))
    (pss_one (ps_expr (pe_meth (Kit.kFld K (pv 0) rfl) T.c_Book.cl T.m_Book_add G_Book_add hr1 T.f_Book_add.b .nil pass0 (pa_cons (pv 1) (pa_cons (pv 2) (pa_cons (pv 3) pa_nil))))))
    pss_nil)
    (pss_one (ps_ret (pv 3))))) rfl ?_
  try dsimp only [L2.cxOf, L2.Cx.nox]
  rcases nk with ⟨rfl, q⟩ | ⟨pb, TT, F, c, rfl, hb, l1, l2, q⟩
  · walk_at "wp"
    exact q _ (Evl.Ex.refl _)
  · walk_at "wp"
    refine ⟨pb, kd, x, d, t, TT, F, c, rfl, hb, tv, l1, l2, fun H' k' b' => ?_⟩
    walk_at "wp"
    exact q H' k' b'
def sp_leaf (P : Program) (w : World) (C CB : Addr) : Sp := fun vs H Q _ => ∃ (p dx : Addr) (b bk : V) (m x : Int), vs = [.ref p, .int x] ∧ H p = some (.ins C dx (fl_Digests b bk (.int m))) ∧ 0 < m ∧ NoteK P w CB H bk ("leaf", .num x) (leafI m x) fun H' => Q (.int (leafI m x)) H'
theorem ok_Digests_leaf (T : Txt K mg) : FnOk P w K mg base CX0 3 T.f_Digests_leaf.f T.f_Digests_leaf.fd ["self", "word"] (sp_leaf P w T.c_Digests.C T.c_Book.C) := by
  have G_Digests__noted := ok_Digests__noted (P := P) (w := w) (base := base) T
  refine T.f_Digests_leaf.F.ok sc_Digests_leaf (fun vs H Q E h => ?_) (fun cdv A outer s H vs Q E hr h => ?_)
  · obtain ⟨p, dx, b, bk, m, x, rfl, hp, m0, nk⟩ := h
    rfl
  obtain ⟨p, dx, b, bk, m, x, rfl, hp, m0, nk⟩ := h
  have nd := sc_Digests_leaf.nd
  have hr2 : Room 2 _ := hr.mono (by decide)
  refine Kit.ok_body (σ := [some _, some _]) ((pss_one (ps_ret (pe_meth (pv 0) T.c_Digests.cl T.m_Digests__noted G_Digests__noted hr2 T.f_Digests__noted.b .nil pass0 (pa_cons pe_str (pa_cons (pv 1) (pa_cons (pe_op op_mod (pe_op op_add (pe_op op_mul pe_int (pv 1)) pe_int) (Kit.kFld K (pv 0) rfl)) pa_nil))))))) rfl ?_
  try dsimp only [L2.cxOf, L2.Cx.nox]
  walk_at "wp"
  exact ⟨p, dx, b, .int m, bk, "leaf", .int x, .num x, _, rfl, hp, rfl, nk⟩
def sp_fold (P : Program) (w : World) (C CB : Addr) : Sp := fun vs H Q _ => ∃ (p dx : Addr) (b bk : V) (m x y : Int), vs = [.ref p, .int x, .int y] ∧ H p = some (.ins C dx (fl_Digests b bk (.int m))) ∧ 0 < m ∧ m < 2 ^ 62 ∧ Dg m x ∧ Dg m y ∧ NoteK P w CB H bk ("fold", .nums [x, y]) (foldI m x y) fun H' => Q (.int (foldI m x y)) H'
theorem ok_Digests_fold (T : Txt K mg) : FnOk P w K mg base CX0 3 T.f_Digests_fold.f T.f_Digests_fold.fd ["self", "left", "right"] (sp_fold P w T.c_Digests.C T.c_Book.C) := by
  have G_Digests__noted := ok_Digests__noted (P := P) (w := w) (base := base) T
  refine T.f_Digests_fold.F.ok sc_Digests_fold (fun vs H Q E h => ?_) (fun cdv A outer s H vs Q E hr h => ?_)
  · obtain ⟨p, dx, b, bk, m, x, y, rfl, hp, m0, m1, ⟨x0, x1⟩, ⟨y0, y1⟩, nk⟩ := h
    rfl
  obtain ⟨p, dx, b, bk, m, x, y, rfl, hp, m0, m1, ⟨x0, x1⟩, ⟨y0, y1⟩, nk⟩ := h
  have nd := sc_Digests_fold.nd
  have hr2 : Room 2 _ := hr.mono (by decide)
  refine Kit.ok_body (σ := [some _, some _, some _, none, none]) ((pss_cons (ps_set (i := 3) nd rfl (Or.inl rfl) (pe_op op_add (pe_op op_add (pe_op op_mul pe_int (pv 1)) (pe_op op_mul pe_int (pv 2))) pe_int))
    (pss_cons (ps_set (i := 4) nd rfl (Or.inl rfl) (pe_op op_add (pe_op op_add (pe_op op_add (pe_op op_add (pe_op op_mul (pv 2) (pv 2)) (pe_op op_mul pe_int (pv 1))) (pe_op op_mul pe_int (pv 2))) pe_int) (pe_op op_mulW (pv 3) (pv 3))))
    (pss_one (ps_ret (pe_meth (pv 0) T.c_Digests.cl T.m_Digests__noted G_Digests__noted hr2 T.f_Digests__noted.b .nil pass0 (pa_cons pe_str (pa_cons (pe_tup (pa_cons (pv 1) (pa_cons (pv 2) pa_nil))) (pa_cons (pe_op op_mod (pv 4) (Kit.kFld K (pv 0) rfl)) pa_nil))))))))) rfl ?_
  try dsimp only [L2.cxOf, L2.Cx.nox]
  walk_at "wp"
  refine Kit.w_I (mulW (by omega) (by omega)) ?_
  walk_at "wp"
  rename_i a H1 n1 e1 f1
  exact ⟨p, dx, b, .int m, bk, "fold", .ref a, .nums [x, y], _, rfl, e1 _ _ hp, ⟨a, rfl, f1⟩, nk.ex e1⟩
theorem step_dg {m d n : Int} (h : 0 < m) : Dg m (stepI m d n) := ⟨Int.emod_nonneg _ (by omega), Int.emod_lt_of_pos _ h⟩
theorem fold_dg {m x y : Int} (h : 0 < m) : Dg m (foldI m x y) := ⟨Int.emod_nonneg _ (by omega), Int.emod_lt_of_pos _ h⟩
theorem leaf_dg {m x : Int} (h : 0 < m) : Dg m (leafI m x) := ⟨Int.emod_nonneg _ (by omega), Int.emod_lt_of_pos _ h⟩
theorem foldl_dg {m : Int} (h : 3 < m) : ∀ (ns : List Int) (d : Int), Dg m d → Dg m (ns.foldl (stepI m) d)
  | [], _, hd => hd
  | _ :: ns, _, _ => foldl_dg h ns _ (step_dg (by omega))
theorem int_of {ns : List Int} {i : Nat} {x : V} (h : (ns.map V.int)[i]? = some x) : ∃ n, ns[i]? = some n ∧ x = .int n ∧ n ∈ ns := by
  rw [List.getElem?_map] at h
  cases e : ns[i]? with
  | none => rw [e] at h; cases h
  | some n => rw [e] at h; exact ⟨n, rfl, (Option.some.inj h).symm, List.mem_of_getElem? e⟩
def sp_state (P : Program) (w : World) (C CB : Addr) : Sp := fun vs H Q _ => ∃ (p dx : Addr) (b bk : V) (m : Int) (a : Addr) (ns : List Int), vs = [.ref p, .ref a] ∧ H p = some (.ins C dx (fl_Digests b bk (.int m))) ∧ 3 < m ∧ m < 2 ^ 62 ∧ H a = some (.tup (ns.map V.int)) ∧ (∀ n ∈ ns, 0 ≤ n ∧ n < 2 ^ 62) ∧ ns.length ≤ 1000 ∧
  NoteK P w CB H bk ("state", .nums ns) (stateI m ns) fun H' => Q (.int (stateI m ns)) H'
/-! ### rows of texts, and what a book knows of them -/
abbrev Rw := Kit.Rw
def cnd (a b : Rw) : Bool := decide (a.1 = b.1) && decide (a.2.2 = b.2.2) && !decide (a.2.1 = b.2.1)
def dueR (rs : List Rw) : Bool := rs.any fun a => rs.any (cnd a)
def keyR (r : Rw) : Kit.BK := (r.1, r.2.1)
def firstK (r : Rw) : Kit.BK := (r.1, .num r.2.2)
structure Knows (rs : List Rw) (TT : List Kit.BK) (F : List (Kit.BK × Kit.TK)) (c : Bool) : Prop where
  texts : TT = rs.map keyR
  sound : ∀ k t, findF F k = some t → ∃ r ∈ rs, firstK r = k ∧ r.2.1 = t
  full : ∀ r ∈ rs, ∃ t, findF F (firstK r) = some t
  coll : c = dueR rs
  size : F.length ≤ rs.length
theorem knows_nil : Knows [] [] [] false := ⟨rfl, fun _ _ h => (nomatch h), fun _ h => (nomatch h), rfl, Nat.le_refl 0⟩
theorem cnd_iff {a b : Rw} : cnd a b = true ↔ firstK a = firstK b ∧ a.2.1 ≠ b.2.1 := by
  obtain ⟨a1, a2, a3⟩ := a
  obtain ⟨b1, b2, b3⟩ := b
  simp [cnd, firstK, and_assoc]
theorem dueR_iff {rs : List Rw} : dueR rs = true ↔ ∃ a ∈ rs, ∃ b ∈ rs, cnd a b = true := by simp [dueR, List.any_eq_true]
theorem findF_snoc (F : List (Kit.BK × Kit.TK)) (k0 k : Kit.BK) (t : Kit.TK) : findF (F ++ [(k0, t)]) k = match findF F k with
    | some x => some x
    | none => if k0 = k then some t else none := by
  unfold findF
  rw [List.find?_append]
  cases h : F.find? fun f => decide (f.1 = k) with
  | some x => rfl
  | none =>
    by_cases e : k0 = k
    · simp [List.find?_cons, e]
    · simp [List.find?_cons, e]
def addR (rs : List Rw) (r : Rw) : List Rw := if r ∈ rs then rs else rs ++ [r]
theorem Knows.add {rs : List Rw} {TT : List Kit.BK} {F : List (Kit.BK × Kit.TK)} {c : Bool} (h : Knows rs TT F c) {r : Rw} (hr : r ∈ rs ∨ ∀ x ∈ rs, keyR x ≠ keyR r) :
    Knows (addR rs r) (addT TT (keyR r)) (addF F (firstK r) r.2.1) (addC c F (firstK r) r.2.1) := by
  by_cases m : r ∈ rs
  · obtain ⟨t0, ht⟩ := h.full r m
    obtain ⟨r0, m0, e0, et⟩ := h.sound _ _ ht
    have e1 : addR rs r = rs := if_pos m
    have e2 : addT TT (keyR r) = TT := if_pos (by rw [h.texts]; exact List.mem_map_of_mem m)
    have e3 : addF F (firstK r) r.2.1 = F := by unfold addF; rw [ht]
    have e4 : addC c F (firstK r) r.2.1 = c := by
      unfold addC
      rw [ht]
      show (if t0 = r.2.1 then c else true) = c
      by_cases e : t0 = r.2.1
      · rw [if_pos e]
      · rw [if_neg e, h.coll]
        exact (dueR_iff.mpr ⟨r0, m0, r, m, cnd_iff.mpr ⟨e0, by rw [et]; exact e⟩⟩).symm
    rw [e1, e2, e3, e4]
    exact h
  · have no : ∀ x ∈ rs, keyR x ≠ keyR r := hr.resolve_left m
    have e1 : addR rs r = rs ++ [r] := if_neg m
    have e2 : addT TT (keyR r) = TT ++ [keyR r] := if_neg (by
      rw [h.texts]
      intro z
      obtain ⟨x, hx, e⟩ := List.mem_map.mp z
      exact no x hx e)
    have hk : ∀ x ∈ rs, firstK x = firstK r → x.2.1 ≠ r.2.1 := fun x hx e et => no x hx (by
      have e' : x.1 = r.1 := (Prod.mk.inj e).1
      show (x.1, x.2.1) = (r.1, r.2.1)
      rw [e', et])
    rw [e1, e2]
    cases hf : findF F (firstK r) with
    | some t0 =>
      obtain ⟨r0, m0, e0, et⟩ := h.sound _ _ hf
      have ne : t0 ≠ r.2.1 := et ▸ hk r0 m0 e0
      have e3 : addF F (firstK r) r.2.1 = F := by unfold addF; rw [hf]
      have e4 : addC c F (firstK r) r.2.1 = true := by unfold addC; rw [hf]; exact if_neg ne
      rw [e3, e4]
      refine ⟨by rw [h.texts, List.map_append]; rfl, fun k t z => ?_, fun x hx => ?_, ?_, by rw [List.length_append]; exact Nat.le_succ_of_le h.size⟩
      · obtain ⟨y, hy, q⟩ := h.sound k t z
        exact ⟨y, List.mem_append_left _ hy, q⟩
      · rcases List.mem_append.mp hx with hx | hx
        · exact h.full x hx
        · rw [List.mem_singleton.mp hx]
          exact ⟨t0, hf⟩
      · exact (dueR_iff.mpr ⟨r0, List.mem_append_left _ m0, r, List.mem_append_right _ (List.mem_singleton.mpr rfl), cnd_iff.mpr ⟨e0, by rw [et]; exact ne⟩⟩).symm
    | none =>
      have no2 : ∀ x ∈ rs, firstK x ≠ firstK r := fun x hx e => by
        obtain ⟨t, ht⟩ := h.full x hx
        rw [e, hf] at ht
        cases ht
      have e3 : addF F (firstK r) r.2.1 = F ++ [(firstK r, r.2.1)] := by unfold addF; rw [hf]
      have e4 : addC c F (firstK r) r.2.1 = c := by unfold addC; rw [hf]
      rw [e3, e4]
      refine ⟨by rw [h.texts, List.map_append]; rfl, fun k t z => ?_, fun x hx => ?_, ?_, by rw [List.length_append, List.length_append]; exact Nat.succ_le_succ h.size⟩
      · rw [findF_snoc] at z
        cases hk2 : findF F k with
        | some y =>
          rw [hk2] at z
          cases z
          obtain ⟨y, hy, q⟩ := h.sound k _ hk2
          exact ⟨y, List.mem_append_left _ hy, q⟩
        | none =>
          rw [hk2] at z
          by_cases e : firstK r = k
          · refine ⟨r, List.mem_append_right _ (List.mem_singleton.mpr rfl), e, ?_⟩
            have z' : (if firstK r = k then some r.2.1 else none) = some t := z
            rw [if_pos e] at z'
            exact Option.some.inj z'
          · have z' : (if firstK r = k then some r.2.1 else none) = some t := z
            rw [if_neg e] at z'
            cases z'
      · rw [findF_snoc]
        rcases List.mem_append.mp hx with hx | hx
        · obtain ⟨t, ht⟩ := h.full x hx
          rw [ht]
          exact ⟨t, rfl⟩
        · rw [List.mem_singleton.mp hx, hf]
          exact ⟨r.2.1, if_pos rfl⟩
      · rw [h.coll, Bool.eq_iff_iff, dueR_iff, dueR_iff]
        constructor
        · rintro ⟨a, ha, b, hb, q⟩
          exact ⟨a, List.mem_append_left _ ha, b, List.mem_append_left _ hb, q⟩
        · rintro ⟨a, ha, b, hb, q⟩
          obtain ⟨q1, q2⟩ := cnd_iff.mp q
          rcases List.mem_append.mp ha with ha | ha <;> rcases List.mem_append.mp hb with hb | hb
          · exact ⟨a, ha, b, hb, q⟩
          · exact (no2 a ha (by rw [q1, List.mem_singleton.mp hb])).elim
          · exact (no2 b hb (by rw [← q1, List.mem_singleton.mp ha])).elim
          · exact (q2 (by rw [List.mem_singleton.mp ha, List.mem_singleton.mp hb])).elim
theorem w_neBB {b : Bool} {H : Hp} {Q : VK} (q : Q (.bl false) H) : rNe (.bl b) (.bl b) H Q := Kit.w_neB (by rw [beq_self_eq_true]; exact q)
theorem sq_but {K : PySem.W.Frag} {H H' : Hp} {a r : Addr} {xs : List V} (m : Kit.ExBut r H H') (n : a ≠ r) (h : SqL K H a xs) : SqL K H' a xs := by
  rcases h with (h | ⟨o, h⟩) | h
  · exact .inl (.inl (m _ _ n h))
  · exact .inl (.inr ⟨o, m _ _ n h⟩)
  · exact .inr h
theorem any_take {α : Type} {l : List α} {p : α → Bool} {i : Nat} {x : α} (h : l[i]? = some x) : (l.take (i + 1)).any p = ((l.take i).any p || p x) := by
  rw [List.take_succ, h, List.any_append]
  simp
def hitB (rs : List Rw) (kd : Str) (t : Kit.TK) (i : Nat) : Bool := match rs[i]? with
  | some r => decide (r.1 = kd) && decide (r.2.1 = t)
  | none => false

/-! ### a book that is told texts -/
inductive Tx where
  | lf (w : Int)
  | fd (x y : Int)
  | st (ns : List Int)
deriving DecidableEq
def Tx.row (m : Int) : Tx → Rw
  | .lf w => ("leaf", .num w, leafI m w)
  | .fd x y => ("fold", .nums [x, y], foldI m x y)
  | .st ns => ("state", .nums ns, stateI m ns)
theorem tx_key {m : Int} {t u : Tx} (h : keyR (t.row m) = keyR (u.row m)) : t = u := by
  have h1 : (t.row m).1 = (u.row m).1 := (Prod.mk.inj h).1
  have h2 : (t.row m).2.1 = (u.row m).2.1 := (Prod.mk.inj h).2
  have ne1 : (("leaf" : Str)) ≠ "fold" := by decide +kernel
  have ne2 : (("leaf" : Str)) ≠ "state" := by decide +kernel
  have ne3 : (("fold" : Str)) ≠ "state" := by decide +kernel
  cases t <;> cases u
  · injection h2 with h2; rw [h2]
  · exact absurd h1 ne1
  · exact absurd h1 ne2
  · exact absurd h1.symm ne1
  · injection h2 with h2
    simp only [List.cons.injEq, and_true] at h2
    rw [h2.1, h2.2]
  · exact absurd h1 ne3
  · exact absurd h1.symm ne2
  · exact absurd h1.symm ne3
  · injection h2 with h2; rw [h2]
theorem tx_mem {m : Int} {l : List Tx} {t : Tx} : t.row m ∈ l.map (Tx.row m) ↔ t ∈ l := by
  rw [List.mem_map]
  exact ⟨fun ⟨x, hx, e⟩ => tx_key (m := m) (congrArg keyR e) ▸ hx, fun h => ⟨t, h, rfl⟩⟩
def addX (l : List Tx) (t : Tx) : List Tx := if t ∈ l then l else l ++ [t]
theorem tx_add {m : Int} {l : List Tx} {t : Tx} : addR (l.map (Tx.row m)) (t.row m) = (addX l t).map (Tx.row m) := by
  unfold addR addX
  by_cases h : t ∈ l
  · rw [if_pos h, if_pos (tx_mem.mpr h)]
  · rw [if_neg h, if_neg (fun z => h (tx_mem.mp z)), List.map_append]
    rfl
/-- l' is l with the texts S: none twice, not too long -/
structure Ext (l l' S : List Tx) (n : Nat) : Prop where
  mem : ∀ t, t ∈ l' ↔ t ∈ l ∨ t ∈ S
  nd : l.Nodup → l'.Nodup
  len : l'.length ≤ l.length + n
theorem Ext.refl (l : List Tx) : Ext l l [] 0 := ⟨fun _ => ⟨.inl, fun h => h.elim id fun z => nomatch z⟩, id, Nat.le_refl _⟩
theorem Ext.trans {l l1 l2 S S2 : List Tx} {n n2 : Nat} (a : Ext l l1 S n) (b : Ext l1 l2 S2 n2) : Ext l l2 (S ++ S2) (n + n2) :=
  ⟨fun t => by rw [b.mem, a.mem, List.mem_append, or_assoc], fun h => b.nd (a.nd h), by have := a.len; have := b.len; omega⟩
theorem Ext.add (l : List Tx) (t : Tx) : Ext l (addX l t) [t] 1 := by
  unfold addX
  by_cases h : t ∈ l
  · rw [if_pos h]
    exact ⟨fun u => ⟨.inl, fun z => z.elim id fun z => List.mem_singleton.mp z ▸ h⟩, id, Nat.le_succ _⟩
  · rw [if_neg h]
    refine ⟨fun u => List.mem_append, fun nd => ?_, by rw [List.length_append]; exact Nat.le_refl _⟩
    rw [List.nodup_append]
    exact ⟨nd, List.nodup_cons.mpr ⟨by simp, List.nodup_nil⟩, fun a ha b hb => by rw [List.mem_singleton.mp hb]; rintro rfl; exact h ha⟩
theorem Ext.of {l l' S S2 : List Tx} {n n2 : Nat} (a : Ext l l' S n) (h : ∀ t, t ∈ S ↔ t ∈ S2) (hn : n ≤ n2) : Ext l l' S2 n2 := ⟨fun t => by rw [a.mem, h], a.nd, Nat.le_trans a.len (by omega)⟩
structure BkG (P : Program) (w : World) (C : Addr) (H : Hp) (pb : Addr) (m : Int) (l : List Tx) : Prop where
  ex : ∃ TT F c, BookAt P w C H pb TT F c ∧ Knows (l.map (Tx.row m)) TT F c
structure DigB (C : Addr) (H : Hp) (p pb : Addr) (m : Int) : Prop where
  at_ : ∃ dx b, H p = some (.ins C dx (fl_Digests b (.ref pb) (.int m)))
  pos : 0 < m
  lt : m < 2 ^ 62
  ne : p ≠ pb
section
variable {P : Program} {w : World} {K : PySem.W.Frag} {C CB p pb : Addr} {m : Int} {l : List Tx} {H H' : Hp}
theorem DigB.keep (d : DigB C H p pb m) (k : Kit.KeepE pb H H') : DigB C H' p pb m := let ⟨⟨dx, b, h⟩, a, c, n⟩ := d; ⟨⟨dx, b, k.1 p _ n h rfl⟩, a, c, n⟩
theorem DigB.but {r : Addr} {vs : List V} (d : DigB C H p pb m) (e : Kit.ExBut r H H') (hr : H r = some (.lst vs)) : DigB C H' p pb m := let ⟨⟨dx, b, h⟩, a, c, n⟩ := d; ⟨⟨dx, b, e p _ (by rintro rfl; rw [hr] at h; cases h) h⟩, a, c, n⟩
theorem BkG.pbI (b : BkG P w CB H pb m l) : ∃ C dx fs, H pb = some (.ins C dx fs) := let ⟨_, _, _, ⟨_, _, _, _, h, _⟩, _⟩ := b.ex; ⟨_, _, _, h⟩
theorem BkG.exE (b : BkG P w CB H pb m l) (e : Evl.Ex H H') : BkG P w CB H' pb m l := let ⟨TT, F, c, h, k⟩ := b.ex; ⟨⟨TT, F, c, h.ex e, k⟩⟩
theorem BkG.but {r : Addr} {vs : List V} (b : BkG P w CB H pb m l) (e : Kit.ExBut r H H') (hr : H r = some (.lst vs)) : BkG P w CB H' pb m l := let ⟨TT, F, c, h, k⟩ := b.ex; ⟨⟨TT, F, c, h.butL hr e, k⟩⟩
theorem keep_lst (b : BkG P w CB H pb m l) (k : Kit.KeepE pb H H') {a : Addr} {vs : List V} (h : H a = some (.lst vs)) : H' a = some (.lst vs) := let ⟨_, _, _, z⟩ := b.pbI; k.lst z a vs h
theorem keep_tup (b : BkG P w CB H pb m l) (k : Kit.KeepE pb H H') {a : Addr} {vs : List V} (h : H a = some (.tup vs)) : H' a = some (.tup vs) := let ⟨_, _, _, z⟩ := b.pbI; k.tup z a vs h
theorem keep_sqL (b : BkG P w CB H pb m l) (k : Kit.KeepE pb H H') {a : Addr} {vs : List V} (h : SqL K H a vs) : SqL K H' a vs := let ⟨_, _, _, z⟩ := b.pbI; k.sqL z h
theorem keep_sqT (b : BkG P w CB H pb m l) (k : Kit.KeepE pb H H') {a : Addr} {vs : List V} (h : SqT K H a vs) : SqT K H' a vs := by
  obtain ⟨_, _, _, z⟩ := b.pbI
  rcases h with (h | ⟨o, h⟩) | h
  · exact .inl (.inl (k.tup z a _ h))
  · exact .inl (.inr ⟨o, k.1 a _ (by rintro rfl; rw [z] at h; cases h) h rfl⟩)
  · exact .inr h
theorem keep_ins (b : BkG P w CB H pb m l) (k : Kit.KeepE pb H H') {a C dx : Addr} {fs : List (Str × V)} (h : H a = some (.ins C dx fs)) (n : a ≠ pb) : H' a = some (.ins C dx fs) := k.1 a _ n h rfl
/-- the book is told one more text -/
theorem BkG.told {H' : Hp} {TT : List Kit.BK} {F : List (Kit.BK × Kit.TK)} {c : Bool} (k : Knows (l.map (Tx.row m)) TT F c) (t : Tx) (b : BookAt P w CB H' pb (addT TT (keyR (t.row m))) (addF F (firstK (t.row m)) (t.row m).2.1) (addC c F (firstK (t.row m)) (t.row m).2.1)) : BkG P w CB H' pb m (addX l t) := by
  refine ⟨⟨_, _, _, b, ?_⟩⟩
  have h := k.add (r := t.row m) (by
    by_cases z : t ∈ l
    · exact .inl (tx_mem.mpr z)
    · refine .inr fun r hr e => ?_
      obtain ⟨s, hs, rfl⟩ := List.mem_map.mp hr
      exact z (tx_key e ▸ hs))
  rw [tx_add] at h
  exact h
theorem BkG.noteK (b : BkG P w CB H pb m l) (hl : l.length ≤ 100000) (t : Tx) {R : Hp → Prop} (q : ∀ H', Kit.KeepE pb H H' → BkG P w CB H' pb m (addX l t) → R H') : NoteK P w CB H (.ref pb) ((t.row m).1, (t.row m).2.1) (t.row m).2.2 R := by
  obtain ⟨TT, F, c, hB, hK⟩ := b.ex
  refine .inr ⟨pb, TT, F, c, rfl, hB, ?_, ?_, fun H' k b' => q H' k (BkG.told hK t b')⟩
  · rw [hK.texts, List.length_map, List.length_map]; exact hl
  · exact Nat.le_trans hK.size (by rw [List.length_map]; exact hl)
theorem use_leafG {x : Int} {Q : VK} {E : XK} (hd : DigB C H p pb m) (hb : BkG P w CB H pb m l) (hl : l.length ≤ 100000) (q : ∀ H', Kit.KeepE pb H H' → BkG P w CB H' pb m (addX l (.lf x)) → Q (.int (leafI m x)) H') : sp_leaf P w C CB [.ref p, .int x] H Q E := by
  obtain ⟨dx, b, h⟩ := hd.at_
  exact ⟨p, dx, b, .ref pb, m, x, rfl, h, hd.pos, hb.noteK hl (.lf x) q⟩
theorem use_foldG {x y : Int} {Q : VK} {E : XK} (hd : DigB C H p pb m) (hb : BkG P w CB H pb m l) (hx : Dg m x) (hy : Dg m y) (hl : l.length ≤ 100000) (q : ∀ H', Kit.KeepE pb H H' → BkG P w CB H' pb m (addX l (.fd x y)) → Q (.int (foldI m x y)) H') : sp_fold P w C CB [.ref p, .int x, .int y] H Q E := by
  obtain ⟨dx, b, h⟩ := hd.at_
  exact ⟨p, dx, b, .ref pb, m, x, y, rfl, h, hd.pos, hd.lt, hx, hy, hb.noteK hl (.fd x y) q⟩
/-- two different texts of one kind with one digest -/
theorem BkG.coll (b : BkG P w CB H pb m l) {x y : Tx} (hx : x ∈ l) (hy : y ∈ l) (n : x ≠ y) (e : firstK (x.row m) = firstK (y.row m)) {Q : VK} {E : XK} (q : Q (.bl true) H) : sp_Book_coll P w CB [.ref pb] H Q E := by
  obtain ⟨TT, F, c, hB, hK⟩ := b.ex
  refine ⟨pb, TT, F, c, rfl, hB, ?_⟩
  have hc : c = true := by
    rw [hK.coll]
    refine dueR_iff.mpr ⟨x.row m, tx_mem.mpr hx, y.row m, tx_mem.mpr hy, cnd_iff.mpr ⟨e, fun z => n (tx_key (m := m) ?_)⟩⟩
    show ((x.row m).1, (x.row m).2.1) = ((y.row m).1, (y.row m).2.1)
    rw [z, show (x.row m).1 = (y.row m).1 from (Prod.mk.inj e).1]
  rw [hc]
  exact q
end
theorem DigB.ins {C H p pb m} (d : DigB C H p pb m) {x : Str} {R : Prop} (l : ∀ b, (fl_Digests b (.ref pb) (.int m)).lookup x = none) (r : R) : Kit.InsOf C x (.ref p) H R := let ⟨⟨_, b, h⟩, _, _, _⟩ := d; Kit.w_ins h (l b) r
theorem BkG.ins {P w C H pb m l} (b : BkG P w C H pb m l) {x : Str} {R : Prop} (h : ∀ d1 d2 c, (fl_Book d1 d2 c).lookup x = none) (r : R) : Kit.InsOf C x (.ref pb) H R := let ⟨_, _, _, ⟨_, _, _, _, z, _⟩, _⟩ := b.ex; Kit.w_ins z (h _ _ _) r
local macro_rules | `(tactic| walk_at "wp1") => `(tactic| ((with_reducible show Kit.InsOf _ _ _ _ _); first | refine DigB.ins (by with_reducible assumption) (fun _ => rfl) ?_ | refine BkG.ins (by with_reducible assumption) (fun _ _ _ => rfl) ?_))
/-- items that change the book alone: the i-th is v i -/
theorem l_keepE {J : It} {n j : Nat} {x : Nat → V} {S : Hp → Prop} {pb : Addr} {H : Hp} {Q : VK} {σ : L2.St} {vs : List Nat} {te : TE} (w : Kit.Walks J n x S) (hn : n ≤ 40000) (hw : ∀ v, wipe ((wipe σ vs).set j (some v)) vs = wipe σ vs)
    (Iv : Nat → Hp → Prop) (v : Nat → V) (hS : ∀ i H', Iv i H' → S H') (hpb : ∀ i H', Iv i H' → ∃ C dx fs, H' pb = some (.ins C dx fs))
    (new : ∀ H2, Evl.Ex H H2 → Iv 0 H2) (stay : ∀ i D H1 H2 us, H D = none → H1 D = some (.lst us) → Kit.ExBut D H1 H2 → Kit.KeepE pb H H1 → Iv i H1 → Iv i H2)
    (he : ∀ i H', i < n → Kit.KeepE pb H H' → Iv i H' → ∀ R : VK, (∀ H2, Kit.KeepE pb H' H2 → Iv (i + 1) H2 → R (v i) H2) → te ((wipe σ vs).set j (some (x i))) H' R)
    (q : ∀ D H2, H D = none → Kit.KeepE pb H H2 → H2 D = some (.lst ((List.range n).map v)) → Iv n H2 → Q (.ref D) H2) : Kit.Lcj J (gName j) tYes te vs σ H Q := by
  have keepU : ∀ D H2 o, H D = none → Kit.KeepE pb H H2 → Kit.KeepE pb H (upd H2 D o) := fun D H2 o hD k => ⟨fun b z n hb hm => (by
    rw [upd_ne (ne_of_none hb hD)]
    exact k.1 b z n hb hm), fun b hb => by
    by_cases z : b = D
    · rw [z]; exact hD
    · rw [upd_ne z] at hb; exact k.2 b hb⟩
  refine Kit.l_any w hn hw (fun D i acc H' => H D = none ∧ Kit.KeepE pb H H' ∧ Iv i H' ∧ acc = (List.range i).map v) (fun D i acc H' h => hS _ _ h.2.2.1) (fun D hD => ⟨hD, .of (Evl.Ex.new hD), new _ (Evl.Ex.new hD), rfl⟩) ?_ ?_
  · rintro D i acc H' hD hi _ ha ⟨_, k, iv, rfl⟩ R _ r2
    refine r2 H' fun R2 rr => ?_
    refine he i H' hi k iv R2 fun H2 k2 iv2 => ?_
    obtain ⟨_, _, _, z⟩ := hpb _ _ iv
    have hD2 := k2.lst z D _ ha
    refine rr (v i) H2 hD2 ⟨hD, keepU D H2 _ hD (k.trans k2), stay (i + 1) D H2 _ _ hD hD2 (Kit.ExBut.upd (Kit.ExBut.refl D H2)) (k.trans k2) iv2, ?_⟩
    rw [List.range_succ, List.map_append]
    rfl
  · rintro D acc H2 hD _ ha ⟨_, k, iv, rfl⟩
    exact q D H2 hD k ha iv
theorem rgc2 {n : Int} {m : Nat} (h0 : n = 2 * m) (hn : m ≤ 40000) : RgC 0 n 2 m := by
  refine ⟨by decide, by decide, ?_, ?_⟩
  · subst h0
    unfold Builtin.Range.small Builtin.Range.rangeSize
    rw [if_pos (show (2 : Int) > 0 by decide), if_pos (show (2 : Int) > 0 by decide)]
    have hf : ∀ x : Int, 0 ≤ x → x ≤ 100000 → Builtin.Range.rangeFitsLong x = true := fun x h1 h2 => by
      unfold Builtin.Range.rangeFitsLong
      simp only [Bool.and_eq_true, decide_eq_true_eq]
      omega
    have h3 : (0 : Int) ≤ (if (0 : Int) < 2 * (m : Int) then (2 * (m : Int) - 0 - 1) / 2 + 1 else 0) ∧ (if (0 : Int) < 2 * (m : Int) then (2 * (m : Int) - 0 - 1) / 2 + 1 else 0) ≤ 100000 := by split <;> omega
    rw [hf 0 (by omega) (by omega), hf (2 * (m : Int)) (by omega) (by omega), hf 2 (by omega) (by omega), hf _ h3.1 h3.2, hf (2 * (m : Int) + (2 - 1)) (by omega) (by omega)]
    simp
  · subst h0
    unfold Builtin.Range.rangeSize
    split <;> omega

/-! ### rows and their levels -/
def iv (ns : List Int) : List V := ns.map V.int
theorem iv_at {r : List Int} {k : Nat} (h : k < r.length) : atI (iv r) (k : Int) = some (.int ((r[k]?).getD 0)) := by
  refine atI_nat (j := k) ?_
  unfold iv
  rw [List.getElem?_map, List.getElem?_eq_getElem h]
  rfl
theorem iv_at' {r : List Int} {z : Int} (k : Nat) (e : z = (k : Int)) (h : k < r.length) : atI (iv r) z = some (.int ((r[k]?).getD 0)) := by
  rw [e]
  exact iv_at h
theorem iv_len (r : List Int) : (iv r).length = r.length := List.length_map _
def AllDg (m : Int) (r : List Int) : Prop := ∀ x ∈ r, Dg m x
theorem AllDg.at {m : Int} {r : List Int} (h : AllDg m r) {k : Nat} (hk : k < r.length) : Dg m ((r[k]?).getD 0) := by
  rw [List.getElem?_eq_getElem hk]
  exact h _ (List.getElem_mem hk)
theorem pairs_at {f : Int → Int → Int} : ∀ (r : List Int) {m : Nat}, r.length = 2 * m → KM.pairs f r = (List.range m).map fun k => f ((r[2 * k]?).getD 0) ((r[2 * k + 1]?).getD 0) := by
  intro r m hr
  apply List.ext_getElem?
  intro i
  by_cases hi : i < m
  · rw [List.getElem?_map, List.getElem?_range hi]
    have h1 : 2 * i < r.length := by omega
    have h2 : 2 * i + 1 < r.length := by omega
    rw [KM.pairs_get r (List.getElem?_eq_getElem h1) (List.getElem?_eq_getElem h2)]
    show _ = some (f ((r[2 * i]?).getD 0) ((r[2 * i + 1]?).getD 0))
    rw [List.getElem?_eq_getElem h1, List.getElem?_eq_getElem h2]
    rfl
  · rw [List.getElem?_eq_none (by rw [KM.pairs_len r hr]; omega), List.getElem?_eq_none (by rw [List.length_map, List.length_range]; omega)]
theorem pairs_dg {m : Int} (hm : 0 < m) : ∀ r : List Int, AllDg m (KM.pairs (foldI m) r)
  | [] => fun x h => by cases h
  | [_] => fun x h => by cases h
  | a :: b :: r => fun x h => by
    rcases List.mem_cons.mp h with rfl | h
    · exact fold_dg hm
    · exact pairs_dg hm r x h
/-- lists at new addresses, one a row -/
def RowsAt (H0 H : Hp) : List Addr → List (List Int) → Prop
  | [], [] => True
  | p :: ps, r :: rs => H0 p = none ∧ H p = some (.lst (iv r)) ∧ p ∉ ps ∧ RowsAt H0 H ps rs
  | _, _ => False
theorem RowsAt.ex {H0 H H' : Hp} (e : Evl.Ex H H') : ∀ {ps : List Addr} {rs : List (List Int)}, RowsAt H0 H ps rs → RowsAt H0 H' ps rs
  | [], [], _ => trivial
  | _ :: _, _ :: _, ⟨a, b, c, d⟩ => ⟨a, e _ _ b, c, RowsAt.ex e d⟩
theorem RowsAt.but {q : Addr} {H0 H H' : Hp} (e : Kit.ExBut q H H') : ∀ {ps : List Addr} {rs : List (List Int)}, q ∉ ps → RowsAt H0 H ps rs → RowsAt H0 H' ps rs
  | [], [], _, _ => trivial
  | p :: ps, _ :: _, n, ⟨a, b, c, d⟩ => ⟨a, e _ _ (fun z => n (z ▸ List.mem_cons_self)) b, c, RowsAt.but e (fun z => n (List.mem_cons_of_mem _ z)) d⟩
theorem RowsAt.len {H0 H : Hp} : ∀ {ps : List Addr} {rs : List (List Int)}, RowsAt H0 H ps rs → ps.length = rs.length
  | [], [], _ => rfl
  | _ :: _, _ :: _, ⟨_, _, _, d⟩ => by rw [List.length_cons, List.length_cons, RowsAt.len d]
theorem RowsAt.get {H0 H : Hp} : ∀ {ps : List Addr} {rs : List (List Int)}, RowsAt H0 H ps rs → ∀ {i : Nat} {r : List Int}, rs[i]? = some r → ∃ p, ps[i]? = some p ∧ H0 p = none ∧ H p = some (.lst (iv r))
  | [], [], _, i, _, h => by simp at h
  | p :: ps, s :: rs, ⟨a, b, c, d⟩, 0, r, h => by
    have e : s = r := by simpa using h
    subst e
    exact ⟨p, rfl, a, b⟩
  | p :: ps, s :: rs, ⟨a, b, c, d⟩, i + 1, r, h => by
    obtain ⟨q, h1, h2⟩ := RowsAt.get d (i := i) (r := r) (by simpa using h)
    exact ⟨q, by simpa using h1, h2⟩
theorem RowsAt.mem {H0 H : Hp} : ∀ {ps : List Addr} {rs : List (List Int)}, RowsAt H0 H ps rs → ∀ {p : Addr}, p ∈ ps → ∃ xs, H p = some (.lst xs)
  | [], [], _, _, h => by cases h
  | q :: ps, s :: rs, ⟨a, b, c, d⟩, p, h => by
    rcases List.mem_cons.mp h with rfl | h
    · exact ⟨_, b⟩
    · exact RowsAt.mem d h
theorem RowsAt.snoc {H0 H : Hp} {q : Addr} {r : List Int} (hq : H0 q = none) (h : H q = some (.lst (iv r))) : ∀ {ps : List Addr} {rs : List (List Int)}, q ∉ ps → RowsAt H0 H ps rs → RowsAt H0 H (ps ++ [q]) (rs ++ [r])
  | [], [], _, _ => ⟨hq, h, by simp, trivial⟩
  | p :: ps, _ :: _, n, ⟨a, b, c, d⟩ => ⟨a, b, by
      intro z
      rcases List.mem_append.mp z with z | z
      · exact c z
      · exact n (List.mem_singleton.mp z ▸ List.mem_cons_self), RowsAt.snoc hq h (fun z => n (List.mem_cons_of_mem _ z)) d⟩
/-- a list of lists: the levels of a row -/
structure LevAt (H0 H : Hp) (l : Addr) (rs : List (List Int)) : Prop where
  ex : ∃ ps : List Addr, H l = some (.lst (ps.map V.ref)) ∧ RowsAt H0 H ps rs ∧ l ∉ ps ∧ H0 l = none
theorem LevAt.mono {H0 H H' : Hp} {l : Addr} {rs : List (List Int)} (e : Evl.Ex H H') (h : LevAt H0 H l rs) : LevAt H0 H' l rs := let ⟨ps, a, b, c, d⟩ := h.ex; ⟨ps, e _ _ a, b.ex e, c, d⟩
/-- the levels so far, by how far one has come -/
def LevSo (f : Int → Int → Int) (k : Nat) (row : List Int) (j : Nat) (rs : List (List Int)) : Prop := ∃ (pre : List (List Int)) (r : List Int), rs = pre ++ [r] ∧ r.length = 2 ^ j ∧ pre ++ KM.levs f j r = KM.levs f k row
theorem LevSo.next {f : Int → Int → Int} {k j : Nat} {row : List Int} {rs : List (List Int)} (h : LevSo f k row (j + 1) rs) : ∃ r, rs.getLast? = some r ∧ r.length = 2 * 2 ^ j ∧ LevSo f k row j (rs ++ [KM.pairs f r]) := by
  obtain ⟨pre, r, rfl, hr, e⟩ := h
  rw [KM.two_pow] at hr
  refine ⟨r, by simp, hr, pre ++ [r], KM.pairs f r, rfl, KM.pairs_len r hr, ?_⟩
  rw [List.append_assoc]
  exact e

/-! ### roots and paths -/
theorem LevAt.get {H0 H : Hp} {l : Addr} {rs : List (List Int)} (h : LevAt H0 H l rs) : ∃ ps : List Addr, H l = some (.lst (ps.map V.ref)) ∧ ps.length = rs.length ∧ ∀ (i : Nat) r, rs[i]? = some r → ∃ p, ps[i]? = some p ∧ H p = some (.lst (iv r)) := by
  obtain ⟨ps, a, b, _, _⟩ := h.ex
  exact ⟨ps, a, b.len, fun i r hi => let ⟨p, x, _, y⟩ := b.get hi; ⟨p, x, y⟩⟩
theorem levs_last {f : Int → Int → Int} : ∀ (k : Nat) (r : List Int), r.length = 2 ^ k → (KM.levs f k r)[k]? = some [KM.rootM f k r]
  | 0, [x], _ => rfl
  | k + 1, r, h => by
    rw [KM.two_pow] at h
    exact levs_last k _ (KM.pairs_len r h)
theorem ref_at {ps : List Addr} {k : Nat} {p : Addr} (h : ps[k]? = some p) : atI (ps.map V.ref) (k : Int) = some (.ref p) := by
  refine atI_nat (j := k) ?_
  rw [List.getElem?_map, h]
  rfl
theorem ref_last {ps : List Addr} {k : Nat} {p : Addr} (hl : ps.length = k + 1) (h : ps[k]? = some p) : atI (ps.map V.ref) (-1) = some (.ref p) := by
  have hne : ps ≠ [] := fun z => by rw [z] at hl; simp at hl
  have hq : ps.getLast hne = p := by
    rw [List.getLast_eq_getElem hne]
    obtain ⟨h3, h4⟩ := List.getElem?_eq_some_iff.mp h
    have h5 : ps.length - 1 = k := by omega
    simp only [h5]
    exact h4
  rw [← List.dropLast_concat_getLast hne, hq, List.map_append]
  exact atI_last _ _

/-! ### levels with a book -/
def prsX : List Int → List Tx
  | a :: b :: r => .fd a b :: prsX r
  | _ => []
def treeX (f : Int → Int → Int) : Nat → List Int → List Tx
  | 0, _ => []
  | k + 1, r => prsX r ++ treeX f k (KM.pairs f r)
theorem prsX_at : ∀ {r : List Int} {n i : Nat}, r.length = 2 * n → i < n → (prsX r)[i]? = some (.fd ((r[2 * i]?).getD 0) ((r[2 * i + 1]?).getD 0))
  | [], n, i, h, hi => by simp at h; omega
  | [_], n, i, h, hi => by simp at h; omega
  | a :: b :: r, n, 0, h, hi => rfl
  | a :: b :: r, n, i + 1, h, hi => by
    show (prsX r)[i]? = _
    rw [prsX_at (r := r) (n := n - 1) (i := i) (by simp at h; omega) (by omega)]
    rfl
theorem prsX_len : ∀ {r : List Int} {n : Nat}, r.length = 2 * n → (prsX r).length = n
  | [], n, h => by
    show 0 = n
    simp at h
    omega
  | [_], n, h => by simp at h; omega
  | a :: b :: r, n, h => by
    show (prsX r).length + 1 = n
    rw [prsX_len (r := r) (n := n - 1) (by simp at h; omega)]
    simp at h
    omega
theorem RowsAt.keep {P : Program} {w : World} {CB pb : Addr} {m : Int} {l : List Tx} {H0 H H' : Hp} (b : BkG P w CB H pb m l) (k : Kit.KeepE pb H H') : ∀ {ps : List Addr} {rs : List (List Int)}, RowsAt H0 H ps rs → RowsAt H0 H' ps rs
  | [], [], _ => trivial
  | _ :: _, _ :: _, ⟨a, h, c, d⟩ => ⟨a, keep_lst b k h, c, RowsAt.keep b k d⟩
theorem keep_upd {pb D : Addr} {H H2 H3 : Hp} {o : HO} (hD : H D = none) (k : Kit.KeepE pb H H2) (m : Kit.ExBut D H2 H3) (h3 : H3 D = some o) : Kit.KeepE pb H H3 := ⟨fun b o n hb hm => m b o (ne_of_none hb hD) (k.1 b o n hb hm), fun b hb => k.2 b (Kit.back_but m h3 b hb)⟩
def sp_levels_ofB (P : Program) (w : World) (K : PySem.W.Frag) (C CB : Addr) : Sp := fun vs H Q _ => ∃ (p pb a : Addr) (m : Int) (r : List Int) (k : Nat) (l : List Tx), vs = [.ref p, .ref a] ∧ DigB C H p pb m ∧ BkG P w CB H pb m l ∧ (SqL K H a (iv r) ∨ SqT K H a (iv r)) ∧ AllDg m r ∧ r.length = 2 ^ k ∧ k ≤ 8 ∧ l.length + 2 ^ k ≤ 90000 ∧
  ∀ L H' l', Kit.KeepE pb H H' → LevAt H H' L (KM.levs (foldI m) k r) → BkG P w CB H' pb m l' → Ext l l' (treeX (foldI m) k r) (2 ^ k) → Q (.ref L) H'
theorem ok_levels_ofB (T : Txt K mg) : FnOk P w K mg base CX0 4 T.f_levels_of.f T.f_levels_of.fd ["digests", "row"] (sp_levels_ofB P w K T.c_Digests.C T.c_Book.C) := by
  have G_Digests_fold := ok_Digests_fold (P := P) (w := w) (base := base) T
  refine T.f_levels_of.F.ok sc_levels_of (fun vs H Q E h => ?_) (fun cdv A outer s H vs Q E hr h => ?_)
  · obtain ⟨p, pb, a, m, r, k, l0, rfl, hd, hb, ha, hx, hk, hk8, hl0, q⟩ := h
    rfl
  obtain ⟨p, pb, a, m, r, k, l0, rfl, hd, hb, ha, hx, hk, hk8, hl0, q⟩ := h
  have nd := sc_levels_of.nd
  have hr3 : Room 3 _ := hr.mono (by decide)
  refine Kit.ok_body (σ := [some _, some _, none, none, none]) ((pss_cons (ps_set (i := 2) nd rfl (Or.inl rfl) (pe_lst (pa_cons (pe_callTy (Kit.kList K) (by rfl) T.z_list (by decide +kernel) (pa_cons (pv 1) pa_nil)) pa_nil)))
    (pss_cons (ps_while PassesOwn.never (pt_cmpR op_gt (pe_callB (Kit.kLen K) (by rfl) T.z_len (by decide +kernel) (pa_cons (pe_ix (Kit.ixL K) (pv 2) (pe_un un_neg pe_int) (fun _ _ => rfl)) pa_nil)) pe_int (nomark _))
    (pss_cons (ps_set (i := 3) nd rfl (Or.inr rfl) (pe_ix (Kit.ixL K) (pv 2) (pe_un un_neg pe_int) (fun _ _ => rfl)))
    (pss_one (ps_expr (pe_bm PySem.F.plainAttrs_list PySem.F.slot_list_append PySem.F.type_list_append mt_append (pv 2) (pa_cons (pe_lc (own := [("k", 4)]) (g := gName 4) (tt := tYes) (by rfl) nd (pi_range3 (by rfl) T.z_range (pa_cons pe_int (pa_cons (pe_callB (Kit.kLen K) (by rfl) T.z_len (by decide +kernel) (pa_cons (pv 3) pa_nil)) (pa_cons pe_int pa_nil)))) (blkOk_by (own := [("k", 4)]) (N := N_levels_of) (sc := defScope s_levels_of) (by decide +kernel)) (fun _ _ _ _ _ => pg_name (i := 4) nd rfl (Or.inl rfl)) (fun _ _ _ _ _ => pts_nil) (fun _ _ _ _ _ => (pe_meth (pv 0) T.c_Digests.cl T.m_Digests_fold G_Digests_fold hr3 T.f_Digests_fold.b .nil pass0 (pa_cons (pe_ix (Kit.ixL K) (pv 3) (pv 4) (fun _ _ => rfl)) (pa_cons (pe_ix (Kit.ixL K) (pv 3) (pe_op op_add (pv 4) pe_int) (fun _ _ => rfl)) pa_nil))))) pa_nil))))))
    (pss_one (ps_ret (pv 2)))))) rfl ?_
  try dsimp only [L2.cxOf, L2.Cx.nox]
  have hlen : (iv r).length ≤ 256 := by
    rw [iv_len, hk]
    exact Nat.pow_le_pow_right (by decide) hk8
  walk_at "wp"
  rename_i c H1 n1 e1 f1 l H2 n2 e2 f2
  have hl : H l = none := Evl.fresh_back e1 n2
  refine Kit.m_whileT (fun j σ' H' => ∃ (rs : List (List Int)) (y3 y4 : Option V) (l1 : List Tx), σ' = [some (.ref p), some (.ref a), some (.ref l), y3, y4] ∧ Kit.KeepE pb H H' ∧ LevAt H H' l rs ∧ LevSo (foldI m) k r j rs ∧ (∀ x ∈ rs, AllDg m x) ∧ rs.length + j = k + 1 ∧ j ≤ k ∧
      DigB T.c_Digests.C H' p pb m ∧ BkG P w T.c_Book.C H' pb m l1 ∧ (∀ rl, rs.getLast? = some rl → ∃ D, treeX (foldI m) k r = D ++ treeX (foldI m) j rl ∧ Ext l0 l1 D (2 ^ k - 2 ^ j))) k
    ⟨[r], none, none, l0, rfl, .of (e1.trans e2), ⟨[c], f2, ⟨n1, e2 _ _ f1, by simp, trivial⟩, fun z => by
      rw [List.mem_singleton] at z
      exact ne_of_none f1 n2 z.symm, hl⟩, ⟨[], r, rfl, hk, rfl⟩, fun x z => by
      rw [List.mem_singleton] at z
      rw [z]; exact hx, by simp; omega, Nat.le_refl k, hd.keep (.of (e1.trans e2)), hb.exE (e1.trans e2), fun rl hrl => by cases hrl; exact ⟨[], rfl, (Ext.refl _).of (fun _ => Iff.rfl) (Nat.zero_le _)⟩⟩ ?_
  rintro j σ' H3 ⟨rs, y3, y4, l1, rfl, e3, ⟨ps, g1, g2, g3, g4⟩, hso, hdg, hj, hjk, hd3, hb3, ht3⟩
  obtain ⟨pre, rl, rfl, hrl, hle⟩ := id hso
  obtain ⟨q0, hq0, _, hq1⟩ := g2.get (i := pre.length) (r := rl) (by simp)
  have hps : ps.length = pre.length + 1 := by rw [g2.len]; simp
  have hat : atI (ps.map V.ref) (-1) = some (.ref q0) := ref_last hps hq0
  obtain ⟨D, hD, xD⟩ := ht3 rl (by simp)
  have hlt : rl.length = 2 ^ j := hrl
  walk_at "wp"
  · rename_i hc
    rw [iv_len, hrl] at hc
    have hj0 : j ≠ 0 := fun z => by subst z; simp at hc
    obtain ⟨j, rfl⟩ : ∃ i, j = i + 1 := ⟨j - 1, by omega⟩
    have hr2 : rl.length = 2 * 2 ^ j := by rw [hrl, KM.two_pow]
    have hb2 : 2 ^ j ≤ 256 := Nat.le_trans (Nat.pow_le_pow_right (by decide) (show j ≤ 8 by omega)) (by decide)
    have hdl := hdg rl (by simp)
    have hpw : 2 ^ (j + 1) = 2 * 2 ^ j := KM.two_pow j
    refine Kit.turn_go ?_
    walk_at "wp"
    have hm := hd.pos
    refine ⟨0, _, 2, 2 ^ j, rfl, rgc2 (by rw [iv_len, hr2]; omega) (by omega), ?_⟩
    refine l_keepE Kit.walks_rngC (by omega) (fun _ => rfl) (fun i H' => DigB T.c_Digests.C H' p pb m ∧ SqL K H' q0 (iv rl) ∧ ∃ l2, BkG P w T.c_Book.C H' pb m l2 ∧ Ext l1 l2 ((prsX rl).take i) i)
      (fun i => .int (foldI m ((rl[2 * i]?).getD 0) ((rl[2 * i + 1]?).getD 0))) (fun _ _ _ => trivial) (fun i H' ⟨_, _, l2, b2, _⟩ => b2.pbI) (fun H4 e4 => ⟨hd3.keep (.of e4), Evl.sq_of (e4 _ _ hq1), l1, hb3.exE e4, Ext.refl _⟩)
      (fun i D Ha Hb us hD hDa mm kk ⟨d2, s2, l2, b2, h1⟩ => ⟨d2.but mm hDa, sq_but mm (ne_of_none hq1 hD) s2, l2, b2.but mm hDa, h1⟩) ?_ ?_
    · rintro i H4 hi k4 ⟨d4, s4, l2, b4, u1⟩ R rr
      have e0 : (0 : Int) + (i : Int) * 2 = 2 * (i : Int) := by omega
      show _
      rw [e0]
      walk_at "wp"
      refine Kit.w_ixL s4 (iv_at' (2 * i) (by omega) (by omega)) ?_
      walk_at "wp"
      refine Kit.w_ixL s4 (iv_at' (2 * i + 1) (by omega) (by omega)) ?_
      walk_at "wp"
      refine use_foldG d4 b4 (hdl.at (by omega)) (hdl.at (by omega)) (by have := u1.len; have := xD.len; omega) fun H5 k5 b5 => ?_
      refine rr H5 k5 ⟨d4.keep k5, keep_sqL b4 k5 s4, _, b5, (u1.trans (Ext.add _ _)).of (fun t => ?_) (Nat.le_refl _)⟩
      rw [List.take_add_one, prsX_at hr2 hi]
      exact Iff.rfl
    · rintro q1 H4 n4 k4 f4 ⟨d4, s4, l2, b4, u1⟩
      rw [show (fun i : Nat => V.int (foldI m ((rl[2 * i]?).getD 0) ((rl[2 * i + 1]?).getD 0))) = V.int ∘ (fun i : Nat => foldI m ((rl[2 * i]?).getD 0) ((rl[2 * i + 1]?).getD 0)) from rfl, ← List.map_map, ← pairs_at rl hr2] at f4
      have g14 := keep_lst hb3 k4 g1
      walk_at "wp"
      have hpl : ps.length ≤ 9 := by rw [hps]; simp at hj; omega
      refine Kit.w_app g14 (by rw [List.length_map]; omega) fun H5 m5 f5 => ?_
      have hql : q1 ≠ l := fun z => by rw [z] at n4; rw [n4] at g1; cases g1
      have hqp : q1 ∉ ps := fun z => by
        obtain ⟨xs, hx⟩ := g2.mem z
        rw [n4] at hx
        cases hx
      refine ⟨j, Nat.lt_succ_self j, pre ++ [rl] ++ [KM.pairs (foldI m) rl], _, _, l2, rfl, keep_upd hl (e3.trans k4) m5 f5, ⟨ps ++ [q1], ?_, ?_, ?_, hl⟩, ?_, ?_, ?_, by omega, d4.but m5 g14, b4.but m5 g14, fun rl' hrl' => ?_⟩
      · rw [f5, List.map_append]; rfl
      · exact RowsAt.snoc (e3.2 _ n4) (m5 _ _ hql f4) hqp ((RowsAt.keep hb3 k4 g2).but m5 g3)
      · intro z
        rcases List.mem_append.mp z with z | z
        · exact g3 z
        · exact hql (List.mem_singleton.mp z).symm
      · obtain ⟨r', hr', _, h⟩ := hso.next
        have : rl = r' := by simpa using hr'
        rw [← this] at h; exact h
      · intro x hx
        rcases List.mem_append.mp hx with hx | hx
        · exact hdg x hx
        · rw [List.mem_singleton.mp hx]
          exact pairs_dg hm rl
      · simp at hj ⊢; omega
      · have hrl2 : rl' = KM.pairs (foldI m) rl := by simpa using hrl'.symm
        subst hrl2
        refine ⟨D ++ prsX rl, by rw [hD, List.append_assoc]; rfl, ?_⟩
        have u1' := u1
        rw [List.take_of_length_le (by rw [prsX_len hr2]; exact Nat.le_refl _)] at u1'
        have hle2 : 2 ^ (j + 1) ≤ 2 ^ k := Nat.pow_le_pow_right (by decide) hjk
        exact (xD.trans u1').of (fun _ => Iff.rfl) (by omega)
  · rename_i hc
    rw [iv_len, hrl] at hc
    have hj0 : j = 0 := by
      cases j with
      | zero => rfl
      | succ j =>
        rw [KM.two_pow] at hc
        have : 0 < 2 ^ j := Nat.pow_pos (by decide)
        omega
    subst hj0
    refine q l H3 l1 e3 (by rw [← hle]; exact ⟨ps, g1, g2, g3, g4⟩) hb3 (xD.of (fun t => by rw [hD]; simp [treeX]) (Nat.sub_le _ _))
theorem use_levels_ofB {P : Program} {w : World} {K : PySem.W.Frag} {C CB p pb a : Addr} {m : Int} {r : List Int} {k : Nat} {l : List Tx} {H : Hp} {Q : VK} {E : XK} (hd : DigB C H p pb m) (hb : BkG P w CB H pb m l) (ha : SqL K H a (iv r) ∨ SqT K H a (iv r)) (hx : AllDg m r) (hk : r.length = 2 ^ k) (h8 : k ≤ 8) (hl : l.length + 2 ^ k ≤ 90000)
    (q : ∀ L H' l', Kit.KeepE pb H H' → LevAt H H' L (KM.levs (foldI m) k r) → BkG P w CB H' pb m l' → Ext l l' (treeX (foldI m) k r) (2 ^ k) → Q (.ref L) H') : sp_levels_ofB P w K C CB [.ref p, .ref a] H Q E := ⟨p, pb, a, m, r, k, l, rfl, hd, hb, ha, hx, hk, h8, hl, q⟩

/-! ### digests without a book, beside those with one -/
structure DigN (C : Addr) (H : Hp) (d : Addr) (m : Int) : Prop where
  at_ : ∃ dx b, H d = some (.ins C dx (fl_Digests b .non (.int m)))
  pos : 0 < m
  lt : m < 2 ^ 62
theorem DigN.ex {C d : Addr} {H H' : Hp} {m : Int} (e : Evl.Ex H H') (h : DigN C H d m) : DigN C H' d m := let ⟨⟨dx, b, h⟩, p, l⟩ := h; ⟨⟨dx, b, e _ _ h⟩, p, l⟩
theorem DigN.but {C d p : Addr} {H H' : Hp} {m : Int} (e : Kit.ExBut p H H') (n : d ≠ p) (h : DigN C H d m) : DigN C H' d m := let ⟨⟨dx, b, h⟩, p, l⟩ := h; ⟨⟨dx, b, e _ _ n h⟩, p, l⟩
local macro_rules | `(tactic| walk_at "dig") => `(tactic| first | with_reducible assumption | exact DigN.ex (by with_reducible assumption) (by walk_at "dig") | fail)
theorem DigN.ins {C d : Addr} {H : Hp} {m : Int} {x : Str} {R : Prop} (h : DigN C H d m) (l : ∀ b, (fl_Digests b .non (.int m)).lookup x = none) (r : R) : Kit.InsOf C x (.ref d) H R := let ⟨⟨_, b, h⟩, _, _⟩ := h; Kit.w_ins h (l b) r
local macro_rules | `(tactic| walk_at "wp1") => `(tactic| ((with_reducible show Kit.InsOf _ _ _ _ _); refine DigN.ins (by walk_at "dig") (fun _ => rfl) ?_))
theorem use_leafN {P : Program} {w : World} {C CB p : Addr} {m x : Int} {H : Hp} {Q : VK} {E : XK} (h : DigN C H p m) (q : ∀ H', Evl.Ex H H' → Q (.int (leafI m x)) H') : sp_leaf P w C CB [.ref p, .int x] H Q E := let ⟨⟨dx, b, hp⟩, m0, _⟩ := h; ⟨p, dx, b, .non, m, x, rfl, hp, m0, .inl ⟨rfl, q⟩⟩
theorem use_foldN {P : Program} {w : World} {C CB p : Addr} {m x y : Int} {H : Hp} {Q : VK} {E : XK} (h : DigN C H p m) (hx : Dg m x) (hy : Dg m y) (q : ∀ H', Evl.Ex H H' → Q (.int (foldI m x y)) H') : sp_fold P w C CB [.ref p, .int x, .int y] H Q E := let ⟨⟨dx, b, hp⟩, m0, m1⟩ := h; ⟨p, dx, b, .non, m, x, y, rfl, hp, m0, m1, hx, hy, .inl ⟨rfl, q⟩⟩
def sp_levels_ofN (K : PySem.W.Frag) (C : Addr) : Sp := fun vs H Q _ => ∃ (p a : Addr) (m : Int) (r : List Int) (k : Nat), vs = [.ref p, .ref a] ∧ DigN C H p m ∧ (SqL K H a (iv r) ∨ SqT K H a (iv r)) ∧ AllDg m r ∧ r.length = 2 ^ k ∧ k ≤ 8 ∧
  ∀ l H', Evl.Ex H H' → LevAt H H' l (KM.levs (foldI m) k r) → Q (.ref l) H'
theorem ok_levels_ofN (T : Txt K mg) : FnOk P w K mg base CX0 4 T.f_levels_of.f T.f_levels_of.fd ["digests", "row"] (sp_levels_ofN K T.c_Digests.C) := by
  have G_Digests_fold := ok_Digests_fold (P := P) (w := w) (base := base) T
  refine T.f_levels_of.F.ok sc_levels_of (fun vs H Q E h => ?_) (fun cdv A outer s H vs Q E hr h => ?_)
  · obtain ⟨p, a, m, r, k, rfl, hd, ha, hx, hk, hk8, q⟩ := h
    rfl
  obtain ⟨p, a, m, r, k, rfl, hd, ha, hx, hk, hk8, q⟩ := h
  have nd := sc_levels_of.nd
  have hr3 : Room 3 _ := hr.mono (by decide)
  refine Kit.ok_body (σ := [some _, some _, none, none, none]) ((pss_cons (ps_set (i := 2) nd rfl (Or.inl rfl) (pe_lst (pa_cons (pe_callTy (Kit.kList K) (by rfl) T.z_list (by decide +kernel) (pa_cons (pv 1) pa_nil)) pa_nil)))
    (pss_cons (ps_while PassesOwn.never (pt_cmpR op_gt (pe_callB (Kit.kLen K) (by rfl) T.z_len (by decide +kernel) (pa_cons (pe_ix (Kit.ixL K) (pv 2) (pe_un un_neg pe_int) (fun _ _ => rfl)) pa_nil)) pe_int (nomark _))
    (pss_cons (ps_set (i := 3) nd rfl (Or.inr rfl) (pe_ix (Kit.ixL K) (pv 2) (pe_un un_neg pe_int) (fun _ _ => rfl)))
    (pss_one (ps_expr (pe_bm PySem.F.plainAttrs_list PySem.F.slot_list_append PySem.F.type_list_append mt_append (pv 2) (pa_cons (pe_lc (own := [("k", 4)]) (g := gName 4) (tt := tYes) (by rfl) nd (pi_range3 (by rfl) T.z_range (pa_cons pe_int (pa_cons (pe_callB (Kit.kLen K) (by rfl) T.z_len (by decide +kernel) (pa_cons (pv 3) pa_nil)) (pa_cons pe_int pa_nil)))) (blkOk_by (own := [("k", 4)]) (N := N_levels_of) (sc := defScope s_levels_of) (by decide +kernel)) (fun _ _ _ _ _ => pg_name (i := 4) nd rfl (Or.inl rfl)) (fun _ _ _ _ _ => pts_nil) (fun _ _ _ _ _ => (pe_meth (pv 0) T.c_Digests.cl T.m_Digests_fold G_Digests_fold hr3 T.f_Digests_fold.b .nil pass0 (pa_cons (pe_ix (Kit.ixL K) (pv 3) (pv 4) (fun _ _ => rfl)) (pa_cons (pe_ix (Kit.ixL K) (pv 3) (pe_op op_add (pv 4) pe_int) (fun _ _ => rfl)) pa_nil))))) pa_nil))))))
    (pss_one (ps_ret (pv 2)))))) rfl ?_
  try dsimp only [L2.cxOf, L2.Cx.nox]
  have hlen : (iv r).length ≤ 256 := by
    rw [iv_len, hk]
    exact Nat.pow_le_pow_right (by decide) hk8
  walk_at "wp"
  rename_i c H1 n1 e1 f1 l H2 n2 e2 f2
  refine Kit.m_whileT (fun j σ' H' => ∃ (rs : List (List Int)) (y3 y4 : Option V), σ' = [some (.ref p), some (.ref a), some (.ref l), y3, y4] ∧ Evl.Ex H H' ∧ LevAt H H' l rs ∧ LevSo (foldI m) k r j rs ∧ (∀ x ∈ rs, AllDg m x) ∧ rs.length + j = k + 1 ∧ j ≤ k) k
    ⟨[r], none, none, rfl, e1.trans e2, ⟨[c], f2, ⟨n1, e2 _ _ f1, by simp, trivial⟩, fun z => by
      rw [List.mem_singleton] at z
      exact ne_of_none f1 n2 z.symm, Evl.fresh_back e1 n2⟩, ⟨[], r, rfl, hk, rfl⟩, fun x z => by
      rw [List.mem_singleton] at z
      rw [z]; exact hx, by simp; omega, Nat.le_refl k⟩ ?_
  rintro j σ' H3 ⟨rs, y3, y4, rfl, e3, ⟨ps, g1, g2, g3, g4⟩, hso, hdg, hj, hjk⟩
  obtain ⟨pre, rl, rfl, hrl, hle⟩ := id hso
  obtain ⟨q0, hq0, _, hq1⟩ := g2.get (i := pre.length) (r := rl) (by simp)
  have hps : ps.length = pre.length + 1 := by rw [g2.len]; simp
  have hat : atI (ps.map V.ref) (-1) = some (.ref q0) := by
    have z : ps = ps.dropLast ++ [q0] := by
      have hne : ps ≠ [] := fun z => by rw [z] at hps; simp at hps
      have hl : ps.getLast hne = q0 := by
        have := List.getLast_eq_getElem hne
        rw [this]
        have h2 := (List.getElem?_eq_some_iff.mp hq0)
        obtain ⟨h3, h4⟩ := h2
        have h5 : ps.length - 1 = pre.length := by omega
        simp only [h5]
        exact h4
      rw [← hl]
      exact (List.dropLast_concat_getLast hne).symm
    rw [z, List.map_append]
    exact atI_last _ _
  have hlt : rl.length = 2 ^ j := hrl
  walk_at "wp"
  · rename_i hc
    rw [iv_len, hrl] at hc
    obtain ⟨j, rfl⟩ : ∃ i, j = i + 1 := ⟨j - 1, by
      have : j ≠ 0 := fun z => by subst z; simp at hc
      omega⟩
    refine Kit.turn_go ?_
    walk_at "wp"
    have hr2 : rl.length = 2 * 2 ^ j := by rw [hrl, KM.two_pow]
    have hb : 2 ^ j ≤ 256 := Nat.le_trans (Nat.pow_le_pow_right (by decide) (show j ≤ 8 by omega)) (by decide)
    have hdl := hdg rl (by simp)
    have hm := hd.pos
    refine Kit.l_rng2 (m := 2 ^ j) (by rw [iv_len, hr2]; omega) (by omega) (fun _ => rfl) (fun i => .int (foldI m ((rl[2 * i]?).getD 0) ((rl[2 * i + 1]?).getD 0))) ?_ ?_
    · intro i H4 hi e4 R rr
      walk_at "wp"
      refine Kit.w_ixL (Evl.sq_of (e4 _ _ hq1)) (iv_at' (2 * i) (by omega) (by omega)) ?_
      walk_at "wp"
      refine Kit.w_ixL (Evl.sq_of (e4 _ _ hq1)) (iv_at' (2 * i + 1) (by omega) (by omega)) ?_
      walk_at "wp"
      refine use_foldN (by walk_at "dig") (hdl.at (by omega)) (hdl.at (by omega)) fun H5 e5 => ?_
      exact rr _ e5
    · intro q1 H4 n4 e4 f4
      rw [show (fun i : Nat => V.int (foldI m ((rl[2 * i]?).getD 0) ((rl[2 * i + 1]?).getD 0))) = V.int ∘ (fun i : Nat => foldI m ((rl[2 * i]?).getD 0) ((rl[2 * i + 1]?).getD 0)) from rfl, ← List.map_map, ← pairs_at rl hr2] at f4
      walk_at "wp"
      have hpl : ps.length ≤ 9 := by rw [hps]; simp at hj; omega
      refine Kit.w_app (e4 _ _ g1) (by rw [List.length_map]; omega) fun H5 m5 f5 => ?_
      have hql : q1 ≠ l := fun z => by
        have := e4 _ _ g1
        rw [z] at n4
        rw [n4] at g1
        cases g1
      have hqp : q1 ∉ ps := fun z => by
        obtain ⟨xs, hx⟩ := g2.mem z
        rw [n4] at hx
        cases hx
      have hlp : ∀ x ∈ ps, x ≠ l := fun x hx z => g3 (z ▸ hx)
      refine ⟨j, Nat.lt_succ_self j, pre ++ [rl] ++ [KM.pairs (foldI m) rl], _, _, rfl, ?_, ⟨ps ++ [q1], ?_, ?_, ?_, g4⟩, ?_, ?_, ?_, by omega⟩
      · exact Kit.ex_but m5 g4 (e3.trans e4)
      · rw [f5, List.map_append]; rfl
      · exact RowsAt.snoc (Evl.fresh_back e3 n4) (m5 _ _ hql f4) hqp ((g2.ex e4).but m5 g3)
      · intro z
        rcases List.mem_append.mp z with z | z
        · exact g3 z
        · exact hql (List.mem_singleton.mp z).symm
      · obtain ⟨r', hr', _, h⟩ := hso.next
        have : rl = r' := by simpa using hr'
        rw [← this] at h; exact h
      · intro x hx
        rcases List.mem_append.mp hx with hx | hx
        · exact hdg x hx
        · rw [List.mem_singleton.mp hx]
          exact pairs_dg hm rl
      · simp at hj ⊢; omega
  · rename_i hc
    rw [iv_len, hrl] at hc
    have hj0 : j = 0 := by
      cases j with
      | zero => rfl
      | succ j =>
        rw [KM.two_pow] at hc
        have : 0 < 2 ^ j := Nat.pow_pos (by decide)
        omega
    subst hj0
    exact q l H3 e3 (by rw [← hle]; exact ⟨ps, g1, g2, g3, g4⟩)
theorem use_levels_ofN {K : PySem.W.Frag} {C p a : Addr} {m : Int} {r : List Int} {k : Nat} {H : Hp} {Q : VK} {E : XK} (hd : DigN C H p m) (ha : SqL K H a (iv r) ∨ SqT K H a (iv r)) (hx : AllDg m r) (hk : r.length = 2 ^ k) (h8 : k ≤ 8)
    (q : ∀ l H', Evl.Ex H H' → LevAt H H' l (KM.levs (foldI m) k r) → Q (.ref l) H') : sp_levels_ofN K C [.ref p, .ref a] H Q E := ⟨p, a, m, r, k, rfl, hd, ha, hx, hk, h8, q⟩
theorem fnok_or {CX : CXT} {k : Nat} {f : Addr} {fd : FuncData} {ps : List Str} {sp1 sp2 : Sp} (a : FnOk P w K mg base CX k f fd ps sp1) (b : FnOk P w K mg base CX k f fd ps sp2) : FnOk P w K mg base CX k f fd ps (fun vs H Q E => sp1 vs H Q E ∨ sp2 vs H Q E) :=
  ⟨fun vs H Q E h => h.elim (a.len vs H Q E) (b.len vs H Q E), fun A o s H ar us vs Q E hr e bi r h => h.elim (a.run A o s H ar us vs Q E hr e bi r) (b.run A o s H ar us vs Q E hr e bi r)⟩
def sp_levels_of (P : Program) (w : World) (K : PySem.W.Frag) (C CB : Addr) : Sp := fun vs H Q E => sp_levels_ofB P w K C CB vs H Q E ∨ sp_levels_ofN K C vs H Q E
theorem ok_levels_of (T : Txt K mg) : FnOk P w K mg base CX0 4 T.f_levels_of.f T.f_levels_of.fd ["digests", "row"] (sp_levels_of P w K T.c_Digests.C T.c_Book.C) := fnok_or (ok_levels_ofB T) (ok_levels_ofN T)
theorem use_levels_of {P : Program} {w : World} {K : PySem.W.Frag} {C CB p pb a : Addr} {m : Int} {r : List Int} {k : Nat} {l : List Tx} {H : Hp} {Q : VK} {E : XK} (hd : DigB C H p pb m) (hb : BkG P w CB H pb m l) (ha : SqL K H a (iv r) ∨ SqT K H a (iv r)) (hx : AllDg m r) (hk : r.length = 2 ^ k) (h8 : k ≤ 8) (hl : l.length + 2 ^ k ≤ 90000)
    (q : ∀ L H' l', Kit.KeepE pb H H' → LevAt H H' L (KM.levs (foldI m) k r) → BkG P w CB H' pb m l' → Ext l l' (treeX (foldI m) k r) (2 ^ k) → Q (.ref L) H') : sp_levels_of P w K C CB [.ref p, .ref a] H Q E := .inl (use_levels_ofB hd hb ha hx hk h8 hl q)
theorem use_levels_of' {P : Program} {w : World} {K : PySem.W.Frag} {C CB p a : Addr} {m : Int} {r : List Int} {k : Nat} {H : Hp} {Q : VK} {E : XK} (hd : DigN C H p m) (ha : SqL K H a (iv r) ∨ SqT K H a (iv r)) (hx : AllDg m r) (hk : r.length = 2 ^ k) (h8 : k ≤ 8)
    (q : ∀ l H', Evl.Ex H H' → LevAt H H' l (KM.levs (foldI m) k r) → Q (.ref l) H') : sp_levels_of P w K C CB [.ref p, .ref a] H Q E := .inr (use_levels_ofN hd ha hx hk h8 q)

theorem pathM_eq (f : Int → Int → Int) : ∀ (k : Nat) (r : List Int) (pl : Nat) (i : Nat) (s : List Int), (KM.levs f k r)[i]? = some s → i < k → (KM.pathM f k r pl)[i]? = some ((s[KM.nb (pl / 2 ^ i)]?).getD 0)
  | 0, _, _, _, _, _, h => by omega
  | k + 1, r, pl, 0, s, hs, _ => by
    have e : r = s := by simpa [KM.levs] using hs
    subst e
    simp [KM.pathM]
  | k + 1, r, pl, i + 1, s, hs, hi => by
    have h := pathM_eq f k (KM.pairs f r) (pl / 2) i s (by simpa [KM.levs] using hs) (by omega)
    have e : pl / 2 / 2 ^ i = pl / 2 ^ (i + 1) := by
      rw [Nat.div_div_eq_div_mul, KM.two_pow]
    rw [e] at h
    simpa [KM.pathM] using h
theorem levs_at_len {f : Int → Int → Int} : ∀ (k : Nat) (r : List Int) (i : Nat) (s : List Int), r.length = 2 ^ k → (KM.levs f k r)[i]? = some s → s.length = 2 ^ (k - i)
  | 0, r, 0, s, hr, hs => by
    have e : r = s := by simpa [KM.levs] using hs
    rw [← e, hr]
  | 0, r, i + 1, s, hr, hs => by simp [KM.levs] at hs
  | k + 1, r, 0, s, hr, hs => by
    have e : r = s := by simpa [KM.levs] using hs
    rw [← e, hr]
    rfl
  | k + 1, r, i + 1, s, hr, hs => by
    rw [KM.two_pow] at hr
    have h := levs_at_len k (KM.pairs f r) i s (KM.pairs_len r hr) (by simpa [KM.levs] using hs)
    rw [h, Nat.add_sub_add_right]
theorem nb_lt {k i pl : Nat} (hi : i < k) (hp : pl < 2 ^ k) : KM.nb (pl / 2 ^ i) < 2 ^ (k - i) := by
  have h1 : pl / 2 ^ i < 2 ^ (k - i) := by
    rw [Nat.div_lt_iff_lt_mul (Nat.pow_pos (by decide)), ← Nat.pow_add, Nat.sub_add_cancel (Nat.le_of_lt hi)]
    exact hp
  have h2 : 2 ^ (k - i) = 2 * 2 ^ (k - i - 1) := by
    rw [← KM.two_pow]
    congr 1
    omega
  unfold KM.nb
  rw [h2] at h1 ⊢
  generalize pl / 2 ^ i = z at *
  generalize 2 ^ (k - i - 1) = y at *
  split <;> omega
def sp_path_in (K : PySem.W.Frag) : Sp := fun vs H Q _ => ∃ (l : Addr) (ps : List Addr) (f : Int → Int → Int) (r : List Int) (k : Nat) (pl : Nat), vs = [.ref l, .int pl] ∧ H l = some (.lst (ps.map V.ref)) ∧ ps.length = k + 1 ∧ (∀ (i : Nat) s, (KM.levs f k r)[i]? = some s → ∃ p, ps[i]? = some p ∧ H p = some (.lst (iv s))) ∧
  r.length = 2 ^ k ∧ k ≤ 8 ∧ pl < 2 ^ k ∧ ∀ p H', H p = none → Evl.Ex H H' → H' p = some (.tup (iv (KM.pathM f k r pl))) → Q (.ref p) H'
theorem cut_butlast {xs : List V} {n : Nat} (h : xs.length = n + 1) : cutV xs none (some (-1)) = xs.take n := by
  unfold cutV
  rw [HT.sIx_none]
  have e : HT.sIx xs.length xs.length (some (-1)) = n := by
    unfold HT.sIx
    rw [h]
    simp
    omega
  rw [e]
  simp
theorem int_half {pl i : Nat} : ((pl / 2 ^ i : Nat) : Int) / 2 = ((pl / 2 ^ (i + 1) : Nat) : Int) := by
  rw [KM.two_pow, Nat.mul_comm, ← Nat.div_div_eq_div_mul]
  omega
theorem nb_even {z : Nat} (h : (z : Int) % 2 = 0) : (z : Int) + 1 = ((KM.nb z : Nat) : Int) := by
  unfold KM.nb
  rw [if_pos (by omega)]
  omega
theorem nb_odd {z : Nat} (h : ¬ (z : Int) % 2 = 0) : (z : Int) - 1 = ((KM.nb z : Nat) : Int) := by
  unfold KM.nb
  rw [if_neg (by omega)]
  omega
theorem ok_path_in (T : Txt K mg) : FnOk P w K mg base CX0 1 T.f_path_in.f T.f_path_in.fd ["levels", "place"] (sp_path_in K) := by
  refine T.f_path_in.F.ok sc_path_in (fun vs H Q E h => ?_) (fun cdv A outer s H vs Q E hr h => ?_)
  · obtain ⟨l, ps, f, r, k, pl, rfl, hl, hps, hlv, hk, hk8, hpl, q⟩ := h
    rfl
  obtain ⟨l, ps, f, r, k, pl, rfl, hl, hps, hlv, hk, hk8, hpl, q⟩ := h
  have nd := sc_path_in.nd
  refine Kit.ok_body (σ := [some _, some _, none, none, none]) ((pss_cons (ps_set (i := 2) nd rfl (Or.inl rfl) (pe_lst pa_nil))
    (pss_cons (ps_for PassesOwn.never rfl (Kit.kpList K (pe_slice (Kit.kSlL K) (pv 0) po_none (po_some (pe_un un_neg pe_int)))) (pg_name (i := 3) nd rfl (Or.inl rfl))
    (pss_cons (ps_set (i := 4) nd rfl (Or.inl rfl) (pe_ifExp (pt_cmpR op_eq (pe_op op_mod (pv 1) pe_int) pe_int (nomark _)) (pe_op op_add (pv 1) pe_int) (pe_op op_sub (pv 1) pe_int)))
    (pss_cons (ps_expr (pe_bm PySem.F.plainAttrs_list PySem.F.slot_list_append PySem.F.type_list_append mt_append (pv 2) (pa_cons (pe_ix (Kit.ixL K) (pv 3) (pv 4) (fun _ _ => rfl)) pa_nil)))
    (pss_one (ps_set (i := 1) nd rfl (Or.inl rfl) (pe_op op_fdiv (pv 1) pe_int))))))
    (pss_one (ps_ret (pe_callTy (Kit.kTuple K) (by rfl) T.z_tuple (by decide +kernel) (pa_cons (pv 2) pa_nil))))))) rfl ?_
  try dsimp only [L2.cxOf, L2.Cx.nox]
  walk_at "wp"
  rename_i pp H1 n1 e1 f1 c H2 n2 e2 f2
  rw [cut_butlast (n := k) (by rw [List.length_map, hps])] at f2
  have hxl : ((ps.map V.ref).take k).length = k := by rw [List.length_take, List.length_map, hps]; omega
  refine Kit.f_list (Evl.sq_of f2) (fun i σ' H' => ∃ y3 y4, σ' = [some (.ref l), some (.int ((pl / 2 ^ i : Nat) : Int)), some (.ref pp), y3, y4] ∧ Kit.ExBut pp H2 H' ∧ H' pp = some (.lst (iv ((KM.pathM f k r pl).take i)))) ⟨none, none, by simp, Kit.ExBut.refl _ _, by rw [e2 _ _ f1]; rfl⟩ ?_ ?_ ?_
  · rintro i σ' H' _ ⟨y3, y4, rfl, m, _⟩
    exact Evl.sq_of (m _ _ (fun z => by rw [z, e2 _ _ f1] at f2; rw [z, f1] at n2; cases n2) f2)
  · rintro i x σ' H' hx ⟨y3, y4, rfl, m, g⟩
    have hi : i < k := by
      have := (List.getElem?_eq_some_iff.mp hx).1
      rw [hxl] at this
      exact this
    have hil : i < (KM.levs f k r).length := by rw [KM.levs_len]; omega
    obtain ⟨p, hp1, hp2⟩ := hlv i _ (List.getElem?_eq_getElem hil)
    generalize hs : (KM.levs f k r)[i] = s at hp2
    have hs2 : (KM.levs f k r)[i]? = some s := by rw [List.getElem?_eq_getElem hil, hs]
    have hsl := levs_at_len k r i s hk hs2
    have ex : x = .ref p := by
      rw [List.getElem?_take_of_lt hi, List.getElem?_map, hp1] at hx
      exact (Option.some.inj hx).symm
    subst ex
    have hnp : p ≠ pp := ne_of_none hp2 n1
    have hp3 : H' p = some (.lst (iv s)) := m _ _ hnp (e2 _ _ (e1 _ _ hp2))
    have hnb := nb_lt hi hpl
    rw [← hsl] at hnb
    have hpath := pathM_eq f k r pl i s hs2 hi
    have htk : iv ((KM.pathM f k r pl).take (i + 1)) = iv ((KM.pathM f k r pl).take i) ++ [.int ((s[KM.nb (pl / 2 ^ i)]?).getD 0)] := by
      rw [List.take_add_one, hpath]
      unfold iv
      rw [List.map_append]
      rfl
    have hz : ((pl / 2 ^ i : Nat) : Int) / 2 = ((pl / 2 ^ (i + 1) : Nat) : Int) := int_half
    show Kit.Sm _ _ _ _ _ _ _
    have hlen : (iv ((KM.pathM f k r pl).take i)).length < 100000 := by
      rw [iv_len, List.length_take]
      omega
    walk_at "wp"
    all_goals rename_i hc
    · refine Kit.w_ixL (Evl.sq_of hp3) (iv_at' (KM.nb (pl / 2 ^ i)) (nb_even hc) hnb) ?_
      walk_at "wp"
      refine Kit.w_app g hlen fun H3 m3 f3 => ?_
      walk_at "wp"
      exact ⟨_, _, by rw [hz] <;> rfl, m.trans m3, by rw [f3, htk]⟩
    · refine Kit.w_ixL (Evl.sq_of hp3) (iv_at' (KM.nb (pl / 2 ^ i)) (nb_odd hc) hnb) ?_
      walk_at "wp"
      refine Kit.w_app g hlen fun H3 m3 f3 => ?_
      walk_at "wp"
      exact ⟨_, _, by rw [hz] <;> rfl, m.trans m3, by rw [f3, htk]⟩
  · rintro σ' H' ⟨y3, y4, rfl, m, g⟩
    rw [hxl, List.take_of_length_le (by rw [KM.path_len]; exact Nat.le_refl k)] at g
    walk_at "wp"
    rename_i p H3 n3 e3 f3
    have e : Evl.Ex H H' := Kit.ex_but m n1 (e1.trans e2)
    exact q p H3 (Evl.fresh_back e n3) (e.trans e3) f3
theorem use_path_in {K : PySem.W.Frag} {l : Addr} {f : Int → Int → Int} {r : List Int} {k : Nat} (pl : Nat) {z : Int} {H0 H : Hp} {Q : VK} {E : XK} (hl : LevAt H0 H l (KM.levs f k r)) (hk : r.length = 2 ^ k) (h8 : k ≤ 8) (hp : pl < 2 ^ k) (ez : z = (pl : Int))
    (q : ∀ p H', H p = none → Evl.Ex H H' → H' p = some (.tup (iv (KM.pathM f k r pl))) → Q (.ref p) H') : sp_path_in K [.ref l, .int z] H Q E := by
  obtain ⟨ps, a, b, c⟩ := hl.get
  subst ez
  exact ⟨l, ps, f, r, k, pl, rfl, a, by rw [b, KM.levs_len], c, hk, h8, hp, q⟩

/-! ### all but some objects as they were -/
def ExBy (F : List Addr) (H H' : Hp) : Prop := ∀ b o, b ∉ F → H b = some o → H' b = some o
theorem ExBy.refl (F : List Addr) (H : Hp) : ExBy F H H := fun _ _ _ h => h
theorem ExBy.of {F : List Addr} {H H' : Hp} (e : Evl.Ex H H') : ExBy F H H' := fun b o _ h => e b o h
theorem ExBy.trans {F : List Addr} {H H1 H2 : Hp} (a : ExBy F H H1) (b : ExBy F H1 H2) : ExBy F H H2 := fun c o n h => b c o n (a c o n h)
theorem ExBy.snoc {F : List Addr} {H H1 H2 : Hp} (b : ExBy F H1 H2) (a : ExBy F H H1) : ExBy F H H2 := a.trans b
theorem ExBy.snocE {F : List Addr} {H H1 H2 : Hp} (b : Evl.Ex H1 H2) (a : ExBy F H H1) : ExBy F H H2 := a.trans (.of b)
theorem ExBy.snocB {F : List Addr} {p : Addr} {H H1 H2 : Hp} (b : Kit.ExBut p H1 H2) (hp : p ∈ F) (a : ExBy F H H1) : ExBy F H H2 := a.trans fun c o n h => b c o (fun z => n (z ▸ hp)) h
theorem ExBy.mono {F G : List Addr} {H H' : Hp} (s : ∀ x ∈ F, x ∈ G) (a : ExBy F H H') : ExBy G H H' := fun b o n h => a b o (fun z => n (s b z)) h
theorem ExBy.ex {F : List Addr} {H0 H H' : Hp} (m : ExBy F H H') (h : ∀ x ∈ F, H0 x = none) (e : Evl.Ex H0 H) : Evl.Ex H0 H' := fun b o hb => m b o (fun z => by rw [h b z] at hb; cases hb) (e b o hb)
theorem ExBy.tup {K : PySem.W.Frag} {F : List Addr} {H H' : Hp} {a : Addr} {xs : List V} (m : ExBy F H H') (hF : ∀ x ∈ F, (∃ ys, H x = some (.lst ys)) ∨ ∃ C dx fs, H x = some (.ins C dx fs)) (h : SqT K H a xs) : SqT K H' a xs := by
  rcases h with (h | ⟨z, h⟩) | h
  · refine .inl (.inl (m _ _ (fun hz => ?_) h))
    rcases hF _ hz with ⟨ys, e⟩ | ⟨C, dx, fs, e⟩ <;> · rw [h] at e; cases e
  · refine .inl (.inr ⟨z, m _ _ (fun hz => ?_) h⟩)
    rcases hF _ hz with ⟨ys, e⟩ | ⟨C, dx, fs, e⟩ <;> · rw [h] at e; cases e
  · exact .inr h
theorem ExBy.len1 {F : List Addr} {H H' : Hp} {p : Addr} (h : Kit.ExBut p H H') (hp : p ∈ F) : ExBy F H H' := fun c o n e => h c o (fun z => n (z ▸ hp)) e
local macro_rules | `(tactic| walk_at "by") => `(tactic| first | with_reducible assumption | with_reducible exact ExBy.refl _ _ | exact ExBy.snoc (by with_reducible assumption) (by walk_at "by") | exact ExBy.snocE (by with_reducible assumption) (by walk_at "by") | exact ExBy.snocB (by with_reducible assumption) (by first | assumption | simp; done | fail) (by walk_at "by") | fail)

/-! ### the memory, digests with a book -/
theorem w_rep {l : Addr} {xs : List V} {k : Int} {H : Hp} {Q : VK} (h : H l = some (.lst xs)) (h0 : 0 ≤ k) (h1 : k ≤ 1000) (hx : xs.length ≤ 10) (q : ∀ p H2, H p = none → Evl.Ex H H2 → H2 p = some (.lst (List.replicate k.toNat xs).flatten) → Q (.ref p) H2) : rRep (.ref l) (.int k) H Q :=
  ⟨l, k, xs, rfl, rfl, h, by omega, by omega, Nat.le_of_lt (Evl.sz_lt (by
    have a : k.toNat ≤ 1000 := by omega
    have := Nat.mul_le_mul hx a
    omega)), fun p hp => q p _ hp (Evl.Ex.new hp) upd_same⟩
local macro_rules | `(tactic| walk_at "wp1") => `(tactic| ((with_reducible show rRep _ _ _ _); refine w_rep (by walk_at "hp") (by omega) (by omega) (by decide) ?_; intro _ _ _ _ _))
theorem rep_flat (n : Nat) : (List.replicate n [V.int 0]).flatten = (List.replicate n (0 : Int)).map V.int := by
  induction n with
  | zero => rfl
  | succ n ih => rw [List.replicate_succ, List.flatten_cons, ih]; rfl
/-- the words of a memory: the given ones, then zeros -/
def padW (ws : List Int) : List Int := ws ++ List.replicate (256 - ws.length) 0
theorem padW_len {ws : List Int} (h : ws.length ≤ 256) : (padW ws).length = 256 := by unfold padW; rw [List.length_append, List.length_replicate]; omega
theorem padW_whole {ws : List Int} (h : ws.length = 256) : padW ws = ws := by unfold padW; rw [h]; simp
theorem cut256 {ws : List Int} (h : ws.length ≤ 256) : cutV (iv ws) none (some 256) = iv ws := by
  unfold cutV
  rw [HT.sIx_none]
  have e : HT.sIx (iv ws).length (iv ws).length (some 256) = ws.length := by
    rw [iv_len]
    unfold HT.sIx
    simp
    omega
  rw [e]
  simp only [Int.toNat_zero, List.drop_zero, Nat.sub_zero, List.drop]
  exact List.take_of_length_le (by rw [iv_len]; exact Nat.le_refl _)
theorem ins_ne {H : Hp} {a b C C' dx dx' : Addr} {fs fs' : List (Str × V)} (h1 : H a = some (.ins C dx fs)) (h2 : H b = some (.ins C' dx' fs')) (hl : fs.length ≠ fs'.length) : a ≠ b := by
  rintro rfl
  rw [h1] at h2
  injection h2 with h2
  injection h2 with _ _ h2
  exact hl (by rw [h2])
theorem tup_ins {K : PySem.W.Frag} {H H' : Hp} {p a C dx : Addr} {fs : List (Str × V)} {xs : List V} (m : Kit.ExBut p H H') (hp : H p = some (.ins C dx fs)) (h : SqT K H a xs) : SqT K H' a xs := by
  rcases h with (h | ⟨z, h⟩) | h
  · exact .inl (.inl (m _ _ (by rintro rfl; rw [hp] at h; cases h) h))
  · exact .inl (.inr ⟨z, m _ _ (by rintro rfl; rw [hp] at h; cases h) h⟩)
  · exact .inr h
def h0 : Hp := fun _ => none
structure MemAt (C : Addr) (H : Hp) (p dg wa la : Addr) (ps : List Addr) (m : Int) (ws : List Int) : Prop where
  at_ : ∃ dx, H p = some (.ins C dx (fl_Memory (.ref dg) (.ref wa) (.ref la)))
  wds : H wa = some (.lst (iv ws))
  len : ws.length = 256
  lvl : H la = some (.lst (ps.map V.ref))
  rows : RowsAt h0 H ps (KM.levs (foldI m) 8 (ws.map (leafI m)))
  nwp : wa ∉ ps
  nlp : la ∉ ps
  nwl : wa ≠ la
theorem MemAt.ex {C p dg wa la : Addr} {ps : List Addr} {m : Int} {ws : List Int} {H H' : Hp} (e : Evl.Ex H H') (h : MemAt C H p dg wa la ps m ws) : MemAt C H' p dg wa la ps m ws :=
  ⟨h.at_.imp fun _ a => e _ _ a, e _ _ h.wds, h.len, e _ _ h.lvl, h.rows.ex e, h.nwp, h.nlp, h.nwl⟩
theorem RowsAt.exBy {F : List Addr} {H0 H H' : Hp} (e : ExBy F H H') : ∀ {ps : List Addr} {rs : List (List Int)}, (∀ x ∈ ps, x ∉ F) → RowsAt H0 H ps rs → RowsAt H0 H' ps rs
  | [], [], _, _ => trivial
  | p :: ps, _ :: _, n, ⟨a, b, c, d⟩ => ⟨a, e _ _ (n p List.mem_cons_self) b, c, RowsAt.exBy e (fun x z => n x (List.mem_cons_of_mem _ z)) d⟩
/-- kept by what changes none of its objects -/
theorem MemAt.by {F : List Addr} {C p dg wa la : Addr} {ps : List Addr} {m : Int} {ws : List Int} {H H' : Hp} (e : ExBy F H H') (h : MemAt C H p dg wa la ps m ws) (n : ∀ x ∈ p :: wa :: la :: ps, x ∉ F) : MemAt C H' p dg wa la ps m ws :=
  ⟨h.at_.imp fun _ a => e _ _ (n p (by simp)) a, e _ _ (n wa (by simp)) h.wds, h.len, e _ _ (n la (by simp)) h.lvl, h.rows.exBy e (fun x z => n x (by simp [z])), h.nwp, h.nlp, h.nwl⟩
theorem RowsAt.h0 {H0 H : Hp} : ∀ {ps : List Addr} {rs : List (List Int)}, RowsAt H0 H ps rs → RowsAt My.h0 H ps rs
  | [], [], _ => trivial
  | _ :: _, _ :: _, ⟨_, b, c, d⟩ => ⟨rfl, b, c, RowsAt.h0 d⟩
theorem RowsAt.new {H0 H : Hp} : ∀ {ps : List Addr} {rs : List (List Int)}, RowsAt H0 H ps rs → ∀ x ∈ ps, H0 x = none
  | [], [], _, x, h => by cases h
  | p :: ps, _ :: _, ⟨a, _, _, d⟩, x, h => by
    rcases List.mem_cons.mp h with rfl | h
    · exact a
    · exact RowsAt.new d x h
section
variable {C p dg wa la : Addr} {ps : List Addr} {m : Int} {ws : List Int} {H : Hp} {Q : VK} {R : Prop}
theorem MemAt.ins (h : MemAt C H p dg wa la ps m ws) {x : Str} (l : (fl_Memory (.ref dg) (.ref wa) (.ref la)).lookup x = none) (r : R) : Kit.InsOf C x (.ref p) H R := let ⟨_, a⟩ := h.at_; Kit.w_ins a l r
theorem MemAt.mem_lst (h : MemAt C H p dg wa la ps m ws) : ∀ x ∈ wa :: ps, ∃ ys, H x = some (.lst ys) := fun x hx => by
  rcases List.mem_cons.mp hx with rfl | hx
  · exact ⟨_, h.wds⟩
  · exact h.rows.mem hx
theorem lev_len {ws : List Int} (f : Int → Int → Int) : (KM.levs f 8 ws).length = 9 := KM.levs_len 8 ws
theorem MemAt.plen (h : MemAt C H p dg wa la ps m ws) : ps.length = 9 := by rw [h.rows.len]; exact lev_len _
end
def KeepF (pb : Addr) (F : List Addr) (H H' : Hp) : Prop := (∀ b o, b ≠ pb → b ∉ F → H b = some o → Kit.mutE o = false → H' b = some o) ∧ ∀ b, H' b = none → H b = none
theorem KeepF.of {pb : Addr} {F : List Addr} {H H' : Hp} (k : Kit.KeepE pb H H') : KeepF pb F H H' := ⟨fun b o n _ h m => k.1 b o n h m, k.2⟩
theorem KeepF.one {pb x : Addr} {F : List Addr} {H H' : Hp} {o : HO} (e : Kit.ExBut x H H') (hx : x ∈ F) (h : H' x = some o) : KeepF pb F H H' := ⟨fun b o _ n hb _ => e b o (fun z => n (z ▸ hx)) hb, Kit.back_but e h⟩
theorem KeepF.trans {pb : Addr} {F : List Addr} {H H1 H2 : Hp} (a : KeepF pb F H H1) (b : KeepF pb F H1 H2) : KeepF pb F H H2 := ⟨fun x o n m h z => b.1 x o n m (a.1 x o n m h z) z, fun x h => a.2 x (b.2 x h)⟩
theorem KeepF.mono {pb : Addr} {F G : List Addr} {H H' : Hp} (k : KeepF pb F H H') (h : ∀ x ∈ F, x ∈ G) : KeepF pb G H H' := ⟨fun b o n m => k.1 b o n (fun z => m (h b z)), k.2⟩
theorem BookAt.butI {P : Program} {w : World} {C p r : Addr} {H H' : Hp} {TT : List Kit.BK} {F : List (Kit.BK × Kit.TK)} {c : Bool} {C2 dx2 : Addr} {fs : List (Str × V)} (b : BookAt P w C H p TT F c) (hr : H r = some (.ins C2 dx2 fs)) (n : r ≠ p) (m : Kit.ExBut r H H') : BookAt P w C H' p TT F c := by
  obtain ⟨dx, d1, d2, kv, h1, h2, h3, h4, h5⟩ := b
  have tp : ∀ c zs, H c = some (.tup zs) → H' c = some (.tup zs) := fun c zs h => m c _ (by rintro rfl; rw [hr] at h; cases h) h
  refine ⟨dx, d1, d2, kv, m _ _ n.symm h1, h2.mono (fun o h => m _ _ ?_ h) tp, h3.mono (fun o h => m _ _ ?_ h) tp, h4, h5.mono tp⟩
  · rintro rfl
    obtain ⟨o, z1, z2⟩ := Kit.bk_is h2
    rw [hr] at z1; cases z1; cases z2
  · rintro rfl
    obtain ⟨o, z1, z2⟩ := Kit.bk_is h3
    rw [hr] at z1; cases z1; cases z2
theorem BkG.butI {P : Program} {w : World} {CB pb r C2 dx2 : Addr} {m : Int} {l : List Tx} {H H' : Hp} {fs : List (Str × V)} (b : BkG P w CB H pb m l) (hr : H r = some (.ins C2 dx2 fs)) (n : r ≠ pb) (e : Kit.ExBut r H H') : BkG P w CB H' pb m l := let ⟨TT, F, c, h, k⟩ := b.ex; ⟨⟨TT, F, c, h.butI hr n e, k⟩⟩
theorem DigB.butI {C H H' p pb m r} (d : DigB C H p pb m) (e : Kit.ExBut r H H') (n : p ≠ r) : DigB C H' p pb m := let ⟨⟨dx, b, h⟩, a, c, k⟩ := d; ⟨⟨dx, b, e p _ n h⟩, a, c, k⟩
theorem range_leaf {m : Int} {ws : List Int} : (List.range ws.length).map (fun i : Nat => V.int (leafI m ((ws[i]?).getD 0))) = iv (ws.map (leafI m)) := by
  apply List.ext_getElem?
  intro i
  unfold iv
  by_cases hi : i < ws.length
  · rw [List.getElem?_map, List.getElem?_range hi, List.getElem?_map, List.getElem?_map]
    show some (V.int (leafI m ((ws[i]?).getD 0))) = _
    rw [List.getElem?_eq_getElem hi]
    rfl
  · rw [List.getElem?_eq_none (by rw [List.length_map, List.length_range]; omega), List.getElem?_eq_none (by rw [List.length_map, List.length_map]; omega)]
def memX (m : Int) (ws : List Int) : List Tx := ws.map Tx.lf ++ treeX (foldI m) 8 (ws.map (leafI m))
def sp_Memory_init (P : Program) (w : World) (K : PySem.W.Frag) (CM CD CB : Addr) : Sp := fun vs H Q _ => ∃ (p dx dg pb a : Addr) (m : Int) (ws : List Int) (l : List Tx), vs = [.ref p, .ref dg, .ref a] ∧ H p = some (.ins CM dx []) ∧ p ≠ pb ∧ DigB CD H dg pb m ∧ BkG P w CB H pb m l ∧ l.length ≤ 50000 ∧ SqT K H a (iv ws) ∧ ws.length ≤ 256 ∧
  ∀ H' wa la ps l', KeepF pb [p] H H' → MemAt CM H' p dg wa la ps m (padW ws) → (∀ x ∈ wa :: la :: ps, H x = none) → BkG P w CB H' pb m l' → Ext l l' (memX m (padW ws)) 512 → Q .non H'
theorem ok_Memory___init (T : Txt K mg) : FnOk P w K mg base CX0 5 T.f_Memory___init.f T.f_Memory___init.fd ["self", "digests", "words"] (sp_Memory_init P w K T.c_Memory.C T.c_Digests.C T.c_Book.C) := by
  have G_Digests_leaf := ok_Digests_leaf (P := P) (w := w) (base := base) T
  have G_levels_of := ok_levels_of (P := P) (w := w) (base := base) T
  refine T.f_Memory___init.F.ok sc_Memory___init (fun vs H Q E h => ?_) (fun cdv A outer s H vs Q E hr h => ?_)
  · obtain ⟨p, dx, dg, pb, a, m, ws, l0, rfl, hp, hpb, hd, hbk, hl0, ha, hl, q⟩ := h
    rfl
  obtain ⟨p, dx, dg, pb, a, m, ws, l0, rfl, hp, hpb, hd, hbk, hl0, ha, hl, q⟩ := h
  have nd := sc_Memory___init.nd
  have hr3 : Room 3 _ := hr.mono (by decide)
  have hr4 : Room 4 _ := hr.mono (by decide)
  refine Kit.ok_body (σ := [some _, some _, some _, none]) ((pss_cons (Kit.kSet K (pv 0) (pv 1) rfl)
    (pss_cons (Kit.kSet K (pv 0) (pe_op op_cat (pe_callTy (Kit.kList K) (by rfl) T.z_list (by decide +kernel) (pa_cons (pe_slice (Kit.kSlT K) (pv 2) po_none (po_some (pe_glob (v := .int 256) rfl T.g_PLACES ⟨_, rfl⟩))) pa_nil)) (pe_op op_rep (pe_lst (pa_cons pe_int pa_nil)) (pe_op op_sub (pe_glob (v := .int 256) rfl T.g_PLACES ⟨_, rfl⟩) (pe_callB (Kit.kLen K) (by rfl) T.z_len (by decide +kernel) (pa_cons (pv 2) pa_nil))))) rfl)
    (pss_one (Kit.kSet K (pv 0) (pe_call G_levels_of hr4 (by rfl) T.f_levels_of.g T.f_levels_of.F.kp T.f_levels_of.b .nil pass0 (pa_cons (pv 1) (pa_cons (pe_lc (own := [("word", 3)]) (g := gName 3) (tt := tYes) (by rfl) nd (Kit.kpList K (Kit.kFld K (pv 0) rfl)) (blkOk_by (own := [("word", 3)]) (N := N_Memory___init) (sc := defScope s_Memory___init) (by decide +kernel)) (fun _ _ _ _ _ => pg_name (i := 3) nd rfl (Or.inl rfl)) (fun _ _ _ _ _ => pts_nil) (fun _ _ _ _ _ => (pe_meth (pv 1) T.c_Digests.cl T.m_Digests_leaf G_Digests_leaf hr3 T.f_Digests_leaf.b .nil pass0 (pa_cons (pv 3) pa_nil)))) pa_nil))) rfl))))) rfl ?_
  try dsimp only [L2.cxOf, L2.Cx.nox]
  have hdp : dg ≠ p := by
    obtain ⟨dx2, b, hd2⟩ := hd.at_
    exact ins_ne hd2 hp (by show 3 ≠ 0; decide)
  have hl2 : (iv ws).length ≤ 256 := by rw [iv_len]; exact hl
  walk_at "wp"
  rename_i H1 m1 f1
  refine Kit.w_slT (tup_ins m1 hp ha) fun a2 H2 e2 h2 => ?_
  rw [cut256 hl] at h2
  walk_at "wp"
  refine Kit.w_len (.inr (Evl.ex_t (by walk_at "ex") (tup_ins m1 hp ha))) ?_
  walk_at "wp"
  rename_i l1 H3 n3 e3 f3 l2 H4 n4 e4 f4 l3 H5 n5 e5 f5 wa H6 n6 e6 f6 H7 m7 f7
  have hwa : iv ws ++ (List.replicate (256 - ((iv ws).length : Int)).toNat [V.int 0]).flatten = iv (padW ws) := by
    rw [rep_flat]
    unfold padW iv
    rw [List.map_append, List.length_map, show ((256 : Int) - (ws.length : Int)).toNat = 256 - ws.length by omega]
  rw [hwa] at f6
  have hwp : wa ≠ p := ne_of_none (Kit.ex_get e5 (Kit.ex_get e4 (Kit.ex_get e3 (Kit.ex_get e2 f1)))) n6 |>.symm
  have f6' : H7 wa = some (.lst (iv (padW ws))) := m7 _ _ hwp f6
  have hpl := padW_len hl
  have M7 : Kit.ExBut p H H7 := by walk_at "but"
  have hd7 : DigB T.c_Digests.C H7 dg pb m := hd.butI M7 hdp
  have hb7 : BkG P w T.c_Book.C H7 pb m l0 := hbk.butI hp hpb M7
  generalize hPW : padW ws = W at *
  refine Kit.w_rd f7 T.c_Memory.cl T.n_Memory_words rfl ?_
  refine ⟨wa, rfl, ⟨_, Evl.sq_of f6'⟩, ?_⟩
  refine l_keepE Kit.walks_list (by rw [iv_len, hpl]; decide) (fun _ => rfl) (fun i H' => DigB T.c_Digests.C H' dg pb m ∧ SqL K H' wa (iv W) ∧ ∃ l2, BkG P w T.c_Book.C H' pb m l2 ∧ Ext l0 l2 ((W.take i).map Tx.lf) i)
    (fun i => .int (leafI m ((W[i]?).getD 0))) (fun i H' h => h.2.1) (fun i H' ⟨_, _, l2, b2, _⟩ => b2.pbI) (fun H4 e4 => ⟨hd7.keep (.of e4), Evl.sq_of (e4 _ _ f6'), l0, hb7.exE e4, Ext.refl _⟩)
    (fun i D Ha Hb us hD hDa mm kk ⟨d2, s2, l2, b2, h1⟩ => ⟨d2.but mm hDa, sq_but mm (ne_of_none f6' hD) s2, l2, b2.but mm hDa, h1⟩) ?_ ?_
  · rintro i H8 hi k8 ⟨d8, s8, l2, b8, x8⟩ R rr
    rw [iv_len] at hi
    have hy : (iv W)[i]? = some (.int W[i]) := by unfold iv; rw [List.getElem?_map, List.getElem?_eq_getElem hi]; rfl
    rw [List.getElem?_eq_getElem hi] at rr
    show _
    rw [hy]
    walk_at "wp"
    refine use_leafG d8 b8 (by have := x8.len; omega) fun H9 k9 b9 => ?_
    refine rr H9 k9 ⟨d8.keep k9, keep_sqL b8 k9 s8, _, b9, (x8.trans (Ext.add _ _)).of (fun t => ?_) (Nat.le_refl _)⟩
    rw [List.take_add_one, List.getElem?_eq_getElem hi, List.map_append]
    exact Iff.rfl
  · rintro c H8 n8 k8 f8 ⟨d8, s8, l2, b8, x8⟩
    rw [iv_len] at f8 x8
    rw [range_leaf] at f8
    rw [List.take_length, hpl] at x8
    have f8p := keep_ins hb7 k8 f7 hpb
    walk_at "wp"
    refine use_levels_of (k := 8) d8 b8 (.inl (Evl.sq_of f8)) (fun x hx => by
      obtain ⟨y, _, rfl⟩ := List.mem_map.mp hx
      exact leaf_dg hd.pos) (by rw [List.length_map, hpl]) (by decide) (by have := x8.len; omega) fun la H9 l9 k9 lev b9 x9 => ?_
    obtain ⟨ps, g1, g2, g3, g4⟩ := lev.ex
    have f9p := keep_ins b8 k9 f8p hpb
    walk_at "wp"
    rename_i H10 m10 f10
    have K8 : KeepF pb [p] H H8 := (KeepF.one M7 (by simp) f7).trans (.of k8)
    have K10 : KeepF pb [p] H H10 := (K8.trans (.of k9)).trans (KeepF.one m10 (by simp) f10)
    have hlp : la ≠ p := fun z => by rw [z, f8p] at g4; cases g4
    have f8w : H8 wa = some (.lst (iv W)) := keep_lst hb7 k8 f6'
    have f9w : H9 wa = some (.lst (iv W)) := keep_lst b8 k9 f8w
    have hpp : p ∉ ps := fun z => by
      have h1 := g2.new p z
      rw [f8p] at h1
      cases h1
    have hwn : wa ∉ ps := fun z => by
      have h1 := g2.new wa z
      rw [f8w] at h1
      cases h1
    refine q H10 wa la ps l9 K10 ⟨⟨dx, f10⟩, ?_, hpl, ?_, ?_, hwn, g3, ?_⟩ ?_ (b9.butI f9p hpb m10) ((x8.trans x9).of (fun t => Iff.rfl) (by decide))
    · exact m10 _ _ hwp f9w
    · exact m10 _ _ hlp g1
    · exact (g2.h0).but m10 hpp
    · rintro rfl
      rw [g4] at f8w
      cases f8w
    · intro x hx
      rcases List.mem_cons.mp hx with rfl | hx
      · refine (KeepF.one (pb := pb) (F := [p]) (show Kit.ExBut p H H5 from by walk_at "but") (by simp) (Kit.ex_get e5 (Kit.ex_get e4 (Kit.ex_get e3 (Kit.ex_get e2 f1))))).2 _ n6
      · rcases List.mem_cons.mp hx with rfl | hx
        · exact K8.2 _ g4
        · exact K8.2 _ (g2.new x hx)

/-! ### a memory asked, a memory changed -/
theorem RowsAt.set {H0 H H' : Hp} {q : Addr} {r : List Int} (m : Kit.ExBut q H H') (h : H' q = some (.lst (iv r))) : ∀ {ps : List Addr} {rs : List (List Int)} {i : Nat}, RowsAt H0 H ps rs → ps[i]? = some q → RowsAt H0 H' ps (rs.set i r)
  | [], [], i, _, hi => by simp at hi
  | p :: ps, s :: rs, 0, ⟨a, b, c, d⟩, hi => by
    have e : p = q := by simpa using hi
    subst e
    exact ⟨a, h, c, d.but m c⟩
  | p :: ps, s :: rs, i + 1, ⟨a, b, c, d⟩, hi => by
    have hi' : ps[i]? = some q := by simpa using hi
    have hne : p ≠ q := fun z => c (z ▸ List.mem_of_getElem? hi')
    exact ⟨a, m _ _ hne b, c, RowsAt.set m h d hi'⟩
theorem pairs_set {f : Int → Int → Int} {r : List Int} {n j : Nat} {v : Int} (hr : r.length = 2 * n) (hj : j < 2 * n) : ∃ w, KM.pairs f (r.set j v) = (KM.pairs f r).set (j / 2) w := by
  refine ⟨f ((((r.set j v)[2 * (j / 2)]?).getD 0)) (((r.set j v)[2 * (j / 2) + 1]?).getD 0), ?_⟩
  have hl : (r.set j v).length = 2 * n := by rw [List.length_set]; exact hr
  rw [pairs_at _ hl, pairs_at _ hr]
  apply List.ext_getElem?
  intro i
  rw [List.getElem?_set]
  by_cases hi : i < n
  · by_cases e : j / 2 = i
    · rw [if_pos e, if_pos (by rw [List.length_map, List.length_range]; omega), List.getElem?_map, List.getElem?_range hi, ← e]
      rfl
    · rw [if_neg e, List.getElem?_map, List.getElem?_range hi, List.getElem?_map, List.getElem?_range hi]
      show some (f (((r.set j v)[2 * i]?).getD 0) (((r.set j v)[2 * i + 1]?).getD 0)) = some (f ((r[2 * i]?).getD 0) ((r[2 * i + 1]?).getD 0))
      rw [List.getElem?_set_ne (show j ≠ 2 * i by omega), List.getElem?_set_ne (show j ≠ 2 * i + 1 by omega)]
  · have e : ¬ j / 2 = i := by omega
    rw [if_neg e, List.getElem?_eq_none (by rw [List.length_map, List.length_range]; omega), List.getElem?_eq_none (by rw [List.length_map, List.length_range]; omega)]
theorem levs_set {f : Int → Int → Int} : ∀ (k : Nat) (r : List Int) (j : Nat) (v : Int) (i : Nat), r.length = 2 ^ k → j < 2 ^ k → i ≤ k → ∃ t w, (KM.levs f k r)[i]? = some t ∧ (KM.levs f k (r.set j v))[i]? = some (t.set (j / 2 ^ i) w)
  | k, r, j, v, 0, hr, hj, _ => by
    refine ⟨r, v, ?_, ?_⟩
    · cases k <;> rfl
    · rw [Nat.pow_zero, Nat.div_one]
      cases k <;> rfl
  | 0, r, j, v, i + 1, _, _, hi => by omega
  | k + 1, r, j, v, i + 1, hr, hj, hi => by
    rw [KM.two_pow] at hr hj
    obtain ⟨w, hw⟩ := pairs_set (f := f) (v := v) hr hj
    obtain ⟨t, u, h1, h2⟩ := levs_set k (KM.pairs f r) (j / 2) w i (KM.pairs_len r hr) (by omega) (by omega)
    refine ⟨t, u, h1, ?_⟩
    show (KM.levs f k (KM.pairs f (r.set j v)))[i]? = _
    rw [hw, h2, Nat.div_div_eq_div_mul, ← KM.two_pow]
theorem levs_succ {f : Int → Int → Int} : ∀ (k : Nat) (r : List Int) (i : Nat) (s : List Int), i < k → (KM.levs f k r)[i]? = some s → (KM.levs f k r)[i + 1]? = some (KM.pairs f s)
  | 0, _, _, _, h, _ => by omega
  | k + 1, r, 0, s, _, h => by
    have e : r = s := by simpa [KM.levs] using h
    subst e
    show (KM.levs f k (KM.pairs f r))[0]? = _
    cases k <;> rfl
  | k + 1, r, i + 1, s, hi, h => levs_succ k (KM.pairs f r) i s (by omega) h
theorem levs_chg {f : Int → Int → Int} {k : Nat} {r : List Int} {j i : Nat} {v : Int} {s : List Int} (hr : r.length = 2 ^ k) (hj : j < 2 ^ k) (hi : i < k) (hs : (KM.levs f k (r.set j v))[i]? = some s) :
    2 * (j / 2 ^ (i + 1)) + 1 < s.length ∧ ∃ t, (KM.levs f k r)[i + 1]? = some t ∧ j / 2 ^ (i + 1) < t.length ∧ (KM.levs f k (r.set j v))[i + 1]? = some (t.set (j / 2 ^ (i + 1)) (f ((s[2 * (j / 2 ^ (i + 1))]?).getD 0) ((s[2 * (j / 2 ^ (i + 1)) + 1]?).getD 0))) := by
  obtain ⟨t, w, h1, h2⟩ := levs_set (f := f) k r j v (i + 1) hr hj (by omega)
  have h3 := levs_succ k _ i s hi hs
  have hsl := levs_at_len k (r.set j v) i s (by rw [List.length_set]; exact hr) hs
  have htl := levs_at_len k r (i + 1) t hr h1
  have hp : 2 ^ (k - i) = 2 * 2 ^ (k - (i + 1)) := by rw [← KM.two_pow]; congr 1; omega
  have hq : j / 2 ^ (i + 1) < 2 ^ (k - (i + 1)) := by
    rw [Nat.div_lt_iff_lt_mul (Nat.pow_pos (by decide)), ← Nat.pow_add, Nat.sub_add_cancel hi]
    exact hj
  generalize j / 2 ^ (i + 1) = a at *
  refine ⟨by rw [hsl, hp]; omega, t, h1, by rw [htl]; exact hq, ?_⟩
  rw [h2]
  rw [h2] at h3
  have e : t.set a w = KM.pairs f s := Option.some.inj h3
  have hx : (KM.pairs f s)[a]? = some w := by rw [← e, List.getElem?_set_self (by rw [htl]; exact hq)]
  have h4 : s[2 * a]? = some ((s[2 * a]?).getD 0) := by rw [List.getElem?_eq_getElem (by rw [hsl, hp]; omega)]; rfl
  have h5 : s[2 * a + 1]? = some ((s[2 * a + 1]?).getD 0) := by rw [List.getElem?_eq_getElem (by rw [hsl, hp]; omega)]; rfl
  rw [KM.pairs_get s h4 h5] at hx
  rw [Option.some.inj hx]
theorem levs_dg {m : Int} (hm : 0 < m) : ∀ (k : Nat) (r : List Int), AllDg m r → ∀ s ∈ KM.levs (foldI m) k r, AllDg m s
  | 0, r, h, s, hs => by
    have : s = r := by simpa [KM.levs] using hs
    rw [this]; exact h
  | k + 1, r, h, s, hs => by
    rcases List.mem_cons.mp hs with rfl | hs
    · exact h
    · exact levs_dg hm k _ (pairs_dg hm r) s hs
theorem leaves_dg {m : Int} (hm : 0 < m) (ws : List Int) : AllDg m (ws.map (leafI m)) := fun x hx => by
  obtain ⟨y, _, rfl⟩ := List.mem_map.mp hx
  exact leaf_dg hm
section
variable {C p dg wa la : Addr} {ps : List Addr} {m : Int} {ws : List Int} {H : Hp} {Q : VK}
theorem MemAt.row (h : MemAt C H p dg wa la ps m ws) {i : Nat} {s : List Int} (hs : (KM.levs (foldI m) 8 (ws.map (leafI m)))[i]? = some s) : ∃ q, ps[i]? = some q ∧ H q = some (.lst (iv s)) :=
  let ⟨q, a, _, b⟩ := h.rows.get hs; ⟨q, a, b⟩
end
def memRoot (m : Int) (ws : List Int) : Int := KM.rootM (foldI m) 8 (ws.map (leafI m))
def memPath (m : Int) (ws : List Int) (k : Nat) : List Int := KM.pathM (foldI m) 8 (ws.map (leafI m)) k
def wordAt (ws : List Int) (k : Int) : Int := (ws[(k % 256).toNat]?).getD 0
theorem nat256 (k : Int) : ∃ j : Nat, k % 256 = (j : Int) ∧ j < 256 ∧ (k % 256).toNat = j := by
  have a := Int.emod_nonneg k (show (256 : Int) ≠ 0 by decide)
  have b := Int.emod_lt_of_pos k (show (0 : Int) < 256 by decide)
  exact ⟨(k % 256).toNat, by omega, by omega, rfl⟩
def sp_Memory_word (C : Addr) : Sp := fun vs H Q _ => ∃ (p dg wa la : Addr) (ps : List Addr) (m : Int) (ws : List Int) (k : Int), vs = [.ref p, .int k] ∧ MemAt C H p dg wa la ps m ws ∧ Q (.int (wordAt ws k)) H
theorem ok_Memory_word (T : Txt K mg) : FnOk P w K mg base CX0 1 T.f_Memory_word.f T.f_Memory_word.fd ["self", "place"] (sp_Memory_word T.c_Memory.C) := by
  refine T.f_Memory_word.F.ok sc_Memory_word (fun vs H Q E h => ?_) (fun cdv A outer s H vs Q E hr h => ?_)
  · obtain ⟨p, dg, wa, la, ps, m, ws, k, rfl, hm, q⟩ := h
    rfl
  obtain ⟨p, dg, wa, la, ps, m, ws, k, rfl, hm, q⟩ := h
  have nd := sc_Memory_word.nd
  refine Kit.ok_body (σ := [some _, some _]) ((pss_one (ps_ret (pe_ix (Kit.ixL K) (Kit.kFld K (pv 0) rfl) (pe_op op_mod (pv 1) (pe_glob (v := .int 256) rfl T.g_PLACES ⟨_, rfl⟩)) (fun _ _ => rfl))))) rfl ?_
  obtain ⟨dx, hp⟩ := hm.at_
  obtain ⟨j, h1, h2, h3⟩ := nat256 k
  unfold wordAt at q
  walk_at "wp"
  refine Kit.w_ixL (Evl.sq_of hm.wds) (iv_at' j h1 (by rw [hm.len]; exact h2)) ?_
  rw [← h3]
  exact q
def sp_Memory_words (C : Addr) : Sp := fun vs H Q _ => ∃ (p dg wa la : Addr) (ps : List Addr) (m : Int) (ws : List Int), vs = [.ref p] ∧ MemAt C H p dg wa la ps m ws ∧ ∀ t H', H t = none → Evl.Ex H H' → H' t = some (.tup (iv ws)) → Q (.ref t) H'
theorem ok_Memory_words (T : Txt K mg) : FnOk P w K mg base CX0 1 T.f_Memory_words.f T.f_Memory_words.fd ["self"] (sp_Memory_words T.c_Memory.C) := by
  refine T.f_Memory_words.F.ok sc_Memory_words (fun vs H Q E h => ?_) (fun cdv A outer s H vs Q E hr h => ?_)
  · obtain ⟨p, dg, wa, la, ps, m, ws, rfl, hm, q⟩ := h
    rfl
  obtain ⟨p, dg, wa, la, ps, m, ws, rfl, hm, q⟩ := h
  have nd := sc_Memory_words.nd
  refine Kit.ok_body (σ := [some _]) ((pss_one (ps_ret (pe_callTy (Kit.kTuple K) (by rfl) T.z_tuple (by decide +kernel) (pa_cons (Kit.kFld K (pv 0) rfl) pa_nil))))) rfl ?_
  obtain ⟨dx, hp⟩ := hm.at_
  walk_at "wp"
  refine Kit.w_tuple (Evl.sq_of hm.wds) fun t H' n e f => ?_
  exact q t H' n e f
def sp_Memory_root (C : Addr) : Sp := fun vs H Q _ => ∃ (p dg wa la : Addr) (ps : List Addr) (m : Int) (ws : List Int), vs = [.ref p] ∧ MemAt C H p dg wa la ps m ws ∧ Q (.int (memRoot m ws)) H
theorem ok_Memory_root (T : Txt K mg) : FnOk P w K mg base CX0 1 T.f_Memory_root.f T.f_Memory_root.fd ["self"] (sp_Memory_root T.c_Memory.C) := by
  refine T.f_Memory_root.F.ok sc_Memory_root (fun vs H Q E h => ?_) (fun cdv A outer s H vs Q E hr h => ?_)
  · obtain ⟨p, dg, wa, la, ps, m, ws, rfl, hm, q⟩ := h
    rfl
  obtain ⟨p, dg, wa, la, ps, m, ws, rfl, hm, q⟩ := h
  have nd := sc_Memory_root.nd
  refine Kit.ok_body (σ := [some _]) ((pss_one (ps_ret (pe_ix (Kit.ixL K) (pe_ix (Kit.ixL K) (Kit.kFld K (pv 0) rfl) (pe_un un_neg pe_int) (fun _ _ => rfl)) pe_int (fun _ _ => rfl))))) rfl ?_
  obtain ⟨dx, hp⟩ := hm.at_
  obtain ⟨c, h1, h2⟩ := hm.row (levs_last 8 (ws.map (leafI m)) (by rw [List.length_map, hm.len]))
  walk_at "wp"
  refine Kit.w_ixL (Evl.sq_of hm.lvl) (ref_last hm.plen h1) ?_
  walk_at "wp"
  exact q
def sp_Memory_path (C : Addr) : Sp := fun vs H Q _ => ∃ (p dg wa la : Addr) (ps : List Addr) (m : Int) (ws : List Int) (k : Int), vs = [.ref p, .int k] ∧ MemAt C H p dg wa la ps m ws ∧ ∀ t H', H t = none → Evl.Ex H H' → H' t = some (.tup (iv (memPath m ws (k % 256).toNat))) → Q (.ref t) H'
theorem ok_Memory_path (T : Txt K mg) : FnOk P w K mg base CX0 2 T.f_Memory_path.f T.f_Memory_path.fd ["self", "place"] (sp_Memory_path T.c_Memory.C) := by
  have G_path_in := ok_path_in (P := P) (w := w) (base := base) T
  refine T.f_Memory_path.F.ok sc_Memory_path (fun vs H Q E h => ?_) (fun cdv A outer s H vs Q E hr h => ?_)
  · obtain ⟨p, dg, wa, la, ps, m, ws, k, rfl, hm, q⟩ := h
    rfl
  obtain ⟨p, dg, wa, la, ps, m, ws, k, rfl, hm, q⟩ := h
  have nd := sc_Memory_path.nd
  have hr1 : Room 1 _ := hr.mono (by decide)
  refine Kit.ok_body (σ := [some _, some _]) ((pss_one (ps_ret (pe_call G_path_in hr1 (by rfl) T.f_path_in.g T.f_path_in.F.kp T.f_path_in.b .nil pass0 (pa_cons (Kit.kFld K (pv 0) rfl) (pa_cons (pe_op op_mod (pv 1) (pe_glob (v := .int 256) rfl T.g_PLACES ⟨_, rfl⟩)) pa_nil)))))) rfl ?_
  obtain ⟨dx, hp⟩ := hm.at_
  obtain ⟨j, h1, h2, h3⟩ := nat256 k
  rw [h3] at q
  walk_at "wp"
  rw [h1]
  exact ⟨la, ps, foldI m, ws.map (leafI m), 8, j, rfl, hm.lvl, hm.plen, fun i s hs => hm.row hs, by rw [List.length_map, hm.len], by decide, h2, q⟩
/-- the texts of a change -/
def chgG (B : List (List Int)) (j i : Nat) : Tx := .fd (((((B[i]?).getD [])[2 * (j / 2 ^ (i + 1))]?).getD 0)) (((((B[i]?).getD [])[2 * (j / 2 ^ (i + 1)) + 1]?).getD 0))
def chgX (m : Int) (ws : List Int) (j : Nat) (v : Int) : List Tx := .lf v :: (List.range 8).map (chgG (KM.levs (foldI m) 8 (ws.map (leafI m))) j)
def sp_Memory_change (P : Program) (w : World) (C CD CB : Addr) : Sp := fun vs H Q _ => ∃ (p dg pb wa la : Addr) (ps : List Addr) (m : Int) (ws : List Int) (k v : Int) (l : List Tx), vs = [.ref p, .int k, .int v] ∧ MemAt C H p dg wa la ps m ws ∧ p ≠ pb ∧ DigB CD H dg pb m ∧ BkG P w CB H pb m l ∧ l.length ≤ 90000 ∧
  ∀ H' l', KeepF pb (wa :: ps) H H' → MemAt C H' p dg wa la ps m (ws.set (k % 256).toNat v) → BkG P w CB H' pb m l' → Ext l l' (chgX m (ws.set (k % 256).toNat v) (k % 256).toNat v) 9 → Q .non H'
theorem ok_Memory_change (T : Txt K mg) : FnOk P w K mg base CX0 4 T.f_Memory_change.f T.f_Memory_change.fd ["self", "place", "word"] (sp_Memory_change P w T.c_Memory.C T.c_Digests.C T.c_Book.C) := by
  have G_Digests_fold := ok_Digests_fold (P := P) (w := w) (base := base) T
  have G_Digests_leaf := ok_Digests_leaf (P := P) (w := w) (base := base) T
  refine T.f_Memory_change.F.ok sc_Memory_change (fun vs H Q E h => ?_) (fun cdv A outer s H vs Q E hr h => ?_)
  · obtain ⟨p, dg, pb, wa, la, ps, m, ws, k, v, l0, rfl, hm, hpb, hd, hbk, hl0, q⟩ := h
    rfl
  obtain ⟨p, dg, pb, wa, la, ps, m, ws, k, v, l0, rfl, hm, hpb, hd, hbk, hl0, q⟩ := h
  have nd := sc_Memory_change.nd
  have hr3 : Room 3 _ := hr.mono (by decide)
  refine Kit.ok_body (σ := [some _, some _, some _, none, none, none]) ((pss_cons (ps_set (i := 3) nd rfl (Or.inl rfl) (pe_op op_mod (pv 1) (pe_glob (v := .int 256) rfl T.g_PLACES ⟨_, rfl⟩)))
    (pss_cons (ps_asg (pv 2) (pg_sub (Kit.kFld K (pv 0) rfl) (pv 3) set_list))
    (pss_cons (ps_asg (pe_meth (Kit.kFld K (pv 0) rfl) T.c_Digests.cl T.m_Digests_leaf G_Digests_leaf hr3 T.f_Digests_leaf.b .nil pass0 (pa_cons (pv 2) pa_nil)) (pg_sub (pe_ix (Kit.ixL K) (Kit.kFld K (pv 0) rfl) pe_int (fun _ _ => rfl)) (pv 3) set_list))
    (pss_one (ps_for PassesOwn.never rfl (pi_range2 (by rfl) T.z_range (pa_cons pe_int (pa_cons (pe_callB (Kit.kLen K) (by rfl) T.z_len (by decide +kernel) (pa_cons (Kit.kFld K (pv 0) rfl) pa_nil)) pa_nil))) (pg_name (i := 4) nd rfl (Or.inl rfl))
    (pss_cons (ps_set (i := 3) nd rfl (Or.inl rfl) (pe_op op_fdiv (pv 3) pe_int))
    (pss_cons (ps_set (i := 5) nd rfl (Or.inl rfl) (pe_ix (Kit.ixL K) (Kit.kFld K (pv 0) rfl) (pe_op op_sub (pv 4) pe_int) (fun _ _ => rfl)))
    (pss_one (ps_asg (pe_meth (Kit.kFld K (pv 0) rfl) T.c_Digests.cl T.m_Digests_fold G_Digests_fold hr3 T.f_Digests_fold.b .nil pass0 (pa_cons (pe_ix (Kit.ixL K) (pv 5) (pe_op op_mul pe_int (pv 3)) (fun _ _ => rfl)) (pa_cons (pe_ix (Kit.ixL K) (pv 5) (pe_op op_add (pe_op op_mul pe_int (pv 3)) pe_int) (fun _ _ => rfl)) pa_nil))) (pg_sub (pe_ix (Kit.ixL K) (Kit.kFld K (pv 0) rfl) (pv 4) (fun _ _ => rfl)) (pv 3) set_list))))))))))) rfl ?_
  try dsimp only [L2.cxOf, L2.Cx.nox]
  obtain ⟨dx, hp⟩ := hm.at_
  obtain ⟨j, h1, h2, h3⟩ := nat256 k
  rw [h3] at q
  walk_at "wp"
  rw [h1]
  have hF := hm.mem_lst
  have hpF : p ∉ wa :: ps := fun z => by obtain ⟨ys, hy⟩ := hF p z; rw [hp] at hy; cases hy
  have hlF : la ∉ wa :: ps := fun z => (List.mem_cons.mp z).elim (fun z => hm.nwl z.symm) hm.nlp
  obtain ⟨pC, pdx, pfs, hpbI⟩ := hbk.pbI
  have hlN : la ≠ pb := by rintro rfl; rw [hm.lvl] at hpbI; cases hpbI
  have hpK : ∀ {Y : Hp}, KeepF pb (wa :: ps) H Y → Y p = some (.ins T.c_Memory.C dx (fl_Memory (.ref dg) (.ref wa) (.ref la))) := fun k => k.1 p _ hpb hpF hp rfl
  have hlK : ∀ {Y : Hp}, KeepF pb (wa :: ps) H Y → Y la = some (.lst (ps.map V.ref)) := fun k => k.1 la _ hlN hlF hm.lvl rfl
  have hL : (ws.map (leafI m)).length = 2 ^ 8 := by rw [List.length_map, hm.len]
  have hset : (ws.map (leafI m)).set j (leafI m v) = (ws.set j v).map (leafI m) := (List.map_set).symm
  refine Kit.w_setL hm.wds (Evl.ixN_nat (by rw [iv_len, hm.len]; exact h2)) (ys := iv (ws.set j v)) (by unfold iv; rw [List.map_set]) fun H1 m1 f1 => ?_
  have b1 : KeepF pb (wa :: ps) H H1 := KeepF.one m1 (by simp) f1
  have hp1 := hpK b1
  have hd1 : DigB T.c_Digests.C H1 dg pb m := hd.but m1 hm.wds
  have hb1 : BkG P w T.c_Book.C H1 pb m l0 := hbk.but m1 hm.wds
  walk_at "wp"
  refine use_leafG hd1 hb1 (by omega) fun H2 k2 bk2 => ?_
  obtain ⟨q0, hq0, hq1⟩ := hm.row (i := 0) (s := ws.map (leafI m)) rfl
  have hq0w : q0 ≠ wa := fun z => hm.nwp (z ▸ List.mem_of_getElem? hq0)
  have hq0F : q0 ∈ wa :: ps := List.mem_cons_of_mem _ (List.mem_of_getElem? hq0)
  have hq2 : H2 q0 = some (.lst (iv (ws.map (leafI m)))) := keep_lst hb1 k2 (m1 _ _ hq0w hq1)
  have B2 : KeepF pb (wa :: ps) H H2 := b1.trans (.of k2)
  have hl2 := hlK B2
  have hp2 := hpK B2
  walk_at "wp"
  refine Kit.w_ixL (Evl.sq_of hl2) (ref_at (k := 0) hq0) ?_
  walk_at "wp"
  refine Kit.w_setL hq2 (Evl.ixN_nat (by rw [iv_len, hL]; exact h2)) (ys := iv ((ws.set j v).map (leafI m))) (by rw [← hset]; unfold iv; rw [List.map_set]) fun H3 m3 f3 => ?_
  have B3 : KeepF pb (wa :: ps) H H3 := B2.trans (KeepF.one m3 hq0F f3)
  have r3 : RowsAt h0 H3 ps ((KM.levs (foldI m) 8 (ws.map (leafI m))).set 0 ((ws.set j v).map (leafI m))) := RowsAt.set m3 f3 (RowsAt.keep hb1 k2 (hm.rows.but m1 hm.nwp)) hq0
  have w3 : H3 wa = some (.lst (iv (ws.set j v))) := m3 _ _ hq0w.symm (keep_lst hb1 k2 f1)
  have bk3 := bk2.but m3 hq2
  have hd3 := (hd1.keep k2).but m3 hq2
  have hl3 := hlK B3
  have hp3 := hpK B3
  have hl9 : (ps.map V.ref).length = 9 := by rw [List.length_map]; exact hm.plen
  walk_at "wp"
  rw [hl9]
  have hchg : chgX m (ws.set j v) j v = .lf v :: (List.range 8).map (chgG (KM.levs (foldI m) 8 ((ws.set j v).map (leafI m))) j) := rfl
  rw [hchg] at q
  generalize hA : KM.levs (foldI m) 8 (ws.map (leafI m)) = A at *
  generalize hB : KM.levs (foldI m) 8 ((ws.set j v).map (leafI m)) = B at *
  have hAl : A.length = 9 := by rw [← hA]; exact lev_len _
  have hBl : B.length = 9 := by rw [← hB]; exact lev_len _
  have hB0 : B[0]? = some ((ws.set j v).map (leafI m)) := by rw [← hB]; rfl
  refine Kit.f_rng2 (lo := 1) (n := 9) (by decide) (fun i σ' H' => ∃ y4 y5 rs l2, σ' = [some (.ref p), some (.int k), some (.int v), some (.int ((j / 2 ^ i : Nat) : Int)), y4, y5] ∧ KeepF pb (wa :: ps) H H' ∧ DigB T.c_Digests.C H' dg pb m ∧ BkG P w T.c_Book.C H' pb m l2 ∧ Ext (addX l0 (.lf v)) l2 (((List.range 8).map (chgG B j)).take i) i ∧ H' wa = some (.lst (iv (ws.set j v))) ∧ RowsAt h0 H' ps rs ∧ rs.length = 9 ∧ (∀ h, h ≤ i → rs[h]? = B[h]?) ∧ (∀ h, i < h → rs[h]? = A[h]?))
    ⟨_, _, _, _, by rw [Nat.pow_zero, Nat.div_one], B3, hd3, bk3, Ext.refl _, w3, r3, by rw [List.length_set]; exact hAl, fun h hh => ?_, fun h hh => ?_⟩ ?_ ?_
  · rw [Nat.le_zero.mp hh, List.getElem?_set_self (by rw [hAl]; decide), hB0]
  · rw [List.getElem?_set_ne (by omega)]
  · rintro i σ' H4 hi ⟨y4, y5, rs, l2, rfl, b4, hd4, bk4, x4, w4, r4, hrl, hlo, hhi⟩
    have hi8 : i < 8 := by omega
    have hp4 := hpK b4
    have hl4 := hlK b4
    have hBi : B[i]? = some B[i] := List.getElem?_eq_getElem (by omega)
    generalize hs : B[i] = s at hBi
    have hBi2 : (KM.levs (foldI m) 8 ((ws.map (leafI m)).set j (leafI m v)))[i]? = some s := by rw [hset, hB]; exact hBi
    obtain ⟨hs1, t, ht1, ht2, ht3⟩ := levs_chg (f := foldI m) hL h2 hi8 hBi2
    rw [hset, hB] at ht3
    rw [hA] at ht1
    obtain ⟨qb, hb1, _, hb2⟩ := r4.get (i := i) (r := s) (by rw [hlo i (Nat.le_refl i)]; exact hBi)
    obtain ⟨qc, hc1, _, hc2⟩ := r4.get (i := i + 1) (r := t) (by rw [hhi (i + 1) (Nat.lt_succ_self i)]; exact ht1)
    have hsd : AllDg m s := levs_dg hd.pos 8 _ (leaves_dg hd.pos (ws.set j v)) s (by rw [hB]; exact List.mem_of_getElem? hBi)
    have hz : ((j / 2 ^ i : Nat) : Int) / 2 = ((j / 2 ^ (i + 1) : Nat) : Int) := int_half
    have hg : chgG B j i = .fd ((s[2 * (j / 2 ^ (i + 1))]?).getD 0) ((s[2 * (j / 2 ^ (i + 1)) + 1]?).getD 0) := by unfold chgG; rw [hBi]; rfl
    have htk : ((List.range 8).map (chgG B j)).take (i + 1) = ((List.range 8).map (chgG B j)).take i ++ [chgG B j i] := by
      rw [List.take_add_one, List.getElem?_map, List.getElem?_range hi8]
      rfl
    have hxl := x4.len
    have hal := (Ext.add l0 (.lf v)).len
    show Kit.Sm _ _ _ _ _ _ _
    walk_at "wp"
    refine Kit.w_ixL (Evl.sq_of hl4) (by rw [show (1 : Int) + (i : Int) - 1 = (i : Int) by omega]; exact ref_at hb1) ?_
    walk_at "wp"
    rw [hz]
    generalize j / 2 ^ (i + 1) = a at *
    refine Kit.w_ixL (Evl.sq_of hb2) (iv_at' (2 * a) (by omega) (by omega)) ?_
    walk_at "wp"
    refine Kit.w_ixL (Evl.sq_of hb2) (iv_at' (2 * a + 1) (by omega) (by omega)) ?_
    walk_at "wp"
    refine use_foldG hd4 bk4 (hsd.at (by omega)) (hsd.at (by omega)) (by omega) fun H5 k5 bk5 => ?_
    have b5 := b4.trans (.of k5)
    have hp5 := hpK b5
    have hc5 := keep_lst bk4 k5 hc2
    walk_at "wp"
    refine Kit.w_ixL (Evl.sq_of (hlK b5)) (by rw [show (1 : Int) + (i : Int) = ((i + 1 : Nat) : Int) by omega]; exact ref_at hc1) ?_
    walk_at "wp"
    refine Kit.w_setL hc5 (Evl.ixN_nat (by rw [iv_len]; exact ht2)) (ys := iv (t.set a (foldI m ((s[2 * a]?).getD 0) ((s[2 * a + 1]?).getD 0)))) (by unfold iv; rw [List.map_set]) fun H6 m6 f6 => ?_
    have hcF : qc ∈ wa :: ps := List.mem_cons_of_mem _ (List.mem_of_getElem? hc1)
    have hcw : wa ≠ qc := fun z => hm.nwp (z ▸ List.mem_of_getElem? hc1)
    refine ⟨_, _, rs.set (i + 1) (t.set a (foldI m ((s[2 * a]?).getD 0) ((s[2 * a + 1]?).getD 0))), _, rfl, b5.trans (KeepF.one m6 hcF f6), (hd4.keep k5).but m6 hc5, bk5.but m6 hc5, ?_, m6 _ _ hcw (keep_lst bk4 k5 w4), RowsAt.set m6 f6 (RowsAt.keep bk4 k5 r4) hc1, by rw [List.length_set]; exact hrl, fun h hh => ?_, fun h hh => ?_⟩
    · rw [htk, hg]
      exact x4.trans (Ext.add _ _)
    · by_cases he : h = i + 1
      · rw [he, List.getElem?_set_self (by omega), ht3]
      · rw [List.getElem?_set_ne (by omega)]
        exact hlo h (by omega)
    · rw [List.getElem?_set_ne (by omega)]
      exact hhi h (by omega)
  · rintro σ' H4 ⟨y4, y5, rs, l2, rfl, b4, hd4, bk4, x4, w4, r4, hrl, hlo, hhi⟩
    have hrs : rs = B := by
      apply List.ext_getElem?
      intro h
      by_cases hh : h ≤ 8
      · exact hlo h hh
      · rw [List.getElem?_eq_none (by omega), List.getElem?_eq_none (by omega)]
    subst hrs
    walk_at "wp"
    exact q H4 l2 b4 ⟨⟨dx, hpK b4⟩, w4, by rw [List.length_set]; exact hm.len, hlK b4, by rw [hB]; exact r4, hm.nwp, hm.nlp, hm.nwl⟩ bk4 (((Ext.add l0 (.lf v)).trans x4).of (fun t => Iff.rfl) (by decide))

def sp_root_of (K : PySem.W.Frag) (C : Addr) : Sp := fun vs H Q _ => ∃ (p a : Addr) (m : Int) (r : List Int) (k : Nat), vs = [.ref p, .ref a] ∧ DigN C H p m ∧ (SqL K H a (iv r) ∨ SqT K H a (iv r)) ∧ AllDg m r ∧ r.length = 2 ^ k ∧ k ≤ 8 ∧
  ∀ H', Evl.Ex H H' → Q (.int (KM.rootM (foldI m) k r)) H'
theorem ok_root_of (T : Txt K mg) : FnOk P w K mg base CX0 5 T.f_root_of.f T.f_root_of.fd ["digests", "row"] (sp_root_of K T.c_Digests.C) := by
  have G_levels_of := ok_levels_of (P := P) (w := w) (base := base) T
  refine T.f_root_of.F.ok sc_root_of (fun vs H Q E h => ?_) (fun cdv A outer s H vs Q E hr h => ?_)
  · obtain ⟨p, a, m, r, k, rfl, hd, ha, hx, hk, hk8, q⟩ := h
    rfl
  obtain ⟨p, a, m, r, k, rfl, hd, ha, hx, hk, hk8, q⟩ := h
  have nd := sc_root_of.nd
  have hr4 : Room 4 _ := hr.mono (by decide)
  refine Kit.ok_body (σ := [some _, some _]) ((pss_one (ps_ret (pe_ix (Kit.ixL K) (pe_ix (Kit.ixL K) (pe_call G_levels_of hr4 (by rfl) T.f_levels_of.g T.f_levels_of.F.kp T.f_levels_of.b .nil pass0 (pa_cons (pv 0) (pa_cons (pv 1) pa_nil))) (pe_un un_neg pe_int) (fun _ _ => rfl)) pe_int (fun _ _ => rfl))))) rfl ?_
  walk_at "wp"
  refine use_levels_of' hd ha hx hk hk8 fun l H1 e1 hl => ?_
  obtain ⟨ps, g1, g2, g3⟩ := hl.get
  rw [KM.levs_len] at g2
  obtain ⟨q0, g4, g5⟩ := g3 k _ (levs_last k r hk)
  have hat := ref_last g2 g4
  walk_at "wp"
  exact q _ e1
theorem use_root_of {K : PySem.W.Frag} {C p a : Addr} {m : Int} {r : List Int} (k : Nat) {H : Hp} {Q : VK} {E : XK} (hd : DigN C H p m) (ha : SqL K H a (iv r) ∨ SqT K H a (iv r)) (hx : AllDg m r) (hk : r.length = 2 ^ k) (h8 : k ≤ 8)
    (q : ∀ H', Evl.Ex H H' → Q (.int (KM.rootM (foldI m) k r)) H') : sp_root_of K C [.ref p, .ref a] H Q E := ⟨p, a, m, r, k, rfl, hd, ha, hx, hk, h8, q⟩

def sp_path_of (K : PySem.W.Frag) (C : Addr) : Sp := fun vs H Q _ => ∃ (p a : Addr) (m : Int) (r : List Int) (k pl : Nat), vs = [.ref p, .ref a, .int pl] ∧ DigN C H p m ∧ (SqL K H a (iv r) ∨ SqT K H a (iv r)) ∧ AllDg m r ∧ r.length = 2 ^ k ∧ k ≤ 8 ∧ pl < 2 ^ k ∧
  ∀ p H', H p = none → Evl.Ex H H' → H' p = some (.tup (iv (KM.pathM (foldI m) k r pl))) → Q (.ref p) H'
theorem ok_path_of (T : Txt K mg) : FnOk P w K mg base CX0 5 T.f_path_of.f T.f_path_of.fd ["digests", "row", "place"] (sp_path_of K T.c_Digests.C) := by
  have G_levels_of := ok_levels_of (P := P) (w := w) (base := base) T
  have G_path_in := ok_path_in (P := P) (w := w) (base := base) T
  refine T.f_path_of.F.ok sc_path_of (fun vs H Q E h => ?_) (fun cdv A outer s H vs Q E hr h => ?_)
  · obtain ⟨p, a, m, r, k, pl, rfl, hd, ha, hx, hk, hk8, hpl, q⟩ := h
    rfl
  obtain ⟨p, a, m, r, k, pl, rfl, hd, ha, hx, hk, hk8, hpl, q⟩ := h
  have nd := sc_path_of.nd
  have hr1 : Room 1 _ := hr.mono (by decide)
  have hr4 : Room 4 _ := hr.mono (by decide)
  refine Kit.ok_body (σ := [some _, some _, some _]) ((pss_one (ps_ret (pe_call G_path_in hr1 (by rfl) T.f_path_in.g T.f_path_in.F.kp T.f_path_in.b .nil pass0 (pa_cons (pe_call G_levels_of hr4 (by rfl) T.f_levels_of.g T.f_levels_of.F.kp T.f_levels_of.b .nil pass0 (pa_cons (pv 0) (pa_cons (pv 1) pa_nil))) (pa_cons (pe_op op_mod (pv 2) (pe_callB (Kit.kLen K) (by rfl) T.z_len (by decide +kernel) (pa_cons (pv 1) pa_nil))) pa_nil)))))) rfl ?_
  walk_at "wp"
  refine use_levels_of' hd ha hx hk hk8 fun l H1 e1 hl => ?_
  have ha1 : SqL K H1 a (iv r) ∨ SqT K H1 a (iv r) := ha.imp (Evl.ex_l e1) (Evl.ex_t e1)
  have h2 : (0 : Int) < ((iv r).length : Int) := by
    rw [iv_len, hk]
    have : 0 < 2 ^ k := Nat.pow_pos (by decide)
    omega
  walk_at "wp"
  refine use_path_in pl hl hk hk8 hpl ?_ fun p H2 n2 e2 f2 => ?_
  · rw [iv_len, hk]
    exact Int.emod_eq_of_lt (by omega) (by omega)
  · exact q p H2 (Evl.fresh_back e1 n2) (e1.trans e2) f2
theorem use_path_of {K : PySem.W.Frag} {C p a : Addr} {m : Int} {r : List Int} (k pl : Nat) {z : Int} {H : Hp} {Q : VK} {E : XK} (hd : DigN C H p m) (ha : SqL K H a (iv r) ∨ SqT K H a (iv r)) (hx : AllDg m r) (hk : r.length = 2 ^ k) (h8 : k ≤ 8) (hp : pl < 2 ^ k) (ez : z = (pl : Int))
    (q : ∀ p H', H p = none → Evl.Ex H H' → H' p = some (.tup (iv (KM.pathM (foldI m) k r pl))) → Q (.ref p) H') : sp_path_of K C [.ref p, .ref a, .int z] H Q E := by
  subst ez
  exact ⟨p, a, m, r, k, pl, rfl, hd, ha, hx, hk, h8, hp, q⟩

/-! ### told texts: of a whole memory, of one place -/
theorem mem_prsX {f : Int → Int → Int} : ∀ {r : List Int} {n : Nat}, r.length = 2 * n → ∀ t, t ∈ prsX r ↔ ∃ a, a < n ∧ t = .fd ((r[2 * a]?).getD 0) ((r[2 * a + 1]?).getD 0) := by
  intro r n h t
  constructor
  · intro ht
    obtain ⟨i, hi⟩ := List.mem_iff_getElem?.mp ht
    have hl : i < n := by
      have := (List.getElem?_eq_some_iff.mp hi).1
      rw [prsX_len h] at this
      exact this
    rw [prsX_at h hl] at hi
    exact ⟨i, hl, (Option.some.inj hi).symm⟩
  · rintro ⟨a, ha, rfl⟩
    exact List.mem_of_getElem? (prsX_at h ha)
theorem mem_treeX {f : Int → Int → Int} : ∀ (k : Nat) (r : List Int), r.length = 2 ^ k → ∀ t, t ∈ treeX f k r ↔ ∃ j i, j < 2 ^ k ∧ i < k ∧ t = chgG (KM.levs f k r) j i
  | 0, r, _, t => ⟨fun h => absurd h (by simp [treeX]), fun ⟨_, _, _, h, _⟩ => absurd h (Nat.not_lt_zero _)⟩
  | k + 1, r, h, t => by
    have h' := h
    rw [KM.two_pow] at h
    have hB : ∀ i, (KM.levs f (k + 1) r)[i + 1]? = (KM.levs f k (KM.pairs f r))[i]? := fun i => rfl
    have h0 : (KM.levs f (k + 1) r)[0]? = some r := rfl
    show t ∈ prsX r ++ treeX f k (KM.pairs f r) ↔ _
    rw [List.mem_append, mem_prsX (f := f) h, mem_treeX k _ (KM.pairs_len r h)]
    constructor
    · rintro (⟨a, ha, rfl⟩ | ⟨j, i, hj, hi, rfl⟩)
      · refine ⟨2 * a, 0, by rw [KM.two_pow]; omega, by omega, ?_⟩
        unfold chgG
        rw [h0, show 2 * a / 2 ^ (0 + 1) = a by omega]
        rfl
      · refine ⟨2 * j, i + 1, by rw [KM.two_pow]; omega, by omega, ?_⟩
        unfold chgG
        rw [hB, show 2 * j / 2 ^ (i + 1 + 1) = j / 2 ^ (i + 1) by rw [KM.two_pow (i + 1), Nat.mul_div_mul_left _ _ (by decide)]]
    · rintro ⟨j, i, hj, hi, rfl⟩
      rw [KM.two_pow] at hj
      cases i with
      | zero =>
        refine .inl ⟨j / 2, by omega, ?_⟩
        unfold chgG
        rw [h0]
        rfl
      | succ i =>
        refine .inr ⟨j / 2, i, by omega, by omega, ?_⟩
        unfold chgG
        rw [hB, show j / 2 ^ (i + 1 + 1) = j / 2 / 2 ^ (i + 1) by rw [KM.two_pow (i + 1), Nat.div_div_eq_div_mul]]
def tellX (m : Int) (ws : List Int) (j : Nat) : List Tx := chgX m ws j ((ws[j]?).getD 0)
theorem mem_memX {m : Int} {ws : List Int} (hl : ws.length = 256) (t : Tx) : t ∈ memX m ws ↔ ∃ j, j < 256 ∧ t ∈ tellX m ws j := by
  have h8 : (ws.map (leafI m)).length = 2 ^ 8 := by rw [List.length_map, hl]
  unfold memX tellX chgX
  rw [List.mem_append, List.mem_map, mem_treeX 8 _ h8]
  constructor
  · rintro (⟨w, hw, rfl⟩ | ⟨j, i, hj, hi, rfl⟩)
    · obtain ⟨j, hj⟩ := List.mem_iff_getElem?.mp hw
      have hjl := (List.getElem?_eq_some_iff.mp hj).1
      exact ⟨j, by omega, by rw [hj]; exact List.mem_cons_self⟩
    · exact ⟨j, hj, List.mem_cons_of_mem _ (List.mem_map.mpr ⟨i, List.mem_range.mpr hi, rfl⟩)⟩
  · rintro ⟨j, hj, h⟩
    rcases List.mem_cons.mp h with rfl | h
    · refine .inl ⟨(ws[j]?).getD 0, ?_, rfl⟩
      rw [List.getElem?_eq_getElem (by omega)]
      exact List.getElem_mem _
    · obtain ⟨i, hi, rfl⟩ := List.mem_map.mp h
      exact .inr ⟨j, i, hj, List.mem_range.mp hi, rfl⟩
/-- as many texts as keys -/
theorem same_len : ∀ {a b : List Tx}, a.Nodup → b.Nodup → (∀ t, t ∈ a ↔ t ∈ b) → a.length = b.length := by
  intro a b ha hb h
  exact ((List.perm_ext_iff_of_nodup ha hb).mpr h).length_eq
def keyT : Tx → List Key
  | .lf w => [.inr "leaf", .inl w]
  | .fd x y => [.inr "fold", .inl x, .inl y]
  | .st ns => .inr "state" :: ns.map .inl
theorem keyT_inj {t u : Tx} (h : keyT t = keyT u) : t = u := by
  have ne1 : (("leaf" : Str)) ≠ "fold" := by decide +kernel
  have ne2 : (("leaf" : Str)) ≠ "state" := by decide +kernel
  have ne3 : (("fold" : Str)) ≠ "state" := by decide +kernel
  have im : ∀ {a b : List Int}, a.map (Sum.inl : Int → Key) = b.map Sum.inl → a = b := fun {a b} z => by
    have := congrArg (List.map fun k : Key => match k with | .inl i => i | .inr _ => 0) z
    simpa [List.map_map, Function.comp_def] using this
  cases t <;> cases u
  all_goals (simp only [keyT, List.cons.injEq, Sum.inr.injEq, Sum.inl.injEq, and_true] at h)
  · rw [h.2]
  · exact absurd h.1 ne1
  · exact absurd h.1 ne2
  · exact absurd h.1.symm ne1
  · rw [h.2.1, h.2.2]
  · exact absurd h.1 ne3
  · exact absurd h.1.symm ne2
  · exact absurd h.1.symm ne3
  · rw [im h.2]
def yesX (l : List Tx) : List (List Key × V) := l.map fun t => (keyT t, V.bl true)
theorem yesX_any (l : List Tx) (t : Tx) : ((yesX l).any fun kv => decide (kv.1 = keyT t)) = decide (t ∈ l) := by
  unfold yesX
  rw [List.any_map, Bool.eq_iff_iff, List.any_eq_true, decide_eq_true_iff]
  constructor
  · rintro ⟨x, hx, e⟩
    exact keyT_inj (of_decide_eq_true e : keyT x = keyT t) ▸ hx
  · exact fun h => ⟨t, h, decide_eq_true rfl⟩
theorem put_yesX (l : List Tx) (t : Tx) : putK (yesX l) (keyT t) (V.bl true) = yesX (addX l t) := by
  unfold putK addX
  rw [yesX_any]
  by_cases h : t ∈ l
  · rw [if_pos (decide_eq_true h), if_pos h]
    unfold yesX
    rw [List.map_map]
    refine List.map_congr_left fun x _ => ?_
    show (if keyT x = keyT t then (keyT x, V.bl true) else (keyT x, V.bl true)) = (keyT x, V.bl true)
    split <;> rfl
  · rw [if_neg (by rw [decide_eq_false h]; exact Bool.false_ne_true), if_neg h]
    unfold yesX
    rw [List.map_append]
    rfl

def sp_law_levels (K : PySem.W.Frag) (C : Addr) : Sp := fun vs H Q _ => ∃ (p a : Addr) (m : Int) (ws : List Int), vs = [.ref p, .ref a] ∧ DigN C H p m ∧ SqL K H a (iv ws) ∧ ws.length = 256 ∧ ∀ l H', Evl.Ex H H' → LevAt H H' l (KM.levs (foldI m) 8 (ws.map (leafI m))) → Q (.ref l) H'
theorem iv_mem {ws : List Int} {i : Nat} {x : V} (h : (iv ws)[i]? = some x) : ∃ y, ws[i]? = some y ∧ x = .int y := by
  unfold iv at h
  rw [List.getElem?_map] at h
  cases e : ws[i]? with
  | none => rw [e] at h; cases h
  | some y => rw [e] at h; exact ⟨y, rfl, (Option.some.inj h).symm⟩
theorem ok_law_levels (T : Txt K mg) : FnOk P w K mg base CX0 4 T.f_law_levels.f T.f_law_levels.fd ["digests", "row"] (sp_law_levels K T.c_Digests.C) := by
  have G_Digests_fold := ok_Digests_fold (P := P) (w := w) (base := base) T
  have G_Digests_leaf := ok_Digests_leaf (P := P) (w := w) (base := base) T
  refine T.f_law_levels.F.ok sc_law_levels (fun vs H Q E h => ?_) (fun cdv A outer s H vs Q E hr h => ?_)
  · obtain ⟨p, a, m, ws, rfl, hd, ha, hws, q⟩ := h
    rfl
  obtain ⟨p, a, m, ws, rfl, hd, ha, hws, q⟩ := h
  have nd := sc_law_levels.nd
  have hr3 : Room 3 _ := hr.mono (by decide)
  refine Kit.ok_body (σ := [some _, some _, none, none, none, none]) ((pss_cons (ps_set (i := 2) nd rfl (Or.inl rfl) (pe_lst (pa_cons (pe_lc (own := [("word", 4)]) (g := gName 4) (tt := tYes) (by rfl) nd (Kit.kpList K (pv 1)) (blkOk_by (own := [("word", 4)]) (N := N_law_levels) (sc := defScope s_law_levels) (by decide +kernel)) (fun _ _ _ _ _ => pg_name (i := 4) nd rfl (Or.inl rfl)) (fun _ _ _ _ _ => pts_nil) (fun _ _ _ _ _ => (pe_meth (pv 0) T.c_Digests.cl T.m_Digests_leaf G_Digests_leaf hr3 T.f_Digests_leaf.b .nil pass0 (pa_cons (pv 4) pa_nil)))) pa_nil)))
    (pss_cons (ps_while PassesOwn.never (pt_cmpR op_gt (pe_callB (Kit.kLen K) (by rfl) T.z_len (by decide +kernel) (pa_cons (pe_ix (Kit.ixL K) (pv 2) (pe_un un_neg pe_int) (fun _ _ => rfl)) pa_nil)) pe_int (nomark _))
    (pss_cons (ps_set (i := 3) nd rfl (Or.inr rfl) (pe_ix (Kit.ixL K) (pv 2) (pe_un un_neg pe_int) (fun _ _ => rfl)))
    (pss_one (ps_expr (pe_bm PySem.F.plainAttrs_list PySem.F.slot_list_append PySem.F.type_list_append mt_append (pv 2) (pa_cons (pe_lc (own := [("k", 5)]) (g := gName 5) (tt := tYes) (by rfl) nd (pi_range1 (by rfl) T.z_range (pa_cons (pe_op op_fdiv (pe_callB (Kit.kLen K) (by rfl) T.z_len (by decide +kernel) (pa_cons (pv 3) pa_nil)) pe_int) pa_nil)) (blkOk_by (own := [("k", 5)]) (N := N_law_levels) (sc := defScope s_law_levels) (by decide +kernel)) (fun _ _ _ _ _ => pg_name (i := 5) nd rfl (Or.inl rfl)) (fun _ _ _ _ _ => pts_nil) (fun _ _ _ _ _ => (pe_meth (pv 0) T.c_Digests.cl T.m_Digests_fold G_Digests_fold hr3 T.f_Digests_fold.b .nil pass0 (pa_cons (pe_ix (Kit.ixL K) (pv 3) (pe_op op_mul pe_int (pv 5)) (fun _ _ => rfl)) (pa_cons (pe_ix (Kit.ixL K) (pv 3) (pe_op op_add (pe_op op_mul pe_int (pv 5)) pe_int) (fun _ _ => rfl)) pa_nil))))) pa_nil))))))
    (pss_one (ps_ret (pv 2)))))) rfl ?_
  try dsimp only [L2.cxOf, L2.Cx.nox]
  walk_at "wp"
  refine Kit.l_list ha (by rw [iv_len, hws]; decide) (fun _ => rfl) (fun i => .int (leafI m ((ws[i]?).getD 0))) ?_ ?_
  · intro i x H8 hx e8 R rr
    obtain ⟨y, hy, rfl⟩ := iv_mem hx
    walk_at "wp"
    refine use_leafN (hd.ex e8) fun H9 e9 => ?_
    rw [hy] at rr
    exact rr _ e9
  intro c H1 n1 e1 f1
  rw [iv_len, range_leaf] at f1
  generalize hr : ws.map (leafI m) = r at *
  have hk : r.length = 2 ^ 8 := by rw [← hr, List.length_map, hws]
  have hx : AllDg m r := by rw [← hr]; exact leaves_dg hd.pos ws
  obtain ⟨k, hk8'⟩ : ∃ k, k = 8 := ⟨8, rfl⟩
  rw [← hk8'] at hk q
  have hk8 : k ≤ 8 := by omega
  walk_at "wp"
  rename_i l H2 n2 e2 f2
  refine Kit.m_whileT (fun j σ' H' => ∃ (rs : List (List Int)) (y3 y4 y5 : Option V), σ' = [some (.ref p), some (.ref a), some (.ref l), y3, y4, y5] ∧ Evl.Ex H H' ∧ LevAt H H' l rs ∧ LevSo (foldI m) k r j rs ∧ (∀ x ∈ rs, AllDg m x) ∧ rs.length + j = k + 1 ∧ j ≤ k) k
    ⟨[r], none, none, none, rfl, e1.trans e2, ⟨[c], f2, ⟨n1, e2 _ _ f1, by simp, trivial⟩, fun z => by
      rw [List.mem_singleton] at z
      exact ne_of_none f1 n2 z.symm, Evl.fresh_back e1 n2⟩, ⟨[], r, rfl, hk, rfl⟩, fun x z => by
      rw [List.mem_singleton] at z
      rw [z]; exact hx, by simp; omega, Nat.le_refl k⟩ ?_
  rintro j σ' H3 ⟨rs, y3, y4, y5, rfl, e3, ⟨ps, g1, g2, g3, g4⟩, hso, hdg, hj, hjk⟩
  obtain ⟨pre, rl, rfl, hrl, hle⟩ := id hso
  obtain ⟨q0, hq0, _, hq1⟩ := g2.get (i := pre.length) (r := rl) (by simp)
  have hps : ps.length = pre.length + 1 := by rw [g2.len]; simp
  have hat : atI (ps.map V.ref) (-1) = some (.ref q0) := by
    have z : ps = ps.dropLast ++ [q0] := by
      have hne : ps ≠ [] := fun z => by rw [z] at hps; simp at hps
      have hl : ps.getLast hne = q0 := by
        have := List.getLast_eq_getElem hne
        rw [this]
        have h2 := (List.getElem?_eq_some_iff.mp hq0)
        obtain ⟨h3, h4⟩ := h2
        have h5 : ps.length - 1 = pre.length := by omega
        simp only [h5]
        exact h4
      rw [← hl]
      exact (List.dropLast_concat_getLast hne).symm
    rw [z, List.map_append]
    exact atI_last _ _
  have hlt : rl.length = 2 ^ j := hrl
  walk_at "wp"
  · rename_i hc
    rw [iv_len, hrl] at hc
    obtain ⟨j, rfl⟩ : ∃ i, j = i + 1 := ⟨j - 1, by
      have : j ≠ 0 := fun z => by subst z; simp at hc
      omega⟩
    refine Kit.turn_go ?_
    walk_at "wp"
    have hr2 : rl.length = 2 * 2 ^ j := by rw [hrl, KM.two_pow]
    have hb : 2 ^ j ≤ 256 := Nat.le_trans (Nat.pow_le_pow_right (by decide) (show j ≤ 8 by omega)) (by decide)
    have hdl := hdg rl (by simp)
    have hm := hd.pos
    refine Kit.l_rng1 (by rw [iv_len, hr2]; omega) (by rw [iv_len, hr2]; omega) (fun _ => rfl) (fun i => .int (foldI m ((rl[2 * i]?).getD 0) ((rl[2 * i + 1]?).getD 0))) ?_ ?_
    · intro i H4 hi e4 R rr
      rw [iv_len, hr2] at hi
      walk_at "wp"
      refine Kit.w_ixL (Evl.sq_of (e4 _ _ hq1)) (iv_at' (2 * i) (by omega) (by omega)) ?_
      walk_at "wp"
      refine Kit.w_ixL (Evl.sq_of (e4 _ _ hq1)) (iv_at' (2 * i + 1) (by omega) (by omega)) ?_
      walk_at "wp"
      refine use_foldN (by walk_at "dig") (hdl.at (by omega)) (hdl.at (by omega)) fun H5 e5 => ?_
      exact rr _ e5
    · intro q1 H4 n4 e4 f4
      have hn : (((iv rl).length : Int) / 2).toNat = 2 ^ j := by rw [iv_len, hr2]; omega
      rw [hn, show (fun i : Nat => V.int (foldI m ((rl[2 * i]?).getD 0) ((rl[2 * i + 1]?).getD 0))) = V.int ∘ (fun i : Nat => foldI m ((rl[2 * i]?).getD 0) ((rl[2 * i + 1]?).getD 0)) from rfl, ← List.map_map, ← pairs_at rl hr2] at f4
      walk_at "wp"
      have hpl : ps.length ≤ 9 := by rw [hps]; simp at hj; omega
      refine Kit.w_app (e4 _ _ g1) (by rw [List.length_map]; omega) fun H5 m5 f5 => ?_
      have hql : q1 ≠ l := fun z => by
        have := e4 _ _ g1
        rw [z] at n4
        rw [n4] at g1
        cases g1
      have hqp : q1 ∉ ps := fun z => by
        obtain ⟨xs, hx⟩ := g2.mem z
        rw [n4] at hx
        cases hx
      have hlp : ∀ x ∈ ps, x ≠ l := fun x hx z => g3 (z ▸ hx)
      refine ⟨j, Nat.lt_succ_self j, pre ++ [rl] ++ [KM.pairs (foldI m) rl], _, _, _, rfl, ?_, ⟨ps ++ [q1], ?_, ?_, ?_, g4⟩, ?_, ?_, ?_, by omega⟩
      · exact Kit.ex_but m5 g4 (e3.trans e4)
      · rw [f5, List.map_append]; rfl
      · exact RowsAt.snoc (Evl.fresh_back e3 n4) (m5 _ _ hql f4) hqp ((g2.ex e4).but m5 g3)
      · intro z
        rcases List.mem_append.mp z with z | z
        · exact g3 z
        · exact hql (List.mem_singleton.mp z).symm
      · obtain ⟨r', hr', _, h⟩ := hso.next
        have : rl = r' := by simpa using hr'
        rw [← this] at h; exact h
      · intro x hx
        rcases List.mem_append.mp hx with hx | hx
        · exact hdg x hx
        · rw [List.mem_singleton.mp hx]
          exact pairs_dg hm rl
      · simp at hj ⊢; omega
  · rename_i hc
    rw [iv_len, hrl] at hc
    have hj0 : j = 0 := by
      cases j with
      | zero => rfl
      | succ j =>
        rw [KM.two_pow] at hc
        have : 0 < 2 ^ j := Nat.pow_pos (by decide)
        omega
    subst hj0
    exact q l H3 e3 (by rw [← hle]; exact ⟨ps, g1, g2, g3, g4⟩)
def PutX (x y v : V) (H : Hp) (R : Hp → Prop) : Prop := ∃ a H', x = .ref a ∧ DPut H a y v H' ∧ R H'
theorem m_dputX {td ty tv : TE} {nx bk ct : L2.St → Hp → Prop} {rt : VK} {σ : L2.St} {H : Hp} (h : tv σ H fun v H1 => td σ H1 fun x H2 => ty σ H2 fun y H3 => PutX x y v H3 (nx σ)) : Kit.Sm (sDPut td ty tv) nx rt bk ct σ H := h
local macro_rules | `(tactic| walk_at "wp1") => `(tactic| with_reducible refine m_dputX ?_)
theorem p_toldX {tx b : Addr} {l : List Tx} {t : Tx} {H : Hp} {R : Hp → Prop} (h : H tx = some (.dT (yesX l))) (hb : H b = some (.tup ((keyT t).map kV))) (hl : l.length ≤ 50000) (q : ∀ H', Kit.ExBut tx H H' → H' tx = some (.dT (yesX (addX l t))) → R H') : PutX (.ref tx) (.ref b) (.bl true) H R := by
  refine ⟨tx, _, rfl, DPut.t (k := keyT t) h hb ?_, ?_⟩
  · unfold yesX
    rw [List.length_map]
    exact Evl.sz_lt (by omega)
  · rw [put_yesX]
    exact q _ (Kit.ExBut.upd (Kit.ExBut.refl tx H)) upd_same
theorem lst_but {tx a : Addr} {H H' : Hp} {us : List V} {kvs : List (List Key × V)} (m : Kit.ExBut tx H H') (ht : H tx = some (.dT kvs)) (h : H a = some (.lst us)) : H' a = some (.lst us) := m _ _ (by rintro rfl; rw [ht] at h; cases h) h
def sp_law_told (K : PySem.W.Frag) : Sp := fun vs H Q _ => ∃ (tx lv rw_ pl : Addr) (ps : List Addr) (m : Int) (ws : List Int) (places : List Nat) (l : List Tx), vs = [.ref tx, .ref lv, .ref rw_, .ref pl] ∧ H tx = some (.dT (yesX l)) ∧ H lv = some (.lst (ps.map V.ref)) ∧ ps.length = 9 ∧ (∀ (i : Nat) s, (KM.levs (foldI m) 8 (ws.map (leafI m)))[i]? = some s → ∃ p, ps[i]? = some p ∧ H p = some (.lst (iv s))) ∧
  H rw_ = some (.lst (iv ws)) ∧ ws.length = 256 ∧ H pl = some (.lst (places.map fun p : Nat => V.int (p : Int))) ∧ (∀ p ∈ places, p < 256) ∧ l.length + 9 * places.length ≤ 50000 ∧
  ∀ H' l', Kit.ExBut tx H H' → H' tx = some (.dT (yesX l')) → Ext l l' (places.flatMap (tellX m ws)) (9 * places.length) → Q .non H'
theorem ok_law_told (T : Txt K mg) : FnOk P w K mg base CX0 1 T.f_law_told.f T.f_law_told.fd ["texts", "levels", "row", "places"] (sp_law_told K) := by
  refine T.f_law_told.F.ok sc_law_told (fun vs H Q E h => ?_) (fun cdv A outer s H vs Q E hr h => ?_)
  · obtain ⟨tx, lv, rw_, pl, ps, m, ws, places, l0, rfl, htx, hlv, hps, hrows, hrw, hws, hpl, hin, hl0, q⟩ := h
    rfl
  obtain ⟨tx, lv, rw_, pl, ps, m, ws, places, l0, rfl, htx, hlv, hps, hrows, hrw, hws, hpl, hin, hl0, q⟩ := h
  have nd := sc_law_told.nd
  have hu := hu_of hr
  refine Kit.ok_body (σ := [some _, some _, some _, some _, none, none, none]) ((pss_one (ps_for PassesOwn.never rfl (Kit.kpList K (pv 3)) (pg_name (i := 4) nd rfl (Or.inl rfl))
    (pss_cons (ps_dput hu (pv 0) (pe_tup (pa_cons pe_str (pa_cons (pe_ix (Kit.ixL K) (pv 2) (pv 4) (fun _ _ => rfl)) pa_nil))) pe_bl rfl)
    (pss_one (ps_for PassesOwn.never rfl (Kit.kpList K (pe_slice (Kit.kSlL K) (pv 1) po_none (po_some (pe_un un_neg pe_int)))) (pg_name (i := 5) nd rfl (Or.inl rfl))
    (pss_cons (ps_set (i := 6) nd rfl (Or.inl rfl) (pe_op op_sub (pv 4) (pe_op op_mod (pv 4) pe_int)))
    (pss_cons (ps_dput hu (pv 0) (pe_tup (pa_cons pe_str (pa_cons (pe_ix (Kit.ixL K) (pv 5) (pv 6) (fun _ _ => rfl)) (pa_cons (pe_ix (Kit.ixL K) (pv 5) (pe_op op_add (pv 6) pe_int) (fun _ _ => rfl)) pa_nil)))) pe_bl rfl)
    (pss_one (ps_set (i := 4) nd rfl (Or.inl rfl) (pe_op op_fdiv (pv 4) pe_int))))))))))) rfl ?_
  try dsimp only [L2.cxOf, L2.Cx.nox]
  have h8 : (ws.map (leafI m)).length = 2 ^ 8 := by rw [List.length_map, hws]
  walk_at "wp"
  refine Kit.f_list (Evl.sq_of hpl) (fun i σ' H' => ∃ y4 y5 y6 l1, σ' = [some (.ref tx), some (.ref lv), some (.ref rw_), some (.ref pl), y4, y5, y6] ∧ Kit.ExBut tx H H' ∧ H' tx = some (.dT (yesX l1)) ∧ Ext l0 l1 ((places.take i).flatMap (tellX m ws)) (9 * i)) ⟨_, _, _, l0, rfl, Kit.ExBut.refl _ _, htx, (Ext.refl _).of (fun t => by simp) (by omega)⟩ ?_ ?_ ?_
  · rintro i σ' H' _ ⟨_, _, _, _, rfl, m1, _⟩
    exact Evl.sq_of (lst_but m1 htx hpl)
  · rintro i x σ' H1 hix ⟨y4, y5, y6, l1, rfl, m1, t1, x1⟩
    rw [List.getElem?_map] at hix
    obtain ⟨pn, hpn, rfl⟩ : ∃ pn, places[i]? = some pn ∧ x = V.int (pn : Int) := by
      cases e : places[i]? with
      | none => rw [e] at hix; cases hix
      | some pn => rw [e] at hix; exact ⟨pn, rfl, (Option.some.inj hix).symm⟩
    have hi : i < places.length := (List.getElem?_eq_some_iff.mp hpn).1
    have hp256 := hin pn (List.mem_of_getElem? hpn)
    have rw1 := lst_but m1 htx hrw
    have lv1 := lst_but m1 htx hlv
    have x1l := x1.len
    show Kit.Sm _ _ _ _ _ _ _
    walk_at "wp"
    refine Kit.w_ixL (Evl.sq_of rw1) (iv_at (k := pn) (by rw [hws]; exact hp256)) ?_
    walk_at "wp"
    rename_i b1 H2 n2 e2 f2
    refine p_toldX (t := .lf ((ws[pn]?).getD 0)) (e2 _ _ t1) f2 (by omega) fun H3 m3 t3 => ?_
    have M3 : Kit.ExBut tx H H3 := (m1.trans (.of e2)).trans m3
    have lv3 := lst_but M3 htx hlv
    have hal := (Ext.add l1 (.lf ((ws[pn]?).getD 0))).len
    walk_at "wp"
    rename_i c H4 n4 e4 f4
    rw [cut_butlast (n := 8) (by rw [List.length_map, hps])] at f4
    have t4 := e4 _ _ t3
    have M4 : Kit.ExBut tx H H4 := M3.trans (.of e4)
    have hxl : ((ps.map V.ref).take 8).length = 8 := by rw [List.length_take, List.length_map, hps]; rfl
    refine Kit.f_list (Evl.sq_of f4) (fun j σ' H' => ∃ y5 y6 l2, σ' = [some (.ref tx), some (.ref lv), some (.ref rw_), some (.ref pl), some (.int ((pn / 2 ^ j : Nat) : Int)), y5, y6] ∧ Kit.ExBut tx H4 H' ∧ H' tx = some (.dT (yesX l2)) ∧ Ext (addX l1 (.lf ((ws[pn]?).getD 0))) l2 (((List.range 8).map (chgG (KM.levs (foldI m) 8 (ws.map (leafI m))) pn)).take j) j) ⟨_, _, _, by rw [Nat.pow_zero, Nat.div_one], Kit.ExBut.refl _ _, t4, Ext.refl _⟩ ?_ ?_ ?_
    · rintro j σ' H' _ ⟨_, _, _, rfl, m5, _⟩
      exact Evl.sq_of (lst_but m5 t4 f4)
    · rintro j x σ' H5 hjx ⟨z5, z6, l2, rfl, m5, t5, x5⟩
      have hj : j < 8 := by
        have := (List.getElem?_eq_some_iff.mp hjx).1
        rw [hxl] at this
        exact this
      have hil : j < (KM.levs (foldI m) 8 (ws.map (leafI m))).length := by rw [KM.levs_len]; omega
      obtain ⟨q0, hq1, hq2⟩ := hrows j _ (List.getElem?_eq_getElem hil)
      generalize hs : (KM.levs (foldI m) 8 (ws.map (leafI m)))[j] = s at hq2
      have hs2 : (KM.levs (foldI m) 8 (ws.map (leafI m)))[j]? = some s := by rw [List.getElem?_eq_getElem hil, hs]
      have hsl := levs_at_len 8 _ j s h8 hs2
      have ex : x = .ref q0 := by
        rw [List.getElem?_take_of_lt hj, List.getElem?_map, hq1] at hjx
        exact (Option.some.inj hjx).symm
      subst ex
      have q5 : H5 q0 = some (.lst (iv s)) := lst_but (M4.trans m5) htx hq2
      have hlt : pn / 2 ^ j < 2 ^ (8 - j) := by
        rw [Nat.div_lt_iff_lt_mul (Nat.pow_pos (by decide)), ← Nat.pow_add, Nat.sub_add_cancel (by omega)]
        exact hp256
      obtain ⟨h, hh⟩ : ∃ h, 8 - j = h + 1 := ⟨7 - j, by omega⟩
      rw [hh, KM.two_pow] at hsl hlt
      have hz : ((pn / 2 ^ j : Nat) : Int) / 2 = ((pn / 2 ^ (j + 1) : Nat) : Int) := int_half
      have ha : pn / 2 ^ (j + 1) = pn / 2 ^ j / 2 := by rw [KM.two_pow, Nat.mul_comm, Nat.div_div_eq_div_mul]
      have hg : chgG (KM.levs (foldI m) 8 (ws.map (leafI m))) pn j = .fd ((s[2 * (pn / 2 ^ (j + 1))]?).getD 0) ((s[2 * (pn / 2 ^ (j + 1)) + 1]?).getD 0) := by unfold chgG; rw [hs2]; rfl
      have htk : ((List.range 8).map (chgG (KM.levs (foldI m) 8 (ws.map (leafI m))) pn)).take (j + 1) = ((List.range 8).map (chgG (KM.levs (foldI m) 8 (ws.map (leafI m))) pn)).take j ++ [chgG (KM.levs (foldI m) 8 (ws.map (leafI m))) pn j] := by
        rw [List.take_add_one, List.getElem?_map, List.getElem?_range hj]
        rfl
      have x5l := x5.len
      show Kit.Sm _ _ _ _ _ _ _
      rw [ha] at hg
      walk_at "wp"
      refine Kit.w_ixL (Evl.sq_of q5) (iv_at' (2 * (pn / 2 ^ j / 2)) (by omega) (by omega)) ?_
      walk_at "wp"
      refine Kit.w_ixL (Evl.sq_of q5) (iv_at' (2 * (pn / 2 ^ j / 2) + 1) (by omega) (by omega)) ?_
      walk_at "wp"
      rename_i b6 H6 n6 e6 f6
      refine p_toldX (t := .fd ((s[2 * (pn / 2 ^ j / 2)]?).getD 0) ((s[2 * (pn / 2 ^ j / 2) + 1]?).getD 0)) (e6 _ _ t5) f6 (by omega) fun H7 m7 t7 => ?_
      walk_at "wp"
      refine ⟨_, _, _, by rw [hz] <;> rfl, (m5.trans (.of e6)).trans m7, t7, ?_⟩
      rw [htk, hg]
      exact x5.trans (Ext.add _ _)
    · rintro σ' H5 ⟨z5, z6, l2, rfl, m5, t5, x5⟩
      rw [hxl, List.take_of_length_le (by rw [List.length_map, List.length_range]; exact Nat.le_refl _)] at x5
      refine ⟨_, _, _, l2, rfl, M4.trans m5, t5, ((x1.trans (Ext.add _ _)).trans x5).of (fun t => ?_) (by omega)⟩
      rw [show places.take (i + 1) = places.take i ++ [pn] from by rw [List.take_add_one, hpn]; rfl, List.flatMap_append]
      simp only [List.mem_append, List.mem_singleton, Option.toList_some, List.flatMap_cons, List.flatMap_nil, List.append_nil]
      show _ ↔ _ ∨ t ∈ Tx.lf ((ws[pn]?).getD 0) :: (List.range 8).map (chgG (KM.levs (foldI m) 8 (ws.map (leafI m))) pn)
      rw [List.mem_cons, or_assoc]
  · rintro σ' H1 ⟨y4, y5, y6, l1, rfl, m1, t1, x1⟩
    rw [List.length_map] at x1
    rw [List.take_length] at x1
    walk_at "wp"
    exact q H1 l1 m1 t1 x1

/-! ### the law's state -/
theorem BookAt.butT {P : Program} {w : World} {C p r : Addr} {H H' : Hp} {TT : List Kit.BK} {F : List (Kit.BK × Kit.TK)} {c : Bool} {kvs : List (List Key × V)} (b : BookAt P w C H p TT F c) (hr : H r = some (.dT kvs)) (m : Kit.ExBut r H H') : BookAt P w C H' p TT F c := by
  obtain ⟨dx, d1, d2, kv, h1, h2, h3, h4, h5⟩ := b
  have tp : ∀ c zs, H c = some (.tup zs) → H' c = some (.tup zs) := fun c zs h => m c _ (by rintro rfl; rw [hr] at h; cases h) h
  refine ⟨dx, d1, d2, kv, m _ _ (by rintro rfl; rw [hr] at h1; cases h1) h1, h2.mono (fun o h => m _ _ ?_ h) tp, h3.mono (fun o h => m _ _ ?_ h) tp, h4, h5.mono tp⟩
  · rintro rfl
    obtain ⟨o, z1, z2⟩ := Kit.bk_isE h2
    rw [hr] at z1; cases z1; cases z2
  · rintro rfl
    obtain ⟨o, z1, z2⟩ := Kit.bk_isE h3
    rw [hr] at z1; cases z1; cases z2
structure Inv8 (P : Program) (w : World) (CM CD CB : Addr) (H : Hp) (mm g g2 pb wa la ra da tx : Addr) (ps : List Addr) (m : Int) (RM R dd : List Int) (lb lt : List Tx) : Prop where
  M : MemAt CM H mm g2 wa la ps m RM
  B : BkG P w CB H pb m lb
  D : DigB CD H g2 pb m
  G : DigN CD H g m
  T : H tx = some (.dT (yesX lt))
  rows : H ra = some (.lst (iv R))
  draws : H da = some (.lst (dd.map V.int))
  ne1 : ∀ x ∈ wa :: la :: ps, x ≠ ra
  ne2 : ∀ x ∈ wa :: la :: ps, x ≠ da
  ne3 : da ≠ ra
  ne4 : mm ≠ pb
  ne5 : g ≠ pb
section
variable {P : Program} {w : World} {K : PySem.W.Frag} {CM CD CB : Addr} {H H' : Hp} {mm g g2 pb wa la ra da tx : Addr} {ps : List Addr} {m : Int} {RM R dd : List Int} {lb lt : List Tx}
theorem MemAt.all (M : MemAt CM H mm g2 wa la ps m RM) : ∀ x ∈ wa :: la :: ps, ∃ ys, H x = some (.lst ys) := fun x hx => by
  rcases List.mem_cons.mp hx with rfl | hx
  · exact ⟨_, M.wds⟩
  · rcases List.mem_cons.mp hx with rfl | hx
    · exact ⟨_, M.lvl⟩
    · exact M.rows.mem hx
theorem Inv8.ex (e : Evl.Ex H H') (h : Inv8 P w CM CD CB H mm g g2 pb wa la ra da tx ps m RM R dd lb lt) : Inv8 P w CM CD CB H' mm g g2 pb wa la ra da tx ps m RM R dd lb lt :=
  ⟨h.M.ex e, h.B.exE e, h.D.keep (.of e), h.G.ex e, e _ _ h.T, e _ _ h.rows, e _ _ h.draws, h.ne1, h.ne2, h.ne3, h.ne4, h.ne5⟩
theorem Inv8.told {lt' : List Tx} (h : Inv8 P w CM CD CB H mm g g2 pb wa la ra da tx ps m RM R dd lb lt) (e : Kit.ExBut tx H H') (t : H' tx = some (.dT (yesX lt'))) : Inv8 P w CM CD CB H' mm g g2 pb wa la ra da tx ps m RM R dd lb lt' := by
  have hT := h.T
  have lst : ∀ {x : Addr} {ys : List V}, H x = some (.lst ys) → x ≠ tx := fun {x ys} z => by rintro rfl; rw [hT] at z; cases z
  refine ⟨h.M.by (F := [tx]) (fun b o n z => e b o (fun y => n (List.mem_singleton.mpr y)) z) ?_, ?_, h.D.butI e ?_, h.G.but e ?_, t, e _ _ (lst h.rows) h.rows, e _ _ (lst h.draws) h.draws, h.ne1, h.ne2, h.ne3, h.ne4, h.ne5⟩
  · intro x hx z
    rw [List.mem_singleton] at z
    rcases List.mem_cons.mp hx with rfl | hx
    · obtain ⟨dx, y⟩ := h.M.at_
      rw [z, hT] at y; cases y
    · obtain ⟨ys, y⟩ := h.M.all x hx
      exact lst y z
  · obtain ⟨TT, F, c, b, k⟩ := h.B.ex
    exact ⟨TT, F, c, b.butT hT e, k⟩
  · obtain ⟨dx, b, y⟩ := h.D.at_
    rintro rfl
    rw [hT] at y; cases y
  · obtain ⟨dx, b, y⟩ := h.G.at_
    rintro rfl
    rw [hT] at y; cases y
theorem Inv8.chg {lb' : List Tx} {RM' : List Int} (h : Inv8 P w CM CD CB H mm g g2 pb wa la ra da tx ps m RM R dd lb lt) (k : KeepF pb (wa :: ps) H H') (M' : MemAt CM H' mm g2 wa la ps m RM') (B' : BkG P w CB H' pb m lb') : Inv8 P w CM CD CB H' mm g g2 pb wa la ra da tx ps m RM' R dd lb' lt := by
  obtain ⟨pC, pdx, pfs, hpb⟩ := h.B.pbI
  have sub : ∀ {x}, x ∈ wa :: ps → x ∈ wa :: la :: ps := fun {x} z => (List.mem_cons.mp z).elim (fun z => z ▸ List.mem_cons_self) fun z => List.mem_cons_of_mem _ (List.mem_cons_of_mem _ z)
  have lst : ∀ {x : Addr} {ys : List V}, H x = some (.lst ys) → x ≠ pb := fun {x ys} z => by rintro rfl; rw [hpb] at z; cases z
  have ins : ∀ {x C dx : Addr} {fs : List (Str × V)}, H x = some (.ins C dx fs) → x ∉ wa :: ps := fun {x C dx fs} z y => by
    obtain ⟨ys, u⟩ := h.M.all x (sub y)
    rw [u] at z; cases z
  refine ⟨M', B', ?_, ?_, k.1 _ _ ?_ ?_ h.T rfl, k.1 _ _ (lst h.rows) (fun z => h.ne1 _ (sub z) rfl) h.rows rfl, k.1 _ _ (lst h.draws) (fun z => h.ne2 _ (sub z) rfl) h.draws rfl, h.ne1, h.ne2, h.ne3, h.ne4, h.ne5⟩
  · obtain ⟨⟨dx, b, y⟩, a1, a2, a3⟩ := h.D
    exact ⟨⟨dx, b, k.1 _ _ a3 (ins y) y rfl⟩, a1, a2, a3⟩
  · obtain ⟨⟨dx, b, y⟩, a1, a2⟩ := h.G
    exact ⟨⟨dx, b, k.1 _ _ h.ne5 (ins y) y rfl⟩, a1, a2⟩
  · have hT := h.T
    rintro rfl
    rw [hpb] at hT; cases hT
  · intro z
    have hT := h.T
    obtain ⟨ys, u⟩ := h.M.all _ (sub z)
    rw [u] at hT; cases hT
theorem Inv8.row {R' : List Int} (h : Inv8 P w CM CD CB H mm g g2 pb wa la ra da tx ps m RM R dd lb lt) (e : Kit.ExBut ra H H') (f : H' ra = some (.lst (iv R'))) : Inv8 P w CM CD CB H' mm g g2 pb wa la ra da tx ps m RM R' dd lb lt := by
  have hr := h.rows
  refine ⟨h.M.by (F := [ra]) (fun b o n z => e b o (fun y => n (List.mem_singleton.mpr y)) z) ?_, h.B.but e hr, h.D.but e hr, h.G.but e ?_, e _ _ ?_ h.T, f, e _ _ h.ne3 h.draws, h.ne1, h.ne2, h.ne3, h.ne4, h.ne5⟩
  · intro x hx z
    rw [List.mem_singleton] at z
    rcases List.mem_cons.mp hx with rfl | hx
    · obtain ⟨dx, y⟩ := h.M.at_
      rw [z, hr] at y; cases y
    · exact h.ne1 x hx z
  · obtain ⟨dx, b, y⟩ := h.G.at_
    rintro rfl
    rw [hr] at y; cases y
  · have hT := h.T
    rintro rfl
    rw [hr] at hT; cases hT
theorem use_told {H0 : Hp} {L pl : Addr} {places : List Nat} {Q : VK} {E : XK} (I : Inv8 P w CM CD CB H mm g g2 pb wa la ra da tx ps m RM R dd lb lt) (hR : R.length = 256) (lv : LevAt H0 H L (KM.levs (foldI m) 8 (R.map (leafI m)))) (hpl : H pl = some (.lst (places.map fun p : Nat => V.int (p : Int)))) (hin : ∀ p ∈ places, p < 256) (hl : lt.length + 9 * places.length ≤ 50000)
    (q : ∀ H' lt', Inv8 P w CM CD CB H' mm g g2 pb wa la ra da tx ps m RM R dd lb lt' → Ext lt lt' (places.flatMap (tellX m R)) (9 * places.length) → Q .non H') : sp_law_told K [.ref tx, .ref L, .ref ra, .ref pl] H Q E := by
  obtain ⟨qs, g1, g2', g3⟩ := lv.get
  exact ⟨tx, L, ra, pl, qs, m, R, places, lt, rfl, I.T, g1, by rw [g2']; exact lev_len _, g3, I.rows, hR, hpl, hin, hl, fun H' l' k t x => q H' l' (I.told k t) x⟩
theorem use_len {Q : VK} (I : Inv8 P w CM CD CB H mm g g2 pb wa la ra da tx ps m RM R dd lb lt) (q : Q (.int (lt.length : Int)) H) : rLenT [.ref tx] H Q := ⟨tx, _, rfl, I.T, by rw [show (yesX lt).length = lt.length from List.length_map _]; exact q⟩
end
/-- the law's loop, before its draw i -/
def Lp8 (P : Program) (w : World) (CM CD CB : Addr) (a mm g g2 pb wa la ra da tx : Addr) (ps : List Addr) (m k : Int) (dd : List Int) (i : Nat) (σ' : L2.St) (H' : Hp) : Prop :=
  ∃ y8 y9 y10 y11 y12 y13 y14 R lb lt, σ' = [some (.ref a), some (.ref da), some (.ref g), some (.int k), some (.ref ra), some (.ref pb), some (.ref mm), some (.ref tx), y8, y9, y10, y11, y12, y13, y14] ∧ Inv8 P w CM CD CB H' mm g g2 pb wa la ra da tx ps m R R dd lb lt ∧ lb.Nodup ∧ lt.Nodup ∧ (∀ t, t ∈ lb ↔ t ∈ lt) ∧ lb.length ≤ 512 + 9 * i

/-! ### the law -/
def sp_law (K : PySem.W.Frag) : Sp := fun vs H Q _ => ∃ (a : Addr) (ns : List Int), vs = [.ref a] ∧ SqL K H a (ns.map V.int) ∧ ns.length ≤ 63 ∧ ∀ H', Q (.bl true) H'
theorem sp_law_of {K : PySem.W.Frag} {H : Hp} {a : Addr} {ns : List Int} (hl : ns.length ≤ 63) (hS : SqL K H a (ns.map V.int)) : sp_law K [.ref a] H (fun v _ => v = .bl true) fun _ _ _ => False := ⟨a, ns, rfl, hS, hl, fun _ => rfl⟩
theorem mod_at {dd : List Int} {i : Nat} (h : 0 < dd.length) : atI (dd.map V.int) ((i : Int) % ((dd.map V.int).length : Int)) = some (.int ((dd[i % dd.length]?).getD 0)) :=
  iv_at' (i % dd.length) (by rw [List.length_map]; omega) (Nat.mod_lt _ h)
theorem draw_at {dd : List Int} {k : Nat} {z : Int} (hz : z = (k : Int)) (h : k < dd.length) : atI (dd.map V.int) z = some (.int ((dd[k]?).getD 0)) := iv_at' k hz h
theorem bits8_at {z : Int} : ∃ b, atI ([.int 61, .int 7] : List V) (z % 2) = some (.int b) ∧ IsBits b := by
  have h : z % 2 = 0 ∨ z % 2 = 1 := by omega
  rcases h with h | h <;> rw [h]
  · exact ⟨61, L2.atI_nat (j := 0) rfl, .b61⟩
  · exact ⟨7, L2.atI_nat (j := 1) rfl, .b7⟩
theorem size8_at {z : Int} : ∃ k : Nat, k ≤ 256 ∧ atI ([.int 0, .int 1, .int 5, .int 256, .int 100] : List V) (z % 5) = some (.int (k : Int)) := by
  have h : z % 5 = 0 ∨ z % 5 = 1 ∨ z % 5 = 2 ∨ z % 5 = 3 ∨ z % 5 = 4 := by omega
  rcases h with h | h | h | h | h <;> rw [h]
  · exact ⟨0, by decide, L2.atI_nat (j := 0) rfl⟩
  · exact ⟨1, by decide, L2.atI_nat (j := 1) rfl⟩
  · exact ⟨5, by decide, L2.atI_nat (j := 2) rfl⟩
  · exact ⟨256, by decide, L2.atI_nat (j := 3) rfl⟩
  · exact ⟨100, by decide, L2.atI_nat (j := 4) rfl⟩
/-! more -/
local macro_rules | `(tactic| walk_at "wp1") => `(tactic| ((with_reducible show Kit.MakeOf _ (sp_Book_init _) _ _ _ _); refine use_Book (P := P) (w := w) ?_; intro _ _ _ _ _))
theorem w_dnew {σ : L2.St} {H : Hp} {Q : VK} (q : ∀ p H2, H p = none → Evl.Ex H H2 → H2 p = some (.dT []) → Q (.ref p) H2) : tDNewT σ H Q := fun p hp => q p _ hp (Evl.Ex.new hp) upd_same
local macro_rules | `(tactic| walk_at "wp1") => `(tactic| (with_reducible refine w_dnew ?_; intro _ _ _ _ _))
theorem w_lstRg {n : Nat} {σ : L2.St} {H : Hp} {Q : VK} (hn : n ≤ 1000) (q : ∀ p H2, H p = none → Evl.Ex H H2 → H2 p = some (.lst ((List.range n).map fun i : Nat => V.int (i : Int))) → Q (.ref p) H2) : tLstRg (tRg1 (tC (.int (n : Int)))) σ H Q := by
  refine ⟨_, rfl, RgOk.of_le (by omega) (by omega) (by omega) (by omega), fun p hp => q p _ hp (Evl.Ex.new hp) ?_⟩
  rw [upd_same]
  unfold rgV
  rw [Int.sub_zero, Int.toNat_natCast]
  simp only [Int.zero_add]
theorem use_count {P : Program} {w : World} {CB pb : Addr} {m : Int} {l : List Tx} {H : Hp} {Q : VK} {E : XK} (b : BkG P w CB H pb m l) (q : Q (.int (l.length : Int)) H) : sp_Book_count P w CB [.ref pb] H Q E := by
  obtain ⟨TT, F, c, h, k⟩ := b.ex
  refine ⟨pb, TT, F, c, rfl, h, ?_⟩
  rw [k.texts, List.length_map, List.length_map]
  exact q
theorem yesX_len {l : List Tx} : (yesX l).length = l.length := List.length_map _
def row8 (dd : List Int) (n : Nat) : List Int := (List.range n).map fun i => (dd[i % dd.length]?).getD 0 / ((i : Int) + 1) % 65536
theorem ok_law (T : Txt K mg) : FnOk P w K mg base CX0 7 T.f_law.f T.f_law.fd ["script"] (sp_law K) := by
  have G_Book___init := ok_Book___init (P := P) (w := w) (base := base) T
  have G_Book_count := ok_Book_count (P := P) (w := w) (base := base) T
  have G_Digests___init := ok_Digests___init (P := P) (w := w) (base := base) T
  have G_Digests_leaf := ok_Digests_leaf (P := P) (w := w) (base := base) T
  have G_Memory___init := ok_Memory___init (P := P) (w := w) (base := base) T
  have G_Memory_change := ok_Memory_change (P := P) (w := w) (base := base) T
  have G_Memory_path := ok_Memory_path (P := P) (w := w) (base := base) T
  have G_Memory_root := ok_Memory_root (P := P) (w := w) (base := base) T
  have G_Memory_word := ok_Memory_word (P := P) (w := w) (base := base) T
  have G_Memory_words := ok_Memory_words (P := P) (w := w) (base := base) T
  have G_law_draws := ok_law_draws (P := P) (w := w) (base := base) T
  have G_law_levels := ok_law_levels (P := P) (w := w) (base := base) T
  have G_law_told := ok_law_told (P := P) (w := w) (base := base) T
  have G_path_of := ok_path_of (P := P) (w := w) (base := base) T
  have G_root_of := ok_root_of (P := P) (w := w) (base := base) T
  refine T.f_law.F.ok sc_law (fun vs H Q E h => ?_) (fun cdv A outer s H vs Q E hr h => ?_)
  · obtain ⟨a, ns, rfl, hS, hl, q⟩ := h
    rfl
  obtain ⟨a, ns, rfl, hS, hl, q⟩ := h
  have nd := sc_law.nd
  have hr1 : Room 1 _ := hr.mono (by decide)
  have hr2 : Room 2 _ := hr.mono (by decide)
  have hr3 : Room 3 _ := hr.mono (by decide)
  have hr4 : Room 4 _ := hr.mono (by decide)
  have hr5 : Room 5 _ := hr.mono (by decide)
  have hr6 : Room 6 _ := hr.mono (by decide)
  refine Kit.ok_body (σ := [some _, none, none, none, none, none, none, none, none, none, none, none, none, none, none]) ((pss_cons (ps_set (i := 1) nd rfl (Or.inr rfl) (pe_op op_cat (pe_call G_law_draws hr1 (by rfl) T.f_law_draws.g T.f_law_draws.F.kp T.f_law_draws.b .nil pass0 (pa_cons (pv 0) (pa_cons pe_int (pa_cons pe_int pa_nil)))) (pe_lst (pa_cons pe_int (pa_cons pe_int pa_nil)))))
    (pss_cons (ps_set (i := 2) nd rfl (Or.inr rfl) (pe_make T.c_Digests.M G_Digests___init hr2 (by rfl) T.c_Digests.g T.f_Digests___init.b .nil pass0 (pa_cons (pe_ix (Kit.ixL K) (pe_lst (pa_cons pe_int (pa_cons pe_int pa_nil))) (pe_op op_mod (pe_callB (Kit.kLen K) (by rfl) T.z_len (by decide +kernel) (pa_cons (pv 0) pa_nil)) pe_int) (fun _ _ => rfl)) (pa_cons pe_non pa_nil))))
    (pss_cons (ps_set (i := 3) nd rfl (Or.inl rfl) (pe_ix (Kit.ixL K) (pe_lst (pa_cons pe_int (pa_cons pe_int (pa_cons pe_int (pa_cons pe_int (pa_cons pe_int pa_nil)))))) (pe_op op_mod (pe_ix (Kit.ixL K) (pv 1) pe_int (fun _ _ => rfl)) pe_int) (fun _ _ => rfl)))
    (pss_cons (ps_setLc (i := 4) (own := [("k", 13)]) (g := gName 13) (tt := tYes) (by rfl) nd rfl rfl (sw_true rfl rfl rfl (by decide +kernel)) (pi_range1 (by rfl) T.z_range (pa_cons (pv 3) pa_nil)) (blkOk_by (own := [("k", 13)]) (N := N_law) (sc := defScope s_law) (by decide +kernel)) (fun _ _ _ _ _ => pg_name (i := 13) nd rfl (Or.inl rfl)) (fun _ _ _ _ _ => pts_nil) (fun _ _ _ _ _ => (pe_op op_mod (pe_op op_fdivW (pe_ix (Kit.ixL K) (pv 1) (pe_op op_mod (pv 13) (pe_callB (Kit.kLen K) (by rfl) T.z_len (by decide +kernel) (pa_cons (pv 1) pa_nil))) (fun _ _ => rfl)) (pe_op op_add (pv 13) pe_int)) pe_int)))
    (pss_cons (ps_set (i := 5) nd rfl (Or.inl rfl) (pe_make0 T.c_Book.M G_Book___init hr2 (by rfl) T.c_Book.g T.f_Book___init.b .nil pass0))
    (pss_cons (ps_set (i := 6) nd rfl (Or.inl rfl) (pe_make T.c_Memory.M G_Memory___init hr6 (by rfl) T.c_Memory.g T.f_Memory___init.b .nil pass0 (pa_cons (pe_make T.c_Digests.M G_Digests___init hr2 (by rfl) T.c_Digests.g T.f_Digests___init.b .nil pass0 (pa_cons (pe_ix (Kit.ixL K) (pe_lst (pa_cons pe_int (pa_cons pe_int pa_nil))) (pe_op op_mod (pe_callB (Kit.kLen K) (by rfl) T.z_len (by decide +kernel) (pa_cons (pv 0) pa_nil)) pe_int) (fun _ _ => rfl)) (pa_cons (pv 5) pa_nil))) (pa_cons (pe_callTy (Kit.kTuple K) (by rfl) T.z_tuple (by decide +kernel) (pa_cons (pv 4) pa_nil)) pa_nil))))
    (pss_cons (ps_set (i := 4) nd rfl (Or.inl rfl) (pe_op op_cat (pv 4) (pe_op op_rep (pe_lst (pa_cons pe_int pa_nil)) (pe_op op_sub pe_int (pv 3)))))
    (pss_cons (ps_set (i := 7) nd rfl (Or.inl rfl) pe_dnewT)
    (pss_cons (ps_expr (pe_call G_law_told hr1 (by rfl) T.f_law_told.g T.f_law_told.F.kp T.f_law_told.b .nil pass0 (pa_cons (pv 7) (pa_cons (pe_call G_law_levels hr4 (by rfl) T.f_law_levels.g T.f_law_levels.F.kp T.f_law_levels.b .nil pass0 (pa_cons (pv 2) (pa_cons (pv 4) pa_nil))) (pa_cons (pv 4) (pa_cons (pe_listRg rfl (by rfl) T.z_list (prg_1 (by rfl) T.z_range pe_int)) pa_nil))))))
    (pss_cons (ps_if (pt_cmpR op_ne (pe_meth0 (pv 5) T.c_Book.cl T.m_Book_count G_Book_count hr1 T.f_Book_count.b .nil pass0) (pe_callB call_len_dT (by rfl) T.z_len (by decide +kernel) (pa_cons (pv 7) pa_nil)) (nomark _))
    (pss_one (ps_ret pe_bl))
    pss_nil)
    (pss_cons (ps_for PassesOwn.never rfl (Kit.kpList K (pv 1)) (pg_name (i := 8) nd rfl (Or.inl rfl))
    (pss_cons (ps_set (i := 9) nd rfl (Or.inl rfl) (pe_op op_mod (pv 8) pe_int))
    (pss_cons (ps_set (i := 10) nd rfl (Or.inl rfl) (pe_op op_mod (pe_op op_fdiv (pv 8) pe_int) pe_int))
    (pss_cons (ps_if (pt_cmpR Kit.k_notN (pe_meth (pv 6) T.c_Memory.cl T.m_Memory_change G_Memory_change hr4 T.f_Memory_change.b .nil pass0 (pa_cons (pv 9) (pa_cons (pv 10) pa_nil))) pe_non (nomark _))
    (pss_one (ps_ret pe_bl))
    pss_nil)
    (pss_cons (ps_asg (pv 10) (pg_sub (pv 4) (pv 9) set_list))
    (pss_cons (ps_expr (pe_call G_law_told hr1 (by rfl) T.f_law_told.g T.f_law_told.F.kp T.f_law_told.b .nil pass0 (pa_cons (pv 7) (pa_cons (pe_call G_law_levels hr4 (by rfl) T.f_law_levels.g T.f_law_levels.F.kp T.f_law_levels.b .nil pass0 (pa_cons (pv 2) (pa_cons (pv 4) pa_nil))) (pa_cons (pv 4) (pa_cons (pe_lst (pa_cons (pv 9) pa_nil)) pa_nil))))))
    (pss_cons (ps_if (pt_cmpR op_ne (pe_meth0 (pv 5) T.c_Book.cl T.m_Book_count G_Book_count hr1 T.f_Book_count.b .nil pass0) (pe_callB call_len_dT (by rfl) T.z_len (by decide +kernel) (pa_cons (pv 7) pa_nil)) (nomark _))
    (pss_one (ps_ret pe_bl))
    pss_nil)
    (pss_cons (ps_set (i := 11) nd rfl (Or.inl rfl) (pe_op op_mod (pe_op op_fdiv (pv 8) pe_int) pe_int))
    (pss_cons (ps_if (PW.pt (pw_or (pt_cmpR op_ne (pe_meth (pv 6) T.c_Memory.cl T.m_Memory_word G_Memory_word hr1 T.f_Memory_word.b .nil pass0 (pa_cons (pv 9) pa_nil)) (pv 10) (nomark _)) (pw_or (pt_cmpR op_ne (pe_meth (pv 6) T.c_Memory.cl T.m_Memory_word G_Memory_word hr1 T.f_Memory_word.b .nil pass0 (pa_cons (pv 11) pa_nil)) (pe_ix (Kit.ixL K) (pv 4) (pv 11) (fun _ _ => rfl)) (nomark _)) (pw_or1 (pt_cmpR (Kit.kNeD K hr.units) (pe_meth0 (pv 6) T.c_Memory.cl T.m_Memory_words G_Memory_words hr1 T.f_Memory_words.b .nil pass0) (pe_callTy (Kit.kTuple K) (by rfl) T.z_tuple (by decide +kernel) (pa_cons (pv 4) pa_nil)) (nomark _))))))
    (pss_one (ps_ret pe_bl))
    pss_nil)
    (pss_cons (ps_setLc (i := 12) (own := [("one", 14)]) (g := gName 14) (tt := tYes) (by rfl) nd rfl rfl (sw_true rfl rfl rfl (by decide +kernel)) (Kit.kpList K (pv 4)) (blkOk_by (own := [("one", 14)]) (N := N_law) (sc := defScope s_law) (by decide +kernel)) (fun _ _ _ _ _ => pg_name (i := 14) nd rfl (Or.inl rfl)) (fun _ _ _ _ _ => pts_nil) (fun _ _ _ _ _ => (pe_meth (pv 2) T.c_Digests.cl T.m_Digests_leaf G_Digests_leaf hr3 T.f_Digests_leaf.b .nil pass0 (pa_cons (pv 14) pa_nil))))
    (pss_cons (ps_if (pt_cmpR op_ne (pe_meth0 (pv 6) T.c_Memory.cl T.m_Memory_root G_Memory_root hr1 T.f_Memory_root.b .nil pass0) (pe_call G_root_of hr5 (by rfl) T.f_root_of.g T.f_root_of.F.kp T.f_root_of.b .nil pass0 (pa_cons (pv 2) (pa_cons (pv 12) pa_nil))) (nomark _))
    (pss_one (ps_ret pe_bl))
    pss_nil)
    (pss_cons (ps_if (PW.pt (pw_or (pt_cmpR (Kit.kNeD K hr.units) (pe_meth (pv 6) T.c_Memory.cl T.m_Memory_path G_Memory_path hr2 T.f_Memory_path.b .nil pass0 (pa_cons (pv 11) pa_nil)) (pe_call G_path_of hr5 (by rfl) T.f_path_of.g T.f_path_of.F.kp T.f_path_of.b .nil pass0 (pa_cons (pv 2) (pa_cons (pv 12) (pa_cons (pv 11) pa_nil)))) (nomark _)) (pw_or1 (pt_cmpR (Kit.kNeD K hr.units) (pe_meth (pv 6) T.c_Memory.cl T.m_Memory_path G_Memory_path hr2 T.f_Memory_path.b .nil pass0 (pa_cons (pv 9) pa_nil)) (pe_call G_path_of hr5 (by rfl) T.f_path_of.g T.f_path_of.F.kp T.f_path_of.b .nil pass0 (pa_cons (pv 2) (pa_cons (pv 12) (pa_cons (pv 9) pa_nil)))) (nomark _)))))
    (pss_one (ps_ret pe_bl))
    pss_nil)
    (pss_one (ps_if (pt_cmpR op_ne (pe_meth0 (pv 5) T.c_Book.cl T.m_Book_count G_Book_count hr1 T.f_Book_count.b .nil pass0) (pe_callB call_len_dT (by rfl) T.z_len (by decide +kernel) (pa_cons (pv 7) pa_nil)) (nomark _))
    (pss_one (ps_ret pe_bl))
    pss_nil))))))))))))))
    (pss_one (ps_ret pe_bl)))))))))))))) rfl ?_
  try dsimp only [L2.cxOf, L2.Cx.nox]
  walk_at "wp"
  refine use_law_draws hS hl (by decide) (by decide) fun p1 H1 ds n1 e1 f1 l1 => ?_
  walk_at "wp"
  rename_i p2 H2 n2 e2 f2 p3 H3 n3 e3 f3 p4 H4 n4 e4 f4
  have f3 : H3 p3 = some (.lst ((ds ++ [3, 700]).map V.int)) := by rw [f3, List.map_append]; rfl
  have hdd : 2 ≤ (ds ++ [3, 700]).length ∧ (ds ++ [3, 700]).length ≤ 33 := by simp; omega
  generalize ds ++ [3, 700] = dd at *
  obtain ⟨d0, hd0⟩ : ∃ d, atI (dd.map V.int) 0 = some (.int d) := ⟨_, draw_at (k := 0) (by decide) (by omega)⟩
  obtain ⟨b, hb, hB⟩ := bits8_at (z := ((ns.map V.int).length : Int))
  obtain ⟨k, hk, hkat⟩ := size8_at (z := d0)
  have hrow : (List.range ((k : Int)).toNat).map (fun i : Nat => V.int ((dd[i % dd.length]?).getD 0 / ((i : Int) + 1) % 65536)) = iv (row8 dd k) := by
    rw [Int.toNat_natCast]
    unfold row8 iv
    rw [List.map_map]
    rfl
  have hrl : (row8 dd k).length ≤ 256 := by unfold row8; rw [List.length_map, List.length_range]; exact hk
  have hrl2 : (row8 dd k).length = k := by unfold row8; rw [List.length_map, List.length_range]
  walk_at "wp"
  rename_i g dx5 H5 n5 e5 f5 p6 H6 n6 e6 f6
  obtain ⟨hm0, hm1⟩ := hB.m
  generalize hgm : 2 ^ b.toNat - (1 : Int) = m at *
  have hd5 : DigN T.c_Digests.C H5 g m := ⟨⟨dx5, _, f5⟩, by omega, hm1⟩
  refine Kit.l_rng1 (by omega) (by omega) (fun _ => rfl) (fun i : Nat => V.int ((dd[i % dd.length]?).getD 0 / ((i : Int) + 1) % 65536)) ?_ ?_
  · intro i H8 hi e8 R rr
    have hat := mod_at (dd := dd) (i := i) (by omega)
    have hpos : (0 : Int) < ((dd.map V.int).length : Int) := by rw [List.length_map]; omega
    have hi32 : (i : Int) < 256 := by omega
    walk_at "wp"
    exact rr _ (Evl.Ex.refl _)
  intro p7 H7 n7 e7 f7
  rw [hrow] at f7
  generalize row8 dd k = row at *
  walk_at "wp"
  rename_i pb H8 n8 e8 bk8 p9 H9 n9 e9 f9 g2 dx10 H10 n10 e10 f10 tp H11 n11 e11 f11 mm dx12 H12 n12 e12 f12
  rw [hgm] at f10
  have bk8' := bk8
  obtain ⟨_, _, _, _, hz8, _⟩ := bk8'
  have hz11 := e11 _ _ (e10 _ _ (e9 _ _ hz8))
  have hg2 : g2 ≠ pb := (ne_of_none (e9 _ _ hz8) n10).symm
  have hmp : mm ≠ pb := (ne_of_none hz11 n12).symm
  have hd12 : DigB T.c_Digests.C H12 g2 pb m := ⟨⟨dx10, _, e12 _ _ (e11 _ _ f10)⟩, by omega, hm1, hg2⟩
  have hb12 : BkG P w T.c_Book.C H12 pb m [] := ⟨⟨[], [], false, BookAt.ex (((e9.trans e10).trans e11).trans e12) bk8, knows_nil⟩⟩
  have up : ∀ {b : Addr} {o : HO}, H7 b = some o → b ≠ pb ∧ b ∉ [mm] ∧ H12 b = some o := fun {b o} h => by
    have h11 : H11 b = some o := e11 _ _ (e10 _ _ (e9 _ _ (e8 _ _ h)))
    exact ⟨ne_of_none h n8, fun z => ne_of_none h11 n12 (List.mem_singleton.mp z), e12 _ _ h11⟩
  refine ⟨mm, dx12, g2, pb, tp, m, row, [], rfl, f12, hmp, hd12, hb12, by simp, Evl.st_of (e12 _ _ f11), hrl, fun H13 wa la ps l13 k13 M13 nw13 b13 x13 => ⟨rfl, ?_⟩⟩
  have up13 : ∀ {b : Addr} {o : HO}, H7 b = some o → Kit.mutE o = false → H13 b = some o := fun h z => let ⟨a, b, c⟩ := up h; k13.1 _ _ a b c z
  have d12 : H12 p3 = some (.lst (dd.map V.int)) := (up (by walk_at "hp")).2.2
  have hgpb : g ≠ pb := (up (e7 _ _ (e6 _ _ f5))).1
  have d13 : H13 p3 = some (.lst (dd.map V.int)) := up13 (by walk_at "hp") rfl
  have r13 : H13 p7 = some (.lst (iv row)) := up13 f7 rfl
  have g13 : DigN T.c_Digests.C H13 g m := ⟨⟨dx5, _, up13 (e7 _ _ (e6 _ _ f5)) rfl⟩, hd5.pos, hd5.lt⟩
  have D13 : DigB T.c_Digests.C H13 g2 pb m := ⟨⟨dx10, _, k13.1 _ _ hg2 (fun z => ne_of_none (e11 _ _ f10) n12 (List.mem_singleton.mp z)) (e12 _ _ (e11 _ _ f10)) rfl⟩, by omega, hm1, hg2⟩
  clear hb12 hd12 up up13 f12 f11 f10 f9 f7 f6 f5 f4 f3 f2 f1 e1 e2 e3 e4 e5 e6 e7 e8 e9 e10 e11 n1 n2 n3 n4 n5 n6 n7 n8 n9 n10 n11 hz8 hz11 hrow hd0 hb hS hkat hd5
  walk_at "wp"
  rename_i q1 H14 n14 e14 f14 q2 H15 n15 e15 f15
  have hcat : iv row ++ (List.replicate (256 - (k : Int)).toNat [V.int 0]).flatten = iv (padW row) := by
    rw [rep_flat]
    unfold padW iv
    rw [List.map_append, hrl2, show ((256 : Int) - (k : Int)).toNat = 256 - k by omega]
  have hsz : (iv row).length + (List.replicate (256 - (k : Int)).toNat [V.int 0]).flatten.length ≤ 100000 := by
    rw [← List.length_append, hcat, iv_len, padW_len hrl]; decide
  refine Kit.w_catL (e15 _ _ (e14 _ _ r13)) f15 hsz fun ra H16 n16 e16 f16 => ?_
  rw [hcat] at f16
  have hR : (padW row).length = 256 := padW_len hrl
  have hra : ∀ x ∈ wa :: la :: ps, x ≠ ra := fun x hx => by
    obtain ⟨ys, hy⟩ := M13.all x hx
    exact ne_of_none (e15 _ _ (e14 _ _ hy)) n16
  have hda : ∀ x ∈ wa :: la :: ps, x ≠ p3 := fun x hx => (ne_of_none d12 (nw13 x hx)).symm
  have h3a : p3 ≠ ra := ne_of_none (e15 _ _ (e14 _ _ d13)) n16
  generalize padW row = R at *
  walk_at "wp"
  rename_i tx H17 n17 e17 f17
  have e13 : Evl.Ex H13 H17 := ((e14.trans e15).trans e16).trans e17
  have I17 : Inv8 P w T.c_Memory.C T.c_Digests.C T.c_Book.C H17 mm g g2 pb wa la ra p3 tx ps m R R dd l13 [] :=
    ⟨M13.ex e13, b13.exE e13, D13.keep (.of e13), g13.ex e13, f17, e17 _ _ f16, e13 _ _ d13, hra, hda, h3a, hmp, hgpb⟩
  have hl13 := x13.len
  have x13m := x13.mem
  have x13n := x13.nd List.nodup_nil
  clear d12 k13 nw13 b13 D13 g13 d13 r13 M13 x13 f16 f17 f15 f14 n14 n15 n16 n17 e14 e15 e16 e17 e13 e12 n12 hcat hsz hra hda h3a hmp hgpb
  refine ⟨g, ra, m, R, rfl, I17.G, Evl.sq_of I17.rows, hR, fun L H18 e18 lv18 => ?_⟩
  walk_at "wp"
  refine w_lstRg (by decide) fun pl H19 n19 e19 f19 => ?_
  walk_at "wp"
  refine use_told (places := List.range 256) (I17.ex (e18.trans e19)) hR (lv18.mono e19) f19 (fun p hp => List.mem_range.mp hp) (by simp) fun H20 lt I20 x20 => ?_
  rw [List.length_range] at x20
  have hnt := x20.nd List.nodup_nil
  have hsame : ∀ t, t ∈ l13 ↔ t ∈ lt := fun t => by
    rw [x13m, x20.mem, mem_memX hR]
    simp only [List.not_mem_nil, false_or, List.mem_flatMap, List.mem_range]
  walk_at "wp"
  refine I20.B.ins (fun _ _ _ => rfl) ?_
  walk_at "wp"
  refine use_count I20.B ?_
  walk_at "wp"
  refine use_len I20 ?_
  rw [same_len hnt x13n fun t => (hsame t).symm]
  walk_at "wp"
  clear I17 lv18 f19 e18 e19 n19 x20 x13m hl
  clear bk8 hgm hg2 hrl hrl2 hk hB hm0 hm1 l1
  refine Kit.f_list (Evl.sq_of I20.draws) (Lp8 P w T.c_Memory.C T.c_Digests.C T.c_Book.C a mm g g2 pb wa la ra p3 tx ps m (k : Int) dd)
    ⟨_, _, _, _, _, _, _, R, l13, lt, rfl, I20, x13n, hnt, hsame, by simpa using hl13⟩ ?_ ?_ ?_
  · rintro i σ' H' _ ⟨_, _, _, _, _, _, _, R', lb, lt', rfl, I, _⟩
    exact Evl.sq_of I.draws
  · rintro i x σ' H1 hix ⟨y8, y9, y10, y11, y12, y13, y14, R, lb, lt, rfl, I, nb, nt, same, hlb⟩
    rw [List.getElem?_map] at hix
    obtain ⟨d, hd, rfl⟩ : ∃ d, dd[i]? = some d ∧ x = V.int d := by
      cases e : dd[i]? with
      | none => rw [e] at hix; cases hix
      | some d => rw [e] at hix; exact ⟨d, rfl, (Option.some.inj hix).symm⟩
    have hi : i < dd.length := (List.getElem?_eq_some_iff.mp hd).1
    have hR : R.length = 256 := I.M.len
    obtain ⟨j, hj1, hj2, _⟩ := nat256 d
    obtain ⟨o, ho1, ho2, _⟩ := nat256 (d / 999)
    have hjj : ((j : Int) % 256).toNat = j := by omega
    have hoo : ((o : Int) % 256).toNat = o := by omega
    have hlt := same_len nt nb fun t => (same t).symm
    show Kit.Sm _ _ _ _ _ _ _
    walk_at "wp"
    rw [hj1]
    walk_at "wp"
    generalize d / 256 % 65536 = v at *
    refine I.M.ins rfl ?_
    walk_at "wp"
    refine ⟨mm, g2, pb, wa, la, ps, m, R, (j : Int), v, lb, rfl, I.M, I.ne4, I.D, I.B, by omega, fun H2 lb2 k2 M2 B2 x2 => ?_⟩
    rw [hjj] at M2 x2
    have I2 := I.chg k2 M2 B2
    walk_at "wp"
    refine Kit.w_setL I2.rows (Evl.ixN_nat (by rw [iv_len, hR]; exact hj2)) (ys := iv (R.set j v)) (by unfold iv; rw [List.map_set]) fun H3 m3 f3 => ?_
    have I3 := I2.row m3 f3
    have hR2 : (R.set j v).length = 256 := by rw [List.length_set]; exact hR
    have hv : (R.set j v)[j]? = some v := List.getElem?_set_self (by omega)
    clear M2 B2 k2 m3 f3 I2
    generalize R.set j v = R2 at *
    walk_at "wp"
    refine ⟨g, ra, m, R2, rfl, I3.G, Evl.sq_of I3.rows, hR2, fun L4 H4 e4 lv4 => ?_⟩
    walk_at "wp"
    rename_i pl5 H5 n5 e5 f5
    refine use_told (places := [j]) (I3.ex (e4.trans e5)) hR2 (lv4.mono e5) f5 (fun p hp => by rw [List.mem_singleton.mp hp]; exact hj2) (by rw [List.length_singleton]; omega) fun H6 lt6 I6 x6 => ?_
    have htell : ∀ t, t ∈ [j].flatMap (tellX m R2) ↔ t ∈ chgX m R2 j v := fun t => by
      simp only [List.flatMap_cons, List.flatMap_nil, List.append_nil]
      unfold tellX
      rw [hv]
      exact Iff.rfl
    have nb2 := x2.nd nb
    have nt6 := x6.nd nt
    have same6 : ∀ t, t ∈ lb2 ↔ t ∈ lt6 := fun t => by rw [x2.mem, x6.mem, same, htell]
    have hl2 := x2.len
    have hlen6 := same_len nt6 nb2 fun t => (same6 t).symm
    clear I I3 lv4 e4 e5 n5 f5 htell x2 x6 same nt nb hlt
    walk_at "wp"
    refine I6.B.ins (fun _ _ _ => rfl) ?_
    walk_at "wp"
    refine use_count I6.B ?_
    walk_at "wp"
    refine use_len I6 ?_
    rw [hlen6]
    walk_at "wp"
    rw [ho1]
    walk_at "wp"
    have hw : wordAt R2 (j : Int) = v := by unfold wordAt; rw [hjj, hv]; rfl
    have hw2 : wordAt R2 (o : Int) = (R2[o]?).getD 0 := by unfold wordAt; rw [hoo]
    refine I6.M.ins rfl ?_
    walk_at "wp"
    refine ⟨mm, g2, wa, la, ps, m, R2, (j : Int), rfl, I6.M, ?_⟩
    rw [hw]
    walk_at "wp"
    refine I6.M.ins rfl ?_
    walk_at "wp"
    refine ⟨mm, g2, wa, la, ps, m, R2, (o : Int), rfl, I6.M, ?_⟩
    rw [hw2]
    walk_at "wp"
    refine Kit.w_ixL (Evl.sq_of I6.rows) (iv_at (k := o) (by rw [hR2]; exact ho2)) ?_
    walk_at "wp"
    refine I6.M.ins rfl ?_
    walk_at "wp"
    refine ⟨mm, g2, wa, la, ps, m, R2, rfl, I6.M, fun t7 H7 n7 e7 f7 => ?_⟩
    have r7 := (I6.ex e7).rows
    walk_at "wp"
    rename_i t8 H8 n8 e8 f8
    refine Kit.w_neTT (r := R2) (s := R2) (Evl.st_of (e8 _ _ f7)) (Evl.st_of f8) ?_
    have I8 := (I6.ex e7).ex e8
    clear I6 r7 e7 e8 f7 f8 n7 n8
    walk_at "wp"
    refine Kit.l_list (Evl.sq_of I8.rows) (by rw [iv_len, hR2]; decide) (fun _ => rfl) (fun i => .int (leafI m ((R2[i]?).getD 0))) ?_ ?_
    · intro i x H9 hx e9 R' rr
      obtain ⟨y, hy, rfl⟩ := iv_mem hx
      have G9 := I8.G.ex e9
      walk_at "wp"
      refine use_leafN G9 fun H10 e10 => ?_
      rw [hy] at rr
      exact rr _ e10
    intro lv H9 n9 e9 f9
    rw [iv_len, range_leaf] at f9
    have I9 := I8.ex e9
    have hL : (R2.map (leafI m)).length = 2 ^ 8 := by rw [List.length_map, hR2]
    have hdg := leaves_dg I9.G.pos R2
    clear I8 e9 n9
    walk_at "wp"
    refine I9.M.ins rfl ?_
    walk_at "wp"
    refine ⟨mm, g2, wa, la, ps, m, R2, rfl, I9.M, ?_⟩
    walk_at "wp"
    refine ⟨g, lv, m, R2.map (leafI m), 8, rfl, I9.G, .inl (Evl.sq_of f9), hdg, hL, Nat.le_refl 8, fun H10 e10 => ?_⟩
    rw [show KM.rootM (foldI m) 8 (R2.map (leafI m)) = memRoot m R2 from rfl]
    have I10 := I9.ex e10
    have f10 := e10 _ _ f9
    clear I9 f9 e10
    walk_at "wp"
    refine I10.M.ins rfl ?_
    walk_at "wp"
    refine ⟨mm, g2, wa, la, ps, m, R2, (o : Int), rfl, I10.M, fun t11 H11 n11 e11 f11 => ?_⟩
    rw [hoo] at f11
    have I11 := I10.ex e11
    have g11 := e11 _ _ f10
    walk_at "wp"
    refine ⟨g, lv, m, R2.map (leafI m), 8, o, rfl, I11.G, .inl (Evl.sq_of g11), hdg, hL, Nat.le_refl 8, ho2, fun t12 H12 n12 e12 f12 => ?_⟩
    refine Kit.w_neTT (r := memPath m R2 o) (s := memPath m R2 o) (Evl.st_of (e12 _ _ f11)) (Evl.st_of f12) ?_
    have I12 := I11.ex e12
    have g12 := e12 _ _ g11
    clear I10 I11 f10 g11 e11 e12 f11 f12 n11 n12
    walk_at "wp"
    refine I12.M.ins rfl ?_
    walk_at "wp"
    refine ⟨mm, g2, wa, la, ps, m, R2, (j : Int), rfl, I12.M, fun t13 H13 n13 e13 f13 => ?_⟩
    rw [hjj] at f13
    have I13 := I12.ex e13
    have g13 := e13 _ _ g12
    walk_at "wp"
    refine ⟨g, lv, m, R2.map (leafI m), 8, j, rfl, I13.G, .inl (Evl.sq_of g13), hdg, hL, Nat.le_refl 8, hj2, fun t14 H14 n14 e14 f14 => ?_⟩
    refine Kit.w_neTT (r := memPath m R2 j) (s := memPath m R2 j) (Evl.st_of (e14 _ _ f13)) (Evl.st_of f14) ?_
    have I14 := I13.ex e14
    clear I12 I13 g12 g13 e13 e14 f13 f14 n13 n14
    walk_at "wp"
    refine I14.B.ins (fun _ _ _ => rfl) ?_
    walk_at "wp"
    refine use_count I14.B ?_
    walk_at "wp"
    refine use_len I14 ?_
    rw [hlen6]
    walk_at "wp"
    exact ⟨_, _, _, _, _, _, _, R2, lb2, lt6, rfl, I14, nb2, nt6, same6, by omega⟩
  · rintro σ' H1 ⟨y8, y9, y10, y11, y12, y13, y14, R, lb, lt, rfl, I, nb, nt, same, hlb⟩
    walk_at "wp"
    exact q _

end
theorem all_mk {l : PySem.W.OpenLaw} {w : World} {K : PySem.W.Frag} {h : Heap} {mg : Str → Option Value} {fa : Addr} (X : K.In h) (G : h.Ns mainGlobals mg) (hfa : mg "law" = some (.ref fa))
    {od0 an0 : Option Addr} {sl0 : Array (Option Value)} {oc0 kV0 dc0 pm0 cd0 ct0 : Value} {f0 : Addr}
    {od1 an1 : Option Addr} {sl1 : Array (Option Value)} {oc1 kV1 dc1 pm1 cd1 ct1 : Value} {f1 : Addr}
    {od2 an2 : Option Addr} {sl2 : Array (Option Value)} {oc2 kV2 dc2 pm2 cd2 ct2 : Value} {f2 : Addr}
    {od3 an3 : Option Addr} {sl3 : Array (Option Value)} {oc3 kV3 dc3 pm3 cd3 ct3 : Value} {f3 : Addr}
    {od4 an4 : Option Addr} {sl4 : Array (Option Value)} {oc4 kV4 dc4 pm4 cd4 ct4 : Value} {f4 : Addr}
    {od5 an5 : Option Addr} {sl5 : Array (Option Value)} {oc5 kV5 dc5 pm5 cd5 ct5 : Value} {f5 : Addr}
    {od6 an6 : Option Addr} {sl6 : Array (Option Value)} {oc6 kV6 dc6 pm6 cd6 ct6 : Value} {f6 : Addr}
    {od7 an7 : Option Addr} {sl7 : Array (Option Value)} {oc7 kV7 dc7 pm7 cd7 ct7 : Value} {f7 : Addr}
    {od8 an8 : Option Addr} {sl8 : Array (Option Value)} {oc8 kV8 dc8 pm8 cd8 ct8 : Value} {f8 : Addr}
    {od9 an9 : Option Addr} {sl9 : Array (Option Value)} {oc9 kV9 dc9 pm9 cd9 ct9 : Value} {f9 : Addr}
    {od10 an10 : Option Addr} {sl10 : Array (Option Value)} {oc10 kV10 dc10 pm10 cd10 ct10 : Value} {f10 : Addr}
    {od11 an11 : Option Addr} {sl11 : Array (Option Value)} {oc11 kV11 dc11 pm11 cd11 ct11 : Value} {f11 : Addr}
    {od12 an12 : Option Addr} {sl12 : Array (Option Value)} {oc12 kV12 dc12 pm12 cd12 ct12 : Value} {f12 : Addr}
    {od13 an13 : Option Addr} {sl13 : Array (Option Value)} {oc13 kV13 dc13 pm13 cd13 ct13 : Value} {f13 : Addr}
    {od14 an14 : Option Addr} {sl14 : Array (Option Value)} {oc14 kV14 dc14 pm14 cd14 ct14 : Value} {f14 : Addr}
    {od15 an15 : Option Addr} {sl15 : Array (Option Value)} {oc15 kV15 dc15 pm15 cd15 ct15 : Value} {f15 : Addr}
    {od16 an16 : Option Addr} {sl16 : Array (Option Value)} {oc16 kV16 dc16 pm16 cd16 ct16 : Value} {f16 : Addr}
    {od17 an17 : Option Addr} {sl17 : Array (Option Value)} {oc17 kV17 dc17 pm17 cd17 ct17 : Value} {f17 : Addr}
    {od18 an18 : Option Addr} {sl18 : Array (Option Value)} {oc18 kV18 dc18 pm18 cd18 ct18 : Value} {f18 : Addr}
    {od19 an19 : Option Addr} {sl19 : Array (Option Value)} {oc19 kV19 dc19 pm19 cd19 ct19 : Value} {f19 : Addr}
    {od20 an20 : Option Addr} {sl20 : Array (Option Value)} {oc20 kV20 dc20 pm20 cd20 ct20 : Value} {f20 : Addr}
    {C_Memory : Addr}
    {C_Digests : Addr}
    {C_Book : Addr}
    {t_PLACES : Tok}
    (aC_Book : PySem.W.nsIn K mainGlobals "Book" = some (some (.ref C_Book)))
    (aC_Digests : PySem.W.nsIn K mainGlobals "Digests" = some (some (.ref C_Digests)))
    (aC_Memory : PySem.W.nsIn K mainGlobals "Memory" = some (some (.ref C_Memory)))
    (a0 : PySem.W.nsIn K mainGlobals "root_of" = some (some (.ref f0)))
    (l0 : K.lookup f0 = some ⟨oc0, od0, .func (PySem.W.fnOf "root_of" "root_of" (defArgs s_root_of) (defBody s_root_of) (defScope s_root_of) .none kV0 dc0 pm0 an0 cd0 ct0), sl0⟩)
    (c0 : PySem.W.codeIn K cd0 "root_of" = true)
    (k0 : PySem.W.keepIn K (.ref f0) = true)
    (a1 : PySem.W.nsIn K mainGlobals "path_of" = some (some (.ref f1)))
    (l1 : K.lookup f1 = some ⟨oc1, od1, .func (PySem.W.fnOf "path_of" "path_of" (defArgs s_path_of) (defBody s_path_of) (defScope s_path_of) .none kV1 dc1 pm1 an1 cd1 ct1), sl1⟩)
    (c1 : PySem.W.codeIn K cd1 "path_of" = true)
    (k1 : PySem.W.keepIn K (.ref f1) = true)
    (a2 : PySem.W.nsIn K mainGlobals "levels_of" = some (some (.ref f2)))
    (l2 : K.lookup f2 = some ⟨oc2, od2, .func (PySem.W.fnOf "levels_of" "levels_of" (defArgs s_levels_of) (defBody s_levels_of) (defScope s_levels_of) .none kV2 dc2 pm2 an2 cd2 ct2), sl2⟩)
    (c2 : PySem.W.codeIn K cd2 "levels_of" = true)
    (k2 : PySem.W.keepIn K (.ref f2) = true)
    (a3 : PySem.W.nsIn K mainGlobals "path_in" = some (some (.ref f3)))
    (l3 : K.lookup f3 = some ⟨oc3, od3, .func (PySem.W.fnOf "path_in" "path_in" (defArgs s_path_in) (defBody s_path_in) (defScope s_path_in) .none kV3 dc3 pm3 an3 cd3 ct3), sl3⟩)
    (c3 : PySem.W.codeIn K cd3 "path_in" = true)
    (k3 : PySem.W.keepIn K (.ref f3) = true)
    (a4 : PySem.W.findIn K (.ref C_Memory) "__init__" = some (some (.ref f4)))
    (i4 : PySem.W.isFn K (.ref f4) = true)
    (l4 : K.lookup f4 = some ⟨oc4, od4, .func (PySem.W.fnOf "__init__" "Memory.__init__" (defArgs s_Memory___init) (defBody s_Memory___init) (defScope s_Memory___init) .none kV4 dc4 pm4 an4 cd4 ct4), sl4⟩)
    (c4 : PySem.W.codeIn K cd4 "Memory.__init__" = true)
    (k4 : PySem.W.keepIn K (.ref f4) = true)
    (a5 : PySem.W.findIn K (.ref C_Memory) "word" = some (some (.ref f5)))
    (i5 : PySem.W.isFn K (.ref f5) = true)
    (l5 : K.lookup f5 = some ⟨oc5, od5, .func (PySem.W.fnOf "word" "Memory.word" (defArgs s_Memory_word) (defBody s_Memory_word) (defScope s_Memory_word) .none kV5 dc5 pm5 an5 cd5 ct5), sl5⟩)
    (c5 : PySem.W.codeIn K cd5 "Memory.word" = true)
    (k5 : PySem.W.keepIn K (.ref f5) = true)
    (a6 : PySem.W.findIn K (.ref C_Memory) "change" = some (some (.ref f6)))
    (i6 : PySem.W.isFn K (.ref f6) = true)
    (l6 : K.lookup f6 = some ⟨oc6, od6, .func (PySem.W.fnOf "change" "Memory.change" (defArgs s_Memory_change) (defBody s_Memory_change) (defScope s_Memory_change) .none kV6 dc6 pm6 an6 cd6 ct6), sl6⟩)
    (c6 : PySem.W.codeIn K cd6 "Memory.change" = true)
    (k6 : PySem.W.keepIn K (.ref f6) = true)
    (a7 : PySem.W.findIn K (.ref C_Memory) "words" = some (some (.ref f7)))
    (i7 : PySem.W.isFn K (.ref f7) = true)
    (l7 : K.lookup f7 = some ⟨oc7, od7, .func (PySem.W.fnOf "words" "Memory.words" (defArgs s_Memory_words) (defBody s_Memory_words) (defScope s_Memory_words) .none kV7 dc7 pm7 an7 cd7 ct7), sl7⟩)
    (c7 : PySem.W.codeIn K cd7 "Memory.words" = true)
    (k7 : PySem.W.keepIn K (.ref f7) = true)
    (a8 : PySem.W.findIn K (.ref C_Memory) "root" = some (some (.ref f8)))
    (i8 : PySem.W.isFn K (.ref f8) = true)
    (l8 : K.lookup f8 = some ⟨oc8, od8, .func (PySem.W.fnOf "root" "Memory.root" (defArgs s_Memory_root) (defBody s_Memory_root) (defScope s_Memory_root) .none kV8 dc8 pm8 an8 cd8 ct8), sl8⟩)
    (c8 : PySem.W.codeIn K cd8 "Memory.root" = true)
    (k8 : PySem.W.keepIn K (.ref f8) = true)
    (a9 : PySem.W.findIn K (.ref C_Memory) "path" = some (some (.ref f9)))
    (i9 : PySem.W.isFn K (.ref f9) = true)
    (l9 : K.lookup f9 = some ⟨oc9, od9, .func (PySem.W.fnOf "path" "Memory.path" (defArgs s_Memory_path) (defBody s_Memory_path) (defScope s_Memory_path) .none kV9 dc9 pm9 an9 cd9 ct9), sl9⟩)
    (c9 : PySem.W.codeIn K cd9 "Memory.path" = true)
    (k9 : PySem.W.keepIn K (.ref f9) = true)
    (a10 : PySem.W.findIn K (.ref C_Digests) "__init__" = some (some (.ref f10)))
    (i10 : PySem.W.isFn K (.ref f10) = true)
    (l10 : K.lookup f10 = some ⟨oc10, od10, .func (PySem.W.fnOf "__init__" "Digests.__init__" (defArgs s_Digests___init) (defBody s_Digests___init) (defScope s_Digests___init) .none kV10 dc10 pm10 an10 cd10 ct10), sl10⟩)
    (c10 : PySem.W.codeIn K cd10 "Digests.__init__" = true)
    (k10 : PySem.W.keepIn K (.ref f10) = true)
    (a11 : PySem.W.findIn K (.ref C_Digests) "leaf" = some (some (.ref f11)))
    (i11 : PySem.W.isFn K (.ref f11) = true)
    (l11 : K.lookup f11 = some ⟨oc11, od11, .func (PySem.W.fnOf "leaf" "Digests.leaf" (defArgs s_Digests_leaf) (defBody s_Digests_leaf) (defScope s_Digests_leaf) .none kV11 dc11 pm11 an11 cd11 ct11), sl11⟩)
    (c11 : PySem.W.codeIn K cd11 "Digests.leaf" = true)
    (k11 : PySem.W.keepIn K (.ref f11) = true)
    (a12 : PySem.W.findIn K (.ref C_Digests) "fold" = some (some (.ref f12)))
    (i12 : PySem.W.isFn K (.ref f12) = true)
    (l12 : K.lookup f12 = some ⟨oc12, od12, .func (PySem.W.fnOf "fold" "Digests.fold" (defArgs s_Digests_fold) (defBody s_Digests_fold) (defScope s_Digests_fold) .none kV12 dc12 pm12 an12 cd12 ct12), sl12⟩)
    (c12 : PySem.W.codeIn K cd12 "Digests.fold" = true)
    (k12 : PySem.W.keepIn K (.ref f12) = true)
    (a13 : PySem.W.findIn K (.ref C_Digests) "_noted" = some (some (.ref f13)))
    (i13 : PySem.W.isFn K (.ref f13) = true)
    (l13 : K.lookup f13 = some ⟨oc13, od13, .func (PySem.W.fnOf "_noted" "Digests._noted" (defArgs s_Digests__noted) (defBody s_Digests__noted) (defScope s_Digests__noted) .none kV13 dc13 pm13 an13 cd13 ct13), sl13⟩)
    (c13 : PySem.W.codeIn K cd13 "Digests._noted" = true)
    (k13 : PySem.W.keepIn K (.ref f13) = true)
    (a14 : PySem.W.findIn K (.ref C_Book) "__init__" = some (some (.ref f14)))
    (i14 : PySem.W.isFn K (.ref f14) = true)
    (l14 : K.lookup f14 = some ⟨oc14, od14, .func (PySem.W.fnOf "__init__" "Book.__init__" (defArgs s_Book___init) (defBody s_Book___init) (defScope s_Book___init) .none kV14 dc14 pm14 an14 cd14 ct14), sl14⟩)
    (c14 : PySem.W.codeIn K cd14 "Book.__init__" = true)
    (k14 : PySem.W.keepIn K (.ref f14) = true)
    (a15 : PySem.W.findIn K (.ref C_Book) "add" = some (some (.ref f15)))
    (i15 : PySem.W.isFn K (.ref f15) = true)
    (l15 : K.lookup f15 = some ⟨oc15, od15, .func (PySem.W.fnOf "add" "Book.add" (defArgs s_Book_add) (defBody s_Book_add) (defScope s_Book_add) .none kV15 dc15 pm15 an15 cd15 ct15), sl15⟩)
    (c15 : PySem.W.codeIn K cd15 "Book.add" = true)
    (k15 : PySem.W.keepIn K (.ref f15) = true)
    (a16 : PySem.W.findIn K (.ref C_Book) "count" = some (some (.ref f16)))
    (i16 : PySem.W.isFn K (.ref f16) = true)
    (l16 : K.lookup f16 = some ⟨oc16, od16, .func (PySem.W.fnOf "count" "Book.count" (defArgs s_Book_count) (defBody s_Book_count) (defScope s_Book_count) .none kV16 dc16 pm16 an16 cd16 ct16), sl16⟩)
    (c16 : PySem.W.codeIn K cd16 "Book.count" = true)
    (k16 : PySem.W.keepIn K (.ref f16) = true)
    (a17 : PySem.W.nsIn K mainGlobals "_law_draws" = some (some (.ref f17)))
    (l17 : K.lookup f17 = some ⟨oc17, od17, .func (PySem.W.fnOf "_law_draws" "_law_draws" (defArgs s_law_draws) (defBody s_law_draws) (defScope s_law_draws) .none kV17 dc17 pm17 an17 cd17 ct17), sl17⟩)
    (c17 : PySem.W.codeIn K cd17 "_law_draws" = true)
    (k17 : PySem.W.keepIn K (.ref f17) = true)
    (a18 : PySem.W.nsIn K mainGlobals "_law_levels" = some (some (.ref f18)))
    (l18 : K.lookup f18 = some ⟨oc18, od18, .func (PySem.W.fnOf "_law_levels" "_law_levels" (defArgs s_law_levels) (defBody s_law_levels) (defScope s_law_levels) .none kV18 dc18 pm18 an18 cd18 ct18), sl18⟩)
    (c18 : PySem.W.codeIn K cd18 "_law_levels" = true)
    (k18 : PySem.W.keepIn K (.ref f18) = true)
    (a19 : PySem.W.nsIn K mainGlobals "_law_told" = some (some (.ref f19)))
    (l19 : K.lookup f19 = some ⟨oc19, od19, .func (PySem.W.fnOf "_law_told" "_law_told" (defArgs s_law_told) (defBody s_law_told) (defScope s_law_told) .none kV19 dc19 pm19 an19 cd19 ct19), sl19⟩)
    (c19 : PySem.W.codeIn K cd19 "_law_told" = true)
    (k19 : PySem.W.keepIn K (.ref f19) = true)
    (a20 : PySem.W.nsIn K mainGlobals "law" = some (some (.ref f20)))
    (l20 : K.lookup f20 = some ⟨oc20, od20, .func (PySem.W.fnOf "law" "law" (defArgs s_law) (defBody s_law) (defScope s_law) .none kV20 dc20 pm20 an20 cd20 ct20), sl20⟩)
    (c20 : PySem.W.codeIn K cd20 "law" = true)
    (k20 : PySem.W.keepIn K (.ref f20) = true)
    (pg_Memory : PySem.W.plainGet K C_Memory Str.empty = true)
    (hd_Memory : PySem.W.hasDictIn K C_Memory = true)
    (po_Memory : PySem.W.plainOver K C_Memory = true)
    (sa_Memory : PySem.W.findIn K (.ref C_Memory) "__setattr__" = some (some (.builtin "object.__setattr__")))
    (mk_Memory : PySem.W.makesIn K C_Memory = true)
    (kc_Memory : PySem.W.keepIn K (.ref C_Memory) = true)
    (n_Memory_digests : PySem.W.findIn K (.ref C_Memory) "_digests" = some none)
    (n_Memory_words : PySem.W.findIn K (.ref C_Memory) "_words" = some none)
    (n_Memory_levels : PySem.W.findIn K (.ref C_Memory) "_levels" = some none)
    (pg_Digests : PySem.W.plainGet K C_Digests Str.empty = true)
    (hd_Digests : PySem.W.hasDictIn K C_Digests = true)
    (po_Digests : PySem.W.plainOver K C_Digests = true)
    (sa_Digests : PySem.W.findIn K (.ref C_Digests) "__setattr__" = some (some (.builtin "object.__setattr__")))
    (mk_Digests : PySem.W.makesIn K C_Digests = true)
    (kc_Digests : PySem.W.keepIn K (.ref C_Digests) = true)
    (n_Digests_bits : PySem.W.findIn K (.ref C_Digests) "_bits" = some none)
    (n_Digests_book : PySem.W.findIn K (.ref C_Digests) "_book" = some none)
    (n_Digests_modulus : PySem.W.findIn K (.ref C_Digests) "_modulus" = some none)
    (pg_Book : PySem.W.plainGet K C_Book Str.empty = true)
    (hd_Book : PySem.W.hasDictIn K C_Book = true)
    (po_Book : PySem.W.plainOver K C_Book = true)
    (sa_Book : PySem.W.findIn K (.ref C_Book) "__setattr__" = some (some (.builtin "object.__setattr__")))
    (mk_Book : PySem.W.makesIn K C_Book = true)
    (kc_Book : PySem.W.keepIn K (.ref C_Book) = true)
    (n_Book_texts : PySem.W.findIn K (.ref C_Book) "_texts" = some none)
    (n_Book_firsts : PySem.W.findIn K (.ref C_Book) "_firsts" = some none)
    (n_Book_collided : PySem.W.findIn K (.ref C_Book) "_collided" = some none)
    (g_PLACES : PySem.W.nsIn K mainGlobals "PLACES" = some (some (.int 256 t_PLACES)))
    (z_abs : PySem.W.nsIn K mainGlobals "abs" = some none)
    (z_int : PySem.W.nsIn K mainGlobals "int" = some none)
    (z_len : PySem.W.nsIn K mainGlobals "len" = some none)
    (z_list : PySem.W.nsIn K mainGlobals "list" = some none)
    (z_range : PySem.W.nsIn K mainGlobals "range" = some none)
    (z_tuple : PySem.W.nsIn K mainGlobals "tuple" = some none)
    : ∃ fd : FuncData, (∀ (s : Shared) (v : Value), BindsTo s fd ⟨[v], []⟩ [("script", v)]) ∧ ∀ base : Heap, K.In base → base.Ns mainGlobals mg → FnOk l.prog w K mg base CX0 7 fa fd ["script"] (sp_law K) := by
  have e := hfa.symm.trans (PySem.W.mg_of X G a20)
  have e2 : f20 = fa := by
    injection e with e
    injection e with e
    exact e.symm
  subst e2
  have F0 := fun_mk (st := s_root_of) l0 c0 k0
  have b0 := F0.binds (ps := ["digests", "row"]) fun _ _ _ _ _ _ us hl => match us, hl with | [_, _], _ => rfl
  have F1 := fun_mk (st := s_path_of) l1 c1 k1
  have b1 := F1.binds (ps := ["digests", "row", "place"]) fun _ _ _ _ _ _ us hl => match us, hl with | [_, _, _], _ => rfl
  have F2 := fun_mk (st := s_levels_of) l2 c2 k2
  have b2 := F2.binds (ps := ["digests", "row"]) fun _ _ _ _ _ _ us hl => match us, hl with | [_, _], _ => rfl
  have F3 := fun_mk (st := s_path_in) l3 c3 k3
  have b3 := F3.binds (ps := ["levels", "place"]) fun _ _ _ _ _ _ us hl => match us, hl with | [_, _], _ => rfl
  have F4 := fun_mk (st := s_Memory___init) l4 c4 k4
  have b4 := F4.binds (ps := ["self", "digests", "words"]) fun _ _ _ _ _ _ us hl => match us, hl with | [_, _, _], _ => rfl
  have F5 := fun_mk (st := s_Memory_word) l5 c5 k5
  have b5 := F5.binds (ps := ["self", "place"]) fun _ _ _ _ _ _ us hl => match us, hl with | [_, _], _ => rfl
  have F6 := fun_mk (st := s_Memory_change) l6 c6 k6
  have b6 := F6.binds (ps := ["self", "place", "word"]) fun _ _ _ _ _ _ us hl => match us, hl with | [_, _, _], _ => rfl
  have F7 := fun_mk (st := s_Memory_words) l7 c7 k7
  have b7 := F7.binds (ps := ["self"]) fun _ _ _ _ _ _ us hl => match us, hl with | [_], _ => rfl
  have F8 := fun_mk (st := s_Memory_root) l8 c8 k8
  have b8 := F8.binds (ps := ["self"]) fun _ _ _ _ _ _ us hl => match us, hl with | [_], _ => rfl
  have F9 := fun_mk (st := s_Memory_path) l9 c9 k9
  have b9 := F9.binds (ps := ["self", "place"]) fun _ _ _ _ _ _ us hl => match us, hl with | [_, _], _ => rfl
  have F10 := fun_mk (st := s_Digests___init) l10 c10 k10
  have b10 := F10.binds (ps := ["self", "bits", "book"]) fun _ _ _ _ _ _ us hl => match us, hl with | [_, _, _], _ => rfl
  have F11 := fun_mk (st := s_Digests_leaf) l11 c11 k11
  have b11 := F11.binds (ps := ["self", "word"]) fun _ _ _ _ _ _ us hl => match us, hl with | [_, _], _ => rfl
  have F12 := fun_mk (st := s_Digests_fold) l12 c12 k12
  have b12 := F12.binds (ps := ["self", "left", "right"]) fun _ _ _ _ _ _ us hl => match us, hl with | [_, _, _], _ => rfl
  have F13 := fun_mk (st := s_Digests__noted) l13 c13 k13
  have b13 := F13.binds (ps := ["self", "kind", "text", "digest"]) fun _ _ _ _ _ _ us hl => match us, hl with | [_, _, _, _], _ => rfl
  have F14 := fun_mk (st := s_Book___init) l14 c14 k14
  have b14 := F14.binds (ps := ["self"]) fun _ _ _ _ _ _ us hl => match us, hl with | [_], _ => rfl
  have F15 := fun_mk (st := s_Book_add) l15 c15 k15
  have b15 := F15.binds (ps := ["self", "kind", "text", "digest"]) fun _ _ _ _ _ _ us hl => match us, hl with | [_, _, _, _], _ => rfl
  have F16 := fun_mk (st := s_Book_count) l16 c16 k16
  have b16 := F16.binds (ps := ["self"]) fun _ _ _ _ _ _ us hl => match us, hl with | [_], _ => rfl
  have F17 := fun_mk (st := s_law_draws) l17 c17 k17
  have b17 := F17.binds (ps := ["script", "start", "most"]) fun _ _ _ _ _ _ us hl => match us, hl with | [_, _, _], _ => rfl
  have F18 := fun_mk (st := s_law_levels) l18 c18 k18
  have b18 := F18.binds (ps := ["digests", "row"]) fun _ _ _ _ _ _ us hl => match us, hl with | [_, _], _ => rfl
  have F19 := fun_mk (st := s_law_told) l19 c19 k19
  have b19 := F19.binds (ps := ["texts", "levels", "row", "places"]) fun _ _ _ _ _ _ us hl => match us, hl with | [_, _, _, _], _ => rfl
  have F20 := fun_mk (st := s_law) l20 c20 k20
  have b20 := F20.binds (ps := ["script"]) fun _ _ _ _ _ _ us hl => match us, hl with | [_], _ => rfl
  let T : Txt K mg := {
    f_root_of := ⟨⟨f0, _, F0, b0⟩, PySem.W.mg_of X G a0⟩
    f_path_of := ⟨⟨f1, _, F1, b1⟩, PySem.W.mg_of X G a1⟩
    f_levels_of := ⟨⟨f2, _, F2, b2⟩, PySem.W.mg_of X G a2⟩
    f_path_in := ⟨⟨f3, _, F3, b3⟩, PySem.W.mg_of X G a3⟩
    f_Memory___init := ⟨f4, _, F4, b4⟩
    f_Memory_word := ⟨f5, _, F5, b5⟩
    f_Memory_change := ⟨f6, _, F6, b6⟩
    f_Memory_words := ⟨f7, _, F7, b7⟩
    f_Memory_root := ⟨f8, _, F8, b8⟩
    f_Memory_path := ⟨f9, _, F9, b9⟩
    f_Digests___init := ⟨f10, _, F10, b10⟩
    f_Digests_leaf := ⟨f11, _, F11, b11⟩
    f_Digests_fold := ⟨f12, _, F12, b12⟩
    f_Digests__noted := ⟨f13, _, F13, b13⟩
    f_Book___init := ⟨f14, _, F14, b14⟩
    f_Book_add := ⟨f15, _, F15, b15⟩
    f_Book_count := ⟨f16, _, F16, b16⟩
    f_law_draws := ⟨⟨f17, _, F17, b17⟩, PySem.W.mg_of X G a17⟩
    f_law_levels := ⟨⟨f18, _, F18, b18⟩, PySem.W.mg_of X G a18⟩
    f_law_told := ⟨⟨f19, _, F19, b19⟩, PySem.W.mg_of X G a19⟩
    f_law := ⟨⟨f20, _, F20, b20⟩, PySem.W.mg_of X G a20⟩
    c_Memory := ⟨C_Memory, ⟨pg_Memory, hd_Memory, po_Memory, sa_Memory⟩, ⟨mk_Memory, a4, i4, kc_Memory⟩, PySem.W.mg_of X G aC_Memory⟩
    m_Memory_word := ⟨a5, i5, k5⟩
    m_Memory_change := ⟨a6, i6, k6⟩
    m_Memory_words := ⟨a7, i7, k7⟩
    m_Memory_root := ⟨a8, i8, k8⟩
    m_Memory_path := ⟨a9, i9, k9⟩
    n_Memory_digests := n_Memory_digests
    n_Memory_words := n_Memory_words
    n_Memory_levels := n_Memory_levels
    c_Digests := ⟨C_Digests, ⟨pg_Digests, hd_Digests, po_Digests, sa_Digests⟩, ⟨mk_Digests, a10, i10, kc_Digests⟩, PySem.W.mg_of X G aC_Digests⟩
    m_Digests_leaf := ⟨a11, i11, k11⟩
    m_Digests_fold := ⟨a12, i12, k12⟩
    m_Digests__noted := ⟨a13, i13, k13⟩
    n_Digests_bits := n_Digests_bits
    n_Digests_book := n_Digests_book
    n_Digests_modulus := n_Digests_modulus
    c_Book := ⟨C_Book, ⟨pg_Book, hd_Book, po_Book, sa_Book⟩, ⟨mk_Book, a14, i14, kc_Book⟩, PySem.W.mg_of X G aC_Book⟩
    m_Book_add := ⟨a15, i15, k15⟩
    m_Book_count := ⟨a16, i16, k16⟩
    n_Book_texts := n_Book_texts
    n_Book_firsts := n_Book_firsts
    n_Book_collided := n_Book_collided
    t_PLACES := t_PLACES
    g_PLACES := PySem.W.mg_of X G g_PLACES
    z_abs := PySem.W.mg_none_of X G z_abs
    z_int := PySem.W.mg_none_of X G z_int
    z_len := PySem.W.mg_none_of X G z_len
    z_list := PySem.W.mg_none_of X G z_list
    z_range := PySem.W.mg_none_of X G z_range
    z_tuple := PySem.W.mg_none_of X G z_tuple }
  exact ⟨PySem.W.fnOf "law" "law" (defArgs s_law) (defBody s_law) (defScope s_law) .none kV20 dc20 pm20 an20 cd20 ct20, fun s v => .of_eq rfl, fun base _ _ => ok_law T⟩
end My
open PySem PySem.W PyProof.Rows
set_option maxHeartbeats 0 in
theorem PySem.Challenge.cw_onestepcourt_k08_memory_holds : PySem.Challenge.rw_onestepcourt_k08_memory.Holds := by
  w_on; o_law; k_head; (case hw => w_witness2)
  k_fill
  refine L2.walk_of (l := PySem.Challenge.rw_onestepcourt_k08_memory) (n := 63) (k := 7) (x := "script") (CX := fun _ => L2.CX0) (sp := fun w => My.sp_law _) rfl (by decide) rfl ⟨rfl, by decide, by decide⟩ (fun w h Y => PySem.W.kIn_of Y) ?F (fun _ _ a ns hl _ hS => My.sp_law_of hl hS) (fun _ _ _ _ _ h => h)
  case F =>
    intro w mg fa h KX G hmg
    refine' My.all_mk KX G hmg ?aC_Book ?aC_Digests ?aC_Memory ?a0 ?l0 ?c0 ?k0 ?a1 ?l1 ?c1 ?k1 ?a2 ?l2 ?c2 ?k2 ?a3 ?l3 ?c3 ?k3 ?a4 ?i4 ?l4 ?c4 ?k4 ?a5 ?i5 ?l5 ?c5 ?k5 ?a6 ?i6 ?l6 ?c6 ?k6 ?a7 ?i7 ?l7 ?c7 ?k7 ?a8 ?i8 ?l8 ?c8 ?k8 ?a9 ?i9 ?l9 ?c9 ?k9 ?a10 ?i10 ?l10 ?c10 ?k10 ?a11 ?i11 ?l11 ?c11 ?k11 ?a12 ?i12 ?l12 ?c12 ?k12 ?a13 ?i13 ?l13 ?c13 ?k13 ?a14 ?i14 ?l14 ?c14 ?k14 ?a15 ?i15 ?l15 ?c15 ?k15 ?a16 ?i16 ?l16 ?c16 ?k16 ?a17 ?l17 ?c17 ?k17 ?a18 ?l18 ?c18 ?k18 ?a19 ?l19 ?c19 ?k19 ?a20 ?l20 ?c20 ?k20 ?pg_Memory ?hd_Memory ?po_Memory ?sa_Memory ?mk_Memory ?kc_Memory ?n_Memory_digests ?n_Memory_words ?n_Memory_levels ?pg_Digests ?hd_Digests ?po_Digests ?sa_Digests ?mk_Digests ?kc_Digests ?n_Digests_bits ?n_Digests_book ?n_Digests_modulus ?pg_Book ?hd_Book ?po_Book ?sa_Book ?mk_Book ?kc_Book ?n_Book_texts ?n_Book_firsts ?n_Book_collided ?g_PLACES ?z_abs ?z_int ?z_len ?z_list ?z_range ?z_tuple
    (case aC_Book => k_is)
    (case aC_Digests => k_is)
    (case aC_Memory => k_is)
    (case a0 => k_is)
    (case l0 => k_is)
    (case c0 => k_is)
    (case k0 => k_is)
    (case a1 => k_is)
    (case l1 => k_is)
    (case c1 => k_is)
    (case k1 => k_is)
    (case a2 => k_is)
    (case l2 => k_is)
    (case c2 => k_is)
    (case k2 => k_is)
    (case a3 => k_is)
    (case l3 => k_is)
    (case c3 => k_is)
    (case k3 => k_is)
    (case a4 => k_is)
    (case i4 => k_is)
    (case l4 => k_is)
    (case c4 => k_is)
    (case k4 => k_is)
    (case a5 => k_is)
    (case i5 => k_is)
    (case l5 => k_is)
    (case c5 => k_is)
    (case k5 => k_is)
    (case a6 => k_is)
    (case i6 => k_is)
    (case l6 => k_is)
    (case c6 => k_is)
    (case k6 => k_is)
    (case a7 => k_is)
    (case i7 => k_is)
    (case l7 => k_is)
    (case c7 => k_is)
    (case k7 => k_is)
    (case a8 => k_is)
    (case i8 => k_is)
    (case l8 => k_is)
    (case c8 => k_is)
    (case k8 => k_is)
    (case a9 => k_is)
    (case i9 => k_is)
    (case l9 => k_is)
    (case c9 => k_is)
    (case k9 => k_is)
    (case a10 => k_is)
    (case i10 => k_is)
    (case l10 => k_is)
    (case c10 => k_is)
    (case k10 => k_is)
    (case a11 => k_is)
    (case i11 => k_is)
    (case l11 => k_is)
    (case c11 => k_is)
    (case k11 => k_is)
    (case a12 => k_is)
    (case i12 => k_is)
    (case l12 => k_is)
    (case c12 => k_is)
    (case k12 => k_is)
    (case a13 => k_is)
    (case i13 => k_is)
    (case l13 => k_is)
    (case c13 => k_is)
    (case k13 => k_is)
    (case a14 => k_is)
    (case i14 => k_is)
    (case l14 => k_is)
    (case c14 => k_is)
    (case k14 => k_is)
    (case a15 => k_is)
    (case i15 => k_is)
    (case l15 => k_is)
    (case c15 => k_is)
    (case k15 => k_is)
    (case a16 => k_is)
    (case i16 => k_is)
    (case l16 => k_is)
    (case c16 => k_is)
    (case k16 => k_is)
    (case a17 => k_is)
    (case l17 => k_is)
    (case c17 => k_is)
    (case k17 => k_is)
    (case a18 => k_is)
    (case l18 => k_is)
    (case c18 => k_is)
    (case k18 => k_is)
    (case a19 => k_is)
    (case l19 => k_is)
    (case c19 => k_is)
    (case k19 => k_is)
    (case a20 => k_is)
    (case l20 => k_is)
    (case c20 => k_is)
    (case k20 => k_is)
    (case pg_Memory => k_is)
    (case hd_Memory => k_is)
    (case po_Memory => k_is)
    (case sa_Memory => k_is)
    (case mk_Memory => k_is)
    (case kc_Memory => k_is)
    (case n_Memory_digests => k_is)
    (case n_Memory_words => k_is)
    (case n_Memory_levels => k_is)
    (case pg_Digests => k_is)
    (case hd_Digests => k_is)
    (case po_Digests => k_is)
    (case sa_Digests => k_is)
    (case mk_Digests => k_is)
    (case kc_Digests => k_is)
    (case n_Digests_bits => k_is)
    (case n_Digests_book => k_is)
    (case n_Digests_modulus => k_is)
    (case pg_Book => k_is)
    (case hd_Book => k_is)
    (case po_Book => k_is)
    (case sa_Book => k_is)
    (case mk_Book => k_is)
    (case kc_Book => k_is)
    (case n_Book_texts => k_is)
    (case n_Book_firsts => k_is)
    (case n_Book_collided => k_is)
    (case g_PLACES => k_is)
    (case z_abs => k_is)
    (case z_int => k_is)
    (case z_len => k_is)
    (case z_list => k_is)
    (case z_range => k_is)
    (case z_tuple => k_is)


