import PyProof.Rows.All
import Wide.All
import OpenK.AllK
import Wide.FinOn
import HandS.ForMost
import HandS.Wide
import HandS.Evl
import HandS.IsInst
import HandS.TupAny
import HandS.TupMul
import HandS.TupLe
import HandS.Dict
import HandS.Conv
import HandS.SetKeys
import HandS.TupLen
import KE.KDictKeyed
import HandS.Deep
import HandS.Style
import PySem.Challenge.RW_onestepcourt_k01_digests
set_option Elab.async false
set_option linter.all false
set_option maxRecDepth 100000
namespace Kit
open PySem PySem.Spec PyProof.Rows L2 Evl
abbrev St := L2.St
/-! ### facts of the text -/
structure GFn (K : PySem.W.Frag) (x qual : Str) (st : Stmt) (ps : List Str) where
  f : Addr
  fd : FuncData
  F : Fun K x qual st f fd
  b : Binds K fd ps []
structure GFn' (K : PySem.W.Frag) (mg : Str → Option Value) (x qual : Str) (st : Stmt) (ps : List Str) extends GFn K x qual st ps where
  g : mg x = some (.ref f)
structure GCl (K : PySem.W.Frag) (mg : Str → Option Value) (x : Str) (fI : Addr) where
  C : Addr
  cl : Cls K C
  M : Mk K C fI
  g : mg x = some (.ref C)
/-- an attribute read; a method's receiver; a new instance; an attribute stored -/
def FldOf (K : PySem.W.Frag) (f : Str) (x : V) (H : Hp) (Q : VK) : Prop := ∃ a C dx fs v, x = .ref a ∧ H a = some (.ins C dx fs) ∧ Cls K C ∧ NoAttr K C f ∧ fs.lookup f = some v ∧ Q v H
def InsOf (C : Addr) (m : Str) (x : V) (H : Hp) (R : Prop) : Prop := ∃ a dx fs, x = .ref a ∧ H a = some (.ins C dx fs) ∧ fs.lookup m = none ∧ R
def MakeOf (C : Addr) (sp : Sp) (E : XK) (vs : List V) (H : Hp) (Q : VK) : Prop := ∀ x dx, H x = none → H dx = none → dx ≠ x → sp (.ref x :: vs) (upd (upd H dx (.own x)) x (.ins C dx [])) (fun v H2 => v = .non ∧ Q (.ref x) H2) E
def PutOf (K : PySem.W.Frag) (f : Str) (y x : V) (H : Hp) (R : Hp → Prop) : Prop := ∃ a C dx fs, x = .ref a ∧ H a = some (.ins C dx fs) ∧ Cls K C ∧ NoAttr K C f ∧ fs.length < 1000 ∧ R (upd H a (.ins C dx (putF f y fs)))
/-- a new object of so many items -/
def Alloc (n : Nat) (o : HO) (H : Hp) (Q : VK) : Prop := n ≤ sizeLine ∧ ∀ p, H p = none → Q (.ref p) (upd H p o)
/-! ### a statement with its four ways out -/
def Sm (t : TS) (nx : St → Hp → Prop) (rt : VK) (bk ct : St → Hp → Prop) (σ : St) (H : Hp) : Prop := t ⟨nx, rt, bk, ct⟩ σ H
section
variable {σ : St} {H H1 H2 : Hp} {Q : VK} {R : Bool → Hp → Prop} {A : List V → Hp → Prop} {i n : Nat} {v x y : V} {ta tb te tv : TE} {tl tr : TA} {b : Bool} {K : PySem.W.Frag} {a C dx p : Addr} {fs : List (Str × V)} {f : Str} {t u c : TT}
theorem w_var (h : σ[i]? = some (some v)) (q : Q v H) : tVar i σ H Q := ⟨v, h, q⟩
theorem w_c (q : Q v H) : tC v σ H Q := q
theorem w_op {r : R2} (h : ta σ H fun x H1 => tb σ H1 fun y H2 => r x y H2 Q) : tOp r ta tb σ H Q := h
theorem w_un {r : V → Hp → VK → Prop} (h : ta σ H fun x H1 => r x H1 Q) : tUn r ta σ H Q := h
theorem w_cb {r : List V → Hp → VK → Prop} (h : tl σ H fun vs H1 => r vs H1 Q) : tCB r tl σ H Q := h
theorem w_nil (q : A [] H) : tNil σ H A := q
theorem w_cons (h : te σ H fun x H1 => tr σ H1 fun xs H2 => A (x :: xs) H2) : tCons te tr σ H A := h
theorem w_tup (h : tl σ H fun xs H1 => Alloc xs.length (.tup xs) H1 Q) : tTup tl σ H Q := h
theorem w_lst (h : tl σ H fun xs H1 => Alloc xs.length (.lst xs) H1 Q) : tLst tl σ H Q := h
theorem w_call {sp : Sp} {dvs : List V} {E : XK} (h : tl σ H fun vs H1 => sp (vs ++ dvs) H1 Q E) : tCall sp dvs E tl σ H Q := h
theorem w_test (h : te σ H fun x H' => ∃ k, x = .bl k ∧ R k H') : tTest te σ H R := h
theorem w_B (h : te σ H fun x H' => ∃ k, x = .bl k ∧ R k H') : tB te σ H R := h
theorem w_and (h : t σ H fun c H1 => if c = true then u σ H1 R else R false H1) : tAnd t u σ H R := h
theorem w_or (h : t σ H fun c H1 => if c = true then R true H1 else u σ H1 R) : tOr t u σ H R := h
theorem w_not (h : t σ H fun c H1 => R (!c) H1) : tNot t σ H R := h
theorem w_andV (h : ta σ H fun x H1 => ∃ c, x = .bl c ∧ if c = true then tb σ H1 Q else Q (.bl false) H1) : tAndV ta tb σ H Q := h
theorem w_orV (h : ta σ H fun x H1 => ∃ c, x = .bl c ∧ if c = true then Q (.bl true) H1 else tb σ H1 Q) : tOrV ta tb σ H Q := h
theorem w_notV (h : ta σ H fun x H1 => ∃ c, x = .bl c ∧ Q (.bl (!c)) H1) : tNotV ta σ H Q := h
theorem w_ifE (h : t σ H fun c H1 => if c = true then ta σ H1 Q else tb σ H1 Q) : tIf t ta tb σ H Q := h
theorem w_fld (h : ta σ H fun x H1 => FldOf K f x H1 Q) : tFld K ta f σ H Q := h
theorem w_rd {v : V} (h : H a = some (.ins C dx fs)) (cl : Cls K C) (n : NoAttr K C f) (l : fs.lookup f = some v) (q : Q v H) : FldOf K f (.ref a) H Q := ⟨a, C, dx, fs, v, rfl, h, cl, n, l, q⟩
theorem w_meth {m : Str} {sp : Sp} {E : XK} (h : ta σ H fun x H1 => InsOf C m x H1 (tl σ H1 fun vs H2 => sp (x :: vs) H2 Q E)) : tMeth C m sp [] E ta tl σ H Q := by
  have e : tMeth C m sp [] E ta tl σ H Q = (ta σ H fun x H1 => InsOf C m x H1 (tl σ H1 fun vs H2 => sp (x :: vs) H2 Q E)) := by unfold tMeth InsOf; simp only [List.append_nil]
  rw [e]; exact h
theorem w_ins {m : Str} {R : Prop} (h : H a = some (.ins C dx fs)) (l : fs.lookup m = none) (r : R) : InsOf C m (.ref a) H R := ⟨a, dx, fs, rfl, h, l, r⟩
theorem w_make {sp : Sp} {E : XK} (h : tl σ H fun vs H1 => MakeOf C sp E vs H1 Q) : tMake C sp [] E tl σ H Q := by
  have e : tMake C sp [] E tl σ H Q = (tl σ H fun vs H1 => MakeOf C sp E vs H1 Q) := by unfold tMake MakeOf; simp only [List.append_nil]
  rw [e]; exact h
theorem w_made {sp : Sp} {E : XK} {vs : List V} (h : ∀ x dx H2, H x = none → Ex H H2 → H2 x = some (.ins C dx []) → sp (.ref x :: vs) H2 (fun v H3 => v = .non ∧ Q (.ref x) H3) E) : MakeOf C sp E vs H Q :=
  fun x dx hx hd hn => h x dx _ hx (fun b o hb => by rw [upd_ne (ne_of_none hb hx), upd_ne (ne_of_none hb hd)]; exact hb) upd_same
theorem w_bl {k : Bool} (q : R k H) : ∃ k', V.bl k = .bl k' ∧ R k' H := ⟨k, rfl, q⟩
theorem w_blE {k : Bool} {P : Bool → Prop} (q : P k) : ∃ k', V.bl k = .bl k' ∧ P k' := ⟨k, rfl, q⟩
/-- operators -/
theorem w_I0 {g : Int → Int → V} {i j : Int} (q : Q (g i j) H) : rI0 g (.int i) (.int j) H Q := ⟨i, j, rfl, rfl, q⟩
theorem w_I {C : Int → Int → Prop} {g : Int → Int → V} {i j : Int} (hc : C i j) (q : Q (g i j) H) : rI C g (.int i) (.int j) H Q := ⟨i, j, rfl, rfl, hc, q⟩
theorem w_U {g : Int → V} {i : Int} (q : Q (g i) H) : rU g (.int i) H Q := ⟨i, rfl, q⟩
theorem w_eqI {i j : Int} (q : Q (.bl (decide (i = j))) H) : rEq (.int i) (.int j) H Q := ⟨rfl, by
  have e : decide (V.int i = V.int j) = decide (i = j) := by
    by_cases h : i = j
    · subst h; rw [decide_eq_true rfl, decide_eq_true rfl]
    · rw [decide_eq_false h, decide_eq_false (fun z => h (V.int.inj z))]
  rw [e]; exact q⟩
theorem w_neI {i j : Int} (q : Q (.bl (!decide (i = j))) H) : rNe (.int i) (.int j) H Q := ⟨rfl, by
  have e : decide (V.int i = V.int j) = decide (i = j) := by
    by_cases h : i = j
    · subst h; rw [decide_eq_true rfl, decide_eq_true rfl]
    · rw [decide_eq_false h, decide_eq_false (fun z => h (V.int.inj z))]
  rw [e]; exact q⟩
theorem w_eqB {i j : Bool} (q : Q (.bl (i == j)) H) : rEq (.bl i) (.bl j) H Q := ⟨rfl, by rw [dec_bl]; exact q⟩
theorem w_neB {i j : Bool} (q : Q (.bl (!(i == j))) H) : rNe (.bl i) (.bl j) H Q := ⟨rfl, by rw [dec_bl]; exact q⟩
theorem w_eqS {i : Str} (q : Q (.bl true) H) : rEq (.str i) (.str i) H Q := ⟨rfl, by rw [decide_eq_true rfl]; exact q⟩
theorem w_eqSF {i j : Str} (h : decide (i = j) = false) (q : Q (.bl false) H) : rEq (.str i) (.str j) H Q := ⟨rfl, by
  rw [decide_eq_false (fun z => of_decide_eq_false h (V.str.inj z))]; exact q⟩
theorem w_eqSd {i j : Str} (q : Q (.bl (decide (i = j))) H) : rEq (.str i) (.str j) H Q := ⟨rfl, by
  have e : decide (V.str i = V.str j) = decide (i = j) := by
    by_cases h : i = j
    · subst h; rw [decide_eq_true rfl, decide_eq_true rfl]
    · rw [decide_eq_false h, decide_eq_false (fun z => h (V.str.inj z))]
  rw [e]; exact q⟩
theorem w_neS {i : Str} (q : Q (.bl false) H) : rNe (.str i) (.str i) H Q := ⟨rfl, by rw [decide_eq_true rfl]; exact q⟩
theorem w_isN (q : Q (.bl (decide (x = .non))) H) : (fun (x y : V) (H : Hp) (Q : VK) => y = .non ∧ Q (.bl (decide (x = .non))) H) x .non H Q := ⟨rfl, q⟩
theorem w_ixL {p : Addr} {xs : List V} {i : Int} (h : SqL K H p xs) (ha : atI xs i = some v) (q : Q v H) : rIxL K (.ref p) (.int i) H Q := ⟨p, xs, i, v, rfl, rfl, h, ha, q⟩
theorem w_ixT {p : Addr} {xs : List V} {i : Int} (h : SqT K H p xs) (ha : atI xs i = some v) (q : Q v H) : rIxT K (.ref p) (.int i) H Q := ⟨p, xs, i, v, rfl, rfl, h, ha, q⟩
theorem w_inL {neg : Bool} {p : Addr} {xs : List V} (h : SqL K H p xs) (hx : flatV x = true) (ha : xs.all flatV = true) (q : Q (.bl (if neg then !inV x xs else inV x xs)) H) : rIn K neg x (.ref p) H Q := ⟨p, xs, rfl, Or.inl h, hx, ha, q⟩
theorem w_inT {neg : Bool} {p : Addr} {xs : List V} (h : SqT K H p xs) (hx : flatV x = true) (ha : xs.all flatV = true) (q : Q (.bl (if neg then !inV x xs else inV x xs)) H) : rIn K neg x (.ref p) H Q := ⟨p, xs, rfl, Or.inr h, hx, ha, q⟩
theorem w_call0 {sp : Sp} {E : XK} (h : tl σ H fun vs H1 => sp vs H1 Q E) : tCall sp [] E tl σ H Q := by
  have e : tCall sp [] E tl σ H Q = (tl σ H fun vs H1 => sp vs H1 Q E) := by unfold tCall; simp only [List.append_nil]
  rw [e]; exact h
theorem w_inLt {p : Addr} {xs : List V} (h : SqL K H p xs ∨ SqT K H p xs) (hb : (flatV x && xs.all flatV && inV x xs) = true) (q : Q (.bl true) H) : rIn K false x (.ref p) H Q := by
  simp only [Bool.and_eq_true] at hb
  exact ⟨p, xs, rfl, h, hb.1.1, hb.1.2, by rw [hb.2]; exact q⟩
theorem w_inLf {p : Addr} {xs : List V} (h : SqL K H p xs ∨ SqT K H p xs) (hb : (flatV x && xs.all flatV && !inV x xs) = true) (q : Q (.bl false) H) : rIn K false x (.ref p) H Q := by
  simp only [Bool.and_eq_true, Bool.not_eq_true'] at hb
  exact ⟨p, xs, rfl, h, hb.1.1, hb.1.2, by rw [hb.2]; exact q⟩
/-- built-ins by names -/
def rInt : List V → Hp → VK → Prop := fun xs H Q => (∃ i, xs = [.int i] ∧ Q (.int i) H) ∨ ∃ k, xs = [.bl k] ∧ Q (.int (if k then 1 else 0)) H
def rMax : List V → Hp → VK → Prop := fun xs H Q => ∃ i j, xs = [.int i, .int j] ∧ Q (.int (if j > i then j else i)) H
def rMin : List V → Hp → VK → Prop := fun xs H Q => ∃ i j, xs = [.int i, .int j] ∧ Q (.int (if j < i then j else i)) H
def rAbs : List V → Hp → VK → Prop := fun xs H Q => ∃ i, xs = [.int i] ∧ Q (.int (if i < 0 then -i else i)) H
def rTupS (K : PySem.W.Frag) : List V → Hp → VK → Prop := fun xs H Q => ∃ p ys, xs = [.ref p] ∧ ((SqL K H p ys ∧ ∀ l, H l = none → Q (.ref l) (upd H l (.tup ys))) ∨ (SqT K H p ys ∧ Q (.ref p) H))
theorem k_int {X : Cx} : CallR X (.type "int") rInt := call_int1
theorem k_max {X : Cx} (hc : X.calm = true) : CallR X (.builtin "max") rMax := call_max2 hc
theorem k_min {X : Cx} (hc : X.calm = true) : CallR X (.builtin "min") rMin := call_min2 hc
theorem k_abs {X : Cx} : CallR X (.builtin "abs") rAbs := call_abs
theorem k_len {X : Cx} : CallR X (.builtin "len") (rLenS X.K) := call_len_seq
theorem k_list {X : Cx} : CallR X (.type "list") (rListS X.K) := call_list_of
theorem k_tuple {X : Cx} : CallR X (.type "tuple") (rTupS X.K) := call_tuple_of
theorem w_int {i : Int} (q : Q (.int i) H) : rInt [.int i] H Q := .inl ⟨i, rfl, q⟩
theorem w_intB {k : Bool} (q : Q (.int (if k = true then 1 else 0)) H) : rInt [.bl k] H Q := .inr ⟨k, rfl, q⟩
theorem w_max {i j : Int} (q : Q (.int (if j > i then j else i)) H) : rMax [.int i, .int j] H Q := ⟨i, j, rfl, q⟩
theorem w_min {i j : Int} (q : Q (.int (if j < i then j else i)) H) : rMin [.int i, .int j] H Q := ⟨i, j, rfl, q⟩
theorem w_abs {i : Int} (q : Q (.int (if i < 0 then -i else i)) H) : rAbs [.int i] H Q := ⟨i, rfl, q⟩
theorem w_len {p : Addr} {xs : List V} (h : SqL K H p xs ∨ SqT K H p xs) (q : Q (.int (xs.length : Int)) H) : rLenS K [.ref p] H Q := ⟨p, xs, rfl, h, q⟩
theorem w_list {p : Addr} {xs : List V} (h : SqL K H p xs ∨ SqT K H p xs) (q : ∀ l H2, H l = none → Ex H H2 → H2 l = some (.lst xs) → Q (.ref l) H2) : rListS K [.ref p] H Q := ⟨p, xs, rfl, h, fun l hl => q l _ hl (Ex.new hl) upd_same⟩
theorem w_tuple {p : Addr} {xs : List V} (h : SqL K H p xs) (q : ∀ l H2, H l = none → Ex H H2 → H2 l = some (.tup xs) → Q (.ref l) H2) : rTupS K [.ref p] H Q := ⟨p, xs, rfl, .inl ⟨h, fun l hl => q l _ hl (Ex.new hl) upd_same⟩⟩
theorem w_tupleT {p : Addr} {xs : List V} (h : SqT K H p xs) (q : Q (.ref p) H) : rTupS K [.ref p] H Q := ⟨p, xs, rfl, .inr ⟨h, q⟩⟩
def rIsNo : R2 := fun x y H Q => y = .non ∧ Q (.bl (decide (x = .non))) H
def rNotNo : R2 := fun x y H Q => y = .non ∧ Q (.bl (!decide (x = .non))) H
theorem k_isN {X : Cx} : OpR X (compareOp .Is) rIsNo := op_isN
theorem k_notN {X : Cx} : OpR X (compareOp .IsNot) rNotNo := op_notN
theorem w_isNN (q : Q (.bl true) H) : rIsNo .non .non H Q := ⟨rfl, q⟩
theorem w_isNI {i : Int} (q : Q (.bl false) H) : rIsNo (.int i) .non H Q := ⟨rfl, q⟩
theorem w_isNB {i : Bool} (q : Q (.bl false) H) : rIsNo (.bl i) .non H Q := ⟨rfl, q⟩
theorem w_isNR {i : Addr} (q : Q (.bl false) H) : rIsNo (.ref i) .non H Q := ⟨rfl, q⟩
theorem w_notNN (q : Q (.bl false) H) : rNotNo .non .non H Q := ⟨rfl, q⟩
theorem w_notNI {i : Int} (q : Q (.bl true) H) : rNotNo (.int i) .non H Q := ⟨rfl, q⟩
theorem w_notNB {i : Bool} (q : Q (.bl true) H) : rNotNo (.bl i) .non H Q := ⟨rfl, q⟩
theorem w_notNR {i : Addr} (q : Q (.bl true) H) : rNotNo (.ref i) .non H Q := ⟨rfl, q⟩
theorem w_dget {td ty : TE} (h : td σ H fun x H1 => ty σ H1 fun y H2 => ∃ a v, x = .ref a ∧ DGet H2 a y (some v) ∧ Q v H2) : tDGet td ty σ H Q := h
theorem w_disp {trs : List (TE × TE)} (h : ∀ p H1, H p = none → Ex H H1 → H1 p = some (.dK []) → tPairs trs σ H1 fun ps H2 => H2 p = some (.dK []) ∧ ∃ kvs : List (Key × V), ps = kvs.map (fun kv => (kV kv.1, kv.2)) ∧ kvs.length ≤ 15 ∧ Q (.ref p) (upd H2 p (.dK (mergeK [] kvs)))) : tDisp trs σ H Q :=
  fun p hp => h p _ hp (Ex.new hp) upd_same
theorem w_pp {tk tv : TE} {r : List (TE × TE)} {B : List (V × V) → Hp → Prop} (h : tk σ H fun x H1 => tv σ H1 fun y H2 => tPairs r σ H2 fun ps H3 => B ((x, y) :: ps) H3) : tPairs ((tk, tv) :: r) σ H B := h
theorem w_pn {B : List (V × V) → Hp → Prop} (h : B [] H) : tPairs [] σ H B := h
theorem w_bm {T : String} {r : V → List V → Hp → VK → Prop} {to : TE} (h : to σ H fun x H1 => tyV K T x H1 ∧ tl σ H1 fun xs H2 => r x xs H2 Q) : tBM K T r to tl σ H Q := h
theorem w_bm0 {T : String} {r : V → List V → Hp → VK → Prop} {to : TE} (h : to σ H fun x H1 => tyV K T x H1 ∧ r x [] H1 Q) : tBM0 K T r to σ H Q := h
theorem w_tyL {p : Addr} {xs : List V} {W : Prop} (h : SqL K H p xs) (r : W) : tyV K "list" (.ref p) H ∧ W := ⟨Or.inl ⟨rfl, _, h⟩, r⟩
theorem w_app {l : Addr} {xs : List V} {y : V} (h : H l = some (.lst xs)) (hz : xs.length < 100000) (q : ∀ H2, (∀ b o, b ≠ l → H b = some o → H2 b = some o) → H2 l = some (.lst (xs ++ [y])) → Q .non H2) : rAppend (.ref l) [y] H Q :=
  ⟨l, xs, y, rfl, rfl, h, sz_lt hz, q _ (fun b o n hb => by rw [upd_ne n]; exact hb) upd_same⟩
theorem w_sl {r : V → Option Int → Option Int → Hp → VK → Prop} {to th : TO} (h : te σ H fun x H1 => to σ H1 fun l H2 => th σ H2 fun u H3 => r x l u H3 Q) : tSl r te to th σ H Q := h
theorem w_po {W : Option Int → Hp → Prop} (h : W none H) : tNoPart σ H W := h
def PartOf (W : Option Int → Hp → Prop) (x : V) (H : Hp) : Prop := ∃ i, x = .int i ∧ W (some i) H
theorem w_ps {W : Option Int → Hp → Prop} (h : te σ H fun x H1 => PartOf W x H1) : tPart te σ H W := h
theorem w_pi {W : Option Int → Hp → Prop} {i : Int} (h : W (some i) H) : PartOf W (.int i) H := ⟨i, rfl, h⟩
theorem w_slL {a : Addr} {xs : List V} {lo hi : Option Int} (h : SqL K H a xs) (q : ∀ p H2, H p = none → Ex H H2 → H2 p = some (.lst (cutV xs lo hi)) → Q (.ref p) H2) : rSlL K (.ref a) lo hi H Q := ⟨a, xs, rfl, h, fun p hp => q p _ hp (Ex.new hp) upd_same⟩
theorem cut_whole {xs : List V} {lo hi : Option Int} (h : HT.sIx xs.length 0 lo = 0 ∧ HT.sIx xs.length xs.length hi = xs.length) : cutV xs lo hi = xs := by
  unfold cutV
  rw [h.1, h.2]
  simp
theorem w_slT {a : Addr} {xs : List V} {lo hi : Option Int} (h : SqT K H a xs) (q : ∀ p H2, Ex H H2 → SqT K H2 p (cutV xs lo hi) → Q (.ref p) H2) : rSlA K (.ref a) lo hi H Q :=
  ⟨a, xs, rfl, h, fun e => q a H (Ex.refl H) (by rw [cut_whole e]; exact h), fun _ p hp => q p _ (Ex.new hp) (st_of upd_same)⟩
theorem w_catT {a b : Addr} {xs ys : List V} (h : SqT K H a xs) (h2 : SqT K H b ys) (hl : xs.length + ys.length ≤ 100000) (q : ∀ p H2, Ex H H2 → SqT K H2 p (xs ++ ys) → Q (.ref p) H2) : rCatA K (.ref a) (.ref b) H Q :=
  ⟨a, b, xs, ys, rfl, rfl, h, h2, sz_of hl, fun e => q b H (Ex.refl H) (by rw [e]; exact h2), fun _ e => q a H (Ex.refl H) (by rw [e, List.append_nil]; exact h), fun _ _ p hp => q p _ (Ex.new hp) (st_of upd_same)⟩
theorem w_catL {a b : Addr} {xs ys : List V} (h : H a = some (.lst xs)) (h2 : H b = some (.lst ys)) (hl : xs.length + ys.length ≤ 100000) (q : ∀ p H2, H p = none → Ex H H2 → H2 p = some (.lst (xs ++ ys)) → Q (.ref p) H2) : rCat (.ref a) (.ref b) H Q :=
  ⟨a, b, xs, ys, rfl, rfl, h, h2, sz_of hl, fun p hp => q p _ hp (Ex.new hp) upd_same⟩
theorem w_isi {x : V} {n : String} {t : String} {b : Bool} (ty : TyX K H x (.type t)) (e : kitB t n = some b) (q : Q (.bl b) H) : rIsi K [x, .ty n] H Q := ⟨x, .ty n, .type t, .type n, b, rfl, ClsV.ty n, ty, kit_ty e, q⟩
theorem w_isiInt {i : Int} {n : String} {b : Bool} (e : kitB "int" n = some b) (q : Q (.bl b) H) : rIsi K [.int i, .ty n] H Q := w_isi (.base (.int i)) e q
theorem w_isiNon {n : String} {b : Bool} (e : kitB "NoneType" n = some b) (q : Q (.bl b) H) : rIsi K [.non, .ty n] H Q := w_isi (.base .non) e q
theorem w_isiBl {i : Bool} {n : String} {b : Bool} (e : kitB "bool" n = some b) (q : Q (.bl b) H) : rIsi K [.bl i, .ty n] H Q := w_isi (.base (.bl i)) e q
theorem w_isiStr {i : Str} {n : String} {b : Bool} (e : kitB "str" n = some b) (q : Q (.bl b) H) : rIsi K [.str i, .ty n] H Q := w_isi (.base (.str i)) e q
theorem w_isiTup {p : Addr} {xs : List V} {n : String} {b : Bool} (h : SqT K H p xs) (e : kitB "tuple" n = some b) (q : Q (.bl b) H) : rIsi K [.ref p, .ty n] H Q := by
  rcases h with (h | ⟨o, h⟩) | ⟨o, _, _, h, c, _⟩
  · exact w_isi (.base (.tup h)) e q
  · exact w_isi (.fTuple h) e q
  · exact w_isi (.kTuple h c) e q
theorem w_isiLst {p : Addr} {xs : List V} {n : String} {b : Bool} (h : SqL K H p xs) (e : kitB "list" n = some b) (q : Q (.bl b) H) : rIsi K [.ref p, .ty n] H Q := by
  rcases h with (h | ⟨o, h⟩) | ⟨o, _, _, h, c, _⟩
  · exact w_isi (.base (.lst h)) e q
  · exact w_isi (.base (.frz h)) e q
  · exact w_isi (.kList h c) e q
theorem w_isiDK {p : Addr} {xs : List (Key × V)} {n : String} {b : Bool} (h : H p = some (.dK xs)) (e : kitB "dict" n = some b) (q : Q (.bl b) H) : rIsi K [.ref p, .ty n] H Q := w_isi (.base (.dK h)) e q
theorem w_neD {d e : PyData} (hx : Dp K H x d) (hy : Dp K H y e) (sd : SeqAt.shaped d = true) (se : SeqAt.shaped e = true) (q : Q (.bl (!PyData.eqv d e)) H) : rNeD K x y H Q := ⟨d, e, hx, hy, sd, se, q⟩
theorem w_eqD {d e : PyData} (hx : Dp K H x d) (hy : Dp K H y e) (sd : SeqAt.shaped d = true) (se : SeqAt.shaped e = true) (q : Q (.bl (PyData.eqv d e)) H) : rEqD K x y H Q := ⟨d, e, hx, hy, sd, se, q⟩
/-- a flat value as data -/
def flatD : V → PyData
  | .bl b => .bool b
  | .int i => .int i
  | .str x => .str x
  | _ => .none
def isFl : V → Bool
  | .non | .bl _ | .int _ | .str _ => true
  | _ => false
theorem dp_flat {v : V} (h : isFl v = true) : Dp K H v (flatD v) := by
  cases v <;> first | exact .non | exact .bl _ | exact .int _ | exact .str _ | cases h
theorem dp_flats : ∀ {vs : List V}, vs.all isFl = true → DpAll K H vs (vs.map flatD)
  | [], _ => .nil
  | v :: vs, h => by
    rw [List.all_cons, Bool.and_eq_true] at h
    exact .cons (dp_flat h.1) (dp_flats h.2)
theorem dp_lst {p : Addr} {vs : List V} (h : SqL K H p vs) (f : vs.all isFl = true) : Dp K H (.ref p) (.list (vs.map flatD)) := .lst h (dp_flats f)
theorem dp_tup {p : Addr} {vs : List V} (h : SqT K H p vs) (f : vs.all isFl = true) : Dp K H (.ref p) (.tuple (vs.map flatD)) := .tup h (dp_flats f)
theorem int_at {ns : List Int} {k : Int} (h0 : 0 ≤ k) (h : k < ((ns.map V.int).length : Int)) : ∃ c, atI (ns.map V.int) k = some (.int c) := by
  obtain ⟨j, rfl⟩ := Int.eq_ofNat_of_zero_le h0
  have hj : j < ns.length := by rw [List.length_map] at h; omega
  refine ⟨ns[j], atI_nat (j := j) ?_⟩
  rw [List.getElem?_map, List.getElem?_eq_getElem hj]
  rfl
/-- a new object -/
theorem w_new {m : Nat} {o : HO} (hm : m ≤ 100000) (k : ∀ p H2, H p = none → Ex H H2 → H2 p = some o → Q (.ref p) H2) : Alloc m o H Q :=
  ⟨sz_of hm, fun p hp => k p _ hp (Ex.new hp) upd_same⟩
/-- ifs over a known bool -/
theorem i_T {A B : Prop} (h : A) : if true = true then A else B := iteT h
theorem i_F {A B : Prop} (h : B) : if false = true then A else B := iteF h
theorem i_N {A B : Prop} {k : Bool} (h : if k = true then B else A) : if (!k) = true then A else B := by
  cases k
  · exact iteT (by rw [if_neg Bool.false_ne_true] at h; exact h)
  · exact iteF (by rw [if_pos rfl] at h; exact h)
theorem i_D {A B c : Prop} [Decidable c] (h1 : c → A) (h2 : ¬ c → B) : if decide c = true then A else B := by
  by_cases h : c
  · rw [decide_eq_true h]; exact iteT (h1 h)
  · rw [decide_eq_false h]; exact iteF (h2 h)
theorem i_R {A B : Prop} {α : Type} {x : α} [Decidable (x = x)] (h : A) : if decide (x = x) = true then A else B := by rw [decide_eq_true rfl]; exact iteT h
theorem i_DT {A B c : Prop} [Decidable c] (h : c) (h1 : A) : if decide c = true then A else B := by rw [decide_eq_true h]; exact iteT h1
theorem i_DF {A B c : Prop} [Decidable c] (h : ¬ c) (h1 : B) : if decide c = true then A else B := by rw [decide_eq_false h]; exact iteF h1
theorem i_B {A B : Prop} {k : Bool} (h1 : k = true → A) (h2 : k = false → B) : if k = true then A else B := by
  cases k
  · exact iteF (h2 rfl)
  · exact iteT (h1 rfl)
end
section
variable {σ : St} {H : Hp} {nx bk ct : St → Hp → Prop} {rt : VK} {t u : TS} {c : TT} {te : TE} {i : Nat} {K : PySem.W.Frag}
theorem m_norm {σ' : St} (e : σ = σ') (h : Sm t nx rt bk ct σ' H) : Sm t nx rt bk ct σ H := by rw [e]; exact h
theorem m_seq (h : Sm t (fun σ H => Sm u nx rt bk ct σ H) rt bk ct σ H) : Sm (tSeq t u) nx rt bk ct σ H := h
theorem m_cut (M : St → Hp → Prop) (h : Sm t M rt bk ct σ H) (k : ∀ σ H, M σ H → Sm u nx rt bk ct σ H) : Sm (tCut t u) nx rt bk ct σ H := ⟨M, h, k⟩
theorem m_asg (h : te σ H fun v H1 => nx (σ.set i (some v)) H1) : Sm (tAsg te (gName i)) nx rt bk ct σ H := h
theorem m_asgG {g : TG} (h : te σ H fun v H1 => g v σ H1 nx) : Sm (tAsg te g) nx rt bk ct σ H := h
theorem m_ret (h : te σ H rt) : Sm (tRet te) nx rt bk ct σ H := h
theorem m_retN (h : rt .non H) : Sm tRetN nx rt bk ct σ H := h
theorem m_drop (h : te σ H fun _ H1 => nx σ H1) : Sm (tDrop te) nx rt bk ct σ H := h
theorem m_next (h : nx σ H) : Sm tNext nx rt bk ct σ H := h
theorem m_brk (h : bk σ H) : Sm tBreak nx rt bk ct σ H := h
theorem m_cont (h : ct σ H) : Sm tCont nx rt bk ct σ H := h
theorem m_if (h : c σ H fun b H1 => if b = true then Sm t nx rt bk ct σ H1 else Sm u nx rt bk ct σ H1) : Sm (tIfS c t u) nx rt bk ct σ H := h
theorem m_fld {ta tv : TE} {f : Str} (h : tv σ H fun y H1 => ta σ H1 fun x H2 => PutOf K f y x H2 (nx σ)) : Sm (sFld K ta tv f) nx rt bk ct σ H := h
theorem m_aug {ti : TIp} {v : V} (hx : σ[i]? = some (some v)) (h : te σ H fun y H1 => ti v y H1 fun z H2 => nx (σ.set i (some z)) H2) : Sm (tAug i te ti) nx rt bk ct σ H := ⟨v, hx, h⟩
/-- o[i] = e over a list that stands in H by itself -/
theorem m_setL {p : Addr} {xs : List V} {k : Int} {j : Nat} {v : V} {Q : Hp → Prop} (h : H p = some (.lst xs)) (hj : ixN xs.length k = some j) (q : Q (upd H p (.lst (xs.set j v)))) : rSetL (.ref p) (.int k) v H Q := ⟨p, xs, k, j, rfl, rfl, h, hj, q⟩
theorem m_gsub {to ti : TE} {ts : TSet} {v : V} {Q : St → Hp → Prop} (h : to σ H fun o H1 => ti σ H1 fun i H2 => ts o i v H2 fun H3 => Q σ H3) : gSub to ti ts v σ H Q := h
/-- a loop over what J walks -/
def Fj (J : It) (g : TG) (t : TS) (nx : St → Hp → Prop) (rt : VK) (σ : St) (H : Hp) : Prop := ∃ W : Nat → Nat → St → Hp → Prop, (∃ m, W 0 m σ H) ∧ ∀ i m σ H, W i m σ H →
  (J.stop i H ∧ nx σ H) ∨ (J.go i H ∧ ∃ N : St → Hp → Prop, (∀ σ' H', N σ' H' → ∃ m', m' < m ∧ W (i + 1) m' σ' H') ∧ ∀ x H', J.yld i H x H' → g x σ H' fun σ2 H2 => t { nx := N, rt := rt, ct := N, bk := nx } σ2 H2)
theorem m_for {wi : TI} {g : TG} (h : wi σ H fun J H1 => Fj J g t nx rt σ H1) : Sm (tFor wi g t) nx rt bk ct σ H := h
theorem w_rng1 {tl : TA} {R : It → Hp → Prop} (h : tl σ H fun vs H1 => ∃ j : Int, vs = [.int j] ∧ -(2 ^ 62) ≤ j ∧ j < 2 ^ 62 ∧ R (Itr 0 j.toNat) H1) : iRng1 tl σ H R := h
theorem w_rng2 {tl : TA} {R : It → Hp → Prop} (h : tl σ H fun vs H1 => ∃ i j : Int, vs = [.int i, .int j] ∧ (-(2 ^ 62) ≤ i ∧ i < 2 ^ 62 ∧ -(2 ^ 62) ≤ j ∧ j < 2 ^ 62) ∧ R (Itr i (j - i).toNat) H1) : iRng2 tl σ H R := h
theorem w_itl {te : TE} {R : It → Hp → Prop} (h : te σ H fun x H1 => ∃ a, x = .ref a ∧ (∃ xs, SqL K H1 a xs) ∧ R (Itl K a) H1) : iList K te σ H R := h
theorem w_itt {te : TE} {R : It → Hp → Prop} (h : te σ H fun x H1 => ∃ a, x = .ref a ∧ (∃ xs, SqT K H1 a xs) ∧ R (Itt K a) H1) : iTup K te σ H R := h
theorem f_rng1 {j : Nat} {n : Int} (h0 : 0 ≤ n) (h1 : n ≤ 100000) (Pv : Nat → St → Hp → Prop) (p0 : Pv 0 σ H)
    (hs : ∀ (i : Nat) σ' H', (i : Int) < n → Pv i σ' H' → Sm t (Pv (i + 1)) rt nx (Pv (i + 1)) (σ'.set j (some (.int (i : Int)))) H') (hd : ∀ σ' H', Pv n.toNat σ' H' → nx σ' H') :
    ∃ k : Int, [V.int n] = [.int k] ∧ -(2 ^ 62) ≤ k ∧ k < 2 ^ 62 ∧ Fj (Itr 0 k.toNat) (gName j) t nx rt σ H := by
  refine ⟨n, rfl, by omega, by omega, for_range (D := ⟨nx, rt, nx, nx⟩) (lo := 0) (n := n.toNat) Pv p0 (fun i σ' H' hi p => ?_) hd⟩
  have e0 : (0 : Int) + (i : Int) = (i : Int) := Int.zero_add _
  show t { nx := Pv (i + 1), rt := rt, ct := Pv (i + 1), bk := nx } (σ'.set j (some (.int ((0 : Int) + (i : Int))))) H'
  rw [e0]
  exact hs i σ' H' (by omega) p
theorem f_rng2 {j : Nat} {lo n : Int} (h0 : -100000 ≤ lo ∧ lo ≤ 100000 ∧ -100000 ≤ n ∧ n ≤ 100000) (Pv : Nat → St → Hp → Prop) (p0 : Pv 0 σ H)
    (hs : ∀ (i : Nat) σ' H', lo + (i : Int) < n → Pv i σ' H' → Sm t (Pv (i + 1)) rt nx (Pv (i + 1)) (σ'.set j (some (.int (lo + (i : Int))))) H') (hd : ∀ σ' H', Pv (n - lo).toNat σ' H' → nx σ' H') :
    ∃ i k : Int, [V.int lo, V.int n] = [.int i, .int k] ∧ (-(2 ^ 62) ≤ i ∧ i < 2 ^ 62 ∧ -(2 ^ 62) ≤ k ∧ k < 2 ^ 62) ∧ Fj (Itr i (k - i).toNat) (gName j) t nx rt σ H :=
  ⟨lo, n, rfl, ⟨by omega, by omega, by omega, by omega⟩, for_range (D := ⟨nx, rt, nx, nx⟩) (lo := lo) (n := (n - lo).toNat) Pv p0 (fun i σ' H' hi p => hs i σ' H' (by omega) p) hd⟩
theorem f_list {g : TG} {a : Addr} {xs : List V} (hx : SqL K H a xs) (Pv : Nat → St → Hp → Prop) (p0 : Pv 0 σ H) (hl : ∀ i σ' H', i ≤ xs.length → Pv i σ' H' → SqL K H' a xs)
    (hs : ∀ i x σ' H', xs[i]? = some x → Pv i σ' H' → g x σ' H' fun σ2 H2 => Sm t (Pv (i + 1)) rt nx (Pv (i + 1)) σ2 H2) (hd : ∀ σ' H', Pv xs.length σ' H' → nx σ' H') :
    ∃ b, V.ref a = .ref b ∧ (∃ ys, SqL K H b ys) ∧ Fj (Itl K b) g t nx rt σ H := ⟨a, rfl, ⟨xs, hx⟩, for_list (D := ⟨nx, rt, nx, nx⟩) Pv p0 hl hs hd⟩
theorem f_tup {g : TG} {a : Addr} {xs : List V} (hx : SqT K H a xs) (Pv : Nat → St → Hp → Prop) (p0 : Pv 0 σ H) (hl : ∀ i σ' H', i ≤ xs.length → Pv i σ' H' → SqT K H' a xs)
    (hs : ∀ i x σ' H', xs[i]? = some x → Pv i σ' H' → g x σ' H' fun σ2 H2 => Sm t (Pv (i + 1)) rt nx (Pv (i + 1)) σ2 H2) (hd : ∀ σ' H', Pv xs.length σ' H' → nx σ' H') :
    ∃ b, V.ref a = .ref b ∧ (∃ ys, SqT K H b ys) ∧ Fj (Itt K b) g t nx rt σ H := ⟨a, rfl, ⟨xs, hx⟩, for_tup (D := ⟨nx, rt, nx, nx⟩) Pv p0 hl hs hd⟩
/-- a turn of a while -/
def Turn (W : Nat → St → Hp → Prop) (m : Nat) (t : TS) (nx : St → Hp → Prop) (rt : VK) (σ : St) (H : Hp) : Prop := ∃ N : St → Hp → Prop, (∀ σ' H', N σ' H' → ∃ m', m' < m ∧ W m' σ' H') ∧ t ⟨N, rt, nx, N⟩ σ H
theorem turn_go {W : Nat → St → Hp → Prop} {m : Nat} (h : Sm t (fun σ' H' => ∃ m', m' < m ∧ W m' σ' H') rt nx (fun σ' H' => ∃ m', m' < m ∧ W m' σ' H') σ H) : Turn W m t nx rt σ H := ⟨_, fun _ _ h => h, h⟩
theorem m_whileT (W : Nat → St → Hp → Prop) (m0 : Nat) (h0 : W m0 σ H) (hs : ∀ m σ' H', W m σ' H' → c σ' H' fun b H1 => if b = true then Turn W m t nx rt σ' H1 else nx σ' H1) : Sm (tWhile c t) nx rt bk ct σ H := ⟨W, ⟨m0, h0⟩, hs⟩
theorem m_while (W : Nat → St → Hp → Prop) (m0 : Nat) (h0 : W m0 σ H)
    (hs : ∀ m σ' H', W m σ' H' → c σ' H' fun b H1 => if b = true then Sm t (fun σ2 H2 => ∃ m', m' < m ∧ W m' σ2 H2) rt nx (fun σ2 H2 => ∃ m', m' < m ∧ W m' σ2 H2) σ' H1 else nx σ' H1)
    (mono : ∀ σ H (A B : Bool → Hp → Prop), (∀ b H, A b H → B b H) → c σ H A → c σ H B) : Sm (tWhile c t) nx rt bk ct σ H := by
  refine ⟨W, ⟨m0, h0⟩, fun m σ' H' hw => mono _ _ _ _ (fun b H1 h => ?_) (hs m σ' H' hw)⟩
  cases b
  · exact iteF (by rw [if_neg Bool.false_ne_true] at h; exact h)
  · refine iteT ⟨fun σ2 H2 => ∃ m', m' < m ∧ W m' σ2 H2, fun _ _ n => n, ?_⟩
    rw [if_pos rfl] at h
    exact h
end
theorem divW {i j : Int} (h : 0 < j) (hb : j < 2 ^ 250) : CDivW i j := wide_div (b := 250) h (by omega) (by decide) (by decide)
/-- a written tuple of texts and ints -/
def KTup (K : PySem.W.Frag) (a : Addr) (xs : List V) : Prop := ∃ (o : Obj) (its : Array Value) (n : Nat), K.lookup a = some o ∧ o.cls = .type "tuple" ∧ o.data = .seq its n ∧ its.size ≤ sizeLine ∧ Vals xs its.toList
def relB : V → Value → Bool
  | .int i, .int j _ => i == j
  | .str x, .str y _ => x == y
  | _, _ => false
def relsB : List V → List Value → Bool
  | [], [] => true
  | x :: xs, u :: us => relB x u && relsB xs us
  | _, _ => false
def tupB (o : Obj) (xs : List V) : Bool := (match o.cls with | .type t => t == "tuple" | _ => false) && match o.data with | .seq its _ => decide (its.size ≤ sizeLine) && relsB xs its.toList | _ => false
theorem relB_of : ∀ {x : V} {u : Value}, relB x u = true → RelV x u
  | .int i, .int j t, h => by
    have e : i = j := eq_of_beq h
    exact ⟨t, by rw [e]⟩
  | .str i, .str j t, h => by
    have e : i = j := eq_of_beq h
    exact ⟨t, by rw [e]⟩
theorem relsB_of : ∀ {xs : List V} {us : List Value}, relsB xs us = true → Vals xs us
  | [], [], _ => .nil
  | x :: xs, u :: us, h => by
    unfold relsB at h
    rw [Bool.and_eq_true] at h
    exact .cons (relB_of h.1) (relsB_of h.2)
theorem ktup_of {K : PySem.W.Frag} {a : Addr} {o : Obj} {xs : List V} (h : K.lookup a = some o) (t : tupB o xs = true) : KTup K a xs := by
  unfold tupB at t
  rw [Bool.and_eq_true] at t
  obtain ⟨t1, t2⟩ := t
  obtain ⟨cls, dd, data, sl⟩ := o
  cases data with
  | seq its n =>
    simp only [Bool.and_eq_true, decide_eq_true_eq] at t2
    cases cls with
    | type c =>
      have e : c = "tuple" := eq_of_beq t1
      subst e
      exact ⟨_, its, n, h, rfl, rfl, t2.1, relsB_of t2.2⟩
    | _ => cases t1
  | _ => cases t2
theorem KTup.sq {K : PySem.W.Frag} {a : Addr} {xs : List V} (h : KTup K a xs) (H : Hp) : SqT K H a xs := Or.inr h
theorem ok_body {X : Cx} {body : List Stmt} {t : TS} {Q : VK} {σ σ0 : St} {H : Hp} (h : PSs X body t) (e : σ0 = σ) (q : Sm t (fun _ H' => Q .non H') Q (fun _ _ => False) (fun _ _ => False) σ H) :
    ∃ t : TS, PSs X body t ∧ t { nx := fun _ H' => Q .non H', rt := Q } σ0 H := ⟨t, h, by subst e; exact q⟩
/-- all but one object as it was -/
def ExBut (p : Addr) (H H' : Hp) : Prop := ∀ b o, b ≠ p → H b = some o → H' b = some o
theorem ExBut.ex {p : Addr} {H0 H H' : Hp} (e : Ex H0 H) (h : H0 p = none) (m : ExBut p H H') : Ex H0 H' := fun b o hb => m b o (ne_of_none hb h) (e b o hb)
theorem ExBut.refl (p : Addr) (H : Hp) : ExBut p H H := fun _ _ _ h => h
theorem ExBut.trans {p : Addr} {H H1 H2 : Hp} (a : ExBut p H H1) (b : ExBut p H1 H2) : ExBut p H H2 := fun c o n h => b c o n (a c o n h)
theorem ExBut.of {p : Addr} {H H' : Hp} (e : Ex H H') : ExBut p H H' := fun b o _ h => e b o h
theorem ExBut.upd {p : Addr} {H H' : Hp} {o : HO} (e : ExBut p H H') : ExBut p H (upd H' p o) := fun b u n h => by rw [upd_ne n]; exact e b u n h
theorem ex_snoc {H H1 H2 : Hp} (b : Ex H1 H2) (a : Ex H H1) : Ex H H2 := a.trans b
theorem but_snoc {p : Addr} {H H1 H2 : Hp} (b : ExBut p H1 H2) (a : ExBut p H H1) : ExBut p H H2 := a.trans b
theorem but_snocE {p : Addr} {H H1 H2 : Hp} (b : Ex H1 H2) (a : ExBut p H H1) : ExBut p H H2 := a.trans (.of b)
theorem w_put {K : PySem.W.Frag} {H : Hp} {a C dx : Addr} {fs fs' : List (Str × V)} {f : Str} {y : V} {R : Hp → Prop} (h : H a = some (.ins C dx fs)) (cl : Cls K C) (n : NoAttr K C f) (hl : fs.length < 1000) (e : putF f y fs = fs') (q : ∀ H2, ExBut a H H2 → H2 a = some (.ins C dx fs') → R H2) : PutOf K f y (.ref a) H R :=
  ⟨a, C, dx, fs, rfl, h, cl, n, hl, q _ (ExBut.upd (ExBut.refl a H)) (by rw [e]; exact upd_same)⟩
theorem ex_but {p : Addr} {H0 H H' : Hp} (m : ExBut p H H') (h : H0 p = none) (e : Ex H0 H) : Ex H0 H' := ExBut.ex e h m
theorem but_get {p a : Addr} {H H' : Hp} {o : HO} (m : ExBut p H H') (n : a ≠ p) (h : H a = some o) : H' a = some o := m a o n h
theorem w_setL {p : Addr} {xs ys : List V} {k : Int} {j : Nat} {v : V} {H : Hp} {Q : Hp → Prop} (h : H p = some (.lst xs)) (hj : ixN xs.length k = some j) (e : xs.set j v = ys) (q : ∀ H2, ExBut p H H2 → H2 p = some (.lst ys) → Q H2) : rSetL (.ref p) (.int k) v H Q :=
  ⟨p, xs, k, j, rfl, rfl, h, hj, q _ (ExBut.upd (ExBut.refl p H)) (by rw [e]; exact upd_same)⟩
theorem ex_get {H1 H2 : Hp} {a : Addr} {o : HO} (e : Ex H1 H2) (h : H1 a = some o) : H2 a = some o := e a o h
theorem small {n m : Nat} (h : n ≤ m) (hm : m ≤ 1000) : n ≤ 1000 := Nat.le_trans h hm
end Kit

namespace Kit
open PySem PySem.Spec PyProof.Rows L2 Evl
/-! ### the walk by words: "wp" goes as far as it can, "wp1" one step; "hp": what stands at an address; "sq": a list, a tuple is there; "side": a side condition -/
end Kit

namespace Kit
open PySem PySem.Spec PyProof.Rows L2 Evl
/-! ### comprehensions -/
def Lcj (J : It) (g : TG) (tt : TT) (te : TE) (vs : List Nat) (σ : St) (H1 : Hp) (Q : VK) : Prop := ∀ D, H1 D = none → ∃ W : Nat → Nat → Hp → Prop, (∃ m, W 0 m (upd H1 D (.lst []))) ∧ ∀ i m H, W i m H →
  (J.stop i H ∧ Q (.ref D) H) ∨ (J.go i H ∧ ∃ Nx : Hp → Prop, (∀ H', Nx H' → ∃ m', m' < m ∧ W (i + 1) m' H') ∧ ∀ x H', J.yld i H x H' → g x (wipe σ vs) H' fun σ2 H2 => wipe σ2 vs = wipe σ vs ∧ tt σ2 H2 fun b H3 =>
    if b = true then te σ2 H3 fun y H4 => ∃ acc, H4 D = some (.lst acc) ∧ acc.length < sizeLine ∧ Nx (upd H4 D (.lst (acc ++ [y]))) else Nx H3)
section
variable {σ : St} {H : Hp} {Q : VK} {j : Nat} {vs : List Nat} {te : TE} {tt : TT} {K : PySem.W.Frag}
theorem w_lc {wi : TI} {g : TG} {tt : TT} (h : wi σ H fun J H1 => Lcj J g tt te vs σ H1 Q) : tLc wi g tt te vs σ H Q := h
theorem w_rng3 {tl : TA} {R : It → Hp → Prop} (h : tl σ H fun vs H1 => ∃ (i j c : Int) (n : Nat), vs = [.int i, .int j, .int c] ∧ RgC i j c n ∧ R (Itc i c n) H1) : iRng3 tl σ H R := h
/-- what J walks, while S stands -/
structure Walks (J : It) (n : Nat) (x : Nat → V) (S : Hp → Prop) : Prop where
  stop : ∀ H, S H → J.stop n H
  go : ∀ i H, S H → i < n → J.go i H
  yld : ∀ i H y H', S H → i < n → J.yld i H y H' → H' = H ∧ y = x i
theorem walks_rng {lo : Int} {n : Nat} : Walks (Itr lo n) n (fun i => .int (lo + i)) (fun _ => True) := ⟨fun _ _ => Nat.le_refl n, fun _ _ _ h => h, fun _ _ _ _ _ _ h => h⟩
theorem walks_rngC {lo c : Int} {n : Nat} : Walks (Itc lo c n) n (fun i => .int (lo + (i : Nat) * c)) (fun _ => True) := ⟨fun _ _ => Nat.le_refl n, fun _ _ _ h => h, fun _ _ _ _ _ _ h => h⟩
theorem walks_list {a : Addr} {xs : List V} : Walks (Itl K a) xs.length (fun i => (xs[i]?).getD .non) (fun H => SqL K H a xs) := by
  refine ⟨fun H h => ⟨xs, h, Nat.le_refl _⟩, fun i H h hi => ⟨xs, xs[i], h, List.getElem?_eq_getElem hi⟩, fun i H y H' h hi hy => ⟨hy.1, ?_⟩⟩
  rw [hy.2 xs h]
  rfl
theorem walks_tup {a : Addr} {xs : List V} : Walks (Itt K a) xs.length (fun i => (xs[i]?).getD .non) (fun H => SqT K H a xs) := by
  refine ⟨fun H h => ⟨xs, h, Nat.le_refl _⟩, fun i H h hi => ⟨xs, xs[i], h, List.getElem?_eq_getElem hi⟩, fun i H y H' h hi hy => ⟨hy.1, ?_⟩⟩
  rw [hy.2 xs h]
  rfl
/-- any turn's word: Iv by the new list's address, the turn, what it holds -/
theorem l_any {J : It} {n : Nat} {x : Nat → V} {S : Hp → Prop} (w : Walks J n x S) (hn : n ≤ 40000) (hw : ∀ v, wipe ((wipe σ vs).set j (some v)) vs = wipe σ vs)
    (Iv : Addr → Nat → List V → Hp → Prop) (hS : ∀ D i acc H', Iv D i acc H' → S H') (h0 : ∀ D, H D = none → Iv D 0 [] (upd H D (.lst [])))
    (he : ∀ D i acc H', H D = none → i < n → acc.length ≤ i → H' D = some (.lst acc) → Iv D i acc H' → ∀ R : Bool → Hp → Prop, (∀ H2, H2 D = some (.lst acc) → Iv D (i + 1) acc H2 → R false H2) →
      (∀ H2, (∀ R2 : VK, (∀ y H3, H3 D = some (.lst acc) → Iv D (i + 1) (acc ++ [y]) (upd H3 D (.lst (acc ++ [y]))) → R2 y H3) → te ((wipe σ vs).set j (some (x i))) H2 R2) → R true H2) → tt ((wipe σ vs).set j (some (x i))) H' R)
    (q : ∀ D acc H2, H D = none → acc.length ≤ n → H2 D = some (.lst acc) → Iv D n acc H2 → Q (.ref D) H2) : Lcj J (gName j) tt te vs σ H Q := by
  intro D hD
  refine ⟨fun i m H' => i ≤ n ∧ m = n - i ∧ ∃ acc, acc.length ≤ i ∧ H' D = some (.lst acc) ∧ Iv D i acc H', ⟨n, Nat.zero_le _, by omega, [], Nat.le_refl 0, upd_same, h0 D hD⟩, fun i m H' ⟨hi, hm, acc, ha, hd, iv⟩ => ?_⟩
  by_cases hlt : i < n
  · refine .inr ⟨w.go i H' (hS _ _ _ _ iv) hlt, fun H'' => ∃ acc, acc.length ≤ i + 1 ∧ H'' D = some (.lst acc) ∧ Iv D (i + 1) acc H'', fun H'' h => ⟨n - (i + 1), by omega, by omega, rfl, h⟩, fun y H'' hy => ?_⟩
    obtain ⟨rfl, rfl⟩ := w.yld i H' y H'' (hS _ _ _ _ iv) hlt hy
    refine ⟨hw _, ?_⟩
    refine he D i acc H'' hD hlt ha hd iv _ (fun H2 h2 iv2 => ?_) fun H2 h => ?_
    · exact iteF ⟨acc, by omega, h2, iv2⟩
    · refine iteT (h _ fun v H3 h3 iv3 => ?_)
      exact ⟨acc, h3, sz_lt (by omega), acc ++ [v], by rw [List.length_append]; exact Nat.succ_le_succ ha, upd_same, iv3⟩
  · have e : i = n := by omega
    subst e
    exact .inl ⟨w.stop H' (hS _ _ _ _ iv), q D acc H' hD ha hd iv⟩
/-- items that only make new objects, no test: Pe says what the i-th is -/
theorem l_grow {J : It} {n : Nat} {x : Nat → V} {S : Hp → Prop} (w : Walks J n x S) (hn : n ≤ 40000) (hw : ∀ v, wipe ((wipe σ vs).set j (some v)) vs = wipe σ vs)
    (s0 : S H) (sm : ∀ H1 H2, Ex H1 H2 → S H1 → S H2) (Pe : Addr → Nat → V → Hp → Prop) (pm : ∀ D i v H1 H2, ExBut D H1 H2 → Pe D i v H1 → Pe D i v H2)
    (he : ∀ D i acc H', H D = none → i < n → Ex H H' → H' D = some (.lst acc) → ∀ R : VK, (∀ v H2, Ex H' H2 → Pe D i v H2 → R v H2) → te ((wipe σ vs).set j (some (x i))) H' R)
    (q : ∀ D ys H2, H D = none → Ex H H2 → H2 D = some (.lst ys) → ys.length = n → (∀ i y, ys[i]? = some y → Pe D i y H2) → Q (.ref D) H2) : Lcj J (gName j) tYes te vs σ H Q := by
  refine l_any w hn hw (fun D i acc H' => H D = none ∧ Ex H H' ∧ acc.length = i ∧ ∀ k y, acc[k]? = some y → Pe D k y H') (fun D i acc H' h => sm _ _ h.2.1 s0) (fun D hD => ⟨hD, Ex.new hD, rfl, fun k y h => by simp at h⟩) ?_ ?_
  · intro D i acc H' hD hi ha hd ⟨_, e, hl, hp⟩ R r1 r2
    refine r2 H' fun R2 r => ?_
    refine he D i acc H' hD hi e hd R2 fun v H2 e2 pv => ?_
    have m1 : ExBut D H' (upd H2 D (.lst (acc ++ [v]))) := ExBut.upd (.of e2)
    have m2 : ExBut D H2 (upd H2 D (.lst (acc ++ [v]))) := ExBut.upd (.refl D H2)
    refine r v H2 (e2 D _ hd) ⟨hD, ExBut.ex e hD m1, by rw [List.length_append, hl]; rfl, fun k y hk => ?_⟩
    by_cases h : k < acc.length
    · rw [List.getElem?_append_left h] at hk
      exact pm D k y _ _ m1 (hp k y hk)
    · have hlen : k < (acc ++ [v]).length := (List.getElem?_eq_some_iff.mp hk).1
      rw [List.length_append] at hlen
      have e : k = acc.length := by simp at hlen; omega
      rw [e, List.getElem?_concat_length] at hk
      cases hk
      rw [e, hl]
      exact pm D i v _ _ m2 pv
  · intro D acc H2 hD _ hd ⟨_, e, hl, hp⟩
    exact q D acc H2 hD e hd hl hp
theorem eq_map {ys : List V} {n : Nat} {v : Nat → V} (hl : ys.length = n) (h : ∀ i y, ys[i]? = some y → y = v i) : ys = (List.range n).map v := by
  apply List.ext_getElem?
  intro i
  by_cases hi : i < n
  · rw [List.getElem?_map, List.getElem?_range hi, List.getElem?_eq_getElem (by omega)]
    exact congrArg some (h i _ (List.getElem?_eq_getElem (by omega)))
  · rw [List.getElem?_eq_none (by omega), List.getElem?_eq_none (by rw [List.length_map, List.length_range]; omega)]
/-- items that are told: the i-th is v i -/
theorem l_val {J : It} {n : Nat} {x : Nat → V} {S : Hp → Prop} (w : Walks J n x S) (hn : n ≤ 40000) (hw : ∀ v, wipe ((wipe σ vs).set j (some v)) vs = wipe σ vs)
    (s0 : S H) (sm : ∀ H1 H2, Ex H1 H2 → S H1 → S H2) (v : Nat → V)
    (he : ∀ i H', i < n → Ex H H' → ∀ R : VK, (∀ H2, Ex H' H2 → R (v i) H2) → te ((wipe σ vs).set j (some (x i))) H' R)
    (q : ∀ p H2, H p = none → Ex H H2 → H2 p = some (.lst ((List.range n).map v)) → Q (.ref p) H2) : Lcj J (gName j) tYes te vs σ H Q :=
  l_grow w hn hw s0 sm (fun _ i y _ => y = v i) (fun _ _ _ _ _ _ h => h) (fun D i acc H' hD hi e hd R r => he i H' hi e R fun H2 e2 => r _ H2 e2 rfl)
    fun D ys H2 hD e hd hl hp => q D H2 hD e (by rw [hd, eq_map hl hp])
/-- over range(n) -/
theorem l_rng1 {n : Int} (h0 : 0 ≤ n) (hn : n ≤ 40000) (hw : ∀ v, wipe ((wipe σ vs).set j (some v)) vs = wipe σ vs) (v : Nat → V)
    (he : ∀ (i : Nat) H', (i : Int) < n → Ex H H' → ∀ R : VK, (∀ H2, Ex H' H2 → R (v i) H2) → te ((wipe σ vs).set j (some (.int (i : Int)))) H' R)
    (q : ∀ p H2, H p = none → Ex H H2 → H2 p = some (.lst ((List.range n.toNat).map v)) → Q (.ref p) H2) :
    ∃ k : Int, [V.int n] = [.int k] ∧ -(2 ^ 62) ≤ k ∧ k < 2 ^ 62 ∧ Lcj (Itr 0 k.toNat) (gName j) tYes te vs σ H Q :=
  ⟨n, rfl, by omega, by omega, l_val walks_rng (by omega) hw trivial (fun _ _ _ h => h) v (fun i H' hi e R r => by
    have e0 : (0 : Int) + (i : Int) = (i : Int) := Int.zero_add _
    show te ((wipe σ vs).set j (some (.int (0 + (i : Int))))) H' R
    rw [e0]
    exact he i H' (by omega) e R r) q⟩
/-- over range(0, n, 2) -/
theorem l_rng2 {n : Int} {m : Nat} (h0 : n = 2 * m) (hn : m ≤ 40000) (hw : ∀ v, wipe ((wipe σ vs).set j (some v)) vs = wipe σ vs) (v : Nat → V)
    (he : ∀ (i : Nat) H', i < m → Ex H H' → ∀ R : VK, (∀ H2, Ex H' H2 → R (v i) H2) → te ((wipe σ vs).set j (some (.int (2 * (i : Int))))) H' R)
    (q : ∀ p H2, H p = none → Ex H H2 → H2 p = some (.lst ((List.range m).map v)) → Q (.ref p) H2) :
    ∃ (a b c : Int) (k : Nat), [V.int 0, V.int n, V.int 2] = [.int a, .int b, .int c] ∧ RgC a b c k ∧ Lcj (Itc a c k) (gName j) tYes te vs σ H Q := by
  have hr : RgC 0 n 2 m := by
    refine ⟨by decide, by decide, ?_, ?_⟩
    · subst h0
      unfold Builtin.Range.small Builtin.Range.rangeSize
      rw [if_pos (show (2 : Int) > 0 by decide), if_pos (show (2 : Int) > 0 by decide)]
      have hf : ∀ x : Int, 0 ≤ x → x ≤ 100000 → Builtin.Range.rangeFitsLong x = true := fun x h1 h2 => by
        unfold Builtin.Range.rangeFitsLong
        simp only [Bool.and_eq_true, decide_eq_true_eq]
        omega
      have h3 : (0 : Int) ≤ (if (0 : Int) < 2 * (m : Int) then (2 * (m : Int) - 0 - 1) / 2 + 1 else 0) ∧ (if (0 : Int) < 2 * (m : Int) then (2 * (m : Int) - 0 - 1) / 2 + 1 else 0) ≤ 100000 := by split <;> omega
      rw [hf 0 (by omega) (by omega), hf (2 * (m : Int)) (by omega) (by omega), hf 2 (by omega) (by omega), hf _ h3.1 h3.2, hf (2 * (m : Int) + (2 - 1)) (by omega) (by omega)]
      simp
    · subst h0
      unfold Builtin.Range.rangeSize
      split <;> omega
  refine ⟨0, n, 2, m, rfl, hr, l_val walks_rngC hn hw trivial (fun _ _ _ h => h) v (fun i H' hi e R r => ?_) q⟩
  have e0 : (0 : Int) + (i : Int) * 2 = 2 * (i : Int) := by omega
  show te ((wipe σ vs).set j (some (.int (0 + (i : Int) * 2)))) H' R
  rw [e0]
  exact he i H' hi e R r
/-- over a list -/
theorem l_list {a : Addr} {xs : List V} (hx : SqL K H a xs) (hn : xs.length ≤ 40000) (hw : ∀ v, wipe ((wipe σ vs).set j (some v)) vs = wipe σ vs) (v : Nat → V)
    (he : ∀ (i : Nat) x H', xs[i]? = some x → Ex H H' → ∀ R : VK, (∀ H2, Ex H' H2 → R (v i) H2) → te ((wipe σ vs).set j (some x)) H' R)
    (q : ∀ p H2, H p = none → Ex H H2 → H2 p = some (.lst ((List.range xs.length).map v)) → Q (.ref p) H2) :
    ∃ b, V.ref a = .ref b ∧ (∃ ys, SqL K H b ys) ∧ Lcj (Itl K b) (gName j) tYes te vs σ H Q :=
  ⟨a, rfl, ⟨xs, hx⟩, l_val walks_list hn hw hx (fun _ _ e h => ex_l e h) v (fun i H' hi e R r => by
    have z : xs[i]? = some xs[i] := List.getElem?_eq_getElem hi
    show te ((wipe σ vs).set j (some ((xs[i]?).getD .non))) H' R
    rw [z]
    exact he i xs[i] H' z e R r) q⟩
theorem l_tup {a : Addr} {xs : List V} (hx : SqT K H a xs) (hn : xs.length ≤ 40000) (hw : ∀ v, wipe ((wipe σ vs).set j (some v)) vs = wipe σ vs) (v : Nat → V)
    (he : ∀ (i : Nat) x H', xs[i]? = some x → Ex H H' → ∀ R : VK, (∀ H2, Ex H' H2 → R (v i) H2) → te ((wipe σ vs).set j (some x)) H' R)
    (q : ∀ p H2, H p = none → Ex H H2 → H2 p = some (.lst ((List.range xs.length).map v)) → Q (.ref p) H2) :
    ∃ b, V.ref a = .ref b ∧ (∃ ys, SqT K H b ys) ∧ Lcj (Itt K b) (gName j) tYes te vs σ H Q :=
  ⟨a, rfl, ⟨xs, hx⟩, l_val walks_tup hn hw hx (fun _ _ e h => ex_t e h) v (fun i H' hi e R r => by
    have z : xs[i]? = some xs[i] := List.getElem?_eq_getElem hi
    show te ((wipe σ vs).set j (some ((xs[i]?).getD .non))) H' R
    rw [z]
    exact he i xs[i] H' z e R r) q⟩
end
end Kit

namespace Kit
open PySem PySem.Spec PyProof.Rows L2 Evl
/-! ### the rules that speak of the written part, with it named -/
section
variable (K : PySem.W.Frag) {X : Cx}
theorem ixL (h : X.K = K := by rfl) : IxR X (rIxL K) := h ▸ ix_list
theorem ixT (h : X.K = K := by rfl) : IxR X (rIxT K) := h ▸ ix_tup
theorem kLen (h : X.K = K := by rfl) : CallR X (.builtin "len") (rLenS K) := h ▸ call_len_seq
theorem kList (h : X.K = K := by rfl) : CallR X (.type "list") (rListS K) := h ▸ call_list_of
theorem kTuple (h : X.K = K := by rfl) : CallR X (.type "tuple") (rTupS K) := h ▸ call_tuple_of
theorem kIn (h : X.K = K := by rfl) : OpR X (compareOp .In) (rIn K false) := h ▸ op_in_seq
theorem kNotIn (h : X.K = K := by rfl) : OpR X (compareOp .NotIn) (rIn K true) := h ▸ op_notIn_seq
theorem kEqD (hu : X.A.units + 64 < cLine) (h : X.K = K := by rfl) : OpR X (compareOp .Eq) (rEqD K) := h ▸ op_eqD hu
theorem kNeD (hu : X.A.units + 64 < cLine) (h : X.K = K := by rfl) : OpR X (compareOp .NotEq) (rNeD K) := h ▸ op_neD hu
theorem kCat (h : X.K = K := by rfl) : OpR X (binaryOp .Add) (rCatA K) := h ▸ op_catA
theorem kRepT (h : X.K = K := by rfl) : OpR X (binaryOp .Mult) (rRepT K) := h ▸ op_repT
theorem kSlL (h : X.K = K := by rfl) : SlR X (rSlL K) := h ▸ sl_list
theorem kSlT (h : X.K = K := by rfl) : SlR X (rSlA K) := h ▸ sl_tupA
theorem kIsi (h : X.K = K := by rfl) : CallR X (.builtin "isinstance") (rIsi K) := h ▸ call_isi
theorem kFld {e : Expr} {ta : TE} {f : Str} {pos : Pos} (he : PE X e ta) (hb : attributeBase e f X.env (eval e X.env) = eval e X.env) (h : X.K = K := by rfl) : PE X (.Attribute e f pos) (tFld K ta f) := h ▸ pe_fld he hb
theorem kSet {o value : Expr} {ta tv : TE} {f : Str} {pos pos' : Pos} (ha : PE X o ta) (hv : PE X value tv) (hs : swapsWith value (some (.Attribute o f pos')) pos.line X.env = pure false) (h : X.K = K := by rfl) : PS X (.Assign [.Attribute o f pos'] value pos) (sFld K ta tv f) := h ▸ ps_fld ha hv hs
theorem kpList {tg l : Expr} {tl : TE} (hl : PE X l tl) (h : X.K = K := by rfl) : PI X tg l (iList K tl) := h ▸ pi_list hl
theorem kpTup {tg l : Expr} {tl : TE} (hl : PE X l tl) (h : X.K = K := by rfl) : PI X tg l (iTup K tl) := h ▸ pi_tup hl
theorem kgTup {es : List Expr} {k : Nat} {t : TGs} {n : Nat} {pos : Pos} (hc : X.calm = true) (hg : PGs X es t) (hn : (assignEach es X.env).length = n := by rfl) (hst : (assignEach es X.env).findIdx? (·.1) = none := by rfl) (h : X.K = K := by rfl) : PG X (.Tuple es k pos) (gTup K n t) := h ▸ pg_tup hc hg hn hst
end
end Kit

namespace Kit
open PySem PySem.Spec PyProof.Rows L2 Evl
/-! ### == of data -/
def isFlN : V → Bool
  | .non | .bl _ | .int _ => true
  | _ => false
theorem fln_fl : ∀ {vs : List V}, vs.all isFlN = true → vs.all isFl = true
  | [], _ => rfl
  | v :: vs, h => by
    rw [List.all_cons, Bool.and_eq_true] at h ⊢
    refine ⟨?_, fln_fl h.2⟩
    cases v <;> first | rfl | cases h.1
theorem flats_ok : ∀ {vs : List V}, vs.all isFlN = true → PyData.canLayAll0 (vs.map flatD) = true ∧ PyData.depthAll (vs.map flatD) = 0
  | [], _ => ⟨rfl, rfl⟩
  | v :: vs, h => by
    rw [List.all_cons, Bool.and_eq_true] at h
    obtain ⟨h1, h2⟩ := flats_ok h.2
    have h3 : (flatD v).canLay0 = true ∧ PyData.depth (flatD v) = 0 := by
      cases v <;> first | (cases h.1; done) | exact ⟨by simp [flatD, PyData.canLay0], by simp [flatD, PyData.depth]⟩
    rw [List.map_cons, PyData.canLayAll0, PyData.depthAll, h1, h2, h3.1, h3.2]
    exact ⟨rfl, rfl⟩
theorem shaped_tup {vs : List V} (h : vs.all isFlN = true) : SeqAt.shaped (.tuple (vs.map flatD)) = true := by
  obtain ⟨h1, h2⟩ := flats_ok h
  unfold SeqAt.shaped
  rw [PyData.canLay0, PyData.depth, h1, h2]
  rfl
theorem shaped_lst {vs : List V} (h : vs.all isFlN = true) : SeqAt.shaped (.list (vs.map flatD)) = true := by
  obtain ⟨h1, h2⟩ := flats_ok h
  unfold SeqAt.shaped
  rw [PyData.canLay0, PyData.depth, h1, h2]
  rfl
theorem ints_fln : ∀ r : List Int, (r.map V.int).all isFlN = true
  | [] => rfl
  | _ :: r => by
    rw [List.map_cons, List.all_cons, ints_fln r]
    rfl
theorem eqvAll_ints : ∀ r s : List Int, PyData.eqvAll ((r.map V.int).map flatD) ((s.map V.int).map flatD) = decide (r = s)
  | [], [] => by simp [PyData.eqvAll]
  | [], _ :: _ => by simp [PyData.eqvAll]
  | _ :: _, [] => by simp [PyData.eqvAll]
  | x :: r, y :: s => by
    show PyData.eqvAll (.int x :: (r.map V.int).map flatD) (.int y :: (s.map V.int).map flatD) = _
    rw [PyData.eqvAll, eqvAll_ints r s]
    by_cases h : x = y
    · subst h
      simp [PyData.eqv]
    · simp [PyData.eqv, h]
section
variable {H : Hp} {Q : VK} {K : PySem.W.Frag} {a b : Addr} {r s : List Int}
theorem w_neTT (h1 : SqT K H a (r.map V.int)) (h2 : SqT K H b (s.map V.int)) (q : Q (.bl (!decide (r = s))) H) : rNeD K (.ref a) (.ref b) H Q :=
  w_neD (dp_tup h1 (fln_fl (ints_fln r))) (dp_tup h2 (fln_fl (ints_fln s))) (shaped_tup (ints_fln r)) (shaped_tup (ints_fln s)) (by rw [PyData.eqv, eqvAll_ints]; exact q)
theorem w_eqTT (h1 : SqT K H a (r.map V.int)) (h2 : SqT K H b (s.map V.int)) (q : Q (.bl (decide (r = s))) H) : rEqD K (.ref a) (.ref b) H Q :=
  w_eqD (dp_tup h1 (fln_fl (ints_fln r))) (dp_tup h2 (fln_fl (ints_fln s))) (shaped_tup (ints_fln r)) (shaped_tup (ints_fln s)) (by rw [PyData.eqv, eqvAll_ints]; exact q)
theorem w_neLL (h1 : SqL K H a (r.map V.int)) (h2 : SqL K H b (s.map V.int)) (q : Q (.bl (!decide (r = s))) H) : rNeD K (.ref a) (.ref b) H Q :=
  w_neD (dp_lst h1 (fln_fl (ints_fln r))) (dp_lst h2 (fln_fl (ints_fln s))) (shaped_lst (ints_fln r)) (shaped_lst (ints_fln s)) (by rw [PyData.eqv, eqvAll_ints]; exact q)
theorem w_eqLL (h1 : SqL K H a (r.map V.int)) (h2 : SqL K H b (s.map V.int)) (q : Q (.bl (decide (r = s))) H) : rEqD K (.ref a) (.ref b) H Q :=
  w_eqD (dp_lst h1 (fln_fl (ints_fln r))) (dp_lst h2 (fln_fl (ints_fln s))) (shaped_lst (ints_fln r)) (shaped_lst (ints_fln s)) (by rw [PyData.eqv, eqvAll_ints]; exact q)
end
end Kit

set_option Elab.async false
set_option linter.all false
set_option maxRecDepth 100000
set_option maxHeartbeats 4000000
/-! A book's dicts: keys (kind, text), a text being a number or a tuple of numbers. -/
namespace Kit
open PySem PySem.Spec PyProof.Rows L2 Evl
inductive TK where
  | num (i : Int)
  | nums (is : List Int)
deriving DecidableEq
def TK.nk : TK → NestedKey
  | .num i => .num i
  | .nums is => .tup (is.map .num)
/-- the value x is the text t -/
def TVal (H : Hp) : TK → V → Prop
  | .num i, x => x = .int i
  | .nums is, x => ∃ a, x = .ref a ∧ H a = some (.tup (is.map V.int))
abbrev BK := Str × TK
def bk (k : BK) : NestedKey := .tup [.text k.1, k.2.nk]
def KeyAt (H : Hp) (k : BK) (b : Addr) : Prop := ∃ x, H b = some (.tup [.str k.1, x]) ∧ TVal H k.2 x
theorem nums_inj : ∀ {a b : List Int}, a.map NestedKey.num = b.map NestedKey.num → a = b
  | [], [], _ => rfl
  | [], _ :: _, e => by simp at e
  | _ :: _, [], e => by simp at e
  | x :: a, y :: b, e => by
    simp only [List.map_cons, List.cons.injEq, NestedKey.num.injEq] at e
    rw [e.1, nums_inj e.2]
theorem nk_inj {a b : TK} (e : a.nk = b.nk) : a = b := by
  cases a <;> cases b <;> simp only [TK.nk, NestedKey.num.injEq, NestedKey.tup.injEq, reduceCtorEq] at e
  · rw [e]
  · rw [nums_inj e]
theorem bk_inj {a b : BK} (e : bk a = bk b) : a = b := by
  obtain ⟨a1, a2⟩ := a
  obtain ⟨b1, b2⟩ := b
  simp only [bk, NestedKey.tup.injEq, List.cons.injEq, NestedKey.text.injEq, and_true] at e
  rw [e.1, nk_inj e.2]
theorem depth_nums : ∀ is : List Int, NestedKey.depthAll (is.map .num) = 0
  | [] => rfl
  | _ :: is => by rw [List.map_cons, NestedKey.depthAll, depth_nums is]; rfl
theorem bk_depth (k : BK) : (bk k).depth ≤ 8 := by
  obtain ⟨x, t⟩ := k
  cases t <;> simp [bk, TK.nk, NestedKey.depth, NestedKey.depthAll, depth_nums]
theorem nums_all {h : Heap} : ∀ {is : List Int} {us : List Value}, Vals (is.map V.int) us → NestedAll h (is.map .num) us
  | [], _, r => by cases r; exact .nil
  | i :: is, _, r => by
    rw [List.map_cons] at r
    cases r with
    | cons a t =>
      obtain ⟨z, rfl⟩ := (show ∃ z, _ = Value.int i z from a)
      exact .cons (.int i z) (nums_all t)
section
variable {P : Program} {w : World} {H H' : Hp} {h : Heap} {a b : Addr} {k : BK} {t : TK} {x : V} {u : Value}
theorem tval_is (ok : HOk P w H h) (r : RelV x u) (e : TVal H t x) : NestedIs h t.nk u := by
  cases t with
  | num i =>
    obtain rfl := e
    obtain ⟨z, rfl⟩ := (show ∃ z, u = Value.int i z from r)
    exact .int i z
  | nums is =>
    obtain ⟨c, rfl, e⟩ := e
    obtain rfl := (show u = Value.ref c from r)
    obtain ⟨_, its, rs, o, h1, h2, n, h3⟩ := (show ObjOk P w H h c (.tup _) from ok c _ e)
    exact .tup h1 h2 h3 (by rw [List.toList_toArray]; exact nums_all rs)
theorem key_is (ok : HOk P w H h) (e : KeyAt H k b) : (nestedKind P w).is h (bk k) b := by
  obtain ⟨x, e, t⟩ := e
  obtain ⟨_, its, rs, o, h1, h2, n, h3⟩ := (show ObjOk P w H h b (.tup _) from ok b _ e)
  refine ⟨.tup h1 h2 h3 ?_, bk_depth k⟩
  rw [List.toList_toArray]
  cases rs with
  | cons r1 r2 =>
    cases r2 with
    | cons r2 r3 =>
      cases r3
      obtain ⟨z, rfl⟩ := (show ∃ z, _ = Value.str k.1 z from r1)
      exact .cons (.text _ z) (.cons (tval_is ok r2 t) .nil)
theorem TVal.mono (m : ∀ c xs, H c = some (.tup xs) → H' c = some (.tup xs)) (e : TVal H t x) : TVal H' t x := by
  cases t with
  | num i => exact e
  | nums is => exact let ⟨c, e1, e2⟩ := e; ⟨c, e1, m _ _ e2⟩
theorem KeyAt.mono (m : ∀ c xs, H c = some (.tup xs) → H' c = some (.tup xs)) (e : KeyAt H k b) : KeyAt H' k b := let ⟨x, e1, e2⟩ := e; ⟨x, m _ _ e1, e2.mono m⟩
end
/-- the entries that stand in the dict, and what is told of them -/
def ERel (H : Hp) (p : BK × V) (q : NestedKey × Addr × Value) : Prop := q.1 = bk p.1 ∧ KeyAt H p.1 q.2.1 ∧ RelV p.2 q.2.2
abbrev Ents (H : Hp) := Paired (ERel H)
def bkPhi (P : Program) (w : World) (a : Addr) (xs : List (NestedKey × Addr × Value)) (h : Heap) : Prop :=
  xs.length ≤ sizeLine ∧ (a == sysModules) = false ∧ ∃ o es ep, h.get? a = some o ∧ o.ExactDict ∧ o.data = .dict es ep ∧ es.toList = xs.map (entryOfKey (nestedKind P w)) ∧ (xs.map (·.1)).Nodup
def bkO (P : Program) (w : World) (a : Addr) (xs : List (NestedKey × Addr × Value)) : HO := .ext (bkPhi P w a xs)
/-- at a: a book's dict -/
def BkAt (P : Program) (w : World) (H : Hp) (a : Addr) (kvs : List (BK × V)) : Prop := (kvs = [] ∧ H a = some (.dK [])) ∨ ∃ xs, H a = some (bkO P w a xs) ∧ Ents H kvs xs
section
variable {P : Program} {w : World} {H H' : Hp} {h : Heap} {a b : Addr} {k : BK} {kvs : List (BK × V)} {xs : List (NestedKey × Addr × Value)} {y : V} {u : Value}
theorem Ents.mono (m : ∀ c zs, H c = some (.tup zs) → H' c = some (.tup zs)) (r : Ents H kvs xs) : Ents H' kvs xs := Paired.mapP r fun _ _ z => ⟨z.1, z.2.1.mono m, z.2.2⟩
theorem BkAt.mono (e : BkAt P w H a kvs) (ha : ∀ o, H a = some o → H' a = some o) (m : ∀ c zs, H c = some (.tup zs) → H' c = some (.tup zs)) : BkAt P w H' a kvs := by
  rcases e with ⟨e1, e2⟩ | ⟨xs, e1, e2⟩
  · exact .inl ⟨e1, ha _ e2⟩
  · exact .inr ⟨xs, ha _ e1, Ents.mono m e2⟩
theorem BkAt.ex (e : BkAt P w H a kvs) (x : Ex H H') : BkAt P w H' a kvs := e.mono (fun o => x _ o) fun c zs => x c _
theorem Ents.find (r : Ents H kvs xs) (k : BK) : RelO (valV kvs k) ((atKey xs (bk k)).map (·.2)) := by
  induction r with
  | nil => exact True.intro
  | @cons p q ps qs z t ih =>
    obtain ⟨z1, _, z3⟩ := z
    by_cases e : p.1 = k
    · rw [valV_pos e, show atKey (q :: qs) (bk k) = some q.2 from by simp [atKey, List.find?_cons, z1, e]]
      exact z3
    · have e' : ¬ q.1 = bk k := fun c => e (bk_inj (z1.symm.trans c))
      rw [valV_neg e, show atKey (q :: qs) (bk k) = atKey qs (bk k) from by simp [atKey, List.find?_cons, e']]
      exact ih
theorem Ents.store (r : Ents H kvs xs) (hb : KeyAt H k b) (ry : RelV y u) : Ents H (putK kvs k y) (storedH xs (bk k) b u) := by
  have same : (kvs.any fun kv => decide (kv.1 = k)) = (atKey xs (bk k)).isSome := by rw [valV_any, (r.find k).isSome_eq, Option.isSome_map]
  unfold putK storedH
  rw [same]
  cases (atKey xs (bk k)).isSome with
  | false => exact Paired.snoc r ⟨rfl, hb, ry⟩
  | true =>
    show Ents H (kvs.map _) (xs.map _)
    clear same
    induction r with
    | nil => exact .nil
    | @cons p q ps qs z t ih =>
      refine .cons ?_ ih
      obtain ⟨z1, z2, z3⟩ := z
      unfold putAt
      show ERel H (if p.1 = k then (p.1, y) else p) _
      by_cases e : p.1 = k
      · rw [if_pos e, if_pos (z1.trans (congrArg bk e))]
        exact ⟨z1, z2, ry⟩
      · rw [if_neg e, if_neg fun c => e (bk_inj (z1.symm.trans c))]
        exact ⟨z1, z2, z3⟩
theorem ents_is (ok : HOk P w H h) : ∀ {kvs : List (BK × V)} {xs : List (NestedKey × Addr × Value)}, Ents H kvs xs → ∀ x ∈ xs, (nestedKind P w).is h x.1 x.2.1
  | _, _, .nil => fun _ m => nomatch m
  | _, _, .cons z t => fun x m => by
    rcases List.mem_cons.mp m with rfl | m
    · rw [z.1]
      exact key_is ok z.2.1
    · exact ents_is ok t x m
theorem bk_of (ok : HOk P w H h) (e : BkAt P w H a kvs) : kvs.length ≤ sizeLine ∧ (a == sysModules) = false ∧ ∃ xs, Ents H kvs xs ∧ h.DictOfH (nestedKind P w) a xs := by
  rcases e with ⟨rfl, e⟩ | ⟨xs, e, r⟩
  · obtain ⟨z, hd, vs, rel, o, es, ep, h1, h2, h3, _, h5, _⟩ := dk_of ok e
    cases rel
    refine ⟨z, hd, [], .nil, o, es, ep, h1, h2, h3, ?_, fun _ m => (nomatch m), List.nodup_nil⟩
    cases hes : es.toList with
    | nil => rfl
    | cons _ _ => rw [hes] at h5; cases h5
  · obtain ⟨z, hd, o, es, ep, h1, h2, h3, h4, h5⟩ := (show ObjOk P w H h a (.ext (bkPhi P w a xs)) from ok a _ e).1
    exact ⟨by rw [Paired.length r]; exact z, hd, xs, r, o, es, ep, h1, h2, h3, h4, ents_is ok r, h5⟩
theorem bk_mut (e : BkAt P w H a kvs) : Mut (H a) := by
  rcases e with ⟨_, e⟩ | ⟨_, e, _⟩ <;> (rw [e]; exact True.intro)
theorem bk_no (e : BkAt P w H a kvs) {c : Addr} {zs : List V} (hc : H c = some (.tup zs)) : c ≠ a := by
  rintro rfl
  rcases e with ⟨_, e⟩ | ⟨_, e, _⟩ <;> (rw [hc] at e; cases e)
theorem bk_new (z : xs.length ≤ sizeLine) (hd : (a == sysModules) = false) (dd : h.DictOfH (nestedKind P w) a xs) : ObjOk P w H h a (bkO P w a xs) := by
  obtain ⟨o, es, ep, h1, h2, h3, h4, _, h5⟩ := dd
  exact ⟨⟨z, hd, o, es, ep, h1, h2, h3, h4, h5⟩, ⟨o, h1⟩, fun g1 g2 q m => let ⟨q1, q2, o', es', ep', p1, p2⟩ := q; ⟨q1, q2, o', es', ep', m _ p1, p2⟩⟩
theorem bk_put (e : BkAt P w H a kvs) (r : Ents H kvs xs) (hb : KeyAt H k b) (ry : RelV y u) : BkAt P w (upd H a (bkO P w a (storedH xs (bk k) b u))) a (putK kvs k y) :=
  .inr ⟨_, upd_same, Ents.mono (fun c zs hc => by rw [upd_ne (bk_no e hc)]; exact hc) (r.store hb ry)⟩
theorem storedH_len {κ : Type} [DecidableEq κ] (xs : List (κ × Addr × Value)) (q : κ) (b : Addr) (u : Value) : (storedH xs q b u).length ≤ xs.length + 1 := by
  unfold storedH
  split <;> simp
theorem room8 {A : Around} (hu : A.units + 64 < cLine) : (nestedKind P w).room A.in1 := by
  show A.units + 1 + 8 < cLine
  omega
end
section
variable {X : Cx} {pins : List (Addr × Obj)} {σ : St} {H : Hp} {s : Shared} {a b : Addr} {y : V} {r : Value} {k : BK} {kvs : List (BK × V)} {A : Around} {E : Value → Shared → Prop}
theorem bk_write {h' : Heap} {t' : Nat} {xs : List (NestedKey × Addr × Value)} {u : Value} (I : Inv X pins σ H s) (e : BkAt X.prog X.w H a kvs) (hs : Heap.SameBut a s.heap h') (hd : (a == sysModules) = false) (hl : xs.length < sizeLine)
    (dd : h'.DictOfH (nestedKind X.prog X.w) a (storedH xs (bk k) b u)) : Inv X pins σ (upd H a (bkO X.prog X.w a (storedH xs (bk k) b u))) { s with heap := h', toks := t' } := by
  have there : ∃ q, h'.get? a = some q := let ⟨q, _, _, hq, _⟩ := dd; ⟨q, hq⟩
  exact d_write I (bk_mut e) hs there (bk_new (Nat.le_trans (storedH_len ..) hl) hd dd)
theorem bk_setItem {Q : Unit → Shared → Prop} (hu : A.units + 64 < cLine) (I : Inv X pins σ H s) (e : BkAt X.prog X.w H a kvs) (hb : KeyAt H k b) (hl : kvs.length < sizeLine) (ry : RelV y r)
    (q : ∀ H' s', ExBut a H H' → BkAt X.prog X.w H' a (putK kvs k y) → Inv X pins σ H' s' → Q () s') : wpAny (model X.prog X.w) A (setItem (.ref a) (.ref b) r) Q E s := by
  obtain ⟨z, hd, xs, rel, dd⟩ := bk_of I.hok e
  have hx : xs.length < sizeLine := by rw [← Paired.length rel]; exact hl
  exact wpAny_setItem_heap (hsz := Nat.le_of_lt hx) (room8 hu) (key_is I.hok hb) dd fun h' dd' hs => q _ _ (ExBut.upd (ExBut.refl a H)) (bk_put e rel hb ry) (bk_write I e hs hd hx dd')
theorem bk_setd {Q : Value → Shared → Prop} (hu : A.units + 64 < cLine) (I : Inv X pins σ H s) (e : BkAt X.prog X.w H a kvs) (hb : KeyAt H k b) (hl : kvs.length < sizeLine) (ry : RelV y r)
    (q1 : ∀ v, valV kvs k = some v → ∀ v' s', RelV v v' → Inv X pins σ H s' → Q v' s')
    (q2 : valV kvs k = none → ∀ H' s', ExBut a H H' → BkAt X.prog X.w H' a (putK kvs k y) → Inv X pins σ H' s' → Q r s') : wpAny (model X.prog X.w) A (call (.builtin "dict.setdefault") [.ref a, .ref b, r]) Q E s := by
  obtain ⟨z, hd, xs, rel, dd⟩ := bk_of I.hok e
  have hx : xs.length < sizeLine := by rw [← Paired.length rel]; exact hl
  have f := rel.find k
  refine call_setdefault_heap (hsz := Nat.le_of_lt hx) (room8 hu) (key_is I.hok hb) hd dd (fun p hp => ?_) fun hn h' dd' hs => ?_
  · rw [hp] at f
    cases hv : valV kvs k with
    | none => rw [hv] at f; exact (show False from f).elim
    | some v => rw [hv] at f; exact q1 v hv _ _ f (I.tok _)
  · rw [hn] at f
    cases hv : valV kvs k with
    | some v => rw [hv] at f; exact (show False from f).elim
    | none => exact q2 hv _ _ (ExBut.upd (ExBut.refl a H)) (bk_put e rel hb ry) (bk_write I e hs hd hx dd')
end
/-! ### the rules -/
def BkIn (P : Program) (w : World) (x : V) (H : Hp) (R : Addr → Prop) : Prop := ∃ a, x = .ref a ∧ (∃ kvs, BkAt P w H a kvs) ∧ R a
def BkPut (P : Program) (w : World) (a : Addr) (y v : V) (H : Hp) (W : Hp → Prop) : Prop := ∃ kvs k b, BkAt P w H a kvs ∧ y = .ref b ∧ KeyAt H k b ∧ kvs.length < sizeLine ∧ ∀ H', ExBut a H H' → BkAt P w H' a (putK kvs k v) → W H'
def BkSetd (P : Program) (w : World) (a : Addr) (y v : V) (H : Hp) (Q : VK) : Prop := ∃ kvs k b, BkAt P w H a kvs ∧ y = .ref b ∧ KeyAt H k b ∧ kvs.length < sizeLine ∧ (∀ u, valV kvs k = some u → Q u H) ∧ (valV kvs k = none → ∀ H', ExBut a H H' → BkAt P w H' a (putK kvs k v) → Q v H')
def sBkPut (P : Program) (w : World) (td ty tv : TE) : TS := fun D σ H => tv σ H fun v H1 => td σ H1 fun x H2 => ty σ H2 fun y H3 => ∃ a, x = .ref a ∧ BkPut P w a y v H3 (D.nx σ)
def tBkSetd (P : Program) (w : World) (td ty tx : TE) : TE := fun σ H Q => td σ H fun x H1 => BkIn P w x H1 fun a => ty σ H1 fun y H2 => tx σ H2 fun z H3 => BkSetd P w a y z H3 Q
def rLenB (P : Program) (w : World) : List V → Hp → VK → Prop := fun xs H Q => ∃ p kvs, xs = [.ref p] ∧ BkAt P w H p kvs ∧ Q (.int (kvs.length : Int)) H
section
variable {X : Cx} {o i f value : Expr} {td ty tv tx : TE} {pos pos' : Pos}
theorem bkPut' (hu : X.A.units + 64 < cLine) (ho : PE X o td) (hi : PE X i ty) (hv : PE X value tv) (hs : swapsWith value (some (.Subscript o i pos')) pos.line X.env = pure false) : PS X (.Assign [.Subscript o i pos'] value pos) (sBkPut X.prog X.w td ty tv) := by
  constructor
  intro pins s σ H D I h
  refine wpAny_Assign_Subscript ?_ hs
  refine thn (hv.run pins s σ H _ I h) fun r s1 z1 => ?_
  obtain ⟨v, H1, I1, rv, z1⟩ := z1
  refine thn (ho.run pins s1 σ H1 _ I1 z1) fun u s2 z2 => ?_
  obtain ⟨x, H2, I2, rx, z2⟩ := z2
  refine thn (hi.run pins s2 σ H2 _ I2 z2) fun iv s3 z3 => ?_
  obtain ⟨y, H3, I3, ry, a, rfl, kvs, k, b, e, rfl, hb, hl, q⟩ := z3
  obtain rfl := (show u = Value.ref a from rx)
  obtain rfl := (show iv = Value.ref b from ry)
  exact bk_setItem hu I3 e hb hl rv fun H4 s4 m e4 I4 => ⟨σ, H4, I4, q H4 m e4⟩
theorem bkSetd' {apos cpos : Pos} (hu : X.A.units + 64 < cLine) (ho : PE X o td) (hi : PE X i ty) (hf : PE X f tx) (m : M2 X o "setdefault" apos i f cpos) : PE X (.Call (.Attribute o "setdefault" apos) [i, f] [] cpos) (tBkSetd X.prog X.w td ty tx) := by
  constructor
  intro pins s σ H Q I h
  refine wpAny_Call_method m.base m.few m.line PySem.F.plainAttrs_dict PySem.F.slot_dict_setdefault PySem.F.type_dict_setdefault ?_
  refine thn (ho.run pins s σ H _ I h) fun u s1 z1 => ?_
  obtain ⟨x, H1, I1, rx, a, rfl, ⟨kv1, e1⟩, z1⟩ := z1
  obtain rfl := (show u = Value.ref a from rx)
  obtain ⟨_, _, xs, _, dd⟩ := bk_of I1.hok e1
  refine ⟨dd.typeIs, fun c hc => ?_, ?_⟩
  · cases hc
    obtain ⟨ob, _, _, g1, g2, _⟩ := dd
    exact ⟨ob, g1, g2.2.1⟩
  · rw [m.trees]
    refine Calls.callWith_builtin rfl (Calls.evalArgs_plain (Calls.spliced_cons ?_))
    refine thn (hi.run pins s1 σ H1 _ I1 z1) fun iv s2 z2 => ?_
    obtain ⟨y, H2, I2, ry, z2⟩ := z2
    refine Calls.spliced_cons (thn (hf.run pins s2 σ H2 _ I2 z2) fun fv s3 z3 => ?_)
    obtain ⟨z, H3, I3, rz, kvs, k, b, e, rfl, hb, hl, q1, q2⟩ := z3
    obtain rfl := (show iv = Value.ref b from ry)
    exact Calls.spliced_nil (bk_setd hu I3 e hb hl rz (fun v hv v' s4 r4 I4 => ⟨v, H3, I4, r4, q1 v hv⟩) fun hn H4 s4 m4 e4 I4 => ⟨z, H4, I4, rz, q2 hn H4 m4 e4⟩)
theorem bkLen' : CallR X (.builtin "len") (rLenB X.prog X.w) := by
  intro pins s σ H xs us Q I r h
  obtain ⟨p, kvs, rfl, e, q⟩ := h
  obtain ⟨u, rfl, rx⟩ := vals1 r
  obtain rfl := (show u = Value.ref p from rx)
  obtain ⟨z, hd, ys, rel, dd⟩ := bk_of I.hok e
  have hl := Paired.length rel
  rw [hl] at z q
  exact call_len_dictH hd dd (by rw [sizeLine_eq] at z; omega) ⟨.int ys.length, H, I.tok _, ⟨_, rfl⟩, q⟩
variable (P : Program) (w : World)
theorem bkPut (hu : X.A.units + 64 < cLine) (ho : PE X o td) (hi : PE X i ty) (hv : PE X value tv) (hs : swapsWith value (some (.Subscript o i pos')) pos.line X.env = pure false) (h1 : X.prog = P := by rfl) (h2 : X.w = w := by rfl) :
    PS X (.Assign [.Subscript o i pos'] value pos) (sBkPut P w td ty tv) := h1 ▸ h2 ▸ bkPut' hu ho hi hv hs
theorem bkSetd {apos cpos : Pos} (hu : X.A.units + 64 < cLine) (ho : PE X o td) (hi : PE X i ty) (hf : PE X f tx) (m : M2 X o "setdefault" apos i f cpos) (h1 : X.prog = P := by rfl) (h2 : X.w = w := by rfl) :
    PE X (.Call (.Attribute o "setdefault" apos) [i, f] [] cpos) (tBkSetd P w td ty tx) := h1 ▸ h2 ▸ bkSetd' hu ho hi hf m
theorem bkLen (h1 : X.prog = P := by rfl) (h2 : X.w = w := by rfl) : CallR X (.builtin "len") (rLenB P w) := h1 ▸ h2 ▸ bkLen'
end
end Kit

namespace Kit
open PySem PySem.Spec PyProof.Rows L2 Evl
/-! ### == of texts, rows of texts -/
def TK.data : TK → PyData
  | .num i => .int i
  | .nums is => .tuple ((is.map V.int).map flatD)
section
variable {H H' : Hp} {K : PySem.W.Frag} {t t' : TK} {x y : V} {Q : VK}
theorem TVal.dp (e : TVal H t x) : Dp K H x t.data := by
  cases t with
  | num i => exact (show x = V.int i from e) ▸ Dp.int i
  | nums is => exact let ⟨a, e1, e2⟩ := e; e1 ▸ dp_tup (st_of e2) (fln_fl (ints_fln is))
theorem TK.lay (t : TK) : t.data.canLay0 = true ∧ PyData.depth t.data ≤ 1 := by
  cases t with
  | num i => exact ⟨rfl, Nat.zero_le _⟩
  | nums is =>
    obtain ⟨h1, h2⟩ := flats_ok (ints_fln is)
    exact ⟨h1, by show PyData.depthAll _ + 1 ≤ 1; rw [h2]; exact Nat.le_refl 1⟩
theorem TK.shaped (t : TK) : SeqAt.shaped t.data = true := by
  unfold SeqAt.shaped
  rw [t.lay.1, decide_eq_true (Nat.le_trans t.lay.2 (by decide))]
  rfl
theorem TK.eqv (t t' : TK) : PyData.eqv t.data t'.data = decide (t = t') := by
  cases t <;> cases t'
  · rename_i i j
    by_cases h : i = j
    · subst h; simp [TK.data, PyData.eqv]
    · simp [TK.data, PyData.eqv, h]
  · simp [TK.data, PyData.eqv]
  · simp [TK.data, PyData.eqv]
  · rename_i a b
    show PyData.eqvAll _ _ = _
    rw [eqvAll_ints]
    by_cases h : a = b
    · subst h; simp
    · simp [h]
theorem w_neTV (h1 : TVal H t x) (h2 : TVal H t' y) (q : Q (.bl (!decide (t = t'))) H) : rNeD K x y H Q := w_neD h1.dp h2.dp t.shaped t'.shaped (by rw [TK.eqv]; exact q)
theorem w_eqTV (h1 : TVal H t x) (h2 : TVal H t' y) (q : Q (.bl (decide (t = t'))) H) : rEqD K x y H Q := w_eqD h1.dp h2.dp t.shaped t'.shaped (by rw [TK.eqv]; exact q)
end
abbrev Rw := Str × TK × Int
def Rw.data (r : Rw) : PyData := .tuple [.str r.1, r.2.1.data, .int r.2.2]
/-- the value v is the row r -/
def RowAt (H : Hp) (r : Rw) (v : V) : Prop := ∃ a x, v = .ref a ∧ H a = some (.tup [.str r.1, x, .int r.2.2]) ∧ TVal H r.2.1 x
section
variable {H H' : Hp} {K : PySem.W.Frag} {r r' : Rw} {v x y : V} {Q : VK} {rs : List Rw} {vs : List V}
theorem RowAt.mono (m : ∀ c xs, H c = some (.tup xs) → H' c = some (.tup xs)) (e : RowAt H r v) : RowAt H' r v := let ⟨a, x, e1, e2, e3⟩ := e; ⟨a, x, e1, m _ _ e2, e3.mono m⟩
theorem RowAt.dp (e : RowAt H r v) : Dp K H v r.data := by
  obtain ⟨a, x, rfl, e, t⟩ := e
  exact .tup (st_of e) (.cons (.str _) (.cons t.dp (.cons (.int _) .nil)))
theorem rows_dp (h : Paired (RowAt H) rs vs) : DpAll K H vs (rs.map Rw.data) := by
  induction h with
  | nil => exact .nil
  | cons a _ ih => exact .cons a.dp ih
theorem Rw.lay (ok : PyData.strOk r.1 = true) : r.data.canLay0 = true ∧ PyData.depth r.data ≤ 2 := by
  have l := r.2.1.lay
  refine ⟨?_, ?_⟩
  · simp [Rw.data, PyData.canLay0, PyData.canLayAll0, ok, l.1]
  · have l2 := l.2
    simp only [Rw.data, PyData.depth, PyData.depthAll]
    omega
theorem Rw.shaped (ok : PyData.strOk r.1 = true) : SeqAt.shaped r.data = true := by
  have l := Rw.lay ok
  unfold SeqAt.shaped
  rw [l.1, decide_eq_true (Nat.le_trans l.2 (by decide))]
  rfl
theorem rows_lay : ∀ {rs : List Rw}, (∀ r ∈ rs, PyData.strOk r.1 = true) → PyData.canLayAll0 (rs.map Rw.data) = true ∧ PyData.depthAll (rs.map Rw.data) ≤ 2
  | [], _ => ⟨rfl, Nat.zero_le _⟩
  | r :: rs, ok => by
    have l := Rw.lay (ok r (List.mem_cons_self ..))
    have m := rows_lay fun r h => ok r (List.mem_cons_of_mem _ h)
    rw [List.map_cons, PyData.canLayAll0, PyData.depthAll, l.1, m.1]
    exact ⟨rfl, Nat.max_le.mpr ⟨l.2, m.2⟩⟩
theorem rows_shaped (ok : ∀ r ∈ rs, PyData.strOk r.1 = true) : SeqAt.shaped (.list (rs.map Rw.data)) = true := by
  have l := rows_lay ok
  unfold SeqAt.shaped
  rw [show (PyData.list (rs.map Rw.data)).canLay0 = true from l.1, show PyData.depth (PyData.list (rs.map Rw.data)) = PyData.depthAll (rs.map Rw.data) + 1 from rfl, decide_eq_true (Nat.le_trans (Nat.succ_le_succ l.2) (by decide))]
  rfl
theorem Rw.eqv (r r' : Rw) : PyData.eqv r.data r'.data = decide (r = r') := by
  obtain ⟨k, t, d⟩ := r
  obtain ⟨k', t', d'⟩ := r'
  simp only [Rw.data, PyData.eqv, PyData.eqvAll, TK.eqv, Bool.and_true]
  rw [Bool.eq_iff_iff]
  simp [Prod.ext_iff]
theorem w_notInRows {p : Addr} (hv : RowAt H r v) (hp : SqL K H p vs) (hr : Paired (RowAt H) rs vs) (ok1 : PyData.strOk r.1 = true) (ok : ∀ r ∈ rs, PyData.strOk r.1 = true) (q : Q (.bl (!decide (r ∈ rs))) H) : rNotInD K v (.ref p) H Q := by
  refine ⟨r.data, rs.map Rw.data, hv.dp, .lst hp (rows_dp hr), Rw.shaped ok1, rows_shaped ok, ?_⟩
  have e : ((rs.map Rw.data).any fun z => PyData.eqv z r.data) = decide (r ∈ rs) := by
    rw [List.any_map, Bool.eq_iff_iff, List.any_eq_true, decide_eq_true_iff]
    constructor
    · rintro ⟨z, hz, e⟩
      rw [Function.comp_apply, Rw.eqv, decide_eq_true_iff] at e
      exact e ▸ hz
    · exact fun h => ⟨r, h, by rw [Function.comp_apply, Rw.eqv, decide_eq_true rfl]⟩
  rw [e]
  exact q
end
section
variable (K : PySem.W.Frag) {X : Cx}
theorem kNotInD (hu : X.A.units + 65 < cLine) (h : X.K = K := by rfl) : OpR X (compareOp .NotIn) (rNotInD K) := h ▸ op_notInD hu
end
theorem units65 {k : Nat} {A : Around} (hr : Room k A) : A.units + 65 < cLine := by have := hr.un; omega
theorem w_dnew {σ : St} {H : Hp} {Q : VK} (q : ∀ p H2, H p = none → Ex H H2 → H2 p = some (.dK []) → Q (.ref p) H2) : tDNewK σ H Q := fun p hp => q p _ hp (Ex.new hp) upd_same
theorem m_bkPut {P : Program} {w : World} {td ty tv : TE} {nx : St → Hp → Prop} {rt : VK} {bk ct : St → Hp → Prop} {σ : St} {H : Hp} (h : tv σ H fun v H1 => td σ H1 fun x H2 => ty σ H2 fun y H3 => ∃ a, x = .ref a ∧ BkPut P w a y v H3 (nx σ)) :
    Sm (sBkPut P w td ty tv) nx rt bk ct σ H := h
theorem w_bkSetd {P : Program} {w : World} {td ty tx : TE} {σ : St} {H : Hp} {Q : VK} (h : td σ H fun x H1 => BkIn P w x H1 fun a => ty σ H1 fun y H2 => tx σ H2 fun z H3 => BkSetd P w a y z H3 Q) : tBkSetd P w td ty tx σ H Q := h
/-! ### what a call on a book keeps: all but the book and dicts -/
def mutB : HO → Bool
  | .dK _ | .dT _ | .ext _ => true
  | _ => false
def KeepB (p : Addr) (H H' : Hp) : Prop := ∀ b o, b ≠ p → H b = some o → mutB o = false → H' b = some o
section
variable {p d : Addr} {H H1 H2 : Hp} {P : Program} {w : World} {K : PySem.W.Frag} {xs : List V}
theorem KeepB.of (e : Ex H H1) : KeepB p H H1 := fun b o _ h _ => e b o h
theorem KeepB.but (e : ExBut p H H1) : KeepB p H H1 := fun b o n h _ => e b o n h
theorem KeepB.trans (a : KeepB p H H1) (b : KeepB p H1 H2) : KeepB p H H2 := fun c o n h m => b c o n (a c o n h m) m
theorem bk_is {kvs : List (BK × V)} (e : BkAt P w H d kvs) : ∃ o, H d = some o ∧ mutB o = true := by
  rcases e with ⟨_, e⟩ | ⟨_, e, _⟩ <;> exact ⟨_, e, rfl⟩
theorem KeepB.dict {kvs : List (BK × V)} (e : BkAt P w H d kvs) (m : ExBut d H H1) : KeepB p H H1 := fun b o _ h z => by
  refine m b o ?_ h
  rintro rfl
  obtain ⟨o', e1, e2⟩ := bk_is e
  rw [h] at e1
  cases e1
  rw [z] at e2
  cases e2
theorem KeepB.tup {C dx : Addr} {fs : List (Str × V)} (k : KeepB p H H1) (hp : H p = some (.ins C dx fs)) (c : Addr) (zs : List V) (h : H c = some (.tup zs)) : H1 c = some (.tup zs) :=
  k c _ (by rintro rfl; rw [hp] at h; cases h) h rfl
theorem KeepB.lst {C dx : Addr} {fs : List (Str × V)} (k : KeepB p H H1) (hp : H p = some (.ins C dx fs)) (c : Addr) (zs : List V) (h : H c = some (.lst zs)) : H1 c = some (.lst zs) :=
  k c _ (by rintro rfl; rw [hp] at h; cases h) h rfl
theorem KeepB.sqL {C dx : Addr} {fs : List (Str × V)} (k : KeepB p H H1) (hp : H p = some (.ins C dx fs)) {c : Addr} (h : SqL K H c xs) : SqL K H1 c xs := by
  rcases h with (h | ⟨o, h⟩) | h
  · exact .inl (.inl (k.lst hp c _ h))
  · exact .inl (.inr ⟨o, k c _ (by rintro rfl; rw [hp] at h; cases h) h rfl⟩)
  · exact .inr h
end
end Kit

namespace Kit
open PySem PySem.Spec PyProof.Rows L2 Evl
theorem paired_get {α β : Type} {F : α → β → Prop} {l : List α} {m : List β} (h : Paired F l m) : ∀ {i : Nat} {v : β}, m[i]? = some v → ∃ r, l[i]? = some r ∧ F r v := by
  induction h with
  | nil => intro i v h; simp at h
  | cons a t ih =>
    intro i v h
    cases i with
    | zero =>
      rw [List.getElem?_cons_zero] at h
      exact ⟨_, rfl, Option.some.inj h ▸ a⟩
    | succ i =>
      rw [List.getElem?_cons_succ] at h
      exact ih h
/-- [x for x in xs if ..], the test leaving the heap -/
theorem l_filter {K : PySem.W.Frag} {a : Addr} {xs : List V} {vs : List Nat} {σ : St} {j : Nat} {tt : TT} {te : TE} {H : Hp} {Q : VK} (hx : SqL K H a xs) (hn : xs.length ≤ 40000) (hw : ∀ v, wipe ((wipe σ vs).set j (some v)) vs = wipe σ vs) (b : Nat → Bool)
    (ht : ∀ i x H', xs[i]? = some x → Ex H H' → ∀ R : Bool → Hp → Prop, R (b i) H' → tt ((wipe σ vs).set j (some x)) H' R) (he : ∀ x H' (R : VK), R x H' → te ((wipe σ vs).set j (some x)) H' R)
    (q : ∀ p H2 ys, H p = none → Ex H H2 → H2 p = some (.lst ys) → (∀ y ∈ ys, ∃ i, xs[i]? = some y ∧ b i = true) → (ys = [] → ∀ i, i < xs.length → b i = false) → ys.length ≤ xs.length → Q (.ref p) H2) :
    ∃ c, V.ref a = .ref c ∧ (∃ ys, SqL K H c ys) ∧ Lcj (Itl K c) (gName j) tt te vs σ H Q := by
  refine ⟨a, rfl, ⟨xs, hx⟩, l_any walks_list hn hw (fun D i acc H' => H D = none ∧ Ex H H' ∧ (∀ y ∈ acc, ∃ k, xs[k]? = some y ∧ b k = true) ∧ (acc = [] → ∀ k, k < i → b k = false)) (fun D i acc H' h => ex_l h.2.1 hx) (fun D hD => ⟨hD, Ex.new hD, fun y h => (nomatch h), fun _ k h => (nomatch h)⟩) ?_ ?_⟩
  · intro D i acc H' hD hi ha hd ⟨_, e, h1, h2⟩ R r1 r2
    have z : xs[i]? = some xs[i] := List.getElem?_eq_getElem hi
    show tt ((wipe σ vs).set j (some ((xs[i]?).getD .non))) H' R
    rw [z]
    refine ht i xs[i] H' z e R ?_
    cases hb : b i with
    | false =>
      refine r1 H' hd ⟨hD, e, h1, fun hz k hk => ?_⟩
      by_cases h : k < i
      · exact h2 hz k h
      · rw [show k = i from by omega]; exact hb
    | true =>
      refine r2 H' fun R2 r => ?_
      show te ((wipe σ vs).set j (some ((xs[i]?).getD .non))) H' R2
      rw [z]
      refine he xs[i] H' R2 (r xs[i] H' hd ⟨hD, ExBut.ex e hD (ExBut.upd (ExBut.refl D H')), fun y hy => ?_, fun hz => by simp at hz⟩)
      rcases List.mem_append.mp hy with hy | hy
      · exact h1 y hy
      · rw [List.mem_singleton.mp hy]
        exact ⟨i, z, hb⟩
  · intro D acc H2 hD hl hd ⟨_, e, h1, h2⟩
    exact q D H2 acc hD e hd h1 h2 hl
end Kit

namespace Kit
open PySem PySem.Spec PyProof.Rows L2 Evl
/-- a statement, then the rest, with what stands between them said -/
theorem m_cutN {a b : TS} {nx bk ct : St → Hp → Prop} {rt : VK} {σ : St} {H : Hp} (M : St → Hp → Prop) (k : ∀ N : St → Hp → Prop, (∀ σ H, M σ H → N σ H) → Sm a N rt bk ct σ H) (h : ∀ σ H, M σ H → Sm b nx rt bk ct σ H) : Sm (tSeq a b) nx rt bk ct σ H := k _ h
end Kit

namespace Kit
open PySem PySem.Spec PyProof.Rows L2 Evl
section
variable {σ : St} {H : Hp} {Q : VK} {ta tb tc : TE} {r r' : R2} {a b : Bool}
theorem w_chain (h : ta σ H fun x H1 => tb σ H1 fun y H2 => r x y H2 fun z H3 => ∃ k, z = .bl k ∧ (if k = true then tc σ H3 fun w' H4 => r' y w' H4 Q else Q (.bl false) H3)) : tChain r r' ta tb tc σ H Q := h
theorem w_isB (q : Q (.bl (decide (a = b))) H) : rIsB (.bl a) (.bl b) H Q := ⟨a, b, rfl, rfl, q⟩
theorem w_notB (q : Q (.bl (!decide (a = b))) H) : rNotB (.bl a) (.bl b) H Q := ⟨a, b, rfl, rfl, q⟩
end
theorem foldl_take {α β : Type} {f : β → α → β} {l : List α} {i : Nat} {x : α} {b : β} (h : l[i]? = some x) : (l.take (i + 1)).foldl f b = f ((l.take i).foldl f b) x := by
  rw [List.take_succ, h, List.foldl_append]
  rfl
end Kit

set_option Elab.async false
set_option linter.all false
set_option maxRecDepth 100000
set_option maxHeartbeats 4000000
namespace My
open PySem PySem.Spec PyProof.Rows L2
/-! ### the walk: "wp" goes as far as it can, "wp1" one step; "hp": what stands at an address; "ex": a heap grown; "sqL", "sqT": a list, a tuple to be read; "side": a side condition; "ix": an item -/
local macro_rules | `(tactic| walk_at "hp") => `(tactic| first | with_reducible assumption | exact Kit.ex_get (by with_reducible assumption) (by walk_at "hp") | fail)
local macro_rules | `(tactic| walk_at "ex") => `(tactic| first | with_reducible assumption | with_reducible exact Evl.Ex.refl _ | exact Kit.ex_snoc (by with_reducible assumption) (by walk_at "ex") | exact Kit.ex_but (by with_reducible assumption) (by with_reducible assumption) (by walk_at "ex") | fail)
local macro_rules | `(tactic| walk_at "but") => `(tactic| first | with_reducible assumption | with_reducible exact Kit.ExBut.refl _ _ | exact Kit.but_snoc (by with_reducible assumption) (by walk_at "but") | exact Kit.but_snocE (by with_reducible assumption) (by walk_at "but") | fail)
local macro_rules | `(tactic| walk_at "sqL") => `(tactic| first | with_reducible assumption | exact Evl.sq_of (by with_reducible assumption) | exact Evl.ex_l (by with_reducible assumption) (by walk_at "sqL") | fail)
local macro_rules | `(tactic| walk_at "sqT") => `(tactic| first | with_reducible assumption | exact Evl.st_of (by with_reducible assumption) | exact Evl.ex_t (by with_reducible assumption) (by walk_at "sqT") | fail)
local macro_rules | `(tactic| walk_at "sq2") => `(tactic| first | with_reducible assumption | exact Or.inr (Evl.st_of (by with_reducible assumption)) | exact Or.inl (Evl.sq_of (by with_reducible assumption)) | exact Or.inl (by walk_at "sqL") | exact Or.inr (by walk_at "sqT") | fail)
local macro_rules | `(tactic| walk_at "len") => `(tactic| (first | assumption | omega | fail))
local macro_rules | `(tactic| walk_at "len2") => `(tactic| first | exact Nat.le_of_ble_eq_true rfl | omega | (simp; omega) | fail)
local macro_rules | `(tactic| walk_at "side") => `(tactic| first | (with_reducible exact trivial) | (show (0 : Int) < _; omega) | (show (0 : Int) < _; decide) | (show L2.CDiv _ _; exact ⟨by omega, by omega⟩) | (show L2.CMul _ _; exact .inr ⟨by omega, by omega⟩) | (show L2.CMul _ _; exact .inl ⟨by omega, by omega⟩) | (show L2.CDivW _ _; exact Kit.divW (by omega) (by omega)) | (show L2.CDivW _ _; exact Kit.divW (by decide) (by decide)) | (show L2.CPow _ _; exact ⟨by decide, by decide, by decide⟩) | fail)
local macro_rules | `(tactic| walk_at "ix") => `(tactic| first | exact L2.atI_nat (j := 0) rfl | exact L2.atI_nat (j := 1) rfl | exact L2.atI_nat (j := 2) rfl | exact L2.atI_nat (j := 3) rfl | exact L2.atI_nat (j := 4) rfl | exact L2.atI_nat (j := 5) rfl | assumption | fail)
local macro_rules | `(tactic| walk_at "norm") => `(tactic| ((with_reducible show Kit.Sm _ _ _ _ _ (List.set _ _ _) _); refine Kit.m_norm (by simp only [List.set_cons_succ, List.set_cons_zero]; exact rfl) ?_))
local macro_rules | `(tactic| walk_at "wp1") => `(tactic| first
  | ((with_reducible show L2.tVar _ _ _ _); refine Kit.w_var rfl ?_)
  | with_reducible refine Kit.w_op ?_
  | with_reducible refine Kit.w_c ?_
  | with_reducible refine Kit.w_cons ?_
  | with_reducible refine Kit.w_nil ?_
  | ((with_reducible show Kit.Sm _ _ _ _ _ _ _); first
      | ((with_reducible show Kit.Sm _ _ _ _ _ (List.set _ _ _) _); refine Kit.m_norm (by simp only [List.set_cons_succ, List.set_cons_zero]; exact rfl) ?_)
      | with_reducible refine Kit.m_seq ?_
      | with_reducible refine Kit.m_asg ?_
      | with_reducible refine Kit.m_if ?_
      | with_reducible refine Kit.m_ret ?_
      | with_reducible refine Kit.m_next ?_
      | with_reducible refine Kit.m_asgG ?_
      | with_reducible refine Kit.m_drop ?_
      | with_reducible refine Kit.m_fld ?_
      | with_reducible refine Kit.m_for ?_
      | with_reducible refine Kit.m_retN ?_
      | with_reducible refine Kit.m_cont ?_
      | with_reducible refine Kit.m_brk ?_)
  | with_reducible refine Kit.w_test ?_
  | with_reducible refine Kit.w_bl ?_
  | with_reducible refine Kit.w_blE ?_
  | with_reducible refine Kit.w_I0 ?_
  | ((with_reducible show L2.rI _ _ _ _ _ _); refine Kit.w_I (by walk_at "side") ?_)
  | with_reducible refine Kit.w_eqI ?_
  | with_reducible refine Kit.i_T ?_
  | with_reducible refine Kit.i_F ?_
  | with_reducible refine Kit.i_N ?_
  | with_reducible refine Kit.i_R ?_
  | ((with_reducible refine Kit.i_D ?_ ?_) <;> intro _)
  | with_reducible refine Kit.w_cb ?_
  | with_reducible refine Kit.w_call0 ?_
  | ((with_reducible show Kit.Alloc _ _ _ _); refine Kit.w_new (by first | exact Nat.le_of_ble_eq_true rfl | walk_at "len") ?_; intro _ _ _ _ _)
  | with_reducible refine Kit.w_tup ?_
  | with_reducible refine Kit.w_lst ?_
  | ((with_reducible show L2.rEq (V.str _) _ _ _); first | with_reducible refine Kit.w_eqS ?_ | refine Kit.w_eqSF (by decide +kernel) ?_)
  | ((with_reducible show L2.rIxL _ _ (V.int _) _ _); refine Kit.w_ixL (by walk_at "sqL") (by walk_at "ix") ?_)
  | ((with_reducible show L2.rIxT _ _ (V.int _) _ _); refine Kit.w_ixT (by walk_at "sqT") (by walk_at "ix") ?_)
  | ((with_reducible show L2.rIn _ false _ _ _ _); first | refine Kit.w_inLt (by walk_at "sq2") (by decide +kernel) ?_ | refine Kit.w_inLf (by walk_at "sq2") (by decide +kernel) ?_)
  | with_reducible refine Kit.w_int ?_
  | with_reducible refine Kit.w_intB ?_
  | with_reducible refine Kit.w_not ?_
  | with_reducible refine Kit.w_and ?_
  | with_reducible refine Kit.w_or ?_
  | with_reducible refine Kit.w_B ?_
  | with_reducible refine Kit.w_ifE ?_
  | with_reducible refine Kit.w_fld ?_
  | with_reducible refine Kit.w_meth ?_
  | with_reducible refine Kit.w_sl ?_
  | with_reducible refine Kit.w_po ?_
  | with_reducible refine Kit.w_ps ?_
  | with_reducible refine Kit.w_pi ?_
  | ((with_reducible show L2.rSlL _ _ _ _ _ _); refine Kit.w_slL (by walk_at "sqL") ?_; intro _ _ _ _ _)
  | ((with_reducible show L2.rSlA _ _ _ _ _ _); refine Kit.w_slT (by walk_at "sqT") ?_; intro _ _ _ _)
  | ((with_reducible show L2.rCatA _ _ _ _ _); refine Kit.w_catT (by walk_at "sqT") (by walk_at "sqT") (by walk_at "len2") ?_; intro _ _ _ _)
  | ((with_reducible show L2.rCat _ _ _ _); refine Kit.w_catL (by walk_at "hp") (by walk_at "hp") (by walk_at "len2") ?_; intro _ _ _ _ _)
  | with_reducible refine Kit.w_bm ?_
  | with_reducible refine Kit.w_bm0 ?_
  | ((with_reducible show L2.tyV _ "list" _ _ ∧ _); refine Kit.w_tyL (by walk_at "sqL") ?_)
  | with_reducible refine Kit.w_make ?_
  | ((with_reducible refine Kit.w_made ?_); intro _ _ _ _ _ _)
  | with_reducible refine Kit.w_neI ?_
  | with_reducible refine Kit.w_un ?_
  | with_reducible refine Kit.w_U ?_
  | with_reducible refine Kit.w_andV ?_
  | with_reducible refine Kit.w_orV ?_
  | with_reducible refine Kit.w_notV ?_
  | with_reducible refine Kit.w_eqB ?_
  | with_reducible refine Kit.w_max ?_
  | with_reducible refine Kit.w_min ?_
  | with_reducible refine Kit.w_abs ?_
  | ((with_reducible show Evl.rLenS _ _ _ _); refine Kit.w_len (by walk_at "sq2") ?_)
  | ((with_reducible show Evl.rListS _ _ _ _); refine Kit.w_list (by walk_at "sq2") ?_; intro _ _ _ _ _)
  | ((with_reducible show Kit.rTupS _ _ _ _); first | (refine Kit.w_tuple (by walk_at "sqL") ?_; intro _ _ _ _ _) | refine Kit.w_tupleT (by walk_at "sqT") ?_)
  | ((with_reducible show Kit.rIsNo _ _ _ _); first | with_reducible refine Kit.w_isNN ?_ | with_reducible refine Kit.w_isNI ?_ | with_reducible refine Kit.w_isNB ?_ | with_reducible refine Kit.w_isNR ?_)
  | ((with_reducible show Kit.rNotNo _ _ _ _); first | with_reducible refine Kit.w_notNN ?_ | with_reducible refine Kit.w_notNI ?_ | with_reducible refine Kit.w_notNB ?_ | with_reducible refine Kit.w_notNR ?_)
  | with_reducible refine Kit.m_gsub ?_
  | ((with_reducible show L2.rSetL _ (V.int _) _ _ _); refine Kit.w_setL (by walk_at "hp") (by first | exact rfl | exact Evl.ixN_nat (by omega)) (by first | (simp only [List.set_cons_succ, List.set_cons_zero]; exact rfl) | exact rfl) ?_; intro _ _ _)
  | ((with_reducible show L2.rIsi _ _ _ _); first | refine Kit.w_isiInt (b := true) (by decide +kernel) ?_ | refine Kit.w_isiInt (b := false) (by decide +kernel) ?_ | refine Kit.w_isiNon (b := true) (by decide +kernel) ?_ | refine Kit.w_isiNon (b := false) (by decide +kernel) ?_ | refine Kit.w_isiBl (b := true) (by decide +kernel) ?_ | refine Kit.w_isiBl (b := false) (by decide +kernel) ?_ | refine Kit.w_isiStr (b := true) (by decide +kernel) ?_ | refine Kit.w_isiStr (b := false) (by decide +kernel) ?_ | refine Kit.w_isiTup (b := true) (by walk_at "sqT") (by decide +kernel) ?_ | refine Kit.w_isiTup (b := false) (by walk_at "sqT") (by decide +kernel) ?_ | refine Kit.w_isiLst (b := true) (by walk_at "sqL") (by decide +kernel) ?_ | refine Kit.w_isiLst (b := false) (by walk_at "sqL") (by decide +kernel) ?_)
  | ((with_reducible show L2.rNeD _ _ _ _ _); first | refine Kit.w_neTT (by walk_at "sqT") (by walk_at "sqT") ?_ | refine Kit.w_neLL (by walk_at "sqL") (by walk_at "sqL") ?_)
  | ((with_reducible show L2.rEqD _ _ _ _ _); first | refine Kit.w_eqTT (by walk_at "sqT") (by walk_at "sqT") ?_ | refine Kit.w_eqLL (by walk_at "sqL") (by walk_at "sqL") ?_)
  | with_reducible refine Kit.w_dget ?_
  | ((with_reducible refine Kit.w_disp ?_); intro _ _ _ _ _)
  | with_reducible refine Kit.w_pp ?_
  | with_reducible refine Kit.w_pn ?_
  | with_reducible refine Kit.w_rng1 ?_
  | with_reducible refine Kit.w_rng2 ?_
  | with_reducible refine Kit.w_rng3 ?_
  | with_reducible refine Kit.w_lc ?_
  | with_reducible refine Kit.w_itl ?_
  | with_reducible refine Kit.w_itt ?_
  | ((with_reducible refine Kit.i_B ?_ ?_) <;> intro _))
local macro_rules | `(tactic| walk_at "wp") => `(tactic| repeat' (walk_at "wp1"))

/-! ### the text by places -/
def topS (i : Nat) : Stmt := PySem.Challenge.pw_onestepcourt_k01_digests.main.body.getD i (.Pass ⟨0, 0, 0, 0⟩)
abbrev s_is_integer : Stmt := topS 2
abbrev N_is_integer : List Str := ["value", "least", "greatest"]
theorem sc_is_integer : FnScope N_is_integer ["value", "least", "greatest"] (defScope s_is_integer) := ⟨rfl, rfl, rfl, by decide +kernel, rfl, by decide +kernel, by decide +kernel⟩
abbrev s_is_word : Stmt := topS 3
abbrev N_is_word : List Str := ["value"]
theorem sc_is_word : FnScope N_is_word ["value"] (defScope s_is_word) := ⟨rfl, rfl, rfl, by decide +kernel, rfl, by decide +kernel, by decide +kernel⟩
abbrev s_Digests___init : Stmt := inClass (topS 4) 0
abbrev N_Digests___init : List Str := ["self", "bits", "book"]
theorem sc_Digests___init : FnScope N_Digests___init ["self", "bits", "book"] (defScope s_Digests___init) := ⟨rfl, rfl, rfl, by decide +kernel, rfl, by decide +kernel, by decide +kernel⟩
abbrev s_Digests_leaf : Stmt := inClass (topS 4) 1
abbrev N_Digests_leaf : List Str := ["self", "word"]
theorem sc_Digests_leaf : FnScope N_Digests_leaf ["self", "word"] (defScope s_Digests_leaf) := ⟨rfl, rfl, rfl, by decide +kernel, rfl, by decide +kernel, by decide +kernel⟩
abbrev s_Digests_fold : Stmt := inClass (topS 4) 2
abbrev N_Digests_fold : List Str := ["self", "left", "right", "mixed", "digest"]
theorem sc_Digests_fold : FnScope N_Digests_fold ["self", "left", "right"] (defScope s_Digests_fold) := ⟨rfl, rfl, rfl, by decide +kernel, rfl, by decide +kernel, by decide +kernel⟩
abbrev s_Digests_state : Stmt := inClass (topS 4) 3
abbrev N_Digests_state : List Str := ["self", "numbers", "digest", "number"]
theorem sc_Digests_state : FnScope N_Digests_state ["self", "numbers"] (defScope s_Digests_state) := ⟨rfl, rfl, rfl, by decide +kernel, rfl, by decide +kernel, by decide +kernel⟩
abbrev s_Digests_modulus : Stmt := inClass (topS 4) 4
abbrev N_Digests_modulus : List Str := ["self"]
theorem sc_Digests_modulus : FnScope N_Digests_modulus ["self"] (defScope s_Digests_modulus) := ⟨rfl, rfl, rfl, by decide +kernel, rfl, by decide +kernel, by decide +kernel⟩
abbrev s_Digests_is_digest : Stmt := inClass (topS 4) 5
abbrev N_Digests_is_digest : List Str := ["self", "value"]
theorem sc_Digests_is_digest : FnScope N_Digests_is_digest ["self", "value"] (defScope s_Digests_is_digest) := ⟨rfl, rfl, rfl, by decide +kernel, rfl, by decide +kernel, by decide +kernel⟩
abbrev s_Digests_without_book : Stmt := inClass (topS 4) 6
abbrev N_Digests_without_book : List Str := ["self"]
theorem sc_Digests_without_book : FnScope N_Digests_without_book ["self"] (defScope s_Digests_without_book) := ⟨rfl, rfl, rfl, by decide +kernel, rfl, by decide +kernel, by decide +kernel⟩
abbrev s_Digests__noted : Stmt := inClass (topS 4) 7
abbrev N_Digests__noted : List Str := ["self", "kind", "text", "digest"]
theorem sc_Digests__noted : FnScope N_Digests__noted ["self", "kind", "text", "digest"] (defScope s_Digests__noted) := ⟨rfl, rfl, rfl, by decide +kernel, rfl, by decide +kernel, by decide +kernel⟩
abbrev s_Book___init : Stmt := inClass (topS 5) 0
abbrev N_Book___init : List Str := ["self"]
theorem sc_Book___init : FnScope N_Book___init ["self"] (defScope s_Book___init) := ⟨rfl, rfl, rfl, by decide +kernel, rfl, by decide +kernel, by decide +kernel⟩
abbrev s_Book_add : Stmt := inClass (topS 5) 1
abbrev N_Book_add : List Str := ["self", "kind", "text", "digest"]
theorem sc_Book_add : FnScope N_Book_add ["self", "kind", "text", "digest"] (defScope s_Book_add) := ⟨rfl, rfl, rfl, by decide +kernel, rfl, by decide +kernel, by decide +kernel⟩
abbrev s_Book_has_collision : Stmt := inClass (topS 5) 2
abbrev N_Book_has_collision : List Str := ["self"]
theorem sc_Book_has_collision : FnScope N_Book_has_collision ["self"] (defScope s_Book_has_collision) := ⟨rfl, rfl, rfl, by decide +kernel, rfl, by decide +kernel, by decide +kernel⟩
abbrev s_Book_count : Stmt := inClass (topS 5) 3
abbrev N_Book_count : List Str := ["self"]
theorem sc_Book_count : FnScope N_Book_count ["self"] (defScope s_Book_count) := ⟨rfl, rfl, rfl, by decide +kernel, rfl, by decide +kernel, by decide +kernel⟩
abbrev s_law_draws : Stmt := topS 8
abbrev N_law_draws : List Str := ["script", "start", "most", "draws", "cell", "number", "mixed", "k"]
theorem sc_law_draws : FnScope N_law_draws ["script", "start", "most"] (defScope s_law_draws) := ⟨rfl, rfl, rfl, by decide +kernel, rfl, by decide +kernel, by decide +kernel⟩
abbrev s_law_mod : Stmt := topS 9
abbrev N_law_mod : List Str := ["bits"]
theorem sc_law_mod : FnScope N_law_mod ["bits"] (defScope s_law_mod) := ⟨rfl, rfl, rfl, by decide +kernel, rfl, by decide +kernel, by decide +kernel⟩
abbrev s_law_leaf : Stmt := topS 10
abbrev N_law_leaf : List Str := ["m", "word"]
theorem sc_law_leaf : FnScope N_law_leaf ["m", "word"] (defScope s_law_leaf) := ⟨rfl, rfl, rfl, by decide +kernel, rfl, by decide +kernel, by decide +kernel⟩
abbrev s_law_fold : Stmt := topS 11
abbrev N_law_fold : List Str := ["m", "x", "y", "z"]
theorem sc_law_fold : FnScope N_law_fold ["m", "x", "y"] (defScope s_law_fold) := ⟨rfl, rfl, rfl, by decide +kernel, rfl, by decide +kernel, by decide +kernel⟩
abbrev s_law_state : Stmt := topS 12
abbrev N_law_state : List Str := ["m", "numbers", "d", "n"]
theorem sc_law_state : FnScope N_law_state ["m", "numbers"] (defScope s_law_state) := ⟨rfl, rfl, rfl, by decide +kernel, rfl, by decide +kernel, by decide +kernel⟩
abbrev s_law_forms : Stmt := topS 13
abbrev N_law_forms : List Str := ["digests", "m", "value"]
theorem sc_law_forms : FnScope N_law_forms ["digests", "m"] (defScope s_law_forms) := ⟨rfl, rfl, rfl, by decide +kernel, rfl, by decide +kernel, by decide +kernel⟩
abbrev s_law : Stmt := topS 14
abbrev N_law : List Str := ["script", "draws", "bits", "m", "book", "digests", "bare", "texts", "collided", "k", "word", "pair", "numbers", "due", "text", "j", "one"]
theorem sc_law : FnScope N_law ["script"] (defScope s_law) := ⟨rfl, rfl, rfl, by decide +kernel, rfl, by decide +kernel, by decide +kernel⟩
/-! ### what the top has written -/
structure Txt (K : PySem.W.Frag) (mg : Str → Option Value) where
  f_is_integer : Kit.GFn' K mg "is_integer" "is_integer" s_is_integer ["value", "least", "greatest"]
  f_is_word : Kit.GFn' K mg "is_word" "is_word" s_is_word ["value"]
  f_Digests___init : Kit.GFn K "__init__" "Digests.__init__" s_Digests___init ["self", "bits", "book"]
  f_Digests_leaf : Kit.GFn K "leaf" "Digests.leaf" s_Digests_leaf ["self", "word"]
  f_Digests_fold : Kit.GFn K "fold" "Digests.fold" s_Digests_fold ["self", "left", "right"]
  f_Digests_state : Kit.GFn K "state" "Digests.state" s_Digests_state ["self", "numbers"]
  f_Digests_modulus : Kit.GFn K "modulus" "Digests.modulus" s_Digests_modulus ["self"]
  f_Digests_is_digest : Kit.GFn K "is_digest" "Digests.is_digest" s_Digests_is_digest ["self", "value"]
  f_Digests_without_book : Kit.GFn K "without_book" "Digests.without_book" s_Digests_without_book ["self"]
  f_Digests__noted : Kit.GFn K "_noted" "Digests._noted" s_Digests__noted ["self", "kind", "text", "digest"]
  f_Book___init : Kit.GFn K "__init__" "Book.__init__" s_Book___init ["self"]
  f_Book_add : Kit.GFn K "add" "Book.add" s_Book_add ["self", "kind", "text", "digest"]
  f_Book_has_collision : Kit.GFn K "has_collision" "Book.has_collision" s_Book_has_collision ["self"]
  f_Book_count : Kit.GFn K "count" "Book.count" s_Book_count ["self"]
  f_law_draws : Kit.GFn' K mg "_law_draws" "_law_draws" s_law_draws ["script", "start", "most"]
  f_law_mod : Kit.GFn' K mg "_law_mod" "_law_mod" s_law_mod ["bits"]
  f_law_leaf : Kit.GFn' K mg "_law_leaf" "_law_leaf" s_law_leaf ["m", "word"]
  f_law_fold : Kit.GFn' K mg "_law_fold" "_law_fold" s_law_fold ["m", "x", "y"]
  f_law_state : Kit.GFn' K mg "_law_state" "_law_state" s_law_state ["m", "numbers"]
  f_law_forms : Kit.GFn' K mg "_law_forms" "_law_forms" s_law_forms ["digests", "m"]
  f_law : Kit.GFn' K mg "law" "law" s_law ["script"]
  c_Digests : Kit.GCl K mg "Digests" f_Digests___init.f
  m_Digests_leaf : Meth K c_Digests.C "leaf" f_Digests_leaf.f
  m_Digests_fold : Meth K c_Digests.C "fold" f_Digests_fold.f
  m_Digests_state : Meth K c_Digests.C "state" f_Digests_state.f
  m_Digests_modulus : Meth K c_Digests.C "modulus" f_Digests_modulus.f
  m_Digests_is_digest : Meth K c_Digests.C "is_digest" f_Digests_is_digest.f
  m_Digests_without_book : Meth K c_Digests.C "without_book" f_Digests_without_book.f
  m_Digests__noted : Meth K c_Digests.C "_noted" f_Digests__noted.f
  n_Digests_bits : NoAttr K c_Digests.C "_bits"
  n_Digests_book : NoAttr K c_Digests.C "_book"
  n_Digests_modulus : NoAttr K c_Digests.C "_modulus"
  c_Book : Kit.GCl K mg "Book" f_Book___init.f
  m_Book_add : Meth K c_Book.C "add" f_Book_add.f
  m_Book_has_collision : Meth K c_Book.C "has_collision" f_Book_has_collision.f
  m_Book_count : Meth K c_Book.C "count" f_Book_count.f
  n_Book_texts : NoAttr K c_Book.C "_texts"
  n_Book_firsts : NoAttr K c_Book.C "_firsts"
  n_Book_collided : NoAttr K c_Book.C "_collided"
  t_MOST_WORD : Tok
  g_MOST_WORD : mg "MOST_WORD" = some (.int 65535 t_MOST_WORD)
  z_abs : mg "abs" = none
  z_bool : mg "bool" = none
  z_int : mg "int" = none
  z_isinstance : mg "isinstance" = none
  z_len : mg "len" = none
  z_range : mg "range" = none
  z_tuple : mg "tuple" = none
def fl_Digests (v0 v1 v2 : V) : List (Str × V) := [("_bits", v0), ("_book", v1), ("_modulus", v2)]
section
variable {K : PySem.W.Frag} {mg : Str → Option Value} {H : Hp} {p C dx : Addr} {v0 v1 v2 : V} {Q : VK} {R : Prop}
theorem rd_Digests_bits (T : Txt K mg) (h : H p = some (.ins T.c_Digests.C dx (fl_Digests v0 v1 v2))) (q : Q v0 H) : Kit.FldOf K "_bits" (.ref p) H Q := Kit.w_rd h T.c_Digests.cl T.n_Digests_bits rfl q
theorem pt_Digests_bits (T : Txt K mg) {y : V} {W : Hp → Prop} (h : H p = some (.ins T.c_Digests.C dx (fl_Digests v0 v1 v2))) (q : ∀ H2, Kit.ExBut p H H2 → H2 p = some (.ins T.c_Digests.C dx (fl_Digests y v1 v2)) → W H2) : Kit.PutOf K "_bits" y (.ref p) H W := Kit.w_put h T.c_Digests.cl T.n_Digests_bits (Nat.lt_of_lt_of_le (Nat.lt_of_le_of_lt (Nat.le_refl 3) (by decide : 3 < 100)) (by decide)) rfl q
theorem in_Digests_bits (T : Txt K mg) {y : V} {W : Hp → Prop} (h : H p = some (.ins T.c_Digests.C dx [])) (q : ∀ H2, Kit.ExBut p H H2 → H2 p = some (.ins T.c_Digests.C dx ([("_bits", y)])) → W H2) : Kit.PutOf K "_bits" y (.ref p) H W := Kit.w_put h T.c_Digests.cl T.n_Digests_bits (Nat.lt_of_lt_of_le (Nat.lt_of_le_of_lt (Nat.le_refl 0) (by decide : 0 < 100)) (by decide)) rfl q
theorem rd_Digests_book (T : Txt K mg) (h : H p = some (.ins T.c_Digests.C dx (fl_Digests v0 v1 v2))) (q : Q v1 H) : Kit.FldOf K "_book" (.ref p) H Q := Kit.w_rd h T.c_Digests.cl T.n_Digests_book rfl q
theorem pt_Digests_book (T : Txt K mg) {y : V} {W : Hp → Prop} (h : H p = some (.ins T.c_Digests.C dx (fl_Digests v0 v1 v2))) (q : ∀ H2, Kit.ExBut p H H2 → H2 p = some (.ins T.c_Digests.C dx (fl_Digests v0 y v2)) → W H2) : Kit.PutOf K "_book" y (.ref p) H W := Kit.w_put h T.c_Digests.cl T.n_Digests_book (Nat.lt_of_lt_of_le (Nat.lt_of_le_of_lt (Nat.le_refl 3) (by decide : 3 < 100)) (by decide)) rfl q
theorem in_Digests_book (T : Txt K mg) {y : V} {W : Hp → Prop} (h : H p = some (.ins T.c_Digests.C dx [("_bits", v0)])) (q : ∀ H2, Kit.ExBut p H H2 → H2 p = some (.ins T.c_Digests.C dx ([("_bits", v0), ("_book", y)])) → W H2) : Kit.PutOf K "_book" y (.ref p) H W := Kit.w_put h T.c_Digests.cl T.n_Digests_book (Nat.lt_of_lt_of_le (Nat.lt_of_le_of_lt (Nat.le_refl 1) (by decide : 1 < 100)) (by decide)) rfl q
theorem rd_Digests_modulus (T : Txt K mg) (h : H p = some (.ins T.c_Digests.C dx (fl_Digests v0 v1 v2))) (q : Q v2 H) : Kit.FldOf K "_modulus" (.ref p) H Q := Kit.w_rd h T.c_Digests.cl T.n_Digests_modulus rfl q
theorem pt_Digests_modulus (T : Txt K mg) {y : V} {W : Hp → Prop} (h : H p = some (.ins T.c_Digests.C dx (fl_Digests v0 v1 v2))) (q : ∀ H2, Kit.ExBut p H H2 → H2 p = some (.ins T.c_Digests.C dx (fl_Digests v0 v1 y)) → W H2) : Kit.PutOf K "_modulus" y (.ref p) H W := Kit.w_put h T.c_Digests.cl T.n_Digests_modulus (Nat.lt_of_lt_of_le (Nat.lt_of_le_of_lt (Nat.le_refl 3) (by decide : 3 < 100)) (by decide)) rfl q
theorem in_Digests_modulus (T : Txt K mg) {y : V} {W : Hp → Prop} (h : H p = some (.ins T.c_Digests.C dx [("_bits", v0), ("_book", v1)])) (q : ∀ H2, Kit.ExBut p H H2 → H2 p = some (.ins T.c_Digests.C dx (fl_Digests v0 v1 y)) → W H2) : Kit.PutOf K "_modulus" y (.ref p) H W := Kit.w_put h T.c_Digests.cl T.n_Digests_modulus (Nat.lt_of_lt_of_le (Nat.lt_of_le_of_lt (Nat.le_refl 2) (by decide : 2 < 100)) (by decide)) rfl q
theorem me_Digests_leaf (h : H p = some (.ins C dx (fl_Digests v0 v1 v2))) (r : R) : Kit.InsOf C "leaf" (.ref p) H R := Kit.w_ins h rfl r
theorem me_Digests_fold (h : H p = some (.ins C dx (fl_Digests v0 v1 v2))) (r : R) : Kit.InsOf C "fold" (.ref p) H R := Kit.w_ins h rfl r
theorem me_Digests_state (h : H p = some (.ins C dx (fl_Digests v0 v1 v2))) (r : R) : Kit.InsOf C "state" (.ref p) H R := Kit.w_ins h rfl r
theorem me_Digests_modulus (h : H p = some (.ins C dx (fl_Digests v0 v1 v2))) (r : R) : Kit.InsOf C "modulus" (.ref p) H R := Kit.w_ins h rfl r
theorem me_Digests_is_digest (h : H p = some (.ins C dx (fl_Digests v0 v1 v2))) (r : R) : Kit.InsOf C "is_digest" (.ref p) H R := Kit.w_ins h rfl r
theorem me_Digests_without_book (h : H p = some (.ins C dx (fl_Digests v0 v1 v2))) (r : R) : Kit.InsOf C "without_book" (.ref p) H R := Kit.w_ins h rfl r
theorem me_Digests__noted (h : H p = some (.ins C dx (fl_Digests v0 v1 v2))) (r : R) : Kit.InsOf C "_noted" (.ref p) H R := Kit.w_ins h rfl r
end
def fl_Book (v0 v1 v2 : V) : List (Str × V) := [("_texts", v0), ("_firsts", v1), ("_collided", v2)]
section
variable {K : PySem.W.Frag} {mg : Str → Option Value} {H : Hp} {p C dx : Addr} {v0 v1 v2 : V} {Q : VK} {R : Prop}
theorem rd_Book_texts (T : Txt K mg) (h : H p = some (.ins T.c_Book.C dx (fl_Book v0 v1 v2))) (q : Q v0 H) : Kit.FldOf K "_texts" (.ref p) H Q := Kit.w_rd h T.c_Book.cl T.n_Book_texts rfl q
theorem pt_Book_texts (T : Txt K mg) {y : V} {W : Hp → Prop} (h : H p = some (.ins T.c_Book.C dx (fl_Book v0 v1 v2))) (q : ∀ H2, Kit.ExBut p H H2 → H2 p = some (.ins T.c_Book.C dx (fl_Book y v1 v2)) → W H2) : Kit.PutOf K "_texts" y (.ref p) H W := Kit.w_put h T.c_Book.cl T.n_Book_texts (Nat.lt_of_lt_of_le (Nat.lt_of_le_of_lt (Nat.le_refl 3) (by decide : 3 < 100)) (by decide)) rfl q
theorem in_Book_texts (T : Txt K mg) {y : V} {W : Hp → Prop} (h : H p = some (.ins T.c_Book.C dx [])) (q : ∀ H2, Kit.ExBut p H H2 → H2 p = some (.ins T.c_Book.C dx ([("_texts", y)])) → W H2) : Kit.PutOf K "_texts" y (.ref p) H W := Kit.w_put h T.c_Book.cl T.n_Book_texts (Nat.lt_of_lt_of_le (Nat.lt_of_le_of_lt (Nat.le_refl 0) (by decide : 0 < 100)) (by decide)) rfl q
theorem rd_Book_firsts (T : Txt K mg) (h : H p = some (.ins T.c_Book.C dx (fl_Book v0 v1 v2))) (q : Q v1 H) : Kit.FldOf K "_firsts" (.ref p) H Q := Kit.w_rd h T.c_Book.cl T.n_Book_firsts rfl q
theorem pt_Book_firsts (T : Txt K mg) {y : V} {W : Hp → Prop} (h : H p = some (.ins T.c_Book.C dx (fl_Book v0 v1 v2))) (q : ∀ H2, Kit.ExBut p H H2 → H2 p = some (.ins T.c_Book.C dx (fl_Book v0 y v2)) → W H2) : Kit.PutOf K "_firsts" y (.ref p) H W := Kit.w_put h T.c_Book.cl T.n_Book_firsts (Nat.lt_of_lt_of_le (Nat.lt_of_le_of_lt (Nat.le_refl 3) (by decide : 3 < 100)) (by decide)) rfl q
theorem in_Book_firsts (T : Txt K mg) {y : V} {W : Hp → Prop} (h : H p = some (.ins T.c_Book.C dx [("_texts", v0)])) (q : ∀ H2, Kit.ExBut p H H2 → H2 p = some (.ins T.c_Book.C dx ([("_texts", v0), ("_firsts", y)])) → W H2) : Kit.PutOf K "_firsts" y (.ref p) H W := Kit.w_put h T.c_Book.cl T.n_Book_firsts (Nat.lt_of_lt_of_le (Nat.lt_of_le_of_lt (Nat.le_refl 1) (by decide : 1 < 100)) (by decide)) rfl q
theorem rd_Book_collided (T : Txt K mg) (h : H p = some (.ins T.c_Book.C dx (fl_Book v0 v1 v2))) (q : Q v2 H) : Kit.FldOf K "_collided" (.ref p) H Q := Kit.w_rd h T.c_Book.cl T.n_Book_collided rfl q
theorem pt_Book_collided (T : Txt K mg) {y : V} {W : Hp → Prop} (h : H p = some (.ins T.c_Book.C dx (fl_Book v0 v1 v2))) (q : ∀ H2, Kit.ExBut p H H2 → H2 p = some (.ins T.c_Book.C dx (fl_Book v0 v1 y)) → W H2) : Kit.PutOf K "_collided" y (.ref p) H W := Kit.w_put h T.c_Book.cl T.n_Book_collided (Nat.lt_of_lt_of_le (Nat.lt_of_le_of_lt (Nat.le_refl 3) (by decide : 3 < 100)) (by decide)) rfl q
theorem in_Book_collided (T : Txt K mg) {y : V} {W : Hp → Prop} (h : H p = some (.ins T.c_Book.C dx [("_texts", v0), ("_firsts", v1)])) (q : ∀ H2, Kit.ExBut p H H2 → H2 p = some (.ins T.c_Book.C dx (fl_Book v0 v1 y)) → W H2) : Kit.PutOf K "_collided" y (.ref p) H W := Kit.w_put h T.c_Book.cl T.n_Book_collided (Nat.lt_of_lt_of_le (Nat.lt_of_le_of_lt (Nat.le_refl 2) (by decide : 2 < 100)) (by decide)) rfl q
theorem me_Book_add (h : H p = some (.ins C dx (fl_Book v0 v1 v2))) (r : R) : Kit.InsOf C "add" (.ref p) H R := Kit.w_ins h rfl r
theorem me_Book_has_collision (h : H p = some (.ins C dx (fl_Book v0 v1 v2))) (r : R) : Kit.InsOf C "has_collision" (.ref p) H R := Kit.w_ins h rfl r
theorem me_Book_count (h : H p = some (.ins C dx (fl_Book v0 v1 v2))) (r : R) : Kit.InsOf C "count" (.ref p) H R := Kit.w_ins h rfl r
end
local macro_rules | `(tactic| walk_at "wp1") => `(tactic| ((with_reducible show Kit.FldOf _ _ _ _ _); first | with_reducible refine rd_Digests_bits _ (by walk_at "hp") ?_ | with_reducible refine rd_Digests_book _ (by walk_at "hp") ?_ | with_reducible refine rd_Digests_modulus _ (by walk_at "hp") ?_ | with_reducible refine rd_Book_texts _ (by walk_at "hp") ?_ | with_reducible refine rd_Book_firsts _ (by walk_at "hp") ?_ | with_reducible refine rd_Book_collided _ (by walk_at "hp") ?_))
local macro_rules | `(tactic| walk_at "wp1") => `(tactic| ((with_reducible show Kit.InsOf _ _ _ _ _); first | with_reducible refine me_Digests_leaf (by walk_at "hp") ?_ | with_reducible refine me_Digests_fold (by walk_at "hp") ?_ | with_reducible refine me_Digests_state (by walk_at "hp") ?_ | with_reducible refine me_Digests_modulus (by walk_at "hp") ?_ | with_reducible refine me_Digests_is_digest (by walk_at "hp") ?_ | with_reducible refine me_Digests_without_book (by walk_at "hp") ?_ | with_reducible refine me_Digests__noted (by walk_at "hp") ?_ | with_reducible refine me_Book_add (by walk_at "hp") ?_ | with_reducible refine me_Book_has_collision (by walk_at "hp") ?_ | with_reducible refine me_Book_count (by walk_at "hp") ?_))
local macro_rules | `(tactic| walk_at "wp1") => `(tactic| ((with_reducible show Kit.PutOf _ _ _ _ _ _); first | (with_reducible refine pt_Digests_bits _ (by walk_at "hp") ?_; intro _ _ _) | (with_reducible refine in_Digests_bits _ (by walk_at "hp") ?_; intro _ _ _) | (with_reducible refine pt_Digests_book _ (by walk_at "hp") ?_; intro _ _ _) | (with_reducible refine in_Digests_book _ (by walk_at "hp") ?_; intro _ _ _) | (with_reducible refine pt_Digests_modulus _ (by walk_at "hp") ?_; intro _ _ _) | (with_reducible refine in_Digests_modulus _ (by walk_at "hp") ?_; intro _ _ _) | (with_reducible refine pt_Book_texts _ (by walk_at "hp") ?_; intro _ _ _) | (with_reducible refine in_Book_texts _ (by walk_at "hp") ?_; intro _ _ _) | (with_reducible refine pt_Book_firsts _ (by walk_at "hp") ?_; intro _ _ _) | (with_reducible refine in_Book_firsts _ (by walk_at "hp") ?_; intro _ _ _) | (with_reducible refine pt_Book_collided _ (by walk_at "hp") ?_; intro _ _ _) | (with_reducible refine in_Book_collided _ (by walk_at "hp") ?_; intro _ _ _)))
theorem ex_done {Q : VK} {v u : V} {H H' : Hp} (q : ∀ H', Evl.Ex H H' → Q v H') (e : Evl.Ex H H') (h : v = u) : Q u H' := h ▸ q H' e
section
variable {P : Program} {w : World} {K : PySem.W.Frag} {mg : Str → Option Value} {base : Heap}

/-! ### the law's draws: some list of ints -/
def sp_law_draws (K : PySem.W.Frag) : Sp := fun vs H Q _ => ∃ (a : Addr) (ns : List Int) (most : Int), vs = [.ref a, .int 0, .int most] ∧ SqL K H a (ns.map V.int) ∧ ns.length ≤ 63 ∧ 0 ≤ most ∧ most ≤ 1000 ∧
  ∀ p H' (ds : List Int), H p = none → Evl.Ex H H' → H' p = some (.lst (ds.map V.int)) → (ds.length : Int) ≤ most → Q (.ref p) H'
theorem cut_front {xs : List V} {n : Int} (h : 0 ≤ n) : cutV xs none (some n) = xs.take n.toNat := by
  obtain ⟨j, rfl⟩ := Int.eq_ofNat_of_zero_le h
  unfold cutV
  rw [HT.sIx_none, HT.sIx_nat]
  show (xs.drop 0).take (min j xs.length - 0) = xs.take j
  rw [List.drop_zero, Nat.sub_zero]
  by_cases hj : j ≤ xs.length
  · rw [Nat.min_eq_left hj]
  · rw [Nat.min_eq_right (by omega), List.take_length, List.take_of_length_le (by omega)]
theorem cut_zero {xs : List V} : cutV xs (some 0) none = xs := by
  unfold cutV
  rw [HT.sIx_none]
  have e : HT.sIx xs.length 0 (some 0) = 0 := by
    have := HT.sIx_nat xs.length 0 0
    simpa using this
  rw [e]
  simp
def DrawInv (s : Addr) (D : Addr) (H1 : Hp) (most : Int) (i : Nat) (σ : L2.St) (H : Hp) : Prop := ∃ (ds : List Int) (y4 y5 y6 y7 : Option V), σ = [some (.ref s), some (.int 0), some (.int most), some (.ref D), y4, y5, y6, y7] ∧ Kit.ExBut D H1 H ∧ H D = some (.lst (ds.map V.int)) ∧ ds.length ≤ 12 * i
theorem map_snoc {ds : List Int} {x : Int} : ds.map V.int ++ [.int x] = (ds ++ [x]).map V.int := by rw [List.map_append]; rfl
theorem ok_law_draws (T : Txt K mg) : FnOk P w K mg base CX0 1 T.f_law_draws.f T.f_law_draws.fd ["script", "start", "most"] (sp_law_draws K) := by
  refine T.f_law_draws.F.ok sc_law_draws (fun vs H Q E h => ?_) (fun cdv A outer s H vs Q E hr h => ?_)
  · obtain ⟨a, ns, most, rfl, ha, hl, m0, m1, q⟩ := h
    rfl
  obtain ⟨a, ns, most, rfl, ha, hl, m0, m1, q⟩ := h
  have nd := sc_law_draws.nd
  refine Kit.ok_body (σ := [some _, some _, some _, none, none, none, none, none]) ((pss_cons (ps_set (i := 3) nd rfl (Or.inl rfl) (pe_lst pa_nil))
    (pss_cons (ps_for PassesOwn.never rfl (Kit.kpList K (pe_slice (Kit.kSlL K) (pv 0) (po_some (pv 1)) po_none)) (pg_name (i := 4) nd rfl (Or.inl rfl))
    (pss_cons (ps_set (i := 5) nd rfl (Or.inl rfl) (pe_callB Kit.k_abs (by rfl) T.z_abs (by decide +kernel) (pa_cons (pe_callTy Kit.k_int (by rfl) T.z_int (by decide +kernel) (pa_cons (pv 4) pa_nil)) pa_nil)))
    (pss_one (ps_if (pt_cmpR op_lt (pv 5) (pe_op op_pow pe_int pe_int) (nomark _))
    (pss_cons (ps_set (i := 6) nd rfl (Or.inl rfl) (pe_op op_mod (pe_callTy Kit.k_int (by rfl) T.z_int (by decide +kernel) (pa_cons (pe_op op_add (pe_op op_mul (pv 5) pe_int) pe_int) pa_nil)) pe_int))
    (pss_cons (ps_expr (pe_bm PySem.F.plainAttrs_list PySem.F.slot_list_append PySem.F.type_list_append mt_append (pv 3) (pa_cons (pe_op op_add (pe_op op_mul (pv 6) pe_int) (pe_op op_mod (pe_callTy Kit.k_int (by rfl) T.z_int (by decide +kernel) (pa_cons (pe_op op_add (pe_op op_mul (pv 6) pe_int) (pv 5)) pa_nil)) pe_int)) pa_nil)))
    (pss_one (ps_expr (pe_bm PySem.F.plainAttrs_list PySem.F.slot_list_append PySem.F.type_list_append mt_append (pv 3) (pa_cons (pe_op op_add (pe_op op_mul (pe_op op_mod (pe_callTy Kit.k_int (by rfl) T.z_int (by decide +kernel) (pa_cons (pe_op op_add (pe_op op_add (pe_op op_mul (pv 6) pe_int) (pe_op op_fdiv (pv 5) pe_int)) pe_int) pa_nil)) pe_int) pe_int) (pe_op op_mod (pv 5) pe_int)) pa_nil))))))
    (pss_one (ps_for PassesOwn.never rfl (pi_range1 (by rfl) T.z_range (pa_cons pe_int pa_nil)) (pg_name (i := 7) nd rfl (Or.inl rfl))
    (pss_cons (ps_if (pt_cmpR op_gt (pv 5) pe_int (nomark _))
    (pss_one (ps_expr (pe_bm PySem.F.plainAttrs_list PySem.F.slot_list_append PySem.F.type_list_append mt_append (pv 3) (pa_cons (pe_op op_mod (pe_callTy Kit.k_int (by rfl) T.z_int (by decide +kernel) (pa_cons (pv 5) pa_nil)) (pe_op op_pow pe_int pe_int)) pa_nil))))
    pss_nil)
    (pss_one (ps_set (i := 5) nd rfl (Or.inl rfl) (pe_op op_fdivW (pv 5) (pe_op op_pow pe_int pe_int)))))))))))
    (pss_one (ps_ret (pe_slice (Kit.kSlL K) (pv 3) po_none (po_some (pv 2)))))))) rfl ?_
  try dsimp only [L2.cxOf, L2.Cx.nox]
  walk_at "wp"
  rename_i D H1 n1 e1 f1 c H2 n2 e2 f2
  rw [cut_zero] at f2
  have hDc : D ≠ c := ne_of_none f1 n2
  refine Kit.f_list (Evl.sq_of f2) (DrawInv a D H2 most) ⟨[], _, _, _, _, rfl, Kit.ExBut.refl _ _, e2 _ _ f1, Nat.le_refl 0⟩ ?_ ?_ ?_
  · rintro i σ' H' _ ⟨ds, y4, y5, y6, y7, rfl, m, _⟩
    exact Evl.sq_of (m _ _ hDc.symm f2)
  · rintro i x σ' H' hx ⟨ds, y4, y5, y6, y7, rfl, m, g, hds⟩
    have hi : i < 63 := by
      have := (List.getElem?_eq_some_iff.mp hx).1
      rw [List.length_map] at this
      omega
    obtain ⟨n, rfl⟩ : ∃ n, x = .int n := by
      rw [List.getElem?_map] at hx
      cases h : ns[i]? with
      | none => rw [h] at hx; cases hx
      | some n => rw [h] at hx; exact ⟨n, (Option.some.inj hx).symm⟩
    show Kit.Sm _ _ _ _ _ _ _
    walk_at "wp"
    · refine Kit.w_app g (by rw [List.length_map]; omega) fun H3 m3 f3 => ?_
      rw [map_snoc] at f3
      walk_at "wp"
      refine Kit.w_app f3 (by rw [List.length_map, List.length_append]; simp; omega) fun H4 m4 f4 => ?_
      rw [map_snoc] at f4
      walk_at "wp"
      exact ⟨_, _, _, _, _, rfl, (m.trans m3).trans m4, f4, by simp; omega⟩
    · refine Kit.f_rng1 (by decide) (by decide) (fun k σ' H' => ∃ (ds2 : List Int) (z : Int) (y7 : Option V), σ' = [some (.ref a), some (.int 0), some (.int most), some (.ref D), some (.int n), some (.int z), y6, y7] ∧ Kit.ExBut D H2 H' ∧ H' D = some (.lst (ds2.map V.int)) ∧ ds2.length ≤ 12 * i + k) ⟨ds, _, y7, rfl, m, g, hds⟩ ?_ ?_
      · rintro k σ3 H3 hk ⟨ds2, z, y7, rfl, m3, g3, hd3⟩
        walk_at "wp"
        · refine Kit.w_app g3 (by rw [List.length_map]; omega) fun H4 m4 f4 => ?_
          rw [map_snoc] at f4
          walk_at "wp"
          exact ⟨_, _, _, rfl, m3.trans m4, f4, by simp; omega⟩
        · exact ⟨_, _, _, rfl, m3, g3, by omega⟩
      · rintro σ3 H3 ⟨ds2, z, y7, rfl, m3, g3, hd3⟩
        exact ⟨_, _, _, _, _, rfl, m3, g3, by
          have : (12 : Int).toNat = 12 := rfl
          omega⟩
  · rintro σ' H' ⟨ds, y4, y5, y6, y7, rfl, m, g, hds⟩
    have e : Evl.Ex H H' := Kit.ex_but m n1 (e1.trans e2)
    walk_at "wp"
    rename_i p H3 n3 e3 f3
    rw [cut_front m0, ← List.map_take] at f3
    exact q p H3 _ (Evl.fresh_back e n3) (e.trans e3) f3 (by rw [List.length_take]; omega)
theorem use_law_draws {K : PySem.W.Frag} {a : Addr} {ns : List Int} {most : Int} {H : Hp} {Q : VK} {E : XK} (ha : SqL K H a (ns.map V.int)) (hl : ns.length ≤ 63) (m0 : 0 ≤ most) (m1 : most ≤ 1000)
    (q : ∀ p H' (ds : List Int), H p = none → Evl.Ex H H' → H' p = some (.lst (ds.map V.int)) → (ds.length : Int) ≤ most → Q (.ref p) H') : sp_law_draws K [.ref a, .int 0, .int most] H Q E := ⟨a, ns, most, rfl, ha, hl, m0, m1, q⟩

/-! ### a book -/
def addT (T : List Kit.BK) (k : Kit.BK) : List Kit.BK := if k ∈ T then T else T ++ [k]
def findF (F : List (Kit.BK × Kit.TK)) (k : Kit.BK) : Option Kit.TK := (F.find? fun f => decide (f.1 = k)).map (·.2)
def addF (F : List (Kit.BK × Kit.TK)) (k : Kit.BK) (t : Kit.TK) : List (Kit.BK × Kit.TK) := match findF F k with
  | some _ => F
  | none => F ++ [(k, t)]
def addC (c : Bool) (F : List (Kit.BK × Kit.TK)) (k : Kit.BK) (t : Kit.TK) : Bool := match findF F k with
  | some t0 => if t0 = t then c else true
  | none => c
def yesT (T : List Kit.BK) : List (Kit.BK × V) := T.map fun k => (k, V.bl true)
abbrev FRel (H : Hp) := Paired fun (f : Kit.BK × Kit.TK) (q : Kit.BK × V) => q.1 = f.1 ∧ Kit.TVal H f.2 q.2
theorem FRel.mono {H H' : Hp} {F : List (Kit.BK × Kit.TK)} {kv : List (Kit.BK × V)} (m : ∀ c xs, H c = some (.tup xs) → H' c = some (.tup xs)) (r : FRel H F kv) : FRel H' F kv := Paired.mapP r fun _ _ z => ⟨z.1, z.2.mono m⟩
theorem FRel.find {H : Hp} {F : List (Kit.BK × Kit.TK)} {kv : List (Kit.BK × V)} (r : FRel H F kv) (k : Kit.BK) : (∃ t v, findF F k = some t ∧ valV kv k = some v ∧ Kit.TVal H t v) ∨ (findF F k = none ∧ valV kv k = none) := by
  induction r with
  | nil => exact .inr ⟨rfl, rfl⟩
  | @cons f q fs qs z t ih =>
    obtain ⟨z1, z2⟩ := z
    by_cases e : f.1 = k
    · exact .inl ⟨f.2, q.2, by simp [findF, List.find?_cons, e], valV_pos (z1.trans e), z2⟩
    · rw [valV_neg fun h => e (z1.symm.trans h), show findF (f :: fs) k = findF fs k from by simp [findF, List.find?_cons, e]]
      exact ih
theorem valV_yes (T : List Kit.BK) (k : Kit.BK) : ((yesT T).any fun kv => decide (kv.1 = k)) = decide (k ∈ T) := by
  unfold yesT
  rw [List.any_map, Bool.eq_iff_iff, List.any_eq_true, decide_eq_true_iff]
  constructor
  · rintro ⟨x, hx, e⟩
    exact (of_decide_eq_true e : x = k) ▸ hx
  · exact fun h => ⟨k, h, decide_eq_true rfl⟩
theorem put_yes (T : List Kit.BK) (k : Kit.BK) : putK (yesT T) k (V.bl true) = yesT (addT T k) := by
  unfold putK addT
  rw [valV_yes]
  by_cases h : k ∈ T
  · rw [if_pos (decide_eq_true h), if_pos h]
    unfold yesT
    rw [List.map_map]
    refine List.map_congr_left fun x _ => ?_
    show (if x = k then (x, V.bl true) else (x, V.bl true)) = (x, V.bl true)
    split <;> rfl
  · rw [if_neg (by rw [decide_eq_false h]; exact Bool.false_ne_true), if_neg h]
    unfold yesT
    rw [List.map_append]
    rfl
theorem put_new {κ : Type} [DecidableEq κ] {kv : List (κ × V)} {k : κ} {v : V} (h : valV kv k = none) : putK kv k v = kv ++ [(k, v)] := by
  unfold putK
  rw [valV_any, h]
  exact if_neg Bool.false_ne_true
/-- at p: a book that has met the texts T, the firsts F -/
def BookAt (P : Program) (w : World) (C : Addr) (H : Hp) (p : Addr) (T : List Kit.BK) (F : List (Kit.BK × Kit.TK)) (c : Bool) : Prop :=
  ∃ dx d1 d2 kv, H p = some (.ins C dx (fl_Book (.ref d1) (.ref d2) (.bl c))) ∧ Kit.BkAt P w H d1 (yesT T) ∧ Kit.BkAt P w H d2 kv ∧ d1 ≠ d2 ∧ FRel H F kv
theorem BookAt.ex {P : Program} {w : World} {C p : Addr} {H H' : Hp} {T : List Kit.BK} {F : List (Kit.BK × Kit.TK)} {c : Bool} (e : Evl.Ex H H') (b : BookAt P w C H p T F c) : BookAt P w C H' p T F c :=
  let ⟨dx, d1, d2, kv, h1, h2, h3, h4, h5⟩ := b
  ⟨dx, d1, d2, kv, e _ _ h1, h2.ex e, h3.ex e, h4, h5.mono fun c xs => e c _⟩
def sp_Book_init (C : Addr) : Sp := fun vs H Q _ => ∃ (p dx : Addr), vs = [.ref p] ∧ H p = some (.ins C dx []) ∧ ∀ H' d1 d2, Kit.ExBut p H H' → H' p = some (.ins C dx (fl_Book (.ref d1) (.ref d2) (.bl false))) → H' d1 = some (.dK []) → H' d2 = some (.dK []) → d1 ≠ d2 → Q .non H'
local macro_rules | `(tactic| walk_at "wp1") => `(tactic| first
  | ((with_reducible refine Kit.w_dnew ?_); intro _ _ _ _ _)
  | with_reducible refine Kit.m_bkPut ?_
  | with_reducible refine Kit.w_bkSetd ?_)
theorem ok_Book___init (T : Txt K mg) : FnOk P w K mg base CX0 1 T.f_Book___init.f T.f_Book___init.fd ["self"] (sp_Book_init T.c_Book.C) := by
  refine T.f_Book___init.F.ok sc_Book___init (fun vs H Q E h => ?_) (fun cdv A outer s H vs Q E hr h => ?_)
  · obtain ⟨p, dx, rfl, hp, q⟩ := h
    rfl
  obtain ⟨p, dx, rfl, hp, q⟩ := h
  have nd := sc_Book___init.nd
  refine Kit.ok_body (σ := [some _]) ((pss_cons (Kit.kSet K (pv 0) pe_dnewK rfl)
    (pss_cons (Kit.kSet K (pv 0) pe_dnewK rfl)
    (pss_one (Kit.kSet K (pv 0) pe_bl rfl))))) rfl ?_
  walk_at "wp"
  rename_i d1 H1 n1 e1 f1 H2 m2 f2 d2 H3 n3 e3 f3 H4 m4 f4 H5 m5 f5
  have a1 : d1 ≠ p := (ne_of_none hp n1).symm
  have a2 : d2 ≠ p := (ne_of_none f2 n3).symm
  have g1 := m2 _ _ a1 f1
  exact q H5 d1 d2 (by walk_at "but") f5 (m5 _ _ a1 (m4 _ _ a1 (e3 _ _ g1))) (m5 _ _ a2 (m4 _ _ a2 f3)) (ne_of_none g1 n3)
theorem use_Book {P : Program} {w : World} {C : Addr} {H : Hp} {Q : VK} {E : XK} (k : ∀ p H', H p = none → Evl.Ex H H' → BookAt P w C H' p [] [] false → Q (.ref p) H') : Kit.MakeOf C (sp_Book_init C) E [] H Q := by
  refine Kit.w_made fun x dx H2 hx e h => ⟨x, dx, rfl, h, fun H3 d1 d2 m h3 h4 h5 n => ⟨rfl, k x H3 hx (Kit.ex_but m hx e) ⟨dx, d1, d2, [], h3, .inl ⟨rfl, h4⟩, .inl ⟨rfl, h5⟩, n, .nil⟩⟩⟩
def sp_Book_add (P : Program) (w : World) (C : Addr) : Sp := fun vs H Q _ => ∃ (p : Addr) (kd : Str) (x : V) (d : Int) (t : Kit.TK) (TT : List Kit.BK) (F : List (Kit.BK × Kit.TK)) (c : Bool), vs = [.ref p, .str kd, x, .int d] ∧ BookAt P w C H p TT F c ∧ Kit.TVal H t x ∧ TT.length ≤ 100000 ∧ F.length ≤ 100000 ∧
  ∀ H', Kit.KeepB p H H' → BookAt P w C H' p (addT TT (kd, t)) (addF F (kd, .num d) t) (addC c F (kd, .num d) t) → Q .non H'
theorem FRel.len {H : Hp} {F : List (Kit.BK × Kit.TK)} {kv : List (Kit.BK × V)} (r : FRel H F kv) : F.length = kv.length := Paired.length r
theorem sz1 {n : Nat} (h : n ≤ 100000) : n < sizeLine := by rw [sizeLine_eq]; omega
theorem bk_apart {P : Program} {w : World} {H H' : Hp} {d1 d2 : Addr} {kv kv2 : List (Kit.BK × V)} (h2 : Kit.BkAt P w H d2 kv2) (h1 : Kit.BkAt P w H d1 kv) (n : d2 ≠ d1) (m : Kit.ExBut d1 H H') : Kit.BkAt P w H' d2 kv2 := h2.mono (fun o h => m _ o n h) fun c zs h => m c _ (Kit.bk_no h1 h) h
theorem ok_Book_add (T : Txt K mg) : FnOk P w K mg base CX0 1 T.f_Book_add.f T.f_Book_add.fd ["self", "kind", "text", "digest"] (sp_Book_add P w T.c_Book.C) := by
  refine T.f_Book_add.F.ok sc_Book_add (fun vs H Q E h => ?_) (fun cdv A outer s H vs Q E hr h => ?_)
  · obtain ⟨p, kd, x, d, t, TT, F, c, rfl, ⟨dx, d1, d2, kv, hp, b1, b2, nd12, fr⟩, tv, l1, l2, q⟩ := h
    rfl
  obtain ⟨p, kd, x, d, t, TT, F, c, rfl, ⟨dx, d1, d2, kv, hp, b1, b2, nd12, fr⟩, tv, l1, l2, q⟩ := h
  have nd := sc_Book_add.nd
  refine Kit.ok_body (σ := [some _, some _, some _, some _]) ((pss_cons (Kit.bkPut P w hr.units (Kit.kFld K (pv 0) rfl) (pe_tup (pa_cons (pv 1) (pa_cons (pv 2) pa_nil))) pe_bl rfl)
    (pss_one (ps_if (pt_cmpR (Kit.kNeD K hr.units) (Kit.bkSetd P w hr.units (Kit.kFld K (pv 0) rfl) (pe_tup (pa_cons (pv 1) (pa_cons (pv 3) pa_nil))) (pv 2) ⟨rfl, rfl, rfl, rfl⟩) (pv 2) (nomark _))
    (pss_one (Kit.kSet K (pv 0) pe_bl rfl))
    pss_nil)))) rfl ?_
  have tv0 := tv
  walk_at "wp"
  rename_i a H1 n1 e1 f1
  have p1 : d1 ≠ p := by rintro rfl; obtain ⟨o, z1, z2⟩ := Kit.bk_is b1; rw [hp] at z1; cases z1; cases z2
  have p2 : d2 ≠ p := by rintro rfl; obtain ⟨o, z1, z2⟩ := Kit.bk_is b2; rw [hp] at z1; cases z1; cases z2
  refine ⟨d1, rfl, yesT TT, (kd, t), a, b1.ex e1, rfl, ⟨x, f1, tv.mono fun c zs => e1 c _⟩, sz1 (by unfold yesT; rw [List.length_map]; exact l1), fun H2 m2 b1' => ?_⟩
  rw [put_yes] at b1'
  have tup2 : ∀ c zs, H c = some (.tup zs) → H2 c = some (.tup zs) := fun c zs h => m2 c _ (Kit.bk_no (b1.ex e1) (e1 c _ h)) (e1 c _ h)
  have b2' := bk_apart (b2.ex e1) (b1.ex e1) nd12.symm m2
  have hp2 := m2 _ _ p1.symm (e1 _ _ hp)
  have k2 : Kit.KeepB p H H2 := (Kit.KeepB.of e1).trans (Kit.KeepB.dict (b1.ex e1) m2)
  walk_at "wp"
  refine ⟨d2, rfl, ⟨kv, b2'⟩, ?_⟩
  walk_at "wp"
  rename_i b H3 n3 e3 f3
  have tup3 : ∀ c zs, H c = some (.tup zs) → H3 c = some (.tup zs) := fun c zs h => e3 c _ (tup2 c zs h)
  have k3 := k2.trans (Kit.KeepB.of e3)
  have b1' := b1'.ex e3
  have b2' := b2'.ex e3
  have fr := fr.mono tup3
  have tv := tv.mono tup3
  have hp3 := e3 _ _ hp2
  refine ⟨kv, (kd, .num d), b, b2', rfl, ⟨_, f3, rfl⟩, sz1 (by rw [← fr.len]; exact l2), fun v hv => ?_, fun hn H4 m4 b4 => ?_⟩
  · rcases fr.find (kd, .num d) with ⟨t0, v0, hf, hv0, tv0⟩ | ⟨_, hn⟩
    · obtain rfl : v0 = v := Option.some.inj (hv0.symm.trans hv)
      have ef : addF F (kd, .num d) t = F := by unfold addF; rw [hf]
      have ec : addC c F (kd, .num d) t = if t0 = t then c else true := by unfold addC; rw [hf]
      rw [ef, ec] at q
      walk_at "wp"
      refine Kit.w_neTV tv0 tv ?_
      by_cases h : t0 = t
      · rw [if_pos h] at q
        rw [decide_eq_true h]
        walk_at "wp"
        exact q _ k3 ⟨dx, d1, d2, kv, hp3, b1', b2', nd12, fr⟩
      · rw [if_neg h] at q
        rw [decide_eq_false h]
        walk_at "wp"
        rename_i H5 m5 f5
        have tup5 : ∀ c zs, H3 c = some (.tup zs) → H5 c = some (.tup zs) := fun c zs h => m5 c _ (by rintro rfl; rw [hp3] at h; cases h) h
        exact q _ (k3.trans (Kit.KeepB.but m5)) ⟨dx, d1, d2, kv, f5, b1'.mono (fun o h => m5 _ o p1 h) tup5, b2'.mono (fun o h => m5 _ o p2 h) tup5, nd12, fr.mono tup5⟩
    · rw [hn] at hv
      cases hv
  · rcases fr.find (kd, .num d) with ⟨t0, v0, hf, hv0, tv0⟩ | ⟨hf, _⟩
    · rw [hn] at hv0
      cases hv0
    · have ef : addF F (kd, .num d) t = F ++ [((kd, .num d), t)] := by unfold addF; rw [hf]
      have ec : addC c F (kd, .num d) t = c := by unfold addC; rw [hf]
      rw [ef, ec] at q
      rw [put_new hn] at b4
      have tup4 : ∀ c zs, H3 c = some (.tup zs) → H4 c = some (.tup zs) := fun c zs h => m4 c _ (Kit.bk_no b2' h) h
      walk_at "wp"
      refine Kit.w_neTV (tv.mono tup4) (tv.mono tup4) ?_
      rw [decide_eq_true rfl]
      walk_at "wp"
      exact q _ (k3.trans (Kit.KeepB.dict b2' m4)) ⟨dx, d1, d2, _, m4 _ _ p2.symm hp3, bk_apart b1' b2' nd12 m4, b4, nd12, (fr.mono tup4).snoc ⟨rfl, tv.mono tup4⟩⟩
def sp_Book_coll (P : Program) (w : World) (C : Addr) : Sp := fun vs H Q _ => ∃ (p : Addr) (TT : List Kit.BK) (F : List (Kit.BK × Kit.TK)) (c : Bool), vs = [.ref p] ∧ BookAt P w C H p TT F c ∧ Q (.bl c) H
theorem ok_Book_has_collision (T : Txt K mg) : FnOk P w K mg base CX0 1 T.f_Book_has_collision.f T.f_Book_has_collision.fd ["self"] (sp_Book_coll P w T.c_Book.C) := by
  refine T.f_Book_has_collision.F.ok sc_Book_has_collision (fun vs H Q E h => ?_) (fun cdv A outer s H vs Q E hr h => ?_)
  · obtain ⟨p, TT, F, c, rfl, ⟨dx, d1, d2, kv, hp, b1, b2, nd12, fr⟩, q⟩ := h
    rfl
  obtain ⟨p, TT, F, c, rfl, ⟨dx, d1, d2, kv, hp, b1, b2, nd12, fr⟩, q⟩ := h
  have nd := sc_Book_has_collision.nd
  refine Kit.ok_body (σ := [some _]) ((pss_one (ps_ret (Kit.kFld K (pv 0) rfl)))) rfl ?_
  walk_at "wp"
  exact q
def sp_Book_count (P : Program) (w : World) (C : Addr) : Sp := fun vs H Q _ => ∃ (p : Addr) (TT : List Kit.BK) (F : List (Kit.BK × Kit.TK)) (c : Bool), vs = [.ref p] ∧ BookAt P w C H p TT F c ∧ Q (.int (TT.length : Int)) H
theorem ok_Book_count (T : Txt K mg) : FnOk P w K mg base CX0 1 T.f_Book_count.f T.f_Book_count.fd ["self"] (sp_Book_count P w T.c_Book.C) := by
  refine T.f_Book_count.F.ok sc_Book_count (fun vs H Q E h => ?_) (fun cdv A outer s H vs Q E hr h => ?_)
  · obtain ⟨p, TT, F, c, rfl, ⟨dx, d1, d2, kv, hp, b1, b2, nd12, fr⟩, q⟩ := h
    rfl
  obtain ⟨p, TT, F, c, rfl, ⟨dx, d1, d2, kv, hp, b1, b2, nd12, fr⟩, q⟩ := h
  have nd := sc_Book_count.nd
  refine Kit.ok_body (σ := [some _]) ((pss_one (ps_ret (pe_callB (Kit.bkLen P w) (by rfl) T.z_len (by decide +kernel) (pa_cons (Kit.kFld K (pv 0) rfl) pa_nil))))) rfl ?_
  walk_at "wp"
  refine ⟨d1, yesT TT, rfl, b1, ?_⟩
  rw [show (yesT TT).length = TT.length from List.length_map _]
  exact q
theorem BookAt.ins {P : Program} {w : World} {C p : Addr} {H : Hp} {TT : List Kit.BK} {F : List (Kit.BK × Kit.TK)} {c : Bool} {x : Str} {R : Prop} (b : BookAt P w C H p TT F c) (l : ∀ d1 d2 c, (fl_Book d1 d2 c).lookup x = none) (r : R) : Kit.InsOf C x (.ref p) H R := let ⟨_, _, _, _, h, _⟩ := b; Kit.w_ins h (l _ _ _) r
theorem BookAt.butL {P : Program} {w : World} {C p r : Addr} {H H' : Hp} {TT : List Kit.BK} {F : List (Kit.BK × Kit.TK)} {c : Bool} {vs : List V} (b : BookAt P w C H p TT F c) (hr : H r = some (.lst vs)) (m : Kit.ExBut r H H') : BookAt P w C H' p TT F c := by
  obtain ⟨dx, d1, d2, kv, h1, h2, h3, h4, h5⟩ := b
  have tp : ∀ c zs, H c = some (.tup zs) → H' c = some (.tup zs) := fun c zs h => m c _ (by rintro rfl; rw [hr] at h; cases h) h
  refine ⟨dx, d1, d2, kv, m _ _ (by rintro rfl; rw [hr] at h1; cases h1) h1, h2.mono (fun o h => m _ _ ?_ h) tp, h3.mono (fun o h => m _ _ ?_ h) tp, h4, h5.mono tp⟩
  · rintro rfl
    obtain ⟨o, z1, z2⟩ := Kit.bk_is h2
    rw [hr] at z1; cases z1; cases z2
  · rintro rfl
    obtain ⟨o, z1, z2⟩ := Kit.bk_is h3
    rw [hr] at z1; cases z1; cases z2
local macro_rules | `(tactic| walk_at "wp1") => `(tactic| ((with_reducible show Kit.InsOf _ _ _ _ _); refine BookAt.ins (by assumption) (fun _ _ _ => rfl) ?_))

/-! ### digests, with or without a book -/
def leafI (m x : Int) : Int := (48271 * x + 11) % m
def foldI (m x y : Int) : Int := (y * y + 3 * x + 7 * y + 1 + (69621 * x + 16807 * y + 5) * (69621 * x + 16807 * y + 5)) % m
def stepI (m d n : Int) : Int := ((d + n) * (d + 48611) + 52774 * n + 19) % m
def stateI (m : Int) (ns : List Int) : Int := ns.foldl (stepI m) 3
def Dg (m x : Int) : Prop := 0 ≤ x ∧ x < m
inductive IsBits : Int → Prop where
  | b7 : IsBits 7 | b13 : IsBits 13 | b31 : IsBits 31 | b61 : IsBits 61
theorem IsBits.or {b : Int} (h : IsBits b) : b = 7 ∨ b = 13 ∨ b = 31 ∨ b = 61 := by cases h <;> simp
theorem IsBits.m {b : Int} (h : IsBits b) : 100 < 2 ^ b.toNat - (1 : Int) ∧ 2 ^ b.toNat - (1 : Int) < 2 ^ 62 := by cases h <;> decide
theorem mulW {i j : Int} (ha : i.natAbs < 2 ^ 100) (hb : j.natAbs < 2 ^ 100) : CMulW i j := wide_mul (a := 100) (b := 100) ha hb (by decide) (by decide) (by decide)
/-- what a digest's note on its book comes to -/
def NoteK (P : Program) (w : World) (C : Addr) (H : Hp) (bk : V) (k : Kit.BK) (d : Int) (R : Hp → Prop) : Prop := (bk = .non ∧ ∀ H', Evl.Ex H H' → R H') ∨
  ∃ pb TT F c, bk = .ref pb ∧ BookAt P w C H pb TT F c ∧ TT.length ≤ 100000 ∧ F.length ≤ 100000 ∧ ∀ H', Kit.KeepB pb H H' → BookAt P w C H' pb (addT TT k) (addF F (k.1, .num d) k.2) (addC c F (k.1, .num d) k.2) → R H'
theorem NoteK.ex {P : Program} {w : World} {C : Addr} {H H1 : Hp} {bk : V} {k : Kit.BK} {d : Int} {R : Hp → Prop} (n : NoteK P w C H bk k d R) (e : Evl.Ex H H1) : NoteK P w C H1 bk k d R := by
  rcases n with ⟨h, q⟩ | ⟨pb, TT, F, c, h, b, l1, l2, q⟩
  · exact .inl ⟨h, fun H' e' => q H' (e.trans e')⟩
  · exact .inr ⟨pb, TT, F, c, h, b.ex e, l1, l2, fun H' k' b' => q H' ((Kit.KeepB.of e).trans k') b'⟩
theorem NoteK.of {P : Program} {w : World} {C : Addr} {H : Hp} {bk : V} {k : Kit.BK} {d d' : Int} {R : Hp → Prop} (n : NoteK P w C H bk k d R) (h : d = d') : NoteK P w C H bk k d' R := h ▸ n
def DigO (C : Addr) (H : Hp) (d : Addr) (m : Int) (bk : V) : Prop := ∃ dx b, H d = some (.ins C dx (fl_Digests (.int b) bk (.int m)))
def sp_Digests_init (C : Addr) : Sp := fun vs H Q _ => ∃ (p dx : Addr) (b : Int) (bk : V), vs = [.ref p, .int b, bk] ∧ H p = some (.ins C dx []) ∧ 0 ≤ b ∧ b ≤ 61 ∧ ∀ H', Kit.ExBut p H H' → H' p = some (.ins C dx (fl_Digests (.int b) bk (.int (2 ^ b.toNat - 1)))) → Q .non H'
theorem ok_Digests___init (T : Txt K mg) : FnOk P w K mg base CX0 1 T.f_Digests___init.f T.f_Digests___init.fd ["self", "bits", "book"] (sp_Digests_init T.c_Digests.C) := by
  refine T.f_Digests___init.F.ok sc_Digests___init (fun vs H Q E h => ?_) (fun cdv A outer s H vs Q E hr h => ?_)
  · obtain ⟨p, dx, b, bk, rfl, hp, b0, b1, q⟩ := h
    rfl
  obtain ⟨p, dx, b, bk, rfl, hp, b0, b1, q⟩ := h
  have nd := sc_Digests___init.nd
  refine Kit.ok_body (σ := [some _, some _, some _]) ((pss_cons (Kit.kSet K (pv 0) (pv 1) rfl)
    (pss_cons (Kit.kSet K (pv 0) (pv 2) rfl)
    (pss_one (Kit.kSet K (pv 0) (pe_op op_sub (pe_op op_shl pe_int (pv 1)) pe_int) rfl))))) rfl ?_
  walk_at "wp"
  refine Kit.w_I (show CPow 1 b from ⟨b0, by omega, by decide⟩) ?_
  walk_at "wp"
  rename_i f
  refine q _ (by walk_at "but") ?_
  rw [Int.one_mul] at f
  exact f
theorem use_Digests {C : Addr} {b : Int} {bk : V} {H : Hp} {Q : VK} {E : XK} (hb : IsBits b) (k : ∀ p dx H', H p = none → Evl.Ex H H' → H' p = some (.ins C dx (fl_Digests (.int b) bk (.int (2 ^ b.toNat - 1)))) → Q (.ref p) H') : Kit.MakeOf C (sp_Digests_init C) E [.int b, bk] H Q := by
  have b0 := hb.or
  refine Kit.w_made fun x dx H2 hx e h => ?_
  exact ⟨x, dx, b, bk, rfl, h, by omega, by omega, fun H3 m h3 => ⟨rfl, k x dx H3 hx (Kit.ex_but m hx e) h3⟩⟩
local macro_rules | `(tactic| walk_at "wp1") => `(tactic| ((with_reducible show Kit.MakeOf _ (sp_Digests_init _) _ [_, _] _ _); refine use_Digests (by assumption) ?_; intro _ _ _ _ _ _))
def sp_noted (P : Program) (w : World) (C CB : Addr) : Sp := fun vs H Q _ => ∃ (p dx : Addr) (b m bk : V) (kd : Str) (x : V) (t : Kit.TK) (d : Int), vs = [.ref p, .str kd, x, .int d] ∧ H p = some (.ins C dx (fl_Digests b bk m)) ∧ Kit.TVal H t x ∧ NoteK P w CB H bk (kd, t) d fun H' => Q (.int d) H'
theorem ok_Digests__noted (T : Txt K mg) : FnOk P w K mg base CX0 2 T.f_Digests__noted.f T.f_Digests__noted.fd ["self", "kind", "text", "digest"] (sp_noted P w T.c_Digests.C T.c_Book.C) := by
  have G_Book_add := ok_Book_add (P := P) (w := w) (base := base) T
  refine T.f_Digests__noted.F.ok sc_Digests__noted (fun vs H Q E h => ?_) (fun cdv A outer s H vs Q E hr h => ?_)
  · obtain ⟨p, dx, b, m, bk, kd, x, t, d, rfl, hp, tv, nk⟩ := h
    rfl
  obtain ⟨p, dx, b, m, bk, kd, x, t, d, rfl, hp, tv, nk⟩ := h
  have nd := sc_Digests__noted.nd
  have hr1 : Room 1 _ := hr.mono (by decide)
  refine Kit.ok_body (σ := [some _, some _, some _, some _]) ((pss_cons (ps_if (pt_cmpR Kit.k_notN (Kit.kFld K (pv 0) rfl) pe_non (nomark _))
    (pss_one (ps_expr (pe_meth (Kit.kFld K (pv 0) rfl) T.c_Book.cl T.m_Book_add G_Book_add hr1 T.f_Book_add.b .nil pass0 (pa_cons (pv 1) (pa_cons (pv 2) (pa_cons (pv 3) pa_nil))))))
    pss_nil)
    (pss_one (ps_ret (pv 3))))) rfl ?_
  try dsimp only [L2.cxOf, L2.Cx.nox]
  rcases nk with ⟨rfl, q⟩ | ⟨pb, TT, F, c, rfl, hb, l1, l2, q⟩
  · walk_at "wp"
    exact q _ (Evl.Ex.refl _)
  · walk_at "wp"
    refine ⟨pb, kd, x, d, t, TT, F, c, rfl, hb, tv, l1, l2, fun H' k' b' => ?_⟩
    walk_at "wp"
    exact q H' k' b'
def sp_leaf (P : Program) (w : World) (C CB : Addr) : Sp := fun vs H Q _ => ∃ (p dx : Addr) (b bk : V) (m x : Int), vs = [.ref p, .int x] ∧ H p = some (.ins C dx (fl_Digests b bk (.int m))) ∧ 0 < m ∧ NoteK P w CB H bk ("leaf", .num x) (leafI m x) fun H' => Q (.int (leafI m x)) H'
theorem ok_Digests_leaf (T : Txt K mg) : FnOk P w K mg base CX0 3 T.f_Digests_leaf.f T.f_Digests_leaf.fd ["self", "word"] (sp_leaf P w T.c_Digests.C T.c_Book.C) := by
  have G_Digests__noted := ok_Digests__noted (P := P) (w := w) (base := base) T
  refine T.f_Digests_leaf.F.ok sc_Digests_leaf (fun vs H Q E h => ?_) (fun cdv A outer s H vs Q E hr h => ?_)
  · obtain ⟨p, dx, b, bk, m, x, rfl, hp, m0, nk⟩ := h
    rfl
  obtain ⟨p, dx, b, bk, m, x, rfl, hp, m0, nk⟩ := h
  have nd := sc_Digests_leaf.nd
  have hr2 : Room 2 _ := hr.mono (by decide)
  refine Kit.ok_body (σ := [some _, some _]) ((pss_one (ps_ret (pe_meth (pv 0) T.c_Digests.cl T.m_Digests__noted G_Digests__noted hr2 T.f_Digests__noted.b .nil pass0 (pa_cons pe_str (pa_cons (pv 1) (pa_cons (pe_op op_mod (pe_op op_add (pe_op op_mul pe_int (pv 1)) pe_int) (Kit.kFld K (pv 0) rfl)) pa_nil))))))) rfl ?_
  try dsimp only [L2.cxOf, L2.Cx.nox]
  walk_at "wp"
  exact ⟨p, dx, b, .int m, bk, "leaf", .int x, .num x, _, rfl, hp, rfl, nk⟩
def sp_fold (P : Program) (w : World) (C CB : Addr) : Sp := fun vs H Q _ => ∃ (p dx : Addr) (b bk : V) (m x y : Int), vs = [.ref p, .int x, .int y] ∧ H p = some (.ins C dx (fl_Digests b bk (.int m))) ∧ 0 < m ∧ m < 2 ^ 62 ∧ Dg m x ∧ Dg m y ∧ NoteK P w CB H bk ("fold", .nums [x, y]) (foldI m x y) fun H' => Q (.int (foldI m x y)) H'
theorem ok_Digests_fold (T : Txt K mg) : FnOk P w K mg base CX0 3 T.f_Digests_fold.f T.f_Digests_fold.fd ["self", "left", "right"] (sp_fold P w T.c_Digests.C T.c_Book.C) := by
  have G_Digests__noted := ok_Digests__noted (P := P) (w := w) (base := base) T
  refine T.f_Digests_fold.F.ok sc_Digests_fold (fun vs H Q E h => ?_) (fun cdv A outer s H vs Q E hr h => ?_)
  · obtain ⟨p, dx, b, bk, m, x, y, rfl, hp, m0, m1, ⟨x0, x1⟩, ⟨y0, y1⟩, nk⟩ := h
    rfl
  obtain ⟨p, dx, b, bk, m, x, y, rfl, hp, m0, m1, ⟨x0, x1⟩, ⟨y0, y1⟩, nk⟩ := h
  have nd := sc_Digests_fold.nd
  have hr2 : Room 2 _ := hr.mono (by decide)
  refine Kit.ok_body (σ := [some _, some _, some _, none, none]) ((pss_cons (ps_set (i := 3) nd rfl (Or.inl rfl) (pe_op op_add (pe_op op_add (pe_op op_mul pe_int (pv 1)) (pe_op op_mul pe_int (pv 2))) pe_int))
    (pss_cons (ps_set (i := 4) nd rfl (Or.inl rfl) (pe_op op_add (pe_op op_add (pe_op op_add (pe_op op_add (pe_op op_mul (pv 2) (pv 2)) (pe_op op_mul pe_int (pv 1))) (pe_op op_mul pe_int (pv 2))) pe_int) (pe_op op_mulW (pv 3) (pv 3))))
    (pss_one (ps_ret (pe_meth (pv 0) T.c_Digests.cl T.m_Digests__noted G_Digests__noted hr2 T.f_Digests__noted.b .nil pass0 (pa_cons pe_str (pa_cons (pe_tup (pa_cons (pv 1) (pa_cons (pv 2) pa_nil))) (pa_cons (pe_op op_mod (pv 4) (Kit.kFld K (pv 0) rfl)) pa_nil))))))))) rfl ?_
  try dsimp only [L2.cxOf, L2.Cx.nox]
  walk_at "wp"
  refine Kit.w_I (mulW (by omega) (by omega)) ?_
  walk_at "wp"
  rename_i a H1 n1 e1 f1
  exact ⟨p, dx, b, .int m, bk, "fold", .ref a, .nums [x, y], _, rfl, e1 _ _ hp, ⟨a, rfl, f1⟩, nk.ex e1⟩
theorem step_dg {m d n : Int} (h : 0 < m) : Dg m (stepI m d n) := ⟨Int.emod_nonneg _ (by omega), Int.emod_lt_of_pos _ h⟩
theorem fold_dg {m x y : Int} (h : 0 < m) : Dg m (foldI m x y) := ⟨Int.emod_nonneg _ (by omega), Int.emod_lt_of_pos _ h⟩
theorem leaf_dg {m x : Int} (h : 0 < m) : Dg m (leafI m x) := ⟨Int.emod_nonneg _ (by omega), Int.emod_lt_of_pos _ h⟩
theorem foldl_dg {m : Int} (h : 3 < m) : ∀ (ns : List Int) (d : Int), Dg m d → Dg m (ns.foldl (stepI m) d)
  | [], _, hd => hd
  | _ :: ns, _, _ => foldl_dg h ns _ (step_dg (by omega))
theorem int_of {ns : List Int} {i : Nat} {x : V} (h : (ns.map V.int)[i]? = some x) : ∃ n, ns[i]? = some n ∧ x = .int n ∧ n ∈ ns := by
  rw [List.getElem?_map] at h
  cases e : ns[i]? with
  | none => rw [e] at h; cases h
  | some n => rw [e] at h; exact ⟨n, rfl, (Option.some.inj h).symm, List.mem_of_getElem? e⟩
def sp_state (P : Program) (w : World) (C CB : Addr) : Sp := fun vs H Q _ => ∃ (p dx : Addr) (b bk : V) (m : Int) (a : Addr) (ns : List Int), vs = [.ref p, .ref a] ∧ H p = some (.ins C dx (fl_Digests b bk (.int m))) ∧ 3 < m ∧ m < 2 ^ 62 ∧ H a = some (.tup (ns.map V.int)) ∧ (∀ n ∈ ns, 0 ≤ n ∧ n < 2 ^ 62) ∧ ns.length ≤ 1000 ∧
  NoteK P w CB H bk ("state", .nums ns) (stateI m ns) fun H' => Q (.int (stateI m ns)) H'
theorem ok_Digests_state (T : Txt K mg) : FnOk P w K mg base CX0 3 T.f_Digests_state.f T.f_Digests_state.fd ["self", "numbers"] (sp_state P w T.c_Digests.C T.c_Book.C) := by
  have G_Digests__noted := ok_Digests__noted (P := P) (w := w) (base := base) T
  refine T.f_Digests_state.F.ok sc_Digests_state (fun vs H Q E h => ?_) (fun cdv A outer s H vs Q E hr h => ?_)
  · obtain ⟨p, dx, b, bk, m, a, ns, rfl, hp, m0, m1, ha, hb, hl, nk⟩ := h
    rfl
  obtain ⟨p, dx, b, bk, m, a, ns, rfl, hp, m0, m1, ha, hb, hl, nk⟩ := h
  have nd := sc_Digests_state.nd
  have hr2 : Room 2 _ := hr.mono (by decide)
  refine Kit.ok_body (σ := [some _, some _, none, none]) ((pss_cons (ps_set (i := 2) nd rfl (Or.inl rfl) pe_int)
    (pss_cons (ps_for PassesOwn.never rfl (Kit.kpTup K (pv 1)) (pg_name (i := 3) nd rfl (Or.inl rfl))
    (pss_one (ps_set (i := 2) nd rfl (Or.inl rfl) (pe_op op_mod (pe_op op_add (pe_op op_add (pe_op op_mulW (pe_op op_add (pv 2) (pv 3)) (pe_op op_add (pv 2) pe_int)) (pe_op op_mul pe_int (pv 3))) pe_int) (Kit.kFld K (pv 0) rfl)))))
    (pss_one (ps_ret (pe_meth (pv 0) T.c_Digests.cl T.m_Digests__noted G_Digests__noted hr2 T.f_Digests__noted.b .nil pass0 (pa_cons pe_str (pa_cons (pv 1) (pa_cons (pv 2) pa_nil))))))))) rfl ?_
  try dsimp only [L2.cxOf, L2.Cx.nox]
  walk_at "wp"
  refine Kit.f_tup (Evl.st_of ha) (fun i σ H' => ∃ y3, σ = [some (.ref p), some (.ref a), some (.int ((ns.take i).foldl (stepI m) 3)), y3] ∧ H = H') ⟨_, rfl, rfl⟩ ?_ ?_ ?_
  · rintro i σ' _ _ ⟨y3, rfl, rfl⟩
    exact Evl.st_of ha
  · rintro i x σ' _ hx ⟨y3, rfl, rfl⟩
    obtain ⟨n, hn, rfl, hm⟩ := int_of hx
    obtain ⟨n0, n1⟩ := hb n hm
    obtain ⟨d0, d1⟩ := foldl_dg m0 (ns.take i) 3 ⟨by omega, m0⟩
    rw [Kit.foldl_take hn]
    generalize (ns.take i).foldl (stepI m) 3 = d at *
    show Kit.Sm _ _ _ _ _ _ _
    walk_at "wp"
    refine Kit.w_I (mulW (by omega) (by omega)) ?_
    walk_at "wp"
    exact ⟨_, rfl, rfl⟩
  · rintro σ' _ ⟨y3, rfl, rfl⟩
    rw [List.take_of_length_le (by rw [List.length_map]; exact Nat.le_refl _)]
    walk_at "wp"
    exact ⟨p, dx, b, .int m, bk, "state", .ref a, .nums ns, _, rfl, hp, ⟨a, rfl, ha⟩, nk⟩

/-! ### forms of values -/
local macro_rules | `(tactic| walk_at "wp1") => `(tactic| first
  | with_reducible refine Kit.w_chain ?_
  | with_reducible refine Kit.w_isB ?_
  | with_reducible refine Kit.w_notB ?_)
inductive Val5 (K : PySem.W.Frag) (H : Hp) : V → Prop where
  | non : Val5 K H .non
  | bl (b : Bool) : Val5 K H (.bl b)
  | str (s : Str) : Val5 K H (.str s)
  | int (i : Int) : Val5 K H (.int i)
  | tup {p : Addr} {xs : List V} : SqT K H p xs → Val5 K H (.ref p)
def inI (x : V) (lo hi : Int) : Bool := match x with
  | .int i => decide (lo ≤ i) && decide (i ≤ hi)
  | _ => false
def sp_is_integer (K : PySem.W.Frag) : Sp := fun vs H Q _ => ∃ (x : V) (lo hi : Int), vs = [x, .int lo, .int hi] ∧ Val5 K H x ∧ Q (.bl (inI x lo hi)) H
theorem ok_is_integer (T : Txt K mg) : FnOk P w K mg base CX0 1 T.f_is_integer.f T.f_is_integer.fd ["value", "least", "greatest"] (sp_is_integer K) := by
  refine T.f_is_integer.F.ok sc_is_integer (fun vs H Q E h => ?_) (fun cdv A outer s H vs Q E hr h => ?_)
  · obtain ⟨x, lo, hi, rfl, hx, q⟩ := h
    rfl
  obtain ⟨x, lo, hi, rfl, hx, q⟩ := h
  have nd := sc_is_integer.nd
  refine Kit.ok_body (σ := [some _, some _, some _]) ((pss_cons (ps_if (PW.pt (pw_or (pt_not (pt_val (pe_callB (Kit.kIsi K) (by rfl) T.z_isinstance (by decide +kernel) (pa_cons (pv 0) (pa_cons (pe_bltn (v := .ty "int") (by rfl) T.z_int (by decide +kernel) rfl) pa_nil))))) (pw_or1 (pt_val (pe_callB (Kit.kIsi K) (by rfl) T.z_isinstance (by decide +kernel) (pa_cons (pv 0) (pa_cons (pe_bltn (v := .ty "bool") (by rfl) T.z_bool (by decide +kernel) rfl) pa_nil)))))))
    (pss_one (ps_ret pe_bl))
    pss_nil)
    (pss_one (ps_ret (pe_chain op_le op_le (pv 1) (pv 0) (pv 2)))))) rfl ?_
  cases hx with
  | int i =>
    change Q (.bl (decide (lo ≤ i) && decide (i ≤ hi))) H at q
    by_cases h1 : lo ≤ i
    · rw [decide_eq_true h1, Bool.true_and] at q
      walk_at "wp"
      · exact q
      · omega
    · rw [decide_eq_false h1, Bool.false_and] at q
      walk_at "wp"
      · omega
      · exact q
  | _ =>
    walk_at "wp"
    exact q
def sp_is_word (K : PySem.W.Frag) : Sp := fun vs H Q _ => ∃ x : V, vs = [x] ∧ Val5 K H x ∧ Q (.bl (inI x 0 65535)) H
theorem ok_is_word (T : Txt K mg) : FnOk P w K mg base CX0 2 T.f_is_word.f T.f_is_word.fd ["value"] (sp_is_word K) := by
  have G_is_integer := ok_is_integer (P := P) (w := w) (base := base) T
  refine T.f_is_word.F.ok sc_is_word (fun vs H Q E h => ?_) (fun cdv A outer s H vs Q E hr h => ?_)
  · obtain ⟨x, rfl, hx, q⟩ := h
    rfl
  obtain ⟨x, rfl, hx, q⟩ := h
  have nd := sc_is_word.nd
  have hr1 : Room 1 _ := hr.mono (by decide)
  refine Kit.ok_body (σ := [some _]) ((pss_one (ps_ret (pe_call G_is_integer hr1 (by rfl) T.f_is_integer.g T.f_is_integer.F.kp T.f_is_integer.b .nil pass0 (pa_cons (pv 0) (pa_cons pe_int (pa_cons (pe_glob (v := .int 65535) rfl T.g_MOST_WORD ⟨_, rfl⟩) pa_nil))))))) rfl ?_
  walk_at "wp"
  exact ⟨x, 0, 65535, rfl, hx, q⟩
def sp_is_digest (K : PySem.W.Frag) (C : Addr) : Sp := fun vs H Q _ => ∃ (p dx : Addr) (b bk : V) (m : Int) (x : V), vs = [.ref p, x] ∧ H p = some (.ins C dx (fl_Digests b bk (.int m))) ∧ Val5 K H x ∧ Q (.bl (inI x 0 (m - 1))) H
theorem ok_Digests_is_digest (T : Txt K mg) : FnOk P w K mg base CX0 2 T.f_Digests_is_digest.f T.f_Digests_is_digest.fd ["self", "value"] (sp_is_digest K T.c_Digests.C) := by
  have G_is_integer := ok_is_integer (P := P) (w := w) (base := base) T
  refine T.f_Digests_is_digest.F.ok sc_Digests_is_digest (fun vs H Q E h => ?_) (fun cdv A outer s H vs Q E hr h => ?_)
  · obtain ⟨p, dx, b, bk, m, x, rfl, hp, hx, q⟩ := h
    rfl
  obtain ⟨p, dx, b, bk, m, x, rfl, hp, hx, q⟩ := h
  have nd := sc_Digests_is_digest.nd
  have hr1 : Room 1 _ := hr.mono (by decide)
  refine Kit.ok_body (σ := [some _, some _]) ((pss_one (ps_ret (pe_call G_is_integer hr1 (by rfl) T.f_is_integer.g T.f_is_integer.F.kp T.f_is_integer.b .nil pass0 (pa_cons (pv 1) (pa_cons pe_int (pa_cons (pe_op op_sub (Kit.kFld K (pv 0) rfl) pe_int) pa_nil))))))) rfl ?_
  walk_at "wp"
  exact ⟨x, 0, m - 1, rfl, hx, q⟩
def sp_modulus (C : Addr) : Sp := fun vs H Q _ => ∃ (p dx : Addr) (b bk : V) (m : Int), vs = [.ref p] ∧ H p = some (.ins C dx (fl_Digests b bk (.int m))) ∧ Q (.int m) H
theorem ok_Digests_modulus (T : Txt K mg) : FnOk P w K mg base CX0 1 T.f_Digests_modulus.f T.f_Digests_modulus.fd ["self"] (sp_modulus T.c_Digests.C) := by
  refine T.f_Digests_modulus.F.ok sc_Digests_modulus (fun vs H Q E h => ?_) (fun cdv A outer s H vs Q E hr h => ?_)
  · obtain ⟨p, dx, b, bk, m, rfl, hp, q⟩ := h
    rfl
  obtain ⟨p, dx, b, bk, m, rfl, hp, q⟩ := h
  have nd := sc_Digests_modulus.nd
  refine Kit.ok_body (σ := [some _]) ((pss_one (ps_ret (Kit.kFld K (pv 0) rfl)))) rfl ?_
  walk_at "wp"
  exact q
def sp_bare (C : Addr) : Sp := fun vs H Q _ => ∃ (p dx : Addr) (b : Int) (bk m : V), vs = [.ref p] ∧ H p = some (.ins C dx (fl_Digests (.int b) bk m)) ∧ IsBits b ∧
  ∀ p2 dx2 H', H p2 = none → Evl.Ex H H' → H' p2 = some (.ins C dx2 (fl_Digests (.int b) .non (.int (2 ^ b.toNat - 1)))) → Q (.ref p2) H'
theorem ok_Digests_without_book (T : Txt K mg) : FnOk P w K mg base CX0 3 T.f_Digests_without_book.f T.f_Digests_without_book.fd ["self"] (sp_bare T.c_Digests.C) := by
  have G_Digests___init := ok_Digests___init (P := P) (w := w) (base := base) T
  refine T.f_Digests_without_book.F.ok sc_Digests_without_book (fun vs H Q E h => ?_) (fun cdv A outer s H vs Q E hr h => ?_)
  · obtain ⟨p, dx, b, bk, m, rfl, hp, hb, q⟩ := h
    rfl
  obtain ⟨p, dx, b, bk, m, rfl, hp, hb, q⟩ := h
  have nd := sc_Digests_without_book.nd
  have hr1 : Room 1 _ := hr.mono (by decide)
  have hr2 : Room 2 _ := hr.mono (by decide)
  refine Kit.ok_body (σ := [some _]) ((pss_one (ps_ret (pe_make T.c_Digests.M G_Digests___init hr2 (by rfl) T.c_Digests.g T.f_Digests___init.b .nil pass0 (pa_cons (Kit.kFld K (pv 0) rfl) (pa_cons pe_non pa_nil)))))) rfl ?_
  walk_at "wp"
  exact q _ _ _ (by assumption) (by assumption) (by assumption)

/-! ### the law's modulus -/
def sp_law_mod : Sp := fun vs H Q _ => ∃ b : Int, vs = [.int b] ∧ IsBits b ∧ ∀ H', Evl.Ex H H' → Q (.int (2 ^ b.toNat - 1)) H'
theorem ok_law_mod (T : Txt K mg) : FnOk P w K mg base CX0 1 T.f_law_mod.f T.f_law_mod.fd ["bits"] (sp_law_mod) := by
  refine T.f_law_mod.F.ok sc_law_mod (fun vs H Q E h => ?_) (fun cdv A outer s H vs Q E hr h => ?_)
  · obtain ⟨b, rfl, hb, q⟩ := h
    rfl
  obtain ⟨b, rfl, hb, q⟩ := h
  have nd := sc_law_mod.nd
  have hu := hu_of hr
  refine Kit.ok_body (σ := [some _]) ((pss_one (ps_ret (pe_dget hu (pe_disp (pps_cons pe_int pe_int (pps_cons pe_int pe_int (pps_cons pe_int pe_int (pps_cons pe_int pe_int pps_nil)))) (by rfl) (by rfl) (fun z => by cases z) (by decide)) (pv 0) (fun _ _ => rfl))))) rfl ?_
  try dsimp only [L2.cxOf, L2.Cx.nox]
  walk_at "wp"
  rename_i p H1 n1 e1 f1
  refine ⟨f1, [(Sum.inl 7, .int 127), (Sum.inl 13, .int 8191), (Sum.inl 31, .int 2147483647), (Sum.inl 61, .int 2305843009213693951)], rfl, Nat.le_of_ble_eq_true rfl, ?_⟩
  walk_at "wp"
  have e : Evl.Ex H (upd H1 p (.dK (mergeK [] [(Sum.inl 7, .int 127), (Sum.inl 13, .int 8191), (Sum.inl 31, .int 2147483647), (Sum.inl 61, .int 2305843009213693951)]))) := Evl.Ex.mut e1 n1
  cases hb with
  | b7 => exact ⟨_, .int 127, rfl, DGet.k (k := Sum.inl 7) upd_same, q _ e⟩
  | b13 => exact ⟨_, .int 8191, rfl, DGet.k (k := Sum.inl 13) upd_same, q _ e⟩
  | b31 => exact ⟨_, .int 2147483647, rfl, DGet.k (k := Sum.inl 31) upd_same, q _ e⟩
  | b61 => exact ⟨_, .int 2305843009213693951, rfl, DGet.k (k := Sum.inl 61) upd_same, q _ e⟩
theorem use_law_mod {b : Int} {H : Hp} {Q : VK} {E : XK} (hb : IsBits b) (q : ∀ H', Evl.Ex H H' → Q (.int (2 ^ b.toNat - 1)) H') : sp_law_mod [.int b] H Q E := ⟨b, rfl, hb, q⟩

def sp_law_fold : Sp := fun vs H Q _ => ∃ m x y : Int, vs = [.int m, .int x, .int y] ∧ Dg m x ∧ Dg m y ∧ m < 2 ^ 62 ∧ ∀ H', Evl.Ex H H' → Q (.int (foldI m x y)) H'
theorem ok_law_fold (T : Txt K mg) : FnOk P w K mg base CX0 1 T.f_law_fold.f T.f_law_fold.fd ["m", "x", "y"] (sp_law_fold) := by
  refine T.f_law_fold.F.ok sc_law_fold (fun vs H Q E h => ?_) (fun cdv A outer s H vs Q E hr h => ?_)
  · obtain ⟨m, x, y, rfl, ⟨x0, x1⟩, ⟨y0, y1⟩, hm, q⟩ := h
    rfl
  obtain ⟨m, x, y, rfl, ⟨x0, x1⟩, ⟨y0, y1⟩, hm, q⟩ := h
  have nd := sc_law_fold.nd
  refine Kit.ok_body (σ := [some _, some _, some _, none]) ((pss_cons (ps_set (i := 3) nd rfl (Or.inl rfl) (pe_op op_add (pe_op op_add (pe_op op_mul pe_int (pv 1)) (pe_op op_mul pe_int (pv 2))) pe_int))
    (pss_one (ps_ret (pe_op op_mod (pe_op op_add (pe_op op_add (pe_op op_add (pe_op op_add (pe_op op_mul (pv 2) (pv 2)) (pe_op op_mul pe_int (pv 1))) (pe_op op_mul pe_int (pv 2))) pe_int) (pe_op op_mulW (pv 3) (pv 3))) (pv 0)))))) rfl ?_
  walk_at "wp"
  refine Kit.w_I (mulW (by omega) (by omega)) ?_
  walk_at "wp"
  exact ex_done q (Evl.Ex.refl _) rfl
theorem use_law_fold {m x y : Int} {H : Hp} {Q : VK} {E : XK} (hx : Dg m x) (hy : Dg m y) (hm : m < 2 ^ 62) (q : ∀ H', Evl.Ex H H' → Q (.int (foldI m x y)) H') : sp_law_fold [.int m, .int x, .int y] H Q E := ⟨m, x, y, rfl, hx, hy, hm, q⟩

def sp_law_leaf : Sp := fun vs H Q _ => ∃ m x : Int, vs = [.int m, .int x] ∧ 0 < m ∧ Q (.int (leafI m x)) H
theorem ok_law_leaf (T : Txt K mg) : FnOk P w K mg base CX0 1 T.f_law_leaf.f T.f_law_leaf.fd ["m", "word"] (sp_law_leaf) := by
  refine T.f_law_leaf.F.ok sc_law_leaf (fun vs H Q E h => ?_) (fun cdv A outer s H vs Q E hr h => ?_)
  · obtain ⟨m, x, rfl, hm, q⟩ := h
    rfl
  obtain ⟨m, x, rfl, hm, q⟩ := h
  have nd := sc_law_leaf.nd
  refine Kit.ok_body (σ := [some _, some _]) ((pss_one (ps_ret (pe_op op_mod (pe_op op_add (pe_op op_mul pe_int (pv 1)) pe_int) (pv 0))))) rfl ?_
  walk_at "wp"
  exact q
def sp_law_state (K : PySem.W.Frag) : Sp := fun vs H Q _ => ∃ (m : Int) (a : Addr) (ns : List Int), vs = [.int m, .ref a] ∧ 3 < m ∧ m < 2 ^ 62 ∧ SqT K H a (ns.map V.int) ∧ (∀ n ∈ ns, 0 ≤ n ∧ n < 2 ^ 62) ∧ ns.length ≤ 1000 ∧ Q (.int (stateI m ns)) H
theorem ok_law_state (T : Txt K mg) : FnOk P w K mg base CX0 1 T.f_law_state.f T.f_law_state.fd ["m", "numbers"] (sp_law_state K) := by
  refine T.f_law_state.F.ok sc_law_state (fun vs H Q E h => ?_) (fun cdv A outer s H vs Q E hr h => ?_)
  · obtain ⟨m, a, ns, rfl, m0, m1, ha, hb, hl, q⟩ := h
    rfl
  obtain ⟨m, a, ns, rfl, m0, m1, ha, hb, hl, q⟩ := h
  have nd := sc_law_state.nd
  refine Kit.ok_body (σ := [some _, some _, none, none]) ((pss_cons (ps_set (i := 2) nd rfl (Or.inl rfl) pe_int)
    (pss_cons (ps_for PassesOwn.never rfl (Kit.kpTup K (pv 1)) (pg_name (i := 3) nd rfl (Or.inl rfl))
    (pss_one (ps_set (i := 2) nd rfl (Or.inl rfl) (pe_op op_mod (pe_op op_add (pe_op op_add (pe_op op_mulW (pe_op op_add (pv 2) (pv 3)) (pe_op op_add (pv 2) pe_int)) (pe_op op_mul pe_int (pv 3))) pe_int) (pv 0)))))
    (pss_one (ps_ret (pv 2)))))) rfl ?_
  walk_at "wp"
  refine Kit.f_tup ha (fun i σ H' => ∃ y3, σ = [some (.int m), some (.ref a), some (.int ((ns.take i).foldl (stepI m) 3)), y3] ∧ H = H') ⟨_, rfl, rfl⟩ ?_ ?_ ?_
  · rintro i σ' _ _ ⟨y3, rfl, rfl⟩
    exact ha
  · rintro i x σ' _ hx ⟨y3, rfl, rfl⟩
    obtain ⟨n, hn, rfl, hm⟩ := int_of hx
    obtain ⟨n0, n1⟩ := hb n hm
    obtain ⟨d0, d1⟩ := foldl_dg m0 (ns.take i) 3 ⟨by omega, m0⟩
    rw [Kit.foldl_take hn]
    generalize (ns.take i).foldl (stepI m) 3 = d at *
    show Kit.Sm _ _ _ _ _ _ _
    walk_at "wp"
    refine Kit.w_I (mulW (by omega) (by omega)) ?_
    walk_at "wp"
    exact ⟨_, rfl, rfl⟩
  · rintro σ' _ ⟨y3, rfl, rfl⟩
    rw [List.take_of_length_le (by rw [List.length_map]; exact Nat.le_refl _)]
    walk_at "wp"
    exact q
theorem forms1 {K : PySem.W.Frag} {H : Hp} {m : Int} {a : Addr} {x : V} (ha : H a = some (.tup [.int 1])) (m0 : 100 < m) (h : x ∈ [V.non, V.int (-1), V.int m, V.bl true, V.bl false, V.str "1", V.ref a, V.int (m + 1)]) : Val5 K H x ∧ inI x 0 (m - 1) = false := by
  simp only [List.mem_cons, List.not_mem_nil, or_false] at h
  rcases h with rfl | rfl | rfl | rfl | rfl | rfl | rfl | rfl
  · exact ⟨.non, rfl⟩
  · exact ⟨.int _, rfl⟩
  · exact ⟨.int _, by simp [inI]; omega⟩
  · exact ⟨.bl _, rfl⟩
  · exact ⟨.bl _, rfl⟩
  · exact ⟨.str _, rfl⟩
  · exact ⟨.tup (Evl.st_of ha), rfl⟩
  · exact ⟨.int _, by simp [inI]; omega⟩
theorem forms2 {K : PySem.W.Frag} {H : Hp} {a : Addr} {x : V} (ha : H a = some (.tup [])) (h : x ∈ [V.non, V.int (-1), V.int 65536, V.bl true, V.str "a", V.ref a]) : Val5 K H x ∧ inI x 0 65535 = false := by
  simp only [List.mem_cons, List.not_mem_nil, or_false] at h
  rcases h with rfl | rfl | rfl | rfl | rfl | rfl
  · exact ⟨.non, rfl⟩
  · exact ⟨.int _, rfl⟩
  · exact ⟨.int _, rfl⟩
  · exact ⟨.bl _, rfl⟩
  · exact ⟨.str _, rfl⟩
  · exact ⟨.tup (Evl.st_of ha), rfl⟩
def sp_law_forms (C : Addr) : Sp := fun vs H Q _ => ∃ (p dx : Addr) (b bk : V) (m : Int), vs = [.ref p, .int m] ∧ H p = some (.ins C dx (fl_Digests b bk (.int m))) ∧ 100 < m ∧ m < 2 ^ 62 ∧ ∀ H', Evl.Ex H H' → Q (.bl true) H'
theorem ok_law_forms (T : Txt K mg) : FnOk P w K mg base CX0 3 T.f_law_forms.f T.f_law_forms.fd ["digests", "m"] (sp_law_forms T.c_Digests.C) := by
  have G_Digests_is_digest := ok_Digests_is_digest (P := P) (w := w) (base := base) T
  have G_is_integer := ok_is_integer (P := P) (w := w) (base := base) T
  have G_is_word := ok_is_word (P := P) (w := w) (base := base) T
  refine T.f_law_forms.F.ok sc_law_forms (fun vs H Q E h => ?_) (fun cdv A outer s H vs Q E hr h => ?_)
  · obtain ⟨p, dx, b, bk, m, rfl, hp, m0, m1, q⟩ := h
    rfl
  obtain ⟨p, dx, b, bk, m, rfl, hp, m0, m1, q⟩ := h
  have nd := sc_law_forms.nd
  have hr1 : Room 1 _ := hr.mono (by decide)
  have hr2 : Room 2 _ := hr.mono (by decide)
  refine Kit.ok_body (σ := [some _, some _, none]) ((pss_cons (ps_for PassesOwn.never rfl (Kit.kpList K (pe_lst (pa_cons pe_non (pa_cons (pe_un un_neg pe_int) (pa_cons (pv 1) (pa_cons pe_bl (pa_cons pe_bl (pa_cons pe_str (pa_cons (pe_tup (pa_cons pe_int pa_nil)) (pa_cons (pe_op op_add (pv 1) pe_int) pa_nil)))))))))) (pg_name (i := 2) nd rfl (Or.inl rfl))
    (pss_one (ps_if (pt_cmpR op_notBl (pe_meth (pv 0) T.c_Digests.cl T.m_Digests_is_digest G_Digests_is_digest hr2 T.f_Digests_is_digest.b .nil pass0 (pa_cons (pv 2) pa_nil)) pe_bl (nomark _))
    (pss_one (ps_ret pe_bl))
    pss_nil)))
    (pss_cons (ps_for PassesOwn.never rfl (Kit.kpList K (pe_lst (pa_cons pe_non (pa_cons (pe_un un_neg pe_int) (pa_cons pe_int (pa_cons pe_bl (pa_cons pe_str (pa_cons (pe_tup pa_nil) pa_nil)))))))) (pg_name (i := 2) nd rfl (Or.inl rfl))
    (pss_one (ps_if (PW.pt (pw_or (pt_cmpR op_notBl (pe_call G_is_word hr2 (by rfl) T.f_is_word.g T.f_is_word.F.kp T.f_is_word.b .nil pass0 (pa_cons (pv 2) pa_nil)) pe_bl (nomark _)) (pw_or1 (pt_cmpR op_notBl (pe_call G_is_integer hr1 (by rfl) T.f_is_integer.g T.f_is_integer.F.kp T.f_is_integer.b .nil pass0 (pa_cons (pv 2) (pa_cons pe_int (pa_cons pe_int pa_nil)))) pe_bl (nomark _)))))
    (pss_one (ps_ret pe_bl))
    pss_nil)))
    (pss_one (ps_ret (pe_and (pe_cmpR op_isBl (pe_meth (pv 0) T.c_Digests.cl T.m_Digests_is_digest G_Digests_is_digest hr2 T.f_Digests_is_digest.b .nil pass0 (pa_cons pe_int pa_nil)) pe_bl (nomark _)) (pe_and (pe_cmpR op_isBl (pe_meth (pv 0) T.c_Digests.cl T.m_Digests_is_digest G_Digests_is_digest hr2 T.f_Digests_is_digest.b .nil pass0 (pa_cons (pe_op op_sub (pv 1) pe_int) pa_nil)) pe_bl (nomark _)) (pe_and (pe_cmpR op_isBl (pe_call G_is_word hr2 (by rfl) T.f_is_word.g T.f_is_word.F.kp T.f_is_word.b .nil pass0 (pa_cons pe_int pa_nil)) pe_bl (nomark _)) (pe_one (pe_cmpR op_isBl (pe_call G_is_integer hr1 (by rfl) T.f_is_integer.g T.f_is_integer.F.kp T.f_is_integer.b .nil pass0 (pa_cons (pe_un un_neg pe_int) (pa_cons (pe_un un_neg pe_int) (pa_cons pe_int pa_nil)))) pe_bl (nomark _))))))))))) rfl ?_
  try dsimp only [L2.cxOf, L2.Cx.nox]
  walk_at "wp"
  rename_i a1 H1 n1 e1 f1 a2 H2 n2 e2 f2
  have f1 := e2 _ _ f1
  have hp2 := e2 _ _ (e1 _ _ hp)
  have E2 := e1.trans e2
  refine Kit.f_list (Evl.sq_of f2) (fun i σ H => ∃ y2, σ = [some (.ref p), some (.int m), y2] ∧ H2 = H) ⟨_, rfl, rfl⟩ ?_ ?_ ?_
  · rintro i σ' _ _ ⟨y2, rfl, rfl⟩
    exact Evl.sq_of f2
  · rintro i x σ' _ hx ⟨y2, rfl, rfl⟩
    obtain ⟨hv, hf⟩ := forms1 (K := K) f1 m0 (List.mem_of_getElem? hx)
    show Kit.Sm _ _ _ _ _ _ _
    walk_at "wp"
    refine ⟨p, dx, b, bk, m, x, rfl, hp2, hv, ?_⟩
    rw [hf]
    walk_at "wp"
    exact ⟨_, rfl, rfl⟩
  · rintro σ' _ ⟨y2, rfl, rfl⟩
    walk_at "wp"
    rename_i a3 H3 n3 e3 f3 a4 H4 n4 e4 f4
    have f3 := e4 _ _ f3
    have E4 := (E2.trans e3).trans e4
    have hp4 := e4 _ _ (e3 _ _ hp2)
    refine Kit.f_list (Evl.sq_of f4) (fun i σ H => ∃ y2, σ = [some (.ref p), some (.int m), y2] ∧ H4 = H) ⟨_, rfl, rfl⟩ ?_ ?_ ?_
    · rintro i σ' _ _ ⟨y2, rfl, rfl⟩
      exact Evl.sq_of f4
    · rintro i x σ' _ hx ⟨y2, rfl, rfl⟩
      obtain ⟨hv, hf⟩ := forms2 (K := K) f3 (List.mem_of_getElem? hx)
      show Kit.Sm _ _ _ _ _ _ _
      walk_at "wp"
      refine ⟨x, rfl, hv, ?_⟩
      rw [hf]
      walk_at "wp"
      refine ⟨x, 0, 65535, rfl, hv, ?_⟩
      rw [hf]
      walk_at "wp"
      exact ⟨_, rfl, rfl⟩
    · rintro σ' _ ⟨y2, rfl, rfl⟩
      walk_at "wp"
      refine ⟨p, dx, b, bk, m, .int 0, rfl, hp4, .int 0, ?_⟩
      rw [show inI (.int 0) 0 (m - 1) = true from by simp [inI]; omega]
      walk_at "wp"
      refine ⟨p, dx, b, bk, m, .int (m - 1), rfl, hp4, .int _, ?_⟩
      rw [show inI (.int (m - 1)) 0 (m - 1) = true from by simp [inI]; omega]
      walk_at "wp"
      refine ⟨.int 65535, rfl, .int _, ?_⟩
      rw [show inI (.int 65535) 0 65535 = true from rfl]
      walk_at "wp"
      refine ⟨.int (-4), -4, 9, rfl, .int _, ?_⟩
      rw [show inI (.int (-4)) (-4) 9 = true from rfl]
      walk_at "wp"
      exact q H4 E4
/-! ### rows of texts, and what a book knows of them -/
abbrev Rw := Kit.Rw
def cnd (a b : Rw) : Bool := decide (a.1 = b.1) && decide (a.2.2 = b.2.2) && !decide (a.2.1 = b.2.1)
def dueR (rs : List Rw) : Bool := rs.any fun a => rs.any (cnd a)
def keyR (r : Rw) : Kit.BK := (r.1, r.2.1)
def firstK (r : Rw) : Kit.BK := (r.1, .num r.2.2)
structure Knows (rs : List Rw) (TT : List Kit.BK) (F : List (Kit.BK × Kit.TK)) (c : Bool) : Prop where
  texts : TT = rs.map keyR
  sound : ∀ k t, findF F k = some t → ∃ r ∈ rs, firstK r = k ∧ r.2.1 = t
  full : ∀ r ∈ rs, ∃ t, findF F (firstK r) = some t
  coll : c = dueR rs
  size : F.length ≤ rs.length
theorem knows_nil : Knows [] [] [] false := ⟨rfl, fun _ _ h => (nomatch h), fun _ h => (nomatch h), rfl, Nat.le_refl 0⟩
theorem cnd_iff {a b : Rw} : cnd a b = true ↔ firstK a = firstK b ∧ a.2.1 ≠ b.2.1 := by
  obtain ⟨a1, a2, a3⟩ := a
  obtain ⟨b1, b2, b3⟩ := b
  simp [cnd, firstK, and_assoc]
theorem dueR_iff {rs : List Rw} : dueR rs = true ↔ ∃ a ∈ rs, ∃ b ∈ rs, cnd a b = true := by simp [dueR, List.any_eq_true]
theorem findF_snoc (F : List (Kit.BK × Kit.TK)) (k0 k : Kit.BK) (t : Kit.TK) : findF (F ++ [(k0, t)]) k = match findF F k with
    | some x => some x
    | none => if k0 = k then some t else none := by
  unfold findF
  rw [List.find?_append]
  cases h : F.find? fun f => decide (f.1 = k) with
  | some x => rfl
  | none =>
    by_cases e : k0 = k
    · simp [List.find?_cons, e]
    · simp [List.find?_cons, e]
def addR (rs : List Rw) (r : Rw) : List Rw := if r ∈ rs then rs else rs ++ [r]
theorem Knows.add {rs : List Rw} {TT : List Kit.BK} {F : List (Kit.BK × Kit.TK)} {c : Bool} (h : Knows rs TT F c) {r : Rw} (hr : r ∈ rs ∨ ∀ x ∈ rs, keyR x ≠ keyR r) :
    Knows (addR rs r) (addT TT (keyR r)) (addF F (firstK r) r.2.1) (addC c F (firstK r) r.2.1) := by
  by_cases m : r ∈ rs
  · obtain ⟨t0, ht⟩ := h.full r m
    obtain ⟨r0, m0, e0, et⟩ := h.sound _ _ ht
    have e1 : addR rs r = rs := if_pos m
    have e2 : addT TT (keyR r) = TT := if_pos (by rw [h.texts]; exact List.mem_map_of_mem m)
    have e3 : addF F (firstK r) r.2.1 = F := by unfold addF; rw [ht]
    have e4 : addC c F (firstK r) r.2.1 = c := by
      unfold addC
      rw [ht]
      show (if t0 = r.2.1 then c else true) = c
      by_cases e : t0 = r.2.1
      · rw [if_pos e]
      · rw [if_neg e, h.coll]
        exact (dueR_iff.mpr ⟨r0, m0, r, m, cnd_iff.mpr ⟨e0, by rw [et]; exact e⟩⟩).symm
    rw [e1, e2, e3, e4]
    exact h
  · have no : ∀ x ∈ rs, keyR x ≠ keyR r := hr.resolve_left m
    have e1 : addR rs r = rs ++ [r] := if_neg m
    have e2 : addT TT (keyR r) = TT ++ [keyR r] := if_neg (by
      rw [h.texts]
      intro z
      obtain ⟨x, hx, e⟩ := List.mem_map.mp z
      exact no x hx e)
    have hk : ∀ x ∈ rs, firstK x = firstK r → x.2.1 ≠ r.2.1 := fun x hx e et => no x hx (by
      have e' : x.1 = r.1 := (Prod.mk.inj e).1
      show (x.1, x.2.1) = (r.1, r.2.1)
      rw [e', et])
    rw [e1, e2]
    cases hf : findF F (firstK r) with
    | some t0 =>
      obtain ⟨r0, m0, e0, et⟩ := h.sound _ _ hf
      have ne : t0 ≠ r.2.1 := et ▸ hk r0 m0 e0
      have e3 : addF F (firstK r) r.2.1 = F := by unfold addF; rw [hf]
      have e4 : addC c F (firstK r) r.2.1 = true := by unfold addC; rw [hf]; exact if_neg ne
      rw [e3, e4]
      refine ⟨by rw [h.texts, List.map_append]; rfl, fun k t z => ?_, fun x hx => ?_, ?_, by rw [List.length_append]; exact Nat.le_succ_of_le h.size⟩
      · obtain ⟨y, hy, q⟩ := h.sound k t z
        exact ⟨y, List.mem_append_left _ hy, q⟩
      · rcases List.mem_append.mp hx with hx | hx
        · exact h.full x hx
        · rw [List.mem_singleton.mp hx]
          exact ⟨t0, hf⟩
      · exact (dueR_iff.mpr ⟨r0, List.mem_append_left _ m0, r, List.mem_append_right _ (List.mem_singleton.mpr rfl), cnd_iff.mpr ⟨e0, by rw [et]; exact ne⟩⟩).symm
    | none =>
      have no2 : ∀ x ∈ rs, firstK x ≠ firstK r := fun x hx e => by
        obtain ⟨t, ht⟩ := h.full x hx
        rw [e, hf] at ht
        cases ht
      have e3 : addF F (firstK r) r.2.1 = F ++ [(firstK r, r.2.1)] := by unfold addF; rw [hf]
      have e4 : addC c F (firstK r) r.2.1 = c := by unfold addC; rw [hf]
      rw [e3, e4]
      refine ⟨by rw [h.texts, List.map_append]; rfl, fun k t z => ?_, fun x hx => ?_, ?_, by rw [List.length_append, List.length_append]; exact Nat.succ_le_succ h.size⟩
      · rw [findF_snoc] at z
        cases hk2 : findF F k with
        | some y =>
          rw [hk2] at z
          cases z
          obtain ⟨y, hy, q⟩ := h.sound k _ hk2
          exact ⟨y, List.mem_append_left _ hy, q⟩
        | none =>
          rw [hk2] at z
          by_cases e : firstK r = k
          · refine ⟨r, List.mem_append_right _ (List.mem_singleton.mpr rfl), e, ?_⟩
            have z' : (if firstK r = k then some r.2.1 else none) = some t := z
            rw [if_pos e] at z'
            exact Option.some.inj z'
          · have z' : (if firstK r = k then some r.2.1 else none) = some t := z
            rw [if_neg e] at z'
            cases z'
      · rw [findF_snoc]
        rcases List.mem_append.mp hx with hx | hx
        · obtain ⟨t, ht⟩ := h.full x hx
          rw [ht]
          exact ⟨t, rfl⟩
        · rw [List.mem_singleton.mp hx, hf]
          exact ⟨r.2.1, if_pos rfl⟩
      · rw [h.coll, Bool.eq_iff_iff, dueR_iff, dueR_iff]
        constructor
        · rintro ⟨a, ha, b, hb, q⟩
          exact ⟨a, List.mem_append_left _ ha, b, List.mem_append_left _ hb, q⟩
        · rintro ⟨a, ha, b, hb, q⟩
          obtain ⟨q1, q2⟩ := cnd_iff.mp q
          rcases List.mem_append.mp ha with ha | ha <;> rcases List.mem_append.mp hb with hb | hb
          · exact ⟨a, ha, b, hb, q⟩
          · exact (no2 a ha (by rw [q1, List.mem_singleton.mp hb])).elim
          · exact (no2 b hb (by rw [← q1, List.mem_singleton.mp ha])).elim
          · exact (q2 (by rw [List.mem_singleton.mp ha, List.mem_singleton.mp hb])).elim
theorem w_neBB {b : Bool} {H : Hp} {Q : VK} (q : Q (.bl false) H) : rNe (.bl b) (.bl b) H Q := Kit.w_neB (by rw [beq_self_eq_true]; exact q)
theorem sq_but {K : PySem.W.Frag} {H H' : Hp} {a r : Addr} {xs : List V} (m : Kit.ExBut r H H') (n : a ≠ r) (h : SqL K H a xs) : SqL K H' a xs := by
  rcases h with (h | ⟨o, h⟩) | h
  · exact .inl (.inl (m _ _ n h))
  · exact .inl (.inr ⟨o, m _ _ n h⟩)
  · exact .inr h
theorem any_take {α : Type} {l : List α} {p : α → Bool} {i : Nat} {x : α} (h : l[i]? = some x) : (l.take (i + 1)).any p = ((l.take i).any p || p x) := by
  rw [List.take_succ, h, List.any_append]
  simp
def hitB (rs : List Rw) (kd : Str) (t : Kit.TK) (i : Nat) : Bool := match rs[i]? with
  | some r => decide (r.1 = kd) && decide (r.2.1 = t)
  | none => false

theorem use_draws {K : PySem.W.Frag} {a : Addr} {ns : List Int} {most : Int} {H : Hp} {Q : VK} {E : XK} (ha : SqL K H a (ns.map V.int)) (hl : ns.length ≤ 63) (m0 : 0 ≤ most) (m1 : most ≤ 1000)
    (q : ∀ p H' (ds : List Int), H p = none → Evl.Ex H H' → H' p = some (.lst (ds.map V.int)) → (ds.length : Int) ≤ most → Q (.ref p) H') : sp_law_draws K [.ref a, .int 0, .int most] H Q E := ⟨a, ns, most, rfl, ha, hl, m0, m1, q⟩
def Tru (m : Int) (r : Rw) : Prop := (∃ x, r = (Str.ofString "leaf", Kit.TK.num x, leafI m x)) ∨ (∃ x y, r = (Str.ofString "fold", Kit.TK.nums [x, y], foldI m x y)) ∨ ∃ ns, r = (Str.ofString "state", Kit.TK.nums ns, stateI m ns)
theorem lf : (Str.ofString "leaf") ≠ Str.ofString "fold" := by decide +kernel
theorem fs : (Str.ofString "fold") ≠ Str.ofString "state" := by decide +kernel
theorem Tru.eq {m : Int} {r s : Rw} (hr : Tru m r) (hs : Tru m s) (e : keyR r = keyR s) : r = s := by
  rcases hr with ⟨x, rfl⟩ | ⟨x, y, rfl⟩ | ⟨ns, rfl⟩ <;> rcases hs with ⟨x', rfl⟩ | ⟨x', y', rfl⟩ | ⟨ns', rfl⟩ <;> simp only [keyR, Prod.mk.injEq, Kit.TK.num.injEq, Kit.TK.nums.injEq, reduceCtorEq, and_false] at e
  · rw [e.2]
  · obtain ⟨_, e⟩ := e
    simp only [List.cons.injEq, and_true] at e
    rw [e.1, e.2]
  · exact (fs e.1).elim
  · exact (fs e.1.symm).elim
  · rw [e.2]
theorem Tru.ok {m : Int} {r : Rw} (hr : Tru m r) : PyData.strOk r.1 = true := by
  have h1 : PyData.strOk (Str.ofString "leaf") = true := by decide +kernel
  have h2 : PyData.strOk (Str.ofString "fold") = true := by decide +kernel
  have h3 : PyData.strOk (Str.ofString "state") = true := by decide +kernel
  rcases hr with ⟨x, rfl⟩ | ⟨x, y, rfl⟩ | ⟨ns, rfl⟩
  · exact h1
  · exact h2
  · exact h3
def Trus (m : Int) (rs : List Rw) : Prop := ∀ r ∈ rs, Tru m r
theorem Trus.add {m : Int} {rs : List Rw} {r : Rw} (h : Trus m rs) (hr : Tru m r) : Trus m (addR rs r) := by
  unfold addR
  split
  · exact h
  · intro x hx
    rcases List.mem_append.mp hx with hx | hx
    · exact h x hx
    · rw [List.mem_singleton.mp hx]; exact hr
theorem Trus.hyp {m : Int} {rs : List Rw} {r : Rw} (h : Trus m rs) (hr : Tru m r) : r ∈ rs ∨ ∀ x ∈ rs, keyR x ≠ keyR r := by
  by_cases z : r ∈ rs
  · exact .inl z
  · exact .inr fun x hx e => z ((h x hx).eq hr e ▸ hx)
theorem due_snoc {rs : List Rw} {r : Rw} (h : ∀ x ∈ rs, keyR x ≠ keyR r) : dueR (rs ++ [r]) = (dueR rs || rs.any fun x => decide (firstK x = firstK r)) := by
  rw [Bool.eq_iff_iff, Bool.or_eq_true, dueR_iff, dueR_iff, List.any_eq_true]
  constructor
  · rintro ⟨a, ha, b, hb, q⟩
    obtain ⟨q1, q2⟩ := cnd_iff.mp q
    rcases List.mem_append.mp ha with ha | ha <;> rcases List.mem_append.mp hb with hb | hb
    · exact .inl ⟨a, ha, b, hb, q⟩
    · exact .inr ⟨a, ha, decide_eq_true (by rw [q1, List.mem_singleton.mp hb])⟩
    · exact .inr ⟨b, hb, decide_eq_true (by rw [← q1, List.mem_singleton.mp ha])⟩
    · exact (q2 (by rw [List.mem_singleton.mp ha, List.mem_singleton.mp hb])).elim
  · rintro (⟨a, ha, b, hb, q⟩ | ⟨x, hx, e⟩)
    · exact ⟨a, List.mem_append_left _ ha, b, List.mem_append_left _ hb, q⟩
    · have e := of_decide_eq_true e
      refine ⟨x, List.mem_append_left _ hx, r, List.mem_append_right _ (List.mem_singleton.mpr rfl), cnd_iff.mpr ⟨e, fun et => h x hx ?_⟩⟩
      show (x.1, x.2.1) = (r.1, r.2.1)
      rw [et, (Prod.mk.inj e).1]
theorem addR_len (rs : List Rw) (r : Rw) : (addR rs r).length ≤ rs.length + 1 := by
  unfold addR
  split
  · omega
  · rw [List.length_append, List.length_singleton]; omega
local macro_rules | `(tactic| walk_at "wp1") => `(tactic| first
  | ((with_reducible show sp_law_draws _ _ _ _ _); refine use_draws (by walk_at "sqL") (by assumption) (by decide) (by decide) ?_; intro _ _ _ _ _ _ _)
  | ((with_reducible show sp_law_mod _ _ _ _); refine use_law_mod (by assumption) ?_; intro _ _)
  | ((with_reducible show Kit.MakeOf _ (sp_Book_init _) _ _ _ _); refine use_Book (P := P) (w := w) ?_; intro _ _ _ _ _))
def bitsV : List V := [.int 7, .int 13, .int 31, .int 61]
theorem bits_at {i : Nat} {x : V} (h : bitsV[i]? = some x) : ∃ b, x = .int b ∧ IsBits b := by
  have m := List.mem_of_getElem? h
  simp only [bitsV, List.mem_cons, List.not_mem_nil, or_false] at m
  rcases m with rfl | rfl | rfl | rfl
  · exact ⟨_, rfl, .b7⟩
  · exact ⟨_, rfl, .b13⟩
  · exact ⟨_, rfl, .b31⟩
  · exact ⟨_, rfl, .b61⟩
def sp_law (K : PySem.W.Frag) : Sp := fun vs H Q _ => ∃ (a : Addr) (ns : List Int), vs = [.ref a] ∧ SqL K H a (ns.map V.int) ∧ ns.length ≤ 63 ∧ ∀ H', Q (.bl true) H'
theorem two_at {m i : Int} (m0 : 100 < m) (m1 : m < 2 ^ 62) (h0 : 0 ≤ i) (h1 : i < 2) : ∃ z : Int, 0 < z ∧ z < 2 ^ 62 ∧ atI [V.int m, V.int 9] i = some (.int z) := by
  have hc : i = 0 ∨ i = 1 := by omega
  rcases hc with rfl | rfl
  · exact ⟨m, by omega, m1, rfl⟩
  · exact ⟨9, by decide, by decide, rfl⟩
theorem nums_of5 : ∀ {ys : List V}, (∀ (i : Nat) (y : V), ys[i]? = some y → ∃ n : Int, y = V.int n ∧ 0 ≤ n ∧ n < 2 ^ 62) → ∃ qs : List Int, ys = qs.map V.int ∧ qs.length = ys.length ∧ ∀ n ∈ qs, 0 ≤ n ∧ n < 2 ^ 62
  | [], _ => ⟨[], rfl, rfl, fun _ h => (nomatch h)⟩
  | y :: ys, h => by
    obtain ⟨n, rfl, hn⟩ := h 0 y rfl
    obtain ⟨qs, rfl, hl, hq⟩ := nums_of5 (ys := ys) fun i z hz => h (i + 1) z (by rw [List.getElem?_cons_succ]; exact hz)
    refine ⟨n :: qs, rfl, by simp, fun x hx => ?_⟩
    rcases List.mem_cons.mp hx with rfl | hx
    · exact hn
    · exact hq x hx
structure Fx (CD : Addr) (m b : Int) (pd pb pg pq pt pl dg dq pp pn : Addr) (ds qs : List Int) (u v : Int) (rs : List Rw) (vs : List V) (H : Hp) : Prop where
  rows : H pt = some (.lst vs)
  at_ : Paired (Kit.RowAt H) rs vs
  dig : H pg = some (.ins CD dg (fl_Digests (.int b) (.ref pb) (.int m)))
  bare : H pq = some (.ins CD dq (fl_Digests (.int b) .non (.int m)))
  bits : H pl = some (.lst bitsV)
  draws : H pd = some (.lst (ds.map V.int))
  pair : H pp = some (.tup [.int u, .int v])
  nums : H pn = some (.tup (qs.map V.int))
theorem Fx.ex {CD : Addr} {m b : Int} {pd pb pg pq pt pl dg dq pp pn : Addr} {ds qs : List Int} {u v : Int} {rs : List Rw} {vs : List V} {H H' : Hp} (e : Evl.Ex H H') (f : Fx CD m b pd pb pg pq pt pl dg dq pp pn ds qs u v rs vs H) : Fx CD m b pd pb pg pq pt pl dg dq pp pn ds qs u v rs vs H' :=
  ⟨e _ _ f.rows, Paired.mapP f.at_ fun _ _ z => z.mono fun c zs h => e c _ h, e _ _ f.dig, e _ _ f.bare, e _ _ f.bits, e _ _ f.draws, e _ _ f.pair, e _ _ f.nums⟩
theorem Fx.keep {P : Program} {w : World} {CB CD : Addr} {m b : Int} {pd pb pg pq pt pl dg dq pp pn : Addr} {ds qs : List Int} {u v : Int} {rs : List Rw} {vs : List V} {H H' : Hp} {TT : List Kit.BK} {F : List (Kit.BK × Kit.TK)} {c : Bool} (k : Kit.KeepB pb H H') (hb : BookAt P w CB H pb TT F c) (n1 : pg ≠ pb) (n2 : pq ≠ pb)
    (f : Fx CD m b pd pb pg pq pt pl dg dq pp pn ds qs u v rs vs H) : Fx CD m b pd pb pg pq pt pl dg dq pp pn ds qs u v rs vs H' := by
  obtain ⟨_, _, _, _, hp, _⟩ := hb
  exact ⟨k.lst hp _ _ f.rows, Paired.mapP f.at_ fun _ _ z => z.mono (k.tup hp), k _ _ n1 f.dig rfl, k _ _ n2 f.bare rfl, k.lst hp _ _ f.bits, k.lst hp _ _ f.draws, k.tup hp _ _ f.pair, k.tup hp _ _ f.nums⟩
theorem keepL {P : Program} {w : World} {CB pb a : Addr} {H H' : Hp} {TT : List Kit.BK} {F : List (Kit.BK × Kit.TK)} {c : Bool} {xs : List V} (k : Kit.KeepB pb H H') (hb : BookAt P w CB H pb TT F c) (h : H a = some (.lst xs)) : H' a = some (.lst xs) := by
  obtain ⟨_, _, _, _, hp, _⟩ := hb
  exact k.lst hp _ _ h
def hit2 (R : List Rw) (r : Rw) (i : Nat) : Bool := match R[i]? with
  | some z => decide (z.1 = r.1) && decide (z.2.2 = r.2.2)
  | none => false
theorem hit2_first {z r : Rw} : (decide (z.1 = r.1) && decide (z.2.2 = r.2.2)) = decide (firstK z = firstK r) := by
  obtain ⟨z1, z2, z3⟩ := z
  obtain ⟨r1, r2, r3⟩ := r
  rw [Bool.eq_iff_iff, Bool.and_eq_true, decide_eq_true_iff, decide_eq_true_iff, decide_eq_true_iff]
  simp [firstK]
theorem any_hit {R : List Rw} {r : Rw} {vs ys : List V} (hl : R.length = vs.length) (g1 : ∀ y ∈ ys, ∃ i, vs[i]? = some y ∧ hit2 R r i = true) (g2 : ys = [] → ∀ i, i < vs.length → hit2 R r i = false) :
    decide ((0 : Int) < (ys.length : Int)) = R.any fun z => decide (firstK z = firstK r) := by
  cases ys with
  | nil =>
    rw [decide_eq_false (by simp)]
    symm
    rw [Bool.eq_false_iff]
    intro h
    obtain ⟨z, hz, e⟩ := List.any_eq_true.mp h
    obtain ⟨k, hk⟩ := List.getElem?_of_mem hz
    have hk2 := (List.getElem?_eq_some_iff.mp hk).1
    have f := g2 rfl k (by omega)
    unfold hit2 at f
    rw [hk] at f
    have f : (decide (z.1 = r.1) && decide (z.2.2 = r.2.2)) = false := f
    rw [hit2_first, e] at f
    cases f
  | cons y ys =>
    rw [decide_eq_true (by simp)]
    symm
    obtain ⟨k, hk, f⟩ := g1 y (List.mem_cons_self ..)
    unfold hit2 at f
    cases hz : R[k]? with
    | none => rw [hz] at f; cases f
    | some z =>
      rw [hz] at f
      have f : (decide (z.1 = r.1) && decide (z.2.2 = r.2.2)) = true := f
      rw [hit2_first] at f
      exact List.any_eq_true.mpr ⟨z, List.mem_of_getElem? hz, f⟩
theorem Trus.foldl {m : Int} : ∀ {l : List Rw} {rs : List Rw}, Trus m rs → (∀ r ∈ l, Tru m r) → Trus m (l.foldl addR rs)
  | [], _, h, _ => h
  | r :: l, rs, h, g => show Trus m (l.foldl addR (addR rs r)) from Trus.foldl (l := l) (rs := addR rs r) (h.add (g r (List.mem_cons_self ..))) fun z hz => g z (List.mem_cons_of_mem _ hz)
theorem foldl_len : ∀ (l : List Rw) (rs : List Rw), (l.foldl addR rs).length ≤ rs.length + l.length
  | [], _ => Nat.le_refl _
  | r :: l, rs => by
    have h1 := foldl_len l (addR rs r)
    have h2 := addR_len rs r
    rw [List.foldl_cons, List.length_cons]
    omega
def LK (P : Program) (w : World) (CD CB : Addr) (m b : Int) (a pd pb pg pq pt pl dg dq : Addr) (ds : List Int) (k : Nat) (σ : L2.St) (H : Hp) : Prop :=
  ∃ y9 y10 y11 y12 y13 y14 y15 y16 rs vs TT F, σ = [some (.ref a), some (.ref pd), some (.int b), some (.int m), some (.ref pb), some (.ref pg), some (.ref pq), some (.ref pt), some (.bl (dueR rs)), y9, y10, y11, y12, y13, y14, y15, y16] ∧
    BookAt P w CB H pb TT F (dueR rs) ∧ Knows rs TT F (dueR rs) ∧ H pt = some (.lst vs) ∧ Paired (Kit.RowAt H) rs vs ∧ Trus m rs ∧ rs.length ≤ 3 * k ∧
    H pg = some (.ins CD dg (fl_Digests (.int b) (.ref pb) (.int m))) ∧ H pq = some (.ins CD dq (fl_Digests (.int b) .non (.int m))) ∧ H pl = some (.lst bitsV) ∧ H pd = some (.lst (ds.map V.int))
theorem ok_law (T : Txt K mg) : FnOk P w K mg base CX0 4 T.f_law.f T.f_law.fd ["script"] (sp_law K) := by
  have G_Book___init := ok_Book___init (P := P) (w := w) (base := base) T
  have G_Book_count := ok_Book_count (P := P) (w := w) (base := base) T
  have G_Book_has_collision := ok_Book_has_collision (P := P) (w := w) (base := base) T
  have G_Digests___init := ok_Digests___init (P := P) (w := w) (base := base) T
  have G_Digests_fold := ok_Digests_fold (P := P) (w := w) (base := base) T
  have G_Digests_leaf := ok_Digests_leaf (P := P) (w := w) (base := base) T
  have G_Digests_modulus := ok_Digests_modulus (P := P) (w := w) (base := base) T
  have G_Digests_state := ok_Digests_state (P := P) (w := w) (base := base) T
  have G_Digests_without_book := ok_Digests_without_book (P := P) (w := w) (base := base) T
  have G_law_draws := ok_law_draws (P := P) (w := w) (base := base) T
  have G_law_fold := ok_law_fold (P := P) (w := w) (base := base) T
  have G_law_forms := ok_law_forms (P := P) (w := w) (base := base) T
  have G_law_leaf := ok_law_leaf (P := P) (w := w) (base := base) T
  have G_law_mod := ok_law_mod (P := P) (w := w) (base := base) T
  have G_law_state := ok_law_state (P := P) (w := w) (base := base) T
  refine T.f_law.F.ok sc_law (fun vs H Q E h => ?_) (fun cdv A outer s H vs Q E hr h => ?_)
  · obtain ⟨a, ns, rfl, hS, hl, q⟩ := h
    rfl
  obtain ⟨a, ns, rfl, hS, hl, q⟩ := h
  have nd := sc_law.nd
  have hr1 : Room 1 _ := hr.mono (by decide)
  have hr2 : Room 2 _ := hr.mono (by decide)
  have hr3 : Room 3 _ := hr.mono (by decide)
  refine Kit.ok_body (σ := [some _, none, none, none, none, none, none, none, none, none, none, none, none, none, none, none, none]) ((pss_cons (ps_set (i := 1) nd rfl (Or.inr rfl) (pe_call G_law_draws hr1 (by rfl) T.f_law_draws.g T.f_law_draws.F.kp T.f_law_draws.b .nil pass0 (pa_cons (pv 0) (pa_cons pe_int (pa_cons pe_int pa_nil)))))
    (pss_cons (ps_for PassesOwn.never rfl (Kit.kpList K (pe_lst (pa_cons pe_int (pa_cons pe_int (pa_cons pe_int (pa_cons pe_int pa_nil)))))) (pg_name (i := 2) nd rfl (Or.inl rfl))
    (pss_cons (ps_set (i := 3) nd rfl (Or.inr rfl) (pe_call G_law_mod hr1 (by rfl) T.f_law_mod.g T.f_law_mod.F.kp T.f_law_mod.b .nil pass0 (pa_cons (pv 2) pa_nil)))
    (pss_cons (ps_set (i := 4) nd rfl (Or.inl rfl) (pe_make0 T.c_Book.M G_Book___init hr2 (by rfl) T.c_Book.g T.f_Book___init.b .nil pass0))
    (pss_cons (ps_set (i := 5) nd rfl (Or.inl rfl) (pe_make T.c_Digests.M G_Digests___init hr2 (by rfl) T.c_Digests.g T.f_Digests___init.b .nil pass0 (pa_cons (pv 2) (pa_cons (pv 4) pa_nil))))
    (pss_cons (ps_set (i := 6) nd rfl (Or.inl rfl) (pe_meth0 (pv 5) T.c_Digests.cl T.m_Digests_without_book G_Digests_without_book hr3 T.f_Digests_without_book.b .nil pass0))
    (pss_cons (ps_set (i := 7) nd rfl (Or.inl rfl) (pe_lst pa_nil))
    (pss_cons (ps_set (i := 8) nd rfl (Or.inl rfl) pe_bl)
    (pss_cons (ps_if (PW.pt (pw_or (pt_cmpR op_ne (pe_meth0 (pv 5) T.c_Digests.cl T.m_Digests_modulus G_Digests_modulus hr1 T.f_Digests_modulus.b .nil pass0) (pv 3) (nomark _)) (pw_or (pt_cmpR op_ne (pe_meth0 (pv 6) T.c_Digests.cl T.m_Digests_modulus G_Digests_modulus hr1 T.f_Digests_modulus.b .nil pass0) (pv 3) (nomark _)) (pw_or1 (pt_not (pt_val (pe_call G_law_forms hr3 (by rfl) T.f_law_forms.g T.f_law_forms.F.kp T.f_law_forms.b .nil pass0 (pa_cons (pv 5) (pa_cons (pv 3) pa_nil)))))))))
    (pss_one (ps_ret pe_bl))
    pss_nil)
    (pss_one (ps_for PassesOwn.never rfl (pi_range1 (by rfl) T.z_range (pa_cons (pe_callB (Kit.kLen K) (by rfl) T.z_len (by decide +kernel) (pa_cons (pv 1) pa_nil)) pa_nil)) (pg_name (i := 9) nd rfl (Or.inr rfl))
    (pss_cons (ps_set (i := 10) nd rfl (Or.inl rfl) (pe_op op_mod (pe_ix (Kit.ixL K) (pv 1) (pv 9) (fun _ _ => rfl)) pe_int))
    (pss_cons (ps_set (i := 11) nd rfl (Or.inl rfl) (pe_tup (pa_cons (pe_op op_mod (pe_op op_fdiv (pe_ix (Kit.ixL K) (pv 1) (pv 9) (fun _ _ => rfl)) pe_int) (pv 3)) (pa_cons (pe_op op_mod (pe_op op_fdiv (pe_ix (Kit.ixL K) (pv 1) (pv 9) (fun _ _ => rfl)) pe_int) (pv 3)) pa_nil))))
    (pss_cons (ps_set (i := 12) nd rfl (Or.inl rfl) (pe_callTy (Kit.kTuple K) (by rfl) T.z_tuple (by decide +kernel) (pa_cons (pe_lc (own := [("j", 15)]) (g := gName 15) (tt := tYes) (by rfl) nd (pi_range1 (by rfl) T.z_range (pa_cons (pe_op op_mod (pe_ix (Kit.ixL K) (pv 1) (pv 9) (fun _ _ => rfl)) pe_int) pa_nil)) (blkOk_by (own := [("j", 15)]) (N := N_law) (sc := defScope s_law) (by decide +kernel)) (fun _ _ _ _ _ => pg_name (i := 15) nd rfl (Or.inl rfl)) (fun _ _ _ _ _ => pts_nil) (fun _ _ _ _ _ => (pe_op op_mod (pe_op op_fdivW (pe_ix (Kit.ixL K) (pv 1) (pv 9) (fun _ _ => rfl)) (pe_op op_add (pv 15) pe_int)) (pe_ix (Kit.ixL K) (pe_lst (pa_cons (pv 3) (pa_cons pe_int pa_nil))) (pe_op op_mod (pv 15) pe_int) (fun _ _ => rfl))))) pa_nil)))
    (pss_cons (ps_set (i := 13) nd rfl (Or.inl rfl) (pe_lst (pa_cons (pe_call G_law_leaf hr1 (by rfl) T.f_law_leaf.g T.f_law_leaf.F.kp T.f_law_leaf.b .nil pass0 (pa_cons (pv 3) (pa_cons (pv 10) pa_nil))) (pa_cons (pe_call G_law_fold hr1 (by rfl) T.f_law_fold.g T.f_law_fold.F.kp T.f_law_fold.b .nil pass0 (pa_cons (pv 3) (pa_cons (pe_ix (Kit.ixT K) (pv 11) pe_int (fun _ _ => rfl)) (pa_cons (pe_ix (Kit.ixT K) (pv 11) pe_int (fun _ _ => rfl)) pa_nil)))) (pa_cons (pe_call G_law_state hr1 (by rfl) T.f_law_state.g T.f_law_state.F.kp T.f_law_state.b .nil pass0 (pa_cons (pv 3) (pa_cons (pv 12) pa_nil))) pa_nil)))))
    (pss_cons (ps_if (pt_cmpR (Kit.kNeD K hr.units) (pe_lst (pa_cons (pe_meth (pv 5) T.c_Digests.cl T.m_Digests_leaf G_Digests_leaf hr3 T.f_Digests_leaf.b .nil pass0 (pa_cons (pv 10) pa_nil)) (pa_cons (pe_meth (pv 5) T.c_Digests.cl T.m_Digests_fold G_Digests_fold hr3 T.f_Digests_fold.b .nil pass0 (pa_cons (pe_ix (Kit.ixT K) (pv 11) pe_int (fun _ _ => rfl)) (pa_cons (pe_ix (Kit.ixT K) (pv 11) pe_int (fun _ _ => rfl)) pa_nil))) (pa_cons (pe_meth (pv 5) T.c_Digests.cl T.m_Digests_state G_Digests_state hr3 T.f_Digests_state.b .nil pass0 (pa_cons (pv 12) pa_nil)) pa_nil)))) (pv 13) (nomark _))
    (pss_one (ps_ret pe_bl))
    pss_nil)
    (pss_cons (ps_if (pt_cmpR (Kit.kNeD K hr.units) (pe_lst (pa_cons (pe_meth (pv 6) T.c_Digests.cl T.m_Digests_leaf G_Digests_leaf hr3 T.f_Digests_leaf.b .nil pass0 (pa_cons (pv 10) pa_nil)) (pa_cons (pe_meth (pv 6) T.c_Digests.cl T.m_Digests_fold G_Digests_fold hr3 T.f_Digests_fold.b .nil pass0 (pa_cons (pe_ix (Kit.ixT K) (pv 11) pe_int (fun _ _ => rfl)) (pa_cons (pe_ix (Kit.ixT K) (pv 11) pe_int (fun _ _ => rfl)) pa_nil))) (pa_cons (pe_meth (pv 6) T.c_Digests.cl T.m_Digests_state G_Digests_state hr3 T.f_Digests_state.b .nil pass0 (pa_cons (pv 12) pa_nil)) pa_nil)))) (pv 13) (nomark _))
    (pss_one (ps_ret pe_bl))
    pss_nil)
    (pss_cons (ps_for PassesOwn.never rfl (Kit.kpList K (pe_lst (pa_cons (pe_tup (pa_cons pe_str (pa_cons (pv 10) (pa_cons (pe_ix (Kit.ixL K) (pv 13) pe_int (fun _ _ => rfl)) pa_nil)))) (pa_cons (pe_tup (pa_cons pe_str (pa_cons (pv 11) (pa_cons (pe_ix (Kit.ixL K) (pv 13) pe_int (fun _ _ => rfl)) pa_nil)))) (pa_cons (pe_tup (pa_cons pe_str (pa_cons (pv 12) (pa_cons (pe_ix (Kit.ixL K) (pv 13) pe_int (fun _ _ => rfl)) pa_nil)))) pa_nil))))) (pg_name (i := 14) nd rfl (Or.inr rfl))
    (pss_one (ps_if (pt_cmpR (Kit.kNotInD K (Kit.units65 hr)) (pv 14) (pv 7) (by rfl))
    (pss_cons (ps_set (i := 8) nd rfl (Or.inl rfl) (pe_or (pv 8) (pe_one (pe_cmpR op_gt (pe_callB (Kit.kLen K) (by rfl) T.z_len (by decide +kernel) (pa_cons (pe_lc (own := [("one", 16)]) (g := gName 16) (by rfl) nd (Kit.kpList K (pv 7)) (blkOk_by (own := [("one", 16)]) (N := N_law) (sc := defScope s_law) (by decide +kernel)) (fun _ _ _ _ _ => pg_name (i := 16) nd rfl (Or.inl rfl)) (fun _ _ _ _ _ => pts_one (PW.pt (pw_and (pt_cmpR op_eq (pe_ix (Kit.ixT K) (pv 16) pe_int (fun _ _ => rfl)) (pe_ix (Kit.ixT K) (pv 14) pe_int (fun _ _ => rfl)) (nomark _)) (pw_and1 (pt_cmpR op_eq (pe_ix (Kit.ixT K) (pv 16) pe_int (fun _ _ => rfl)) (pe_ix (Kit.ixT K) (pv 14) pe_int (fun _ _ => rfl)) (nomark _)))))) (fun _ _ _ _ _ => (pv 16))) pa_nil)) pe_int (nomark _)))))
    (pss_one (ps_expr (pe_bm PySem.F.plainAttrs_list PySem.F.slot_list_append PySem.F.type_list_append mt_append (pv 7) (pa_cons (pv 14) pa_nil)))))
    pss_nil)))
    (pss_one (ps_if (PW.pt (pw_or (pt_cmpR op_ne (pe_meth0 (pv 4) T.c_Book.cl T.m_Book_count G_Book_count hr1 T.f_Book_count.b .nil pass0) (pe_callB (Kit.kLen K) (by rfl) T.z_len (by decide +kernel) (pa_cons (pv 7) pa_nil)) (nomark _)) (pw_or1 (pt_cmpR op_ne (pe_meth0 (pv 4) T.c_Book.cl T.m_Book_has_collision G_Book_has_collision hr1 T.f_Book_has_collision.b .nil pass0) (pv 8) (nomark _)))))
    (pss_one (ps_ret pe_bl))
    pss_nil)))))))))))))))))))
    (pss_one (ps_ret pe_bl))))) rfl ?_
  try dsimp only [L2.cxOf, L2.Cx.nox]
  walk_at "wp"
  rename_i pd H1 ds n1 e1 g1 hds pl H2 n2 e2 g2
  refine Kit.f_list (xs := bitsV) (Evl.sq_of g2) (fun i σ H => ∃ y2 y3 y4 y5 y6 y7 y8 y9 y10 y11 y12 y13 y14 y15 y16, σ = [some (.ref a), some (.ref pd), y2, y3, y4, y5, y6, y7, y8, y9, y10, y11, y12, y13, y14, y15, y16] ∧ H pl = some (.lst bitsV) ∧ H pd = some (.lst (ds.map V.int)))
    ⟨_, _, _, _, _, _, _, _, _, _, _, _, _, _, _, rfl, g2, e2 _ _ g1⟩ ?_ ?_ ?_
  · rintro i σ' H' _ ⟨y2, y3, y4, y5, y6, y7, y8, y9, y10, y11, y12, y13, y14, y15, y16, rfl, h1, h2⟩
    exact Evl.sq_of h1
  · clear hS g1 g2 n1 n2 e1 e2
    rintro i x σ' H' hx ⟨y2, y3, y4, y5, y6, y7, y8, y9, y10, y11, y12, y13, y14, y15, y16, rfl, hpl, hpd⟩
    obtain ⟨b, rfl, hb⟩ := bits_at hx
    obtain ⟨m0, m1⟩ := hb.m
    show Kit.Sm _ _ _ _ _ _ _
    walk_at "wp"
    rename_i H3 e3 pb H4 n4 e4 hb4 pg dg H5 n5 e5 g5
    refine ⟨pg, dg, b, .ref pb, .int _, rfl, g5, hb, fun pq dq H6 n6 e6 g6 => ?_⟩
    generalize (2 ^ b.toNat - 1 : Int) = m at *
    walk_at "wp"
    rename_i pt H7 n7 e7 g7
    have E6 : Evl.Ex H' H6 := ((e3.trans e4).trans e5).trans e6
    have ne1 : pl ≠ pt := ne_of_none (E6 _ _ hpl) n7
    have ne2 : pd ≠ pt := ne_of_none (E6 _ _ hpd) n7
    have hpl := e7 _ _ (E6 _ _ hpl)
    have hpd := e7 _ _ (E6 _ _ hpd)
    have nb1 : pg ≠ pb := by
      obtain ⟨_, _, _, _, z, _⟩ := id hb4
      exact (ne_of_none z n5).symm
    have nb2 : pq ≠ pb := by
      obtain ⟨_, _, _, _, z, _⟩ := id (hb4.ex e5)
      exact (ne_of_none z n6).symm
    have g5 := e7 _ _ (e6 _ _ g5)
    have g6 := e7 _ _ g6
    have hb7 := ((hb4.ex e5).ex e6).ex e7
    clear E6 e3 e4 e5 e6 e7 n4 n5 n6 n7 hb4
    refine ⟨pg, dg, .int b, .ref pb, m, rfl, g5, ?_⟩
    walk_at "wp"
    refine ⟨pq, dq, .int b, .non, m, rfl, g6, ?_⟩
    walk_at "wp"
    refine ⟨pg, dg, .int b, .ref pb, m, rfl, g5, m0, m1, fun H8 e8 => ?_⟩
    have hpl := e8 _ _ hpl
    have hpd := e8 _ _ hpd
    have g5 := e8 _ _ g5
    have g6 := e8 _ _ g6
    have g7 := e8 _ _ g7
    have hb8 := hb7.ex e8
    clear hb7 e8
    walk_at "wp"
    refine Kit.f_rng1 (by omega) (by rw [List.length_map]; omega) (LK P w T.c_Digests.C T.c_Book.C m b a pd pb pg pq pt pl dg dq ds) ⟨_, _, _, _, _, _, _, _, [], [], [], [], rfl, hb8, knows_nil, g7, .nil, fun _ h => (nomatch h), Nat.le_refl 0, g5, g6, hpl, hpd⟩ ?_ ?_
    · clear hpl hpd g5 g6 g7 hb8
      rintro k σ' H8 hk ⟨y9, y10, y11, y12, y13, y14, y15, y16, rs, vs, TT, F, rfl, hb8, hK, hR, hv, ht, hn, g5, g6, hpl, hpd⟩
      obtain ⟨d, hd⟩ := Kit.int_at (ns := ds) (k := (k : Int)) (by omega) hk
      rw [List.length_map] at hk
      show Kit.Sm _ _ _ _ _ _ _
      have d0 : 0 ≤ d % 5 := by omega
      have d1 : d % 5 < 5 := by omega
      walk_at "wp"
      rename_i pp H9 n9 e9 g9
      have hu : Dg m (d / 7 % m) := ⟨Int.emod_nonneg _ (by omega), Int.emod_lt_of_pos _ (by omega)⟩
      have hw : Dg m (d / 11 % m) := ⟨Int.emod_nonneg _ (by omega), Int.emod_lt_of_pos _ (by omega)⟩
      generalize d / 7 % m = u at *
      generalize d / 11 % m = v at *
      have hpd9 := e9 _ _ hpd
      refine ⟨_, rfl, by omega, by omega, Kit.l_grow Kit.walks_rng (by omega) (fun _ => rfl) trivial (fun _ _ _ h => h) (fun D i v H => ∃ n : Int, v = .int n ∧ 0 ≤ n ∧ n < 2 ^ 62) (fun _ _ _ _ _ _ h => h) (fun D j acc H10 hD hj e10 hacc R r => ?_) (fun D ys H10 hD e10 g10 hl10 hp10 => ?_)⟩
      · have hj5 : (j : Int) < 5 := by omega
        have hpd10 := e10 _ _ hpd9
        clear e9 e10 hpd9 hpd g9
        walk_at "wp"
        rename_i pm H11 n11 e11 g11
        obtain ⟨z, z0, z1, ez⟩ := two_at (i := (0 + (j : Int)) % 2) m0 m1 (by omega) (by omega)
        refine Kit.w_ixL (Evl.sq_of g11) ez ?_
        walk_at "wp"
        exact r _ _ e11 ⟨_, rfl, Int.emod_nonneg _ (by omega), Int.lt_trans (Int.emod_lt_of_pos _ z0) z1⟩
      · obtain ⟨qs, rfl, hql, hqs⟩ := nums_of5 hp10
        clear hp10
        have hql2 : qs.length ≤ 4 := by omega
        generalize hxw : d % 65536 = x
        clear hxw hd d0 d1 hpd9
        walk_at "wp"
        rename_i pn H11 n11 e11 g11
        have fx : Fx T.c_Digests.C m b pd pb pg pq pt pl dg dq pp pn ds qs u v rs vs H11 := ⟨e11 _ _ (e10 _ _ (e9 _ _ hR)), Paired.mapP hv fun _ _ z => z.mono fun c zs h => e11 c _ (e10 c _ (e9 c _ h)), e11 _ _ (e10 _ _ (e9 _ _ g5)), e11 _ _ (e10 _ _ (e9 _ _ g6)), e11 _ _ (e10 _ _ (e9 _ _ hpl)), e11 _ _ (e10 _ _ (e9 _ _ hpd)), e11 _ _ (e10 _ _ g9), g11⟩
        have hb := ((hb8.ex e9).ex e10).ex e11
        have hlen := Paired.length hv
        clear hR hv g5 g6 hpl hpd g9 g11 hb8 e9 e10 e11 n9 n11 hD g10
        refine ⟨m, x, rfl, by omega, ?_⟩
        have hpair := fx.pair
        walk_at "wp"
        refine use_law_fold hu hw m1 fun H12 e12 => ?_
        walk_at "wp"
        refine ⟨m, pn, qs, rfl, by omega, m1, Evl.st_of (e12 _ _ fx.nums), hqs, by omega, ?_⟩
        walk_at "wp"
        rename_i p13 H13 n13 e13 g13
        have fx := Fx.ex e13 (Fx.ex e12 fx)
        have hb := (hb.ex e12).ex e13
        have tr1 : Tru m ((Str.ofString "leaf", Kit.TK.num x, leafI m x) : Rw) := .inl ⟨x, rfl⟩
        have tr2 : Tru m ((Str.ofString "fold", Kit.TK.nums [u, v], foldI m u v) : Rw) := .inr (.inl ⟨u, v, rfl⟩)
        have tr3 : Tru m ((Str.ofString "state", Kit.TK.nums qs, stateI m qs) : Rw) := .inr (.inr ⟨qs, rfl⟩)
        clear n13 e12 e13 hpair
        have hg := fx.dig
        walk_at "wp"
        refine ⟨pg, dg, .int b, .ref pb, m, x, rfl, hg, by omega, .inr ⟨pb, TT, F, dueR rs, rfl, hb, by rw [hK.texts, List.length_map]; omega, by have := hK.size; omega, fun H14 k14 hb14 => ?_⟩⟩
        have hK1 := hK.add (ht.hyp tr1)
        have ht1 := ht.add tr1
        have hl1 := addR_len rs ((Str.ofString "leaf", Kit.TK.num x, leafI m x) : Rw)
        change Knows _ (addT TT (Str.ofString "leaf", Kit.TK.num x)) (addF F (Str.ofString "leaf", Kit.TK.num (leafI m x)) (Kit.TK.num x)) (addC (dueR rs) F (Str.ofString "leaf", Kit.TK.num (leafI m x)) (Kit.TK.num x)) at hK1
        generalize addT TT _ = TT1 at hK1 hb14
        generalize addF F _ _ = F1 at hK1 hb14
        generalize addC (dueR rs) F _ _ = c1 at hK1 hb14
        have fx := fx.keep k14 hb nb1 nb2
        have g13 := keepL k14 hb g13
        clear hg hb k14
        have hg := fx.dig
        have hpair := fx.pair
        walk_at "wp"
        refine ⟨pg, dg, .int b, .ref pb, m, u, v, rfl, hg, by omega, m1, hu, hw, .inr ⟨pb, TT1, F1, c1, rfl, hb14, by rw [hK1.texts, List.length_map]; omega, by have := hK1.size; omega, fun H15 k15 hb15 => ?_⟩⟩
        have hK2 := hK1.add (ht1.hyp tr2)
        have ht2 := ht1.add tr2
        have hl2 := addR_len (addR rs ((Str.ofString "leaf", Kit.TK.num x, leafI m x) : Rw)) ((Str.ofString "fold", Kit.TK.nums [u, v], foldI m u v) : Rw)
        change Knows _ (addT TT1 (Str.ofString "fold", Kit.TK.nums [u, v])) (addF F1 (Str.ofString "fold", Kit.TK.num (foldI m u v)) (Kit.TK.nums [u, v])) (addC c1 F1 (Str.ofString "fold", Kit.TK.num (foldI m u v)) (Kit.TK.nums [u, v])) at hK2
        generalize addT TT1 _ = TT2 at hK2 hb15
        generalize addF F1 _ _ = F2 at hK2 hb15
        generalize addC c1 F1 _ _ = c2 at hK2 hb15
        have fx := fx.keep k15 hb14 nb1 nb2
        have g13 := keepL k15 hb14 g13
        clear hg hpair hb14 k15
        have hg := fx.dig
        walk_at "wp"
        refine ⟨pg, dg, .int b, .ref pb, m, pn, qs, rfl, hg, by omega, m1, fx.nums, hqs, by omega, .inr ⟨pb, TT2, F2, c2, rfl, hb15, by rw [hK2.texts, List.length_map]; omega, by have := hK2.size; omega, fun H16 k16 hb16 => ?_⟩⟩
        have hK3 := hK2.add (ht2.hyp tr3)
        have ht3 := ht2.add tr3
        change Knows _ (addT TT2 (Str.ofString "state", Kit.TK.nums qs)) (addF F2 (Str.ofString "state", Kit.TK.num (stateI m qs)) (Kit.TK.nums qs)) (addC c2 F2 (Str.ofString "state", Kit.TK.num (stateI m qs)) (Kit.TK.nums qs)) at hK3
        generalize addT TT2 _ = TT3 at hK3 hb16
        generalize addF F2 _ _ = F3 at hK3 hb16
        generalize addC c2 F2 _ _ = c3 at hK3 hb16
        have fx := fx.keep k16 hb15 nb1 nb2
        have g13 := keepL k16 hb15 g13
        clear hg hb15 k16
        walk_at "wp"
        rename_i p17 H17 n17 e17 g17
        refine Kit.w_neLL (r := [leafI m x, foldI m u v, stateI m qs]) (s := [leafI m x, foldI m u v, stateI m qs]) (Evl.sq_of g17) (Evl.sq_of (e17 _ _ g13)) ?_
        rw [decide_eq_true rfl]
        have fx := fx.ex e17
        have g13 := e17 _ _ g13
        have hb := hb16.ex e17
        clear hb16 e17 n17 g17
        have hq := fx.bare
        have hpair := fx.pair
        walk_at "wp"
        refine ⟨pq, dq, .int b, .non, m, x, rfl, hq, by omega, .inl ⟨rfl, fun H18 e18 => ?_⟩⟩
        walk_at "wp"
        refine ⟨pq, dq, .int b, .non, m, u, v, rfl, e18 _ _ hq, by omega, m1, hu, hw, .inl ⟨rfl, fun H19 e19 => ?_⟩⟩
        walk_at "wp"
        refine ⟨pq, dq, .int b, .non, m, pn, qs, rfl, e19 _ _ (e18 _ _ hq), by omega, m1, e19 _ _ (e18 _ _ fx.nums), hqs, by omega, .inl ⟨rfl, fun H20 e20 => ?_⟩⟩
        walk_at "wp"
        rename_i p21 H21 n21 e21 g21
        have E21 := ((e18.trans e19).trans e20).trans e21
        refine Kit.w_neLL (r := [leafI m x, foldI m u v, stateI m qs]) (s := [leafI m x, foldI m u v, stateI m qs]) (Evl.sq_of g21) (Evl.sq_of (E21 _ _ g13)) ?_
        rw [decide_eq_true rfl]
        have fx := fx.ex E21
        have g13 := E21 _ _ g13
        have hb := hb.ex E21
        have fx21 := fx
        clear E21 e18 e19 e20 e21 n21 g21 hq hpair
        walk_at "wp"
        rename_i q1 H22 n22 e22 g22 q2 H23 n23 e23 g23 q3 H24 n24 e24 g24 q4 H25 n25 e25 g25
        have E25 := ((e22.trans e23).trans e24).trans e25
        have fx := fx.ex E25
        have hb := hb.ex E25
        have hthree : Paired (Kit.RowAt H25) [((Str.ofString "leaf", Kit.TK.num x, leafI m x) : Rw), ((Str.ofString "fold", Kit.TK.nums [u, v], foldI m u v) : Rw), ((Str.ofString "state", Kit.TK.nums qs, stateI m qs) : Rw)] [V.ref q1, V.ref q2, V.ref q3] :=
          .cons ⟨q1, _, rfl, e25 _ _ (e24 _ _ (e23 _ _ g22)), rfl⟩ (.cons ⟨q2, _, rfl, e25 _ _ (e24 _ _ g23), ⟨pp, rfl, fx.pair⟩⟩ (.cons ⟨q3, _, rfl, e25 _ _ g24, ⟨pn, rfl, fx.nums⟩⟩ .nil))
        have htru : ∀ r ∈ [((Str.ofString "leaf", Kit.TK.num x, leafI m x) : Rw), ((Str.ofString "fold", Kit.TK.nums [u, v], foldI m u v) : Rw), ((Str.ofString "state", Kit.TK.nums qs, stateI m qs) : Rw)], Tru m r := by
          intro r hr
          simp only [List.mem_cons, List.not_mem_nil, or_false] at hr
          rcases hr with rfl | rfl | rfl
          · exact tr1
          · exact tr2
          · exact tr3
        have hK3 : Knows (([((Str.ofString "leaf", Kit.TK.num x, leafI m x) : Rw), ((Str.ofString "fold", Kit.TK.nums [u, v], foldI m u v) : Rw), ((Str.ofString "state", Kit.TK.nums qs, stateI m qs) : Rw)]).foldl addR rs) TT3 F3 c3 := hK3
        have hlen3 : ([((Str.ofString "leaf", Kit.TK.num x, leafI m x) : Rw), ((Str.ofString "fold", Kit.TK.nums [u, v], foldI m u v) : Rw), ((Str.ofString "state", Kit.TK.nums qs, stateI m qs) : Rw)]).length = 3 := rfl
        have q4t : q4 ≠ pt := by
          rintro rfl
          rw [fx.rows] at g25
          have g25 : some (HO.lst vs) = some (HO.lst [V.ref q1, V.ref q2, V.ref q3]) := g25
          exact absurd n25 (by rw [e24 _ _ (e23 _ _ (e22 _ _ fx21.rows))]; exact fun z => nomatch z)
        generalize [((Str.ofString "leaf", Kit.TK.num x, leafI m x) : Rw), ((Str.ofString "fold", Kit.TK.nums [u, v], foldI m u v) : Rw), ((Str.ofString "state", Kit.TK.nums qs, stateI m qs) : Rw)] = three at *
        clear E25 e22 e23 e24 e25 n22 n23 n24 n25 g22 g23 g24 tr1 tr2 tr3 hK1 hK2 ht1 ht2 ht3 hl1 hl2 fx21
        have tupL : ∀ {Hx : Hp}, Kit.ExBut pt H25 Hx → ∀ c zs, H25 c = some (.tup zs) → Hx c = some (.tup zs) := fun m c zs h => m c _ (by rintro rfl; rw [fx.rows] at h; cases h) h
        refine Kit.f_list (Evl.sq_of g25) (fun j σ H => ∃ y14 y15 y16 ws, σ = [some (.ref a), some (.ref pd), some (.int b), some (.int m), some (.ref pb), some (.ref pg), some (.ref pq), some (.ref pt), some (.bl (dueR ((three.take j).foldl addR rs))), some (.int (k : Int)), some (.int x), some (.ref pp), some (.ref pn), some (.ref p13), y14, y15, y16] ∧
          Kit.ExBut pt H25 H ∧ H pt = some (.lst ws) ∧ Paired (Kit.RowAt H) ((three.take j).foldl addR rs) ws) ⟨_, _, _, vs, rfl, Kit.ExBut.refl _ _, fx.rows, fx.at_⟩ ?_ ?_ ?_
        · rintro j σ2 H26 _ ⟨y14, y15, y16, ws, rfl, m26, hw26, hv26⟩
          exact Evl.sq_of (m26 _ _ q4t g25)
        · rintro j y σ2 H26 hy ⟨y14, y15, y16, ws, rfl, m26, hw26, hv26⟩
          obtain ⟨r, hr3, hrow⟩ := Kit.paired_get hthree hy
          have hrow := hrow.mono (tupL m26)
          have trr := htru r (List.mem_of_getElem? hr3)
          have tR : Trus m ((three.take j).foldl addR rs) := ht.foldl fun z hz => htru z (List.mem_of_mem_take hz)
          have lR := foldl_len (three.take j) rs
          have lT := List.length_take_le' j three
          rw [Kit.foldl_take hr3]
          generalize (three.take j).foldl addR rs = R at *
          have hlR := Paired.length hv26
          show Kit.Sm _ _ _ _ _ _ _
          walk_at "wp"
          refine Kit.w_notInRows hrow (Evl.sq_of hw26) hv26 trr.ok (fun z hz => (tR z hz).ok) ?_
          by_cases hm : r ∈ R
          · rw [decide_eq_true hm, show addR R r = R from if_pos hm]
            walk_at "wp"
            exact ⟨_, _, _, ws, rfl, m26, hw26, hv26⟩
          · rw [decide_eq_false hm, show addR R r = R ++ [r] from if_neg hm]
            have eD := due_snoc ((tR.hyp trr).resolve_left hm)
            rw [eD]
            generalize dueR R = D at *
            obtain ⟨qa, xa, rfl, hqa, htv⟩ := hrow
            have tup26 : ∀ {Hx Hy : Hp}, Kit.ExBut pt Hx Hy → Hx pt = some (.lst ws) → ∀ c zs, Hx c = some (.tup zs) → Hy c = some (.tup zs) := fun m hz c zs h => m c _ (by rintro rfl; rw [hz] at h; cases h) h
            cases D with
            | true =>
              walk_at "wp"
              refine Kit.w_app hw26 (by omega) fun H27 m27 f27 => ?_
              have tup27 := tup26 m27 hw26
              exact ⟨some (.ref qa), y15, y16, ws ++ [.ref qa], rfl, m26.trans m27, f27, (Paired.mapP hv26 fun _ _ z => z.mono tup27).snoc ⟨qa, xa, rfl, tup27 _ _ hqa, htv.mono tup27⟩⟩
            | false =>
              walk_at "wp"
              refine Kit.l_filter (Evl.sq_of hw26) (by omega) (fun _ => rfl) (hit2 R r) (fun i2 z H27 hz e27 R2 r2 => ?_) (fun z H27 R2 h => Kit.w_var rfl h) (fun pf H27 ys n27 e27 f27 h1 h2 h3 => ?_)
              · obtain ⟨z0, hz0, az, xz, rfl, fz, tz⟩ := Kit.paired_get hv26 hz
                have fz := e27 _ _ fz
                have hqa := e27 _ _ hqa
                have eh : hit2 R r i2 = (decide (z0.1 = r.1) && decide (z0.2.2 = r.2.2)) := by unfold hit2; rw [hz0]
                rw [eh] at r2
                walk_at "wp"
                refine Kit.w_eqSd ?_
                by_cases hz1 : z0.1 = r.1
                · rw [decide_eq_true hz1] at r2 ⊢
                  walk_at "wp"
                  exact r2
                · rw [decide_eq_false hz1] at r2 ⊢
                  walk_at "wp"
                  exact r2
              · have eA := any_hit hlR h1 h2
                walk_at "wp"
                refine Kit.w_app (e27 _ _ hw26) (by omega) fun H28 m28 f28 => ?_
                have tup28 : ∀ c zs, H26 c = some (.tup zs) → H28 c = some (.tup zs) := fun c zs h => tup26 m28 (e27 _ _ hw26) c zs (e27 _ _ h)
                exact ⟨some (.ref qa), y15, y16, ws ++ [.ref qa], by rw [← eA]; rfl, (m26.trans (Kit.ExBut.of e27)).trans m28, f28, (Paired.mapP hv26 fun _ _ z => z.mono tup28).snoc ⟨qa, xa, rfl, tup28 _ _ hqa, htv.mono tup28⟩⟩
        · rintro σ2 H26 ⟨y14, y15, y16, ws, rfl, m26, hw26, hv26⟩
          rw [show ([V.ref q1, V.ref q2, V.ref q3] : List V).length = three.length from hlen3.symm, List.take_length] at hv26 ⊢
          have ht3 : Trus m (three.foldl addR rs) := ht.foldl htru
          have hl3 := foldl_len three rs
          have hc3 := hK3.coll
          generalize three.foldl addR rs = rs3 at *
          have hb26 := hb.butL fx.rows m26
          have hlen26 := Paired.length hv26
          have hT : (TT3.length : Int) = (ws.length : Int) := by rw [hK3.texts, List.length_map, hlen26]
          have npg : pg ≠ pt := by rintro rfl; have z := fx.rows; rw [fx.dig] at z; cases z
          have npq : pq ≠ pt := by rintro rfl; have z := fx.rows; rw [fx.bare] at z; cases z
          subst hc3
          walk_at "wp"
          refine ⟨pb, TT3, F3, _, rfl, hb26, ?_⟩
          rw [hT]
          walk_at "wp"
          refine ⟨pb, TT3, F3, _, rfl, hb26, ?_⟩
          walk_at "wp"
          refine w_neBB ?_
          walk_at "wp"
          exact ⟨_, _, _, _, _, _, _, _, rs3, ws, TT3, F3, rfl, hb26, hK3, hw26, hv26, ht3, by omega, m26 _ _ npg fx.dig, m26 _ _ npq fx.bare, m26 _ _ ne1 fx.bits, m26 _ _ ne2 fx.draws⟩
    · rintro σ' H8 ⟨y9, y10, y11, y12, y13, y14, y15, y16, rs, vs, TT, F, rfl, hb8, hK, hR, hv, ht, hn, g5, g6, hpl, hpd⟩
      exact ⟨_, _, _, _, _, _, _, _, _, _, _, _, _, _, _, rfl, hpl, hpd⟩
  · rintro σ' H' ⟨y2, y3, y4, y5, y6, y7, y8, y9, y10, y11, y12, y13, y14, y15, y16, rfl, h1, h2⟩
    walk_at "wp"
    exact q _
end
theorem sp_law_of {K : PySem.W.Frag} {H : Hp} {a : Addr} {ns : List Int} (hl : ns.length ≤ 63) (hS : SqL K H a (ns.map V.int)) : sp_law K [.ref a] H (fun v _ => v = .bl true) fun _ _ _ => False := ⟨a, ns, rfl, hS, hl, fun _ => rfl⟩
theorem all_mk {l : PySem.W.OpenLaw} {w : World} {K : PySem.W.Frag} {h : Heap} {mg : Str → Option Value} {fa : Addr} (X : K.In h) (G : h.Ns mainGlobals mg) (hfa : mg "law" = some (.ref fa))
    {od0 an0 : Option Addr} {sl0 : Array (Option Value)} {oc0 kV0 dc0 pm0 cd0 ct0 : Value} {f0 : Addr}
    {od1 an1 : Option Addr} {sl1 : Array (Option Value)} {oc1 kV1 dc1 pm1 cd1 ct1 : Value} {f1 : Addr}
    {od2 an2 : Option Addr} {sl2 : Array (Option Value)} {oc2 kV2 dc2 pm2 cd2 ct2 : Value} {f2 : Addr}
    {od3 an3 : Option Addr} {sl3 : Array (Option Value)} {oc3 kV3 dc3 pm3 cd3 ct3 : Value} {f3 : Addr}
    {od4 an4 : Option Addr} {sl4 : Array (Option Value)} {oc4 kV4 dc4 pm4 cd4 ct4 : Value} {f4 : Addr}
    {od5 an5 : Option Addr} {sl5 : Array (Option Value)} {oc5 kV5 dc5 pm5 cd5 ct5 : Value} {f5 : Addr}
    {od6 an6 : Option Addr} {sl6 : Array (Option Value)} {oc6 kV6 dc6 pm6 cd6 ct6 : Value} {f6 : Addr}
    {od7 an7 : Option Addr} {sl7 : Array (Option Value)} {oc7 kV7 dc7 pm7 cd7 ct7 : Value} {f7 : Addr}
    {od8 an8 : Option Addr} {sl8 : Array (Option Value)} {oc8 kV8 dc8 pm8 cd8 ct8 : Value} {f8 : Addr}
    {od9 an9 : Option Addr} {sl9 : Array (Option Value)} {oc9 kV9 dc9 pm9 cd9 ct9 : Value} {f9 : Addr}
    {od10 an10 : Option Addr} {sl10 : Array (Option Value)} {oc10 kV10 dc10 pm10 cd10 ct10 : Value} {f10 : Addr}
    {od11 an11 : Option Addr} {sl11 : Array (Option Value)} {oc11 kV11 dc11 pm11 cd11 ct11 : Value} {f11 : Addr}
    {od12 an12 : Option Addr} {sl12 : Array (Option Value)} {oc12 kV12 dc12 pm12 cd12 ct12 : Value} {f12 : Addr}
    {od13 an13 : Option Addr} {sl13 : Array (Option Value)} {oc13 kV13 dc13 pm13 cd13 ct13 : Value} {f13 : Addr}
    {od14 an14 : Option Addr} {sl14 : Array (Option Value)} {oc14 kV14 dc14 pm14 cd14 ct14 : Value} {f14 : Addr}
    {od15 an15 : Option Addr} {sl15 : Array (Option Value)} {oc15 kV15 dc15 pm15 cd15 ct15 : Value} {f15 : Addr}
    {od16 an16 : Option Addr} {sl16 : Array (Option Value)} {oc16 kV16 dc16 pm16 cd16 ct16 : Value} {f16 : Addr}
    {od17 an17 : Option Addr} {sl17 : Array (Option Value)} {oc17 kV17 dc17 pm17 cd17 ct17 : Value} {f17 : Addr}
    {od18 an18 : Option Addr} {sl18 : Array (Option Value)} {oc18 kV18 dc18 pm18 cd18 ct18 : Value} {f18 : Addr}
    {od19 an19 : Option Addr} {sl19 : Array (Option Value)} {oc19 kV19 dc19 pm19 cd19 ct19 : Value} {f19 : Addr}
    {od20 an20 : Option Addr} {sl20 : Array (Option Value)} {oc20 kV20 dc20 pm20 cd20 ct20 : Value} {f20 : Addr}
    {C_Digests : Addr}
    {C_Book : Addr}
    {t_MOST_WORD : Tok}
    (aC_Book : PySem.W.nsIn K mainGlobals "Book" = some (some (.ref C_Book)))
    (aC_Digests : PySem.W.nsIn K mainGlobals "Digests" = some (some (.ref C_Digests)))
    (a0 : PySem.W.nsIn K mainGlobals "is_integer" = some (some (.ref f0)))
    (l0 : K.lookup f0 = some ⟨oc0, od0, .func (PySem.W.fnOf "is_integer" "is_integer" (defArgs s_is_integer) (defBody s_is_integer) (defScope s_is_integer) .none kV0 dc0 pm0 an0 cd0 ct0), sl0⟩)
    (c0 : PySem.W.codeIn K cd0 "is_integer" = true)
    (k0 : PySem.W.keepIn K (.ref f0) = true)
    (a1 : PySem.W.nsIn K mainGlobals "is_word" = some (some (.ref f1)))
    (l1 : K.lookup f1 = some ⟨oc1, od1, .func (PySem.W.fnOf "is_word" "is_word" (defArgs s_is_word) (defBody s_is_word) (defScope s_is_word) .none kV1 dc1 pm1 an1 cd1 ct1), sl1⟩)
    (c1 : PySem.W.codeIn K cd1 "is_word" = true)
    (k1 : PySem.W.keepIn K (.ref f1) = true)
    (a2 : PySem.W.findIn K (.ref C_Digests) "__init__" = some (some (.ref f2)))
    (i2 : PySem.W.isFn K (.ref f2) = true)
    (l2 : K.lookup f2 = some ⟨oc2, od2, .func (PySem.W.fnOf "__init__" "Digests.__init__" (defArgs s_Digests___init) (defBody s_Digests___init) (defScope s_Digests___init) .none kV2 dc2 pm2 an2 cd2 ct2), sl2⟩)
    (c2 : PySem.W.codeIn K cd2 "Digests.__init__" = true)
    (k2 : PySem.W.keepIn K (.ref f2) = true)
    (a3 : PySem.W.findIn K (.ref C_Digests) "leaf" = some (some (.ref f3)))
    (i3 : PySem.W.isFn K (.ref f3) = true)
    (l3 : K.lookup f3 = some ⟨oc3, od3, .func (PySem.W.fnOf "leaf" "Digests.leaf" (defArgs s_Digests_leaf) (defBody s_Digests_leaf) (defScope s_Digests_leaf) .none kV3 dc3 pm3 an3 cd3 ct3), sl3⟩)
    (c3 : PySem.W.codeIn K cd3 "Digests.leaf" = true)
    (k3 : PySem.W.keepIn K (.ref f3) = true)
    (a4 : PySem.W.findIn K (.ref C_Digests) "fold" = some (some (.ref f4)))
    (i4 : PySem.W.isFn K (.ref f4) = true)
    (l4 : K.lookup f4 = some ⟨oc4, od4, .func (PySem.W.fnOf "fold" "Digests.fold" (defArgs s_Digests_fold) (defBody s_Digests_fold) (defScope s_Digests_fold) .none kV4 dc4 pm4 an4 cd4 ct4), sl4⟩)
    (c4 : PySem.W.codeIn K cd4 "Digests.fold" = true)
    (k4 : PySem.W.keepIn K (.ref f4) = true)
    (a5 : PySem.W.findIn K (.ref C_Digests) "state" = some (some (.ref f5)))
    (i5 : PySem.W.isFn K (.ref f5) = true)
    (l5 : K.lookup f5 = some ⟨oc5, od5, .func (PySem.W.fnOf "state" "Digests.state" (defArgs s_Digests_state) (defBody s_Digests_state) (defScope s_Digests_state) .none kV5 dc5 pm5 an5 cd5 ct5), sl5⟩)
    (c5 : PySem.W.codeIn K cd5 "Digests.state" = true)
    (k5 : PySem.W.keepIn K (.ref f5) = true)
    (a6 : PySem.W.findIn K (.ref C_Digests) "modulus" = some (some (.ref f6)))
    (i6 : PySem.W.isFn K (.ref f6) = true)
    (l6 : K.lookup f6 = some ⟨oc6, od6, .func (PySem.W.fnOf "modulus" "Digests.modulus" (defArgs s_Digests_modulus) (defBody s_Digests_modulus) (defScope s_Digests_modulus) .none kV6 dc6 pm6 an6 cd6 ct6), sl6⟩)
    (c6 : PySem.W.codeIn K cd6 "Digests.modulus" = true)
    (k6 : PySem.W.keepIn K (.ref f6) = true)
    (a7 : PySem.W.findIn K (.ref C_Digests) "is_digest" = some (some (.ref f7)))
    (i7 : PySem.W.isFn K (.ref f7) = true)
    (l7 : K.lookup f7 = some ⟨oc7, od7, .func (PySem.W.fnOf "is_digest" "Digests.is_digest" (defArgs s_Digests_is_digest) (defBody s_Digests_is_digest) (defScope s_Digests_is_digest) .none kV7 dc7 pm7 an7 cd7 ct7), sl7⟩)
    (c7 : PySem.W.codeIn K cd7 "Digests.is_digest" = true)
    (k7 : PySem.W.keepIn K (.ref f7) = true)
    (a8 : PySem.W.findIn K (.ref C_Digests) "without_book" = some (some (.ref f8)))
    (i8 : PySem.W.isFn K (.ref f8) = true)
    (l8 : K.lookup f8 = some ⟨oc8, od8, .func (PySem.W.fnOf "without_book" "Digests.without_book" (defArgs s_Digests_without_book) (defBody s_Digests_without_book) (defScope s_Digests_without_book) .none kV8 dc8 pm8 an8 cd8 ct8), sl8⟩)
    (c8 : PySem.W.codeIn K cd8 "Digests.without_book" = true)
    (k8 : PySem.W.keepIn K (.ref f8) = true)
    (a9 : PySem.W.findIn K (.ref C_Digests) "_noted" = some (some (.ref f9)))
    (i9 : PySem.W.isFn K (.ref f9) = true)
    (l9 : K.lookup f9 = some ⟨oc9, od9, .func (PySem.W.fnOf "_noted" "Digests._noted" (defArgs s_Digests__noted) (defBody s_Digests__noted) (defScope s_Digests__noted) .none kV9 dc9 pm9 an9 cd9 ct9), sl9⟩)
    (c9 : PySem.W.codeIn K cd9 "Digests._noted" = true)
    (k9 : PySem.W.keepIn K (.ref f9) = true)
    (a10 : PySem.W.findIn K (.ref C_Book) "__init__" = some (some (.ref f10)))
    (i10 : PySem.W.isFn K (.ref f10) = true)
    (l10 : K.lookup f10 = some ⟨oc10, od10, .func (PySem.W.fnOf "__init__" "Book.__init__" (defArgs s_Book___init) (defBody s_Book___init) (defScope s_Book___init) .none kV10 dc10 pm10 an10 cd10 ct10), sl10⟩)
    (c10 : PySem.W.codeIn K cd10 "Book.__init__" = true)
    (k10 : PySem.W.keepIn K (.ref f10) = true)
    (a11 : PySem.W.findIn K (.ref C_Book) "add" = some (some (.ref f11)))
    (i11 : PySem.W.isFn K (.ref f11) = true)
    (l11 : K.lookup f11 = some ⟨oc11, od11, .func (PySem.W.fnOf "add" "Book.add" (defArgs s_Book_add) (defBody s_Book_add) (defScope s_Book_add) .none kV11 dc11 pm11 an11 cd11 ct11), sl11⟩)
    (c11 : PySem.W.codeIn K cd11 "Book.add" = true)
    (k11 : PySem.W.keepIn K (.ref f11) = true)
    (a12 : PySem.W.findIn K (.ref C_Book) "has_collision" = some (some (.ref f12)))
    (i12 : PySem.W.isFn K (.ref f12) = true)
    (l12 : K.lookup f12 = some ⟨oc12, od12, .func (PySem.W.fnOf "has_collision" "Book.has_collision" (defArgs s_Book_has_collision) (defBody s_Book_has_collision) (defScope s_Book_has_collision) .none kV12 dc12 pm12 an12 cd12 ct12), sl12⟩)
    (c12 : PySem.W.codeIn K cd12 "Book.has_collision" = true)
    (k12 : PySem.W.keepIn K (.ref f12) = true)
    (a13 : PySem.W.findIn K (.ref C_Book) "count" = some (some (.ref f13)))
    (i13 : PySem.W.isFn K (.ref f13) = true)
    (l13 : K.lookup f13 = some ⟨oc13, od13, .func (PySem.W.fnOf "count" "Book.count" (defArgs s_Book_count) (defBody s_Book_count) (defScope s_Book_count) .none kV13 dc13 pm13 an13 cd13 ct13), sl13⟩)
    (c13 : PySem.W.codeIn K cd13 "Book.count" = true)
    (k13 : PySem.W.keepIn K (.ref f13) = true)
    (a14 : PySem.W.nsIn K mainGlobals "_law_draws" = some (some (.ref f14)))
    (l14 : K.lookup f14 = some ⟨oc14, od14, .func (PySem.W.fnOf "_law_draws" "_law_draws" (defArgs s_law_draws) (defBody s_law_draws) (defScope s_law_draws) .none kV14 dc14 pm14 an14 cd14 ct14), sl14⟩)
    (c14 : PySem.W.codeIn K cd14 "_law_draws" = true)
    (k14 : PySem.W.keepIn K (.ref f14) = true)
    (a15 : PySem.W.nsIn K mainGlobals "_law_mod" = some (some (.ref f15)))
    (l15 : K.lookup f15 = some ⟨oc15, od15, .func (PySem.W.fnOf "_law_mod" "_law_mod" (defArgs s_law_mod) (defBody s_law_mod) (defScope s_law_mod) .none kV15 dc15 pm15 an15 cd15 ct15), sl15⟩)
    (c15 : PySem.W.codeIn K cd15 "_law_mod" = true)
    (k15 : PySem.W.keepIn K (.ref f15) = true)
    (a16 : PySem.W.nsIn K mainGlobals "_law_leaf" = some (some (.ref f16)))
    (l16 : K.lookup f16 = some ⟨oc16, od16, .func (PySem.W.fnOf "_law_leaf" "_law_leaf" (defArgs s_law_leaf) (defBody s_law_leaf) (defScope s_law_leaf) .none kV16 dc16 pm16 an16 cd16 ct16), sl16⟩)
    (c16 : PySem.W.codeIn K cd16 "_law_leaf" = true)
    (k16 : PySem.W.keepIn K (.ref f16) = true)
    (a17 : PySem.W.nsIn K mainGlobals "_law_fold" = some (some (.ref f17)))
    (l17 : K.lookup f17 = some ⟨oc17, od17, .func (PySem.W.fnOf "_law_fold" "_law_fold" (defArgs s_law_fold) (defBody s_law_fold) (defScope s_law_fold) .none kV17 dc17 pm17 an17 cd17 ct17), sl17⟩)
    (c17 : PySem.W.codeIn K cd17 "_law_fold" = true)
    (k17 : PySem.W.keepIn K (.ref f17) = true)
    (a18 : PySem.W.nsIn K mainGlobals "_law_state" = some (some (.ref f18)))
    (l18 : K.lookup f18 = some ⟨oc18, od18, .func (PySem.W.fnOf "_law_state" "_law_state" (defArgs s_law_state) (defBody s_law_state) (defScope s_law_state) .none kV18 dc18 pm18 an18 cd18 ct18), sl18⟩)
    (c18 : PySem.W.codeIn K cd18 "_law_state" = true)
    (k18 : PySem.W.keepIn K (.ref f18) = true)
    (a19 : PySem.W.nsIn K mainGlobals "_law_forms" = some (some (.ref f19)))
    (l19 : K.lookup f19 = some ⟨oc19, od19, .func (PySem.W.fnOf "_law_forms" "_law_forms" (defArgs s_law_forms) (defBody s_law_forms) (defScope s_law_forms) .none kV19 dc19 pm19 an19 cd19 ct19), sl19⟩)
    (c19 : PySem.W.codeIn K cd19 "_law_forms" = true)
    (k19 : PySem.W.keepIn K (.ref f19) = true)
    (a20 : PySem.W.nsIn K mainGlobals "law" = some (some (.ref f20)))
    (l20 : K.lookup f20 = some ⟨oc20, od20, .func (PySem.W.fnOf "law" "law" (defArgs s_law) (defBody s_law) (defScope s_law) .none kV20 dc20 pm20 an20 cd20 ct20), sl20⟩)
    (c20 : PySem.W.codeIn K cd20 "law" = true)
    (k20 : PySem.W.keepIn K (.ref f20) = true)
    (pg_Digests : PySem.W.plainGet K C_Digests Str.empty = true)
    (hd_Digests : PySem.W.hasDictIn K C_Digests = true)
    (po_Digests : PySem.W.plainOver K C_Digests = true)
    (sa_Digests : PySem.W.findIn K (.ref C_Digests) "__setattr__" = some (some (.builtin "object.__setattr__")))
    (mk_Digests : PySem.W.makesIn K C_Digests = true)
    (kc_Digests : PySem.W.keepIn K (.ref C_Digests) = true)
    (n_Digests_bits : PySem.W.findIn K (.ref C_Digests) "_bits" = some none)
    (n_Digests_book : PySem.W.findIn K (.ref C_Digests) "_book" = some none)
    (n_Digests_modulus : PySem.W.findIn K (.ref C_Digests) "_modulus" = some none)
    (pg_Book : PySem.W.plainGet K C_Book Str.empty = true)
    (hd_Book : PySem.W.hasDictIn K C_Book = true)
    (po_Book : PySem.W.plainOver K C_Book = true)
    (sa_Book : PySem.W.findIn K (.ref C_Book) "__setattr__" = some (some (.builtin "object.__setattr__")))
    (mk_Book : PySem.W.makesIn K C_Book = true)
    (kc_Book : PySem.W.keepIn K (.ref C_Book) = true)
    (n_Book_texts : PySem.W.findIn K (.ref C_Book) "_texts" = some none)
    (n_Book_firsts : PySem.W.findIn K (.ref C_Book) "_firsts" = some none)
    (n_Book_collided : PySem.W.findIn K (.ref C_Book) "_collided" = some none)
    (g_MOST_WORD : PySem.W.nsIn K mainGlobals "MOST_WORD" = some (some (.int 65535 t_MOST_WORD)))
    (z_abs : PySem.W.nsIn K mainGlobals "abs" = some none)
    (z_bool : PySem.W.nsIn K mainGlobals "bool" = some none)
    (z_int : PySem.W.nsIn K mainGlobals "int" = some none)
    (z_isinstance : PySem.W.nsIn K mainGlobals "isinstance" = some none)
    (z_len : PySem.W.nsIn K mainGlobals "len" = some none)
    (z_range : PySem.W.nsIn K mainGlobals "range" = some none)
    (z_tuple : PySem.W.nsIn K mainGlobals "tuple" = some none)
    : ∃ fd : FuncData, (∀ (s : Shared) (v : Value), BindsTo s fd ⟨[v], []⟩ [("script", v)]) ∧ ∀ base : Heap, K.In base → base.Ns mainGlobals mg → FnOk l.prog w K mg base CX0 4 fa fd ["script"] (sp_law K) := by
  have e := hfa.symm.trans (PySem.W.mg_of X G a20)
  have e2 : f20 = fa := by
    injection e with e
    injection e with e
    exact e.symm
  subst e2
  have F0 := fun_mk (st := s_is_integer) l0 c0 k0
  have b0 := F0.binds (ps := ["value", "least", "greatest"]) fun _ _ _ _ _ _ us hl => match us, hl with | [_, _, _], _ => rfl
  have F1 := fun_mk (st := s_is_word) l1 c1 k1
  have b1 := F1.binds (ps := ["value"]) fun _ _ _ _ _ _ us hl => match us, hl with | [_], _ => rfl
  have F2 := fun_mk (st := s_Digests___init) l2 c2 k2
  have b2 := F2.binds (ps := ["self", "bits", "book"]) fun _ _ _ _ _ _ us hl => match us, hl with | [_, _, _], _ => rfl
  have F3 := fun_mk (st := s_Digests_leaf) l3 c3 k3
  have b3 := F3.binds (ps := ["self", "word"]) fun _ _ _ _ _ _ us hl => match us, hl with | [_, _], _ => rfl
  have F4 := fun_mk (st := s_Digests_fold) l4 c4 k4
  have b4 := F4.binds (ps := ["self", "left", "right"]) fun _ _ _ _ _ _ us hl => match us, hl with | [_, _, _], _ => rfl
  have F5 := fun_mk (st := s_Digests_state) l5 c5 k5
  have b5 := F5.binds (ps := ["self", "numbers"]) fun _ _ _ _ _ _ us hl => match us, hl with | [_, _], _ => rfl
  have F6 := fun_mk (st := s_Digests_modulus) l6 c6 k6
  have b6 := F6.binds (ps := ["self"]) fun _ _ _ _ _ _ us hl => match us, hl with | [_], _ => rfl
  have F7 := fun_mk (st := s_Digests_is_digest) l7 c7 k7
  have b7 := F7.binds (ps := ["self", "value"]) fun _ _ _ _ _ _ us hl => match us, hl with | [_, _], _ => rfl
  have F8 := fun_mk (st := s_Digests_without_book) l8 c8 k8
  have b8 := F8.binds (ps := ["self"]) fun _ _ _ _ _ _ us hl => match us, hl with | [_], _ => rfl
  have F9 := fun_mk (st := s_Digests__noted) l9 c9 k9
  have b9 := F9.binds (ps := ["self", "kind", "text", "digest"]) fun _ _ _ _ _ _ us hl => match us, hl with | [_, _, _, _], _ => rfl
  have F10 := fun_mk (st := s_Book___init) l10 c10 k10
  have b10 := F10.binds (ps := ["self"]) fun _ _ _ _ _ _ us hl => match us, hl with | [_], _ => rfl
  have F11 := fun_mk (st := s_Book_add) l11 c11 k11
  have b11 := F11.binds (ps := ["self", "kind", "text", "digest"]) fun _ _ _ _ _ _ us hl => match us, hl with | [_, _, _, _], _ => rfl
  have F12 := fun_mk (st := s_Book_has_collision) l12 c12 k12
  have b12 := F12.binds (ps := ["self"]) fun _ _ _ _ _ _ us hl => match us, hl with | [_], _ => rfl
  have F13 := fun_mk (st := s_Book_count) l13 c13 k13
  have b13 := F13.binds (ps := ["self"]) fun _ _ _ _ _ _ us hl => match us, hl with | [_], _ => rfl
  have F14 := fun_mk (st := s_law_draws) l14 c14 k14
  have b14 := F14.binds (ps := ["script", "start", "most"]) fun _ _ _ _ _ _ us hl => match us, hl with | [_, _, _], _ => rfl
  have F15 := fun_mk (st := s_law_mod) l15 c15 k15
  have b15 := F15.binds (ps := ["bits"]) fun _ _ _ _ _ _ us hl => match us, hl with | [_], _ => rfl
  have F16 := fun_mk (st := s_law_leaf) l16 c16 k16
  have b16 := F16.binds (ps := ["m", "word"]) fun _ _ _ _ _ _ us hl => match us, hl with | [_, _], _ => rfl
  have F17 := fun_mk (st := s_law_fold) l17 c17 k17
  have b17 := F17.binds (ps := ["m", "x", "y"]) fun _ _ _ _ _ _ us hl => match us, hl with | [_, _, _], _ => rfl
  have F18 := fun_mk (st := s_law_state) l18 c18 k18
  have b18 := F18.binds (ps := ["m", "numbers"]) fun _ _ _ _ _ _ us hl => match us, hl with | [_, _], _ => rfl
  have F19 := fun_mk (st := s_law_forms) l19 c19 k19
  have b19 := F19.binds (ps := ["digests", "m"]) fun _ _ _ _ _ _ us hl => match us, hl with | [_, _], _ => rfl
  have F20 := fun_mk (st := s_law) l20 c20 k20
  have b20 := F20.binds (ps := ["script"]) fun _ _ _ _ _ _ us hl => match us, hl with | [_], _ => rfl
  let T : Txt K mg := {
    f_is_integer := ⟨⟨f0, _, F0, b0⟩, PySem.W.mg_of X G a0⟩
    f_is_word := ⟨⟨f1, _, F1, b1⟩, PySem.W.mg_of X G a1⟩
    f_Digests___init := ⟨f2, _, F2, b2⟩
    f_Digests_leaf := ⟨f3, _, F3, b3⟩
    f_Digests_fold := ⟨f4, _, F4, b4⟩
    f_Digests_state := ⟨f5, _, F5, b5⟩
    f_Digests_modulus := ⟨f6, _, F6, b6⟩
    f_Digests_is_digest := ⟨f7, _, F7, b7⟩
    f_Digests_without_book := ⟨f8, _, F8, b8⟩
    f_Digests__noted := ⟨f9, _, F9, b9⟩
    f_Book___init := ⟨f10, _, F10, b10⟩
    f_Book_add := ⟨f11, _, F11, b11⟩
    f_Book_has_collision := ⟨f12, _, F12, b12⟩
    f_Book_count := ⟨f13, _, F13, b13⟩
    f_law_draws := ⟨⟨f14, _, F14, b14⟩, PySem.W.mg_of X G a14⟩
    f_law_mod := ⟨⟨f15, _, F15, b15⟩, PySem.W.mg_of X G a15⟩
    f_law_leaf := ⟨⟨f16, _, F16, b16⟩, PySem.W.mg_of X G a16⟩
    f_law_fold := ⟨⟨f17, _, F17, b17⟩, PySem.W.mg_of X G a17⟩
    f_law_state := ⟨⟨f18, _, F18, b18⟩, PySem.W.mg_of X G a18⟩
    f_law_forms := ⟨⟨f19, _, F19, b19⟩, PySem.W.mg_of X G a19⟩
    f_law := ⟨⟨f20, _, F20, b20⟩, PySem.W.mg_of X G a20⟩
    c_Digests := ⟨C_Digests, ⟨pg_Digests, hd_Digests, po_Digests, sa_Digests⟩, ⟨mk_Digests, a2, i2, kc_Digests⟩, PySem.W.mg_of X G aC_Digests⟩
    m_Digests_leaf := ⟨a3, i3, k3⟩
    m_Digests_fold := ⟨a4, i4, k4⟩
    m_Digests_state := ⟨a5, i5, k5⟩
    m_Digests_modulus := ⟨a6, i6, k6⟩
    m_Digests_is_digest := ⟨a7, i7, k7⟩
    m_Digests_without_book := ⟨a8, i8, k8⟩
    m_Digests__noted := ⟨a9, i9, k9⟩
    n_Digests_bits := n_Digests_bits
    n_Digests_book := n_Digests_book
    n_Digests_modulus := n_Digests_modulus
    c_Book := ⟨C_Book, ⟨pg_Book, hd_Book, po_Book, sa_Book⟩, ⟨mk_Book, a10, i10, kc_Book⟩, PySem.W.mg_of X G aC_Book⟩
    m_Book_add := ⟨a11, i11, k11⟩
    m_Book_has_collision := ⟨a12, i12, k12⟩
    m_Book_count := ⟨a13, i13, k13⟩
    n_Book_texts := n_Book_texts
    n_Book_firsts := n_Book_firsts
    n_Book_collided := n_Book_collided
    t_MOST_WORD := t_MOST_WORD
    g_MOST_WORD := PySem.W.mg_of X G g_MOST_WORD
    z_abs := PySem.W.mg_none_of X G z_abs
    z_bool := PySem.W.mg_none_of X G z_bool
    z_int := PySem.W.mg_none_of X G z_int
    z_isinstance := PySem.W.mg_none_of X G z_isinstance
    z_len := PySem.W.mg_none_of X G z_len
    z_range := PySem.W.mg_none_of X G z_range
    z_tuple := PySem.W.mg_none_of X G z_tuple }
  exact ⟨PySem.W.fnOf "law" "law" (defArgs s_law) (defBody s_law) (defScope s_law) .none kV20 dc20 pm20 an20 cd20 ct20, fun s v => .of_eq rfl, fun base _ _ => ok_law T⟩
end My
open PySem PySem.W PyProof.Rows
set_option maxHeartbeats 0 in
theorem PySem.Challenge.cw_onestepcourt_k01_digests_holds : PySem.Challenge.rw_onestepcourt_k01_digests.Holds := by
  w_on; o_law; k_head; (case hw => w_witness2)
  k_fill
  refine L2.walk_of (l := PySem.Challenge.rw_onestepcourt_k01_digests) (n := 63) (k := 4) (x := "script") (CX := fun _ => L2.CX0) (sp := fun w => My.sp_law _) rfl (by decide) rfl ⟨rfl, by decide, by decide⟩ (fun w h Y => PySem.W.kIn_of Y) ?F (fun _ _ a ns hl _ hS => My.sp_law_of hl hS) (fun _ _ _ _ _ h => h)
  case F =>
    intro w mg fa h KX G hmg
    refine' My.all_mk KX G hmg ?aC_Book ?aC_Digests ?a0 ?l0 ?c0 ?k0 ?a1 ?l1 ?c1 ?k1 ?a2 ?i2 ?l2 ?c2 ?k2 ?a3 ?i3 ?l3 ?c3 ?k3 ?a4 ?i4 ?l4 ?c4 ?k4 ?a5 ?i5 ?l5 ?c5 ?k5 ?a6 ?i6 ?l6 ?c6 ?k6 ?a7 ?i7 ?l7 ?c7 ?k7 ?a8 ?i8 ?l8 ?c8 ?k8 ?a9 ?i9 ?l9 ?c9 ?k9 ?a10 ?i10 ?l10 ?c10 ?k10 ?a11 ?i11 ?l11 ?c11 ?k11 ?a12 ?i12 ?l12 ?c12 ?k12 ?a13 ?i13 ?l13 ?c13 ?k13 ?a14 ?l14 ?c14 ?k14 ?a15 ?l15 ?c15 ?k15 ?a16 ?l16 ?c16 ?k16 ?a17 ?l17 ?c17 ?k17 ?a18 ?l18 ?c18 ?k18 ?a19 ?l19 ?c19 ?k19 ?a20 ?l20 ?c20 ?k20 ?pg_Digests ?hd_Digests ?po_Digests ?sa_Digests ?mk_Digests ?kc_Digests ?n_Digests_bits ?n_Digests_book ?n_Digests_modulus ?pg_Book ?hd_Book ?po_Book ?sa_Book ?mk_Book ?kc_Book ?n_Book_texts ?n_Book_firsts ?n_Book_collided ?g_MOST_WORD ?z_abs ?z_bool ?z_int ?z_isinstance ?z_len ?z_range ?z_tuple
    (case aC_Book => k_is)
    (case aC_Digests => k_is)
    (case a0 => k_is)
    (case l0 => k_is)
    (case c0 => k_is)
    (case k0 => k_is)
    (case a1 => k_is)
    (case l1 => k_is)
    (case c1 => k_is)
    (case k1 => k_is)
    (case a2 => k_is)
    (case i2 => k_is)
    (case l2 => k_is)
    (case c2 => k_is)
    (case k2 => k_is)
    (case a3 => k_is)
    (case i3 => k_is)
    (case l3 => k_is)
    (case c3 => k_is)
    (case k3 => k_is)
    (case a4 => k_is)
    (case i4 => k_is)
    (case l4 => k_is)
    (case c4 => k_is)
    (case k4 => k_is)
    (case a5 => k_is)
    (case i5 => k_is)
    (case l5 => k_is)
    (case c5 => k_is)
    (case k5 => k_is)
    (case a6 => k_is)
    (case i6 => k_is)
    (case l6 => k_is)
    (case c6 => k_is)
    (case k6 => k_is)
    (case a7 => k_is)
    (case i7 => k_is)
    (case l7 => k_is)
    (case c7 => k_is)
    (case k7 => k_is)
    (case a8 => k_is)
    (case i8 => k_is)
    (case l8 => k_is)
    (case c8 => k_is)
    (case k8 => k_is)
    (case a9 => k_is)
    (case i9 => k_is)
    (case l9 => k_is)
    (case c9 => k_is)
    (case k9 => k_is)
    (case a10 => k_is)
    (case i10 => k_is)
    (case l10 => k_is)
    (case c10 => k_is)
    (case k10 => k_is)
    (case a11 => k_is)
    (case i11 => k_is)
    (case l11 => k_is)
    (case c11 => k_is)
    (case k11 => k_is)
    (case a12 => k_is)
    (case i12 => k_is)
    (case l12 => k_is)
    (case c12 => k_is)
    (case k12 => k_is)
    (case a13 => k_is)
    (case i13 => k_is)
    (case l13 => k_is)
    (case c13 => k_is)
    (case k13 => k_is)
    (case a14 => k_is)
    (case l14 => k_is)
    (case c14 => k_is)
    (case k14 => k_is)
    (case a15 => k_is)
    (case l15 => k_is)
    (case c15 => k_is)
    (case k15 => k_is)
    (case a16 => k_is)
    (case l16 => k_is)
    (case c16 => k_is)
    (case k16 => k_is)
    (case a17 => k_is)
    (case l17 => k_is)
    (case c17 => k_is)
    (case k17 => k_is)
    (case a18 => k_is)
    (case l18 => k_is)
    (case c18 => k_is)
    (case k18 => k_is)
    (case a19 => k_is)
    (case l19 => k_is)
    (case c19 => k_is)
    (case k19 => k_is)
    (case a20 => k_is)
    (case l20 => k_is)
    (case c20 => k_is)
    (case k20 => k_is)
    (case pg_Digests => k_is)
    (case hd_Digests => k_is)
    (case po_Digests => k_is)
    (case sa_Digests => k_is)
    (case mk_Digests => k_is)
    (case kc_Digests => k_is)
    (case n_Digests_bits => k_is)
    (case n_Digests_book => k_is)
    (case n_Digests_modulus => k_is)
    (case pg_Book => k_is)
    (case hd_Book => k_is)
    (case po_Book => k_is)
    (case sa_Book => k_is)
    (case mk_Book => k_is)
    (case kc_Book => k_is)
    (case n_Book_texts => k_is)
    (case n_Book_firsts => k_is)
    (case n_Book_collided => k_is)
    (case g_MOST_WORD => k_is)
    (case z_abs => k_is)
    (case z_bool => k_is)
    (case z_int => k_is)
    (case z_isinstance => k_is)
    (case z_len => k_is)
    (case z_range => k_is)
    (case z_tuple => k_is)


