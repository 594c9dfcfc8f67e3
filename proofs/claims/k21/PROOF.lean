import PyProof.Rows.All
import Wide.All
import OpenK.AllK
import Wide.FinOn
import HandS.ForMost
import HandS.Wide
import HandS.Evl
import HandS.IsInst
import HandS.TupAny
import HandS.TupMul
import HandS.TupLe
import HandS.Dict
import HandS.Conv
import HandS.SetKeys
import HandS.TupLen
import KE.KDictKeyed
import HandS.Deep
import HandS.Style
import HandS.ForExc
import HandS.TryMany
import HandS.TryOnly
import HandS.ExcInit
import HandS.ExcField
import HandS.ExcIs
import PySem.Challenge.RW_onestepcourt_k21_whole_no_other_opening
import HandS.Strs
import HandS.Zip
set_option Elab.async false
set_option linter.all false
set_option maxRecDepth 100000
namespace Kit
open PySem PySem.Spec PyProof.Rows L2 Evl
abbrev St := L2.St
/-! ### facts of the text -/
structure GFn (K : PySem.W.Frag) (x qual : Str) (st : Stmt) (ps : List Str) where
  f : Addr
  fd : FuncData
  F : Fun K x qual st f fd
  b : Binds K fd ps []
structure GFn' (K : PySem.W.Frag) (mg : Str → Option Value) (x qual : Str) (st : Stmt) (ps : List Str) extends GFn K x qual st ps where
  g : mg x = some (.ref f)
structure GCl (K : PySem.W.Frag) (mg : Str → Option Value) (x : Str) (fI : Addr) where
  C : Addr
  cl : Cls K C
  M : Mk K C fI
  g : mg x = some (.ref C)
/-- an attribute read; a method's receiver; a new instance; an attribute stored -/
def FldOf (K : PySem.W.Frag) (f : Str) (x : V) (H : Hp) (Q : VK) : Prop := ∃ a C dx fs v, x = .ref a ∧ H a = some (.ins C dx fs) ∧ Cls K C ∧ NoAttr K C f ∧ fs.lookup f = some v ∧ Q v H
def InsOf (C : Addr) (m : Str) (x : V) (H : Hp) (R : Prop) : Prop := ∃ a dx fs, x = .ref a ∧ H a = some (.ins C dx fs) ∧ fs.lookup m = none ∧ R
def MakeOf (C : Addr) (sp : Sp) (E : XK) (vs : List V) (H : Hp) (Q : VK) : Prop := ∀ x dx, H x = none → H dx = none → dx ≠ x → sp (.ref x :: vs) (upd (upd H dx (.own x)) x (.ins C dx [])) (fun v H2 => v = .non ∧ Q (.ref x) H2) E
def PutOf (K : PySem.W.Frag) (f : Str) (y x : V) (H : Hp) (R : Hp → Prop) : Prop := ∃ a C dx fs, x = .ref a ∧ H a = some (.ins C dx fs) ∧ Cls K C ∧ NoAttr K C f ∧ fs.length < 1000 ∧ R (upd H a (.ins C dx (putF f y fs)))
/-- a new object of so many items -/
def Alloc (n : Nat) (o : HO) (H : Hp) (Q : VK) : Prop := n ≤ sizeLine ∧ ∀ p, H p = none → Q (.ref p) (upd H p o)
/-! ### a statement with its four ways out -/
def Sm (t : TS) (nx : St → Hp → Prop) (rt : VK) (bk ct : St → Hp → Prop) (σ : St) (H : Hp) : Prop := t ⟨nx, rt, bk, ct⟩ σ H
section
variable {σ : St} {H H1 H2 : Hp} {Q : VK} {R : Bool → Hp → Prop} {A : List V → Hp → Prop} {i n : Nat} {v x y : V} {ta tb te tv : TE} {tl tr : TA} {b : Bool} {K : PySem.W.Frag} {a C dx p : Addr} {fs : List (Str × V)} {f : Str} {t u c : TT}
theorem w_var (h : σ[i]? = some (some v)) (q : Q v H) : tVar i σ H Q := ⟨v, h, q⟩
theorem w_c (q : Q v H) : tC v σ H Q := q
theorem w_op {r : R2} (h : ta σ H fun x H1 => tb σ H1 fun y H2 => r x y H2 Q) : tOp r ta tb σ H Q := h
theorem w_un {r : V → Hp → VK → Prop} (h : ta σ H fun x H1 => r x H1 Q) : tUn r ta σ H Q := h
theorem w_cb {r : List V → Hp → VK → Prop} (h : tl σ H fun vs H1 => r vs H1 Q) : tCB r tl σ H Q := h
theorem w_nil (q : A [] H) : tNil σ H A := q
theorem w_cons (h : te σ H fun x H1 => tr σ H1 fun xs H2 => A (x :: xs) H2) : tCons te tr σ H A := h
theorem w_tup (h : tl σ H fun xs H1 => Alloc xs.length (.tup xs) H1 Q) : tTup tl σ H Q := h
theorem w_lst (h : tl σ H fun xs H1 => Alloc xs.length (.lst xs) H1 Q) : tLst tl σ H Q := h
theorem w_call {sp : Sp} {dvs : List V} {E : XK} (h : tl σ H fun vs H1 => sp (vs ++ dvs) H1 Q E) : tCall sp dvs E tl σ H Q := h
theorem w_test (h : te σ H fun x H' => ∃ k, x = .bl k ∧ R k H') : tTest te σ H R := h
theorem w_B (h : te σ H fun x H' => ∃ k, x = .bl k ∧ R k H') : tB te σ H R := h
theorem w_and (h : t σ H fun c H1 => if c = true then u σ H1 R else R false H1) : tAnd t u σ H R := h
theorem w_or (h : t σ H fun c H1 => if c = true then R true H1 else u σ H1 R) : tOr t u σ H R := h
theorem w_not (h : t σ H fun c H1 => R (!c) H1) : tNot t σ H R := h
theorem w_andV (h : ta σ H fun x H1 => ∃ c, x = .bl c ∧ if c = true then tb σ H1 Q else Q (.bl false) H1) : tAndV ta tb σ H Q := h
theorem w_orV (h : ta σ H fun x H1 => ∃ c, x = .bl c ∧ if c = true then Q (.bl true) H1 else tb σ H1 Q) : tOrV ta tb σ H Q := h
theorem w_notV (h : ta σ H fun x H1 => ∃ c, x = .bl c ∧ Q (.bl (!c)) H1) : tNotV ta σ H Q := h
theorem w_ifE (h : t σ H fun c H1 => if c = true then ta σ H1 Q else tb σ H1 Q) : tIf t ta tb σ H Q := h
theorem w_fld (h : ta σ H fun x H1 => FldOf K f x H1 Q) : tFld K ta f σ H Q := h
theorem w_rd {v : V} (h : H a = some (.ins C dx fs)) (cl : Cls K C) (n : NoAttr K C f) (l : fs.lookup f = some v) (q : Q v H) : FldOf K f (.ref a) H Q := ⟨a, C, dx, fs, v, rfl, h, cl, n, l, q⟩
theorem w_meth {m : Str} {sp : Sp} {E : XK} (h : ta σ H fun x H1 => InsOf C m x H1 (tl σ H1 fun vs H2 => sp (x :: vs) H2 Q E)) : tMeth C m sp [] E ta tl σ H Q := by
  have e : tMeth C m sp [] E ta tl σ H Q = (ta σ H fun x H1 => InsOf C m x H1 (tl σ H1 fun vs H2 => sp (x :: vs) H2 Q E)) := by unfold tMeth InsOf; simp only [List.append_nil]
  rw [e]; exact h
theorem w_ins {m : Str} {R : Prop} (h : H a = some (.ins C dx fs)) (l : fs.lookup m = none) (r : R) : InsOf C m (.ref a) H R := ⟨a, dx, fs, rfl, h, l, r⟩
theorem w_make {sp : Sp} {E : XK} (h : tl σ H fun vs H1 => MakeOf C sp E vs H1 Q) : tMake C sp [] E tl σ H Q := by
  have e : tMake C sp [] E tl σ H Q = (tl σ H fun vs H1 => MakeOf C sp E vs H1 Q) := by unfold tMake MakeOf; simp only [List.append_nil]
  rw [e]; exact h
theorem w_made {sp : Sp} {E : XK} {vs : List V} (h : ∀ x dx H2, H x = none → Ex H H2 → H2 x = some (.ins C dx []) → sp (.ref x :: vs) H2 (fun v H3 => v = .non ∧ Q (.ref x) H3) E) : MakeOf C sp E vs H Q :=
  fun x dx hx hd hn => h x dx _ hx (fun b o hb => by rw [upd_ne (ne_of_none hb hx), upd_ne (ne_of_none hb hd)]; exact hb) upd_same
theorem w_bl {k : Bool} (q : R k H) : ∃ k', V.bl k = .bl k' ∧ R k' H := ⟨k, rfl, q⟩
theorem w_blE {k : Bool} {P : Bool → Prop} (q : P k) : ∃ k', V.bl k = .bl k' ∧ P k' := ⟨k, rfl, q⟩
/-- operators -/
theorem w_I0 {g : Int → Int → V} {i j : Int} (q : Q (g i j) H) : rI0 g (.int i) (.int j) H Q := ⟨i, j, rfl, rfl, q⟩
theorem w_I {C : Int → Int → Prop} {g : Int → Int → V} {i j : Int} (hc : C i j) (q : Q (g i j) H) : rI C g (.int i) (.int j) H Q := ⟨i, j, rfl, rfl, hc, q⟩
theorem w_U {g : Int → V} {i : Int} (q : Q (g i) H) : rU g (.int i) H Q := ⟨i, rfl, q⟩
theorem w_eqI {i j : Int} (q : Q (.bl (decide (i = j))) H) : rEq (.int i) (.int j) H Q := ⟨rfl, by
  have e : decide (V.int i = V.int j) = decide (i = j) := by
    by_cases h : i = j
    · subst h; rw [decide_eq_true rfl, decide_eq_true rfl]
    · rw [decide_eq_false h, decide_eq_false (fun z => h (V.int.inj z))]
  rw [e]; exact q⟩
theorem w_neI {i j : Int} (q : Q (.bl (!decide (i = j))) H) : rNe (.int i) (.int j) H Q := ⟨rfl, by
  have e : decide (V.int i = V.int j) = decide (i = j) := by
    by_cases h : i = j
    · subst h; rw [decide_eq_true rfl, decide_eq_true rfl]
    · rw [decide_eq_false h, decide_eq_false (fun z => h (V.int.inj z))]
  rw [e]; exact q⟩
theorem w_eqB {i j : Bool} (q : Q (.bl (i == j)) H) : rEq (.bl i) (.bl j) H Q := ⟨rfl, by rw [dec_bl]; exact q⟩
theorem w_neB {i j : Bool} (q : Q (.bl (!(i == j))) H) : rNe (.bl i) (.bl j) H Q := ⟨rfl, by rw [dec_bl]; exact q⟩
theorem w_eqS {i : Str} (q : Q (.bl true) H) : rEq (.str i) (.str i) H Q := ⟨rfl, by rw [decide_eq_true rfl]; exact q⟩
theorem w_eqSF {i j : Str} (h : decide (i = j) = false) (q : Q (.bl false) H) : rEq (.str i) (.str j) H Q := ⟨rfl, by
  rw [decide_eq_false (fun z => of_decide_eq_false h (V.str.inj z))]; exact q⟩
theorem w_eqSd {i j : Str} (q : Q (.bl (decide (i = j))) H) : rEq (.str i) (.str j) H Q := ⟨rfl, by
  have e : decide (V.str i = V.str j) = decide (i = j) := by
    by_cases h : i = j
    · subst h; rw [decide_eq_true rfl, decide_eq_true rfl]
    · rw [decide_eq_false h, decide_eq_false (fun z => h (V.str.inj z))]
  rw [e]; exact q⟩
theorem w_neS {i : Str} (q : Q (.bl false) H) : rNe (.str i) (.str i) H Q := ⟨rfl, by rw [decide_eq_true rfl]; exact q⟩
theorem w_isN (q : Q (.bl (decide (x = .non))) H) : (fun (x y : V) (H : Hp) (Q : VK) => y = .non ∧ Q (.bl (decide (x = .non))) H) x .non H Q := ⟨rfl, q⟩
theorem w_ixL {p : Addr} {xs : List V} {i : Int} (h : SqL K H p xs) (ha : atI xs i = some v) (q : Q v H) : rIxL K (.ref p) (.int i) H Q := ⟨p, xs, i, v, rfl, rfl, h, ha, q⟩
theorem w_ixT {p : Addr} {xs : List V} {i : Int} (h : SqT K H p xs) (ha : atI xs i = some v) (q : Q v H) : rIxT K (.ref p) (.int i) H Q := ⟨p, xs, i, v, rfl, rfl, h, ha, q⟩
theorem w_inL {neg : Bool} {p : Addr} {xs : List V} (h : SqL K H p xs) (hx : flatV x = true) (ha : xs.all flatV = true) (q : Q (.bl (if neg then !inV x xs else inV x xs)) H) : rIn K neg x (.ref p) H Q := ⟨p, xs, rfl, Or.inl h, hx, ha, q⟩
theorem w_inT {neg : Bool} {p : Addr} {xs : List V} (h : SqT K H p xs) (hx : flatV x = true) (ha : xs.all flatV = true) (q : Q (.bl (if neg then !inV x xs else inV x xs)) H) : rIn K neg x (.ref p) H Q := ⟨p, xs, rfl, Or.inr h, hx, ha, q⟩
theorem w_call0 {sp : Sp} {E : XK} (h : tl σ H fun vs H1 => sp vs H1 Q E) : tCall sp [] E tl σ H Q := by
  have e : tCall sp [] E tl σ H Q = (tl σ H fun vs H1 => sp vs H1 Q E) := by unfold tCall; simp only [List.append_nil]
  rw [e]; exact h
theorem w_inLt {p : Addr} {xs : List V} (h : SqL K H p xs ∨ SqT K H p xs) (hb : (flatV x && xs.all flatV && inV x xs) = true) (q : Q (.bl true) H) : rIn K false x (.ref p) H Q := by
  simp only [Bool.and_eq_true] at hb
  exact ⟨p, xs, rfl, h, hb.1.1, hb.1.2, by rw [hb.2]; exact q⟩
theorem w_inLf {p : Addr} {xs : List V} (h : SqL K H p xs ∨ SqT K H p xs) (hb : (flatV x && xs.all flatV && !inV x xs) = true) (q : Q (.bl false) H) : rIn K false x (.ref p) H Q := by
  simp only [Bool.and_eq_true, Bool.not_eq_true'] at hb
  exact ⟨p, xs, rfl, h, hb.1.1, hb.1.2, by rw [hb.2]; exact q⟩
/-- built-ins by names -/
def rInt : List V → Hp → VK → Prop := fun xs H Q => (∃ i, xs = [.int i] ∧ Q (.int i) H) ∨ ∃ k, xs = [.bl k] ∧ Q (.int (if k then 1 else 0)) H
def rMax : List V → Hp → VK → Prop := fun xs H Q => ∃ i j, xs = [.int i, .int j] ∧ Q (.int (if j > i then j else i)) H
def rMin : List V → Hp → VK → Prop := fun xs H Q => ∃ i j, xs = [.int i, .int j] ∧ Q (.int (if j < i then j else i)) H
def rAbs : List V → Hp → VK → Prop := fun xs H Q => ∃ i, xs = [.int i] ∧ Q (.int (if i < 0 then -i else i)) H
def rTupS (K : PySem.W.Frag) : List V → Hp → VK → Prop := fun xs H Q => ∃ p ys, xs = [.ref p] ∧ ((SqL K H p ys ∧ ∀ l, H l = none → Q (.ref l) (upd H l (.tup ys))) ∨ (SqT K H p ys ∧ Q (.ref p) H))
theorem k_int {X : Cx} : CallR X (.type "int") rInt := call_int1
theorem k_max {X : Cx} (hc : X.calm = true) : CallR X (.builtin "max") rMax := call_max2 hc
theorem k_min {X : Cx} (hc : X.calm = true) : CallR X (.builtin "min") rMin := call_min2 hc
theorem k_abs {X : Cx} : CallR X (.builtin "abs") rAbs := call_abs
theorem k_len {X : Cx} : CallR X (.builtin "len") (rLenS X.K) := call_len_seq
theorem k_list {X : Cx} : CallR X (.type "list") (rListS X.K) := call_list_of
theorem k_tuple {X : Cx} : CallR X (.type "tuple") (rTupS X.K) := call_tuple_of
theorem w_int {i : Int} (q : Q (.int i) H) : rInt [.int i] H Q := .inl ⟨i, rfl, q⟩
theorem w_intB {k : Bool} (q : Q (.int (if k = true then 1 else 0)) H) : rInt [.bl k] H Q := .inr ⟨k, rfl, q⟩
theorem w_max {i j : Int} (q : Q (.int (if j > i then j else i)) H) : rMax [.int i, .int j] H Q := ⟨i, j, rfl, q⟩
theorem w_min {i j : Int} (q : Q (.int (if j < i then j else i)) H) : rMin [.int i, .int j] H Q := ⟨i, j, rfl, q⟩
theorem w_abs {i : Int} (q : Q (.int (if i < 0 then -i else i)) H) : rAbs [.int i] H Q := ⟨i, rfl, q⟩
theorem w_len {p : Addr} {xs : List V} (h : SqL K H p xs ∨ SqT K H p xs) (q : Q (.int (xs.length : Int)) H) : rLenS K [.ref p] H Q := ⟨p, xs, rfl, h, q⟩
theorem w_list {p : Addr} {xs : List V} (h : SqL K H p xs ∨ SqT K H p xs) (q : ∀ l H2, H l = none → Ex H H2 → H2 l = some (.lst xs) → Q (.ref l) H2) : rListS K [.ref p] H Q := ⟨p, xs, rfl, h, fun l hl => q l _ hl (Ex.new hl) upd_same⟩
theorem w_tuple {p : Addr} {xs : List V} (h : SqL K H p xs) (q : ∀ l H2, H l = none → Ex H H2 → H2 l = some (.tup xs) → Q (.ref l) H2) : rTupS K [.ref p] H Q := ⟨p, xs, rfl, .inl ⟨h, fun l hl => q l _ hl (Ex.new hl) upd_same⟩⟩
theorem w_tupleT {p : Addr} {xs : List V} (h : SqT K H p xs) (q : Q (.ref p) H) : rTupS K [.ref p] H Q := ⟨p, xs, rfl, .inr ⟨h, q⟩⟩
def rIsNo : R2 := fun x y H Q => y = .non ∧ Q (.bl (decide (x = .non))) H
def rNotNo : R2 := fun x y H Q => y = .non ∧ Q (.bl (!decide (x = .non))) H
theorem k_isN {X : Cx} : OpR X (compareOp .Is) rIsNo := op_isN
theorem k_notN {X : Cx} : OpR X (compareOp .IsNot) rNotNo := op_notN
theorem w_isNN (q : Q (.bl true) H) : rIsNo .non .non H Q := ⟨rfl, q⟩
theorem w_isNI {i : Int} (q : Q (.bl false) H) : rIsNo (.int i) .non H Q := ⟨rfl, q⟩
theorem w_isNB {i : Bool} (q : Q (.bl false) H) : rIsNo (.bl i) .non H Q := ⟨rfl, q⟩
theorem w_isNR {i : Addr} (q : Q (.bl false) H) : rIsNo (.ref i) .non H Q := ⟨rfl, q⟩
theorem w_notNN (q : Q (.bl false) H) : rNotNo .non .non H Q := ⟨rfl, q⟩
theorem w_notNI {i : Int} (q : Q (.bl true) H) : rNotNo (.int i) .non H Q := ⟨rfl, q⟩
theorem w_notNB {i : Bool} (q : Q (.bl true) H) : rNotNo (.bl i) .non H Q := ⟨rfl, q⟩
theorem w_notNR {i : Addr} (q : Q (.bl true) H) : rNotNo (.ref i) .non H Q := ⟨rfl, q⟩
theorem w_dget {td ty : TE} (h : td σ H fun x H1 => ty σ H1 fun y H2 => ∃ a v, x = .ref a ∧ DGet H2 a y (some v) ∧ Q v H2) : tDGet td ty σ H Q := h
theorem w_disp {trs : List (TE × TE)} (h : ∀ p H1, H p = none → Ex H H1 → H1 p = some (.dK []) → tPairs trs σ H1 fun ps H2 => H2 p = some (.dK []) ∧ ∃ kvs : List (Key × V), ps = kvs.map (fun kv => (kV kv.1, kv.2)) ∧ kvs.length ≤ 15 ∧ Q (.ref p) (upd H2 p (.dK (mergeK [] kvs)))) : tDisp trs σ H Q :=
  fun p hp => h p _ hp (Ex.new hp) upd_same
theorem w_pp {tk tv : TE} {r : List (TE × TE)} {B : List (V × V) → Hp → Prop} (h : tk σ H fun x H1 => tv σ H1 fun y H2 => tPairs r σ H2 fun ps H3 => B ((x, y) :: ps) H3) : tPairs ((tk, tv) :: r) σ H B := h
theorem w_pn {B : List (V × V) → Hp → Prop} (h : B [] H) : tPairs [] σ H B := h
theorem w_bm {T : String} {r : V → List V → Hp → VK → Prop} {to : TE} (h : to σ H fun x H1 => tyV K T x H1 ∧ tl σ H1 fun xs H2 => r x xs H2 Q) : tBM K T r to tl σ H Q := h
theorem w_bm0 {T : String} {r : V → List V → Hp → VK → Prop} {to : TE} (h : to σ H fun x H1 => tyV K T x H1 ∧ r x [] H1 Q) : tBM0 K T r to σ H Q := h
theorem w_tyL {p : Addr} {xs : List V} {W : Prop} (h : SqL K H p xs) (r : W) : tyV K "list" (.ref p) H ∧ W := ⟨Or.inl ⟨rfl, _, h⟩, r⟩
theorem w_app {l : Addr} {xs : List V} {y : V} (h : H l = some (.lst xs)) (hz : xs.length < 100000) (q : ∀ H2, (∀ b o, b ≠ l → H b = some o → H2 b = some o) → H2 l = some (.lst (xs ++ [y])) → Q .non H2) : rAppend (.ref l) [y] H Q :=
  ⟨l, xs, y, rfl, rfl, h, sz_lt hz, q _ (fun b o n hb => by rw [upd_ne n]; exact hb) upd_same⟩
theorem w_sl {r : V → Option Int → Option Int → Hp → VK → Prop} {to th : TO} (h : te σ H fun x H1 => to σ H1 fun l H2 => th σ H2 fun u H3 => r x l u H3 Q) : tSl r te to th σ H Q := h
theorem w_po {W : Option Int → Hp → Prop} (h : W none H) : tNoPart σ H W := h
def PartOf (W : Option Int → Hp → Prop) (x : V) (H : Hp) : Prop := ∃ i, x = .int i ∧ W (some i) H
theorem w_ps {W : Option Int → Hp → Prop} (h : te σ H fun x H1 => PartOf W x H1) : tPart te σ H W := h
theorem w_pi {W : Option Int → Hp → Prop} {i : Int} (h : W (some i) H) : PartOf W (.int i) H := ⟨i, rfl, h⟩
theorem w_slL {a : Addr} {xs : List V} {lo hi : Option Int} (h : SqL K H a xs) (q : ∀ p H2, H p = none → Ex H H2 → H2 p = some (.lst (cutV xs lo hi)) → Q (.ref p) H2) : rSlL K (.ref a) lo hi H Q := ⟨a, xs, rfl, h, fun p hp => q p _ hp (Ex.new hp) upd_same⟩
theorem cut_whole {xs : List V} {lo hi : Option Int} (h : HT.sIx xs.length 0 lo = 0 ∧ HT.sIx xs.length xs.length hi = xs.length) : cutV xs lo hi = xs := by
  unfold cutV
  rw [h.1, h.2]
  simp
theorem w_slT {a : Addr} {xs : List V} {lo hi : Option Int} (h : SqT K H a xs) (q : ∀ p H2, Ex H H2 → SqT K H2 p (cutV xs lo hi) → Q (.ref p) H2) : rSlA K (.ref a) lo hi H Q :=
  ⟨a, xs, rfl, h, fun e => q a H (Ex.refl H) (by rw [cut_whole e]; exact h), fun _ p hp => q p _ (Ex.new hp) (st_of upd_same)⟩
theorem w_catT {a b : Addr} {xs ys : List V} (h : SqT K H a xs) (h2 : SqT K H b ys) (hl : xs.length + ys.length ≤ 100000) (q : ∀ p H2, Ex H H2 → SqT K H2 p (xs ++ ys) → Q (.ref p) H2) : rCatA K (.ref a) (.ref b) H Q :=
  ⟨a, b, xs, ys, rfl, rfl, h, h2, sz_of hl, fun e => q b H (Ex.refl H) (by rw [e]; exact h2), fun _ e => q a H (Ex.refl H) (by rw [e, List.append_nil]; exact h), fun _ _ p hp => q p _ (Ex.new hp) (st_of upd_same)⟩
theorem w_catL {a b : Addr} {xs ys : List V} (h : H a = some (.lst xs)) (h2 : H b = some (.lst ys)) (hl : xs.length + ys.length ≤ 100000) (q : ∀ p H2, H p = none → Ex H H2 → H2 p = some (.lst (xs ++ ys)) → Q (.ref p) H2) : rCat (.ref a) (.ref b) H Q :=
  ⟨a, b, xs, ys, rfl, rfl, h, h2, sz_of hl, fun p hp => q p _ hp (Ex.new hp) upd_same⟩
theorem w_isi {x : V} {n : String} {t : String} {b : Bool} (ty : TyX K H x (.type t)) (e : kitB t n = some b) (q : Q (.bl b) H) : rIsi K [x, .ty n] H Q := ⟨x, .ty n, .type t, .type n, b, rfl, ClsV.ty n, ty, kit_ty e, q⟩
theorem w_isiInt {i : Int} {n : String} {b : Bool} (e : kitB "int" n = some b) (q : Q (.bl b) H) : rIsi K [.int i, .ty n] H Q := w_isi (.base (.int i)) e q
theorem w_isiNon {n : String} {b : Bool} (e : kitB "NoneType" n = some b) (q : Q (.bl b) H) : rIsi K [.non, .ty n] H Q := w_isi (.base .non) e q
theorem w_isiBl {i : Bool} {n : String} {b : Bool} (e : kitB "bool" n = some b) (q : Q (.bl b) H) : rIsi K [.bl i, .ty n] H Q := w_isi (.base (.bl i)) e q
theorem w_isiStr {i : Str} {n : String} {b : Bool} (e : kitB "str" n = some b) (q : Q (.bl b) H) : rIsi K [.str i, .ty n] H Q := w_isi (.base (.str i)) e q
theorem w_isiTup {p : Addr} {xs : List V} {n : String} {b : Bool} (h : SqT K H p xs) (e : kitB "tuple" n = some b) (q : Q (.bl b) H) : rIsi K [.ref p, .ty n] H Q := by
  rcases h with (h | ⟨o, h⟩) | ⟨o, _, _, h, c, _⟩
  · exact w_isi (.base (.tup h)) e q
  · exact w_isi (.fTuple h) e q
  · exact w_isi (.kTuple h c) e q
theorem w_isiLst {p : Addr} {xs : List V} {n : String} {b : Bool} (h : SqL K H p xs) (e : kitB "list" n = some b) (q : Q (.bl b) H) : rIsi K [.ref p, .ty n] H Q := by
  rcases h with (h | ⟨o, h⟩) | ⟨o, _, _, h, c, _⟩
  · exact w_isi (.base (.lst h)) e q
  · exact w_isi (.base (.frz h)) e q
  · exact w_isi (.kList h c) e q
theorem w_isiDK {p : Addr} {xs : List (Key × V)} {n : String} {b : Bool} (h : H p = some (.dK xs)) (e : kitB "dict" n = some b) (q : Q (.bl b) H) : rIsi K [.ref p, .ty n] H Q := w_isi (.base (.dK h)) e q
theorem w_neD {d e : PyData} (hx : Dp K H x d) (hy : Dp K H y e) (sd : SeqAt.shaped d = true) (se : SeqAt.shaped e = true) (q : Q (.bl (!PyData.eqv d e)) H) : rNeD K x y H Q := ⟨d, e, hx, hy, sd, se, q⟩
theorem w_eqD {d e : PyData} (hx : Dp K H x d) (hy : Dp K H y e) (sd : SeqAt.shaped d = true) (se : SeqAt.shaped e = true) (q : Q (.bl (PyData.eqv d e)) H) : rEqD K x y H Q := ⟨d, e, hx, hy, sd, se, q⟩
/-- a flat value as data -/
def flatD : V → PyData
  | .bl b => .bool b
  | .int i => .int i
  | .str x => .str x
  | _ => .none
def isFl : V → Bool
  | .non | .bl _ | .int _ | .str _ => true
  | _ => false
theorem dp_flat {v : V} (h : isFl v = true) : Dp K H v (flatD v) := by
  cases v <;> first | exact .non | exact .bl _ | exact .int _ | exact .str _ | cases h
theorem dp_flats : ∀ {vs : List V}, vs.all isFl = true → DpAll K H vs (vs.map flatD)
  | [], _ => .nil
  | v :: vs, h => by
    rw [List.all_cons, Bool.and_eq_true] at h
    exact .cons (dp_flat h.1) (dp_flats h.2)
theorem dp_lst {p : Addr} {vs : List V} (h : SqL K H p vs) (f : vs.all isFl = true) : Dp K H (.ref p) (.list (vs.map flatD)) := .lst h (dp_flats f)
theorem dp_tup {p : Addr} {vs : List V} (h : SqT K H p vs) (f : vs.all isFl = true) : Dp K H (.ref p) (.tuple (vs.map flatD)) := .tup h (dp_flats f)
theorem int_at {ns : List Int} {k : Int} (h0 : 0 ≤ k) (h : k < ((ns.map V.int).length : Int)) : ∃ c, atI (ns.map V.int) k = some (.int c) := by
  obtain ⟨j, rfl⟩ := Int.eq_ofNat_of_zero_le h0
  have hj : j < ns.length := by rw [List.length_map] at h; omega
  refine ⟨ns[j], atI_nat (j := j) ?_⟩
  rw [List.getElem?_map, List.getElem?_eq_getElem hj]
  rfl
/-- a new object -/
theorem w_new {m : Nat} {o : HO} (hm : m ≤ 100000) (k : ∀ p H2, H p = none → Ex H H2 → H2 p = some o → Q (.ref p) H2) : Alloc m o H Q :=
  ⟨sz_of hm, fun p hp => k p _ hp (Ex.new hp) upd_same⟩
/-- ifs over a known bool -/
theorem i_T {A B : Prop} (h : A) : if true = true then A else B := iteT h
theorem i_F {A B : Prop} (h : B) : if false = true then A else B := iteF h
theorem i_N {A B : Prop} {k : Bool} (h : if k = true then B else A) : if (!k) = true then A else B := by
  cases k
  · exact iteT (by rw [if_neg Bool.false_ne_true] at h; exact h)
  · exact iteF (by rw [if_pos rfl] at h; exact h)
theorem i_D {A B c : Prop} [Decidable c] (h1 : c → A) (h2 : ¬ c → B) : if decide c = true then A else B := by
  by_cases h : c
  · rw [decide_eq_true h]; exact iteT (h1 h)
  · rw [decide_eq_false h]; exact iteF (h2 h)
theorem i_R {A B : Prop} {α : Type} {x : α} [Decidable (x = x)] (h : A) : if decide (x = x) = true then A else B := by rw [decide_eq_true rfl]; exact iteT h
theorem i_DT {A B c : Prop} [Decidable c] (h : c) (h1 : A) : if decide c = true then A else B := by rw [decide_eq_true h]; exact iteT h1
theorem i_DF {A B c : Prop} [Decidable c] (h : ¬ c) (h1 : B) : if decide c = true then A else B := by rw [decide_eq_false h]; exact iteF h1
theorem i_B {A B : Prop} {k : Bool} (h1 : k = true → A) (h2 : k = false → B) : if k = true then A else B := by
  cases k
  · exact iteF (h2 rfl)
  · exact iteT (h1 rfl)
end
section
variable {σ : St} {H : Hp} {nx bk ct : St → Hp → Prop} {rt : VK} {t u : TS} {c : TT} {te : TE} {i : Nat} {K : PySem.W.Frag}
theorem m_norm {σ' : St} (e : σ = σ') (h : Sm t nx rt bk ct σ' H) : Sm t nx rt bk ct σ H := by rw [e]; exact h
theorem m_seq (h : Sm t (fun σ H => Sm u nx rt bk ct σ H) rt bk ct σ H) : Sm (tSeq t u) nx rt bk ct σ H := h
theorem m_cut (M : St → Hp → Prop) (h : Sm t M rt bk ct σ H) (k : ∀ σ H, M σ H → Sm u nx rt bk ct σ H) : Sm (tCut t u) nx rt bk ct σ H := ⟨M, h, k⟩
theorem m_asg (h : te σ H fun v H1 => nx (σ.set i (some v)) H1) : Sm (tAsg te (gName i)) nx rt bk ct σ H := h
theorem m_asgG {g : TG} (h : te σ H fun v H1 => g v σ H1 nx) : Sm (tAsg te g) nx rt bk ct σ H := h
theorem m_ret (h : te σ H rt) : Sm (tRet te) nx rt bk ct σ H := h
theorem m_retN (h : rt .non H) : Sm tRetN nx rt bk ct σ H := h
theorem m_drop (h : te σ H fun _ H1 => nx σ H1) : Sm (tDrop te) nx rt bk ct σ H := h
theorem m_next (h : nx σ H) : Sm tNext nx rt bk ct σ H := h
theorem m_brk (h : bk σ H) : Sm tBreak nx rt bk ct σ H := h
theorem m_cont (h : ct σ H) : Sm tCont nx rt bk ct σ H := h
theorem m_if (h : c σ H fun b H1 => if b = true then Sm t nx rt bk ct σ H1 else Sm u nx rt bk ct σ H1) : Sm (tIfS c t u) nx rt bk ct σ H := h
theorem m_fld {ta tv : TE} {f : Str} (h : tv σ H fun y H1 => ta σ H1 fun x H2 => PutOf K f y x H2 (nx σ)) : Sm (sFld K ta tv f) nx rt bk ct σ H := h
theorem m_aug {ti : TIp} {v : V} (hx : σ[i]? = some (some v)) (h : te σ H fun y H1 => ti v y H1 fun z H2 => nx (σ.set i (some z)) H2) : Sm (tAug i te ti) nx rt bk ct σ H := ⟨v, hx, h⟩
/-- o[i] = e over a list that stands in H by itself -/
theorem m_setL {p : Addr} {xs : List V} {k : Int} {j : Nat} {v : V} {Q : Hp → Prop} (h : H p = some (.lst xs)) (hj : ixN xs.length k = some j) (q : Q (upd H p (.lst (xs.set j v)))) : rSetL (.ref p) (.int k) v H Q := ⟨p, xs, k, j, rfl, rfl, h, hj, q⟩
theorem m_gsub {to ti : TE} {ts : TSet} {v : V} {Q : St → Hp → Prop} (h : to σ H fun o H1 => ti σ H1 fun i H2 => ts o i v H2 fun H3 => Q σ H3) : gSub to ti ts v σ H Q := h
/-- a loop over what J walks -/
def Fj (J : It) (g : TG) (t : TS) (nx : St → Hp → Prop) (rt : VK) (σ : St) (H : Hp) : Prop := ∃ W : Nat → Nat → St → Hp → Prop, (∃ m, W 0 m σ H) ∧ ∀ i m σ H, W i m σ H →
  (J.stop i H ∧ nx σ H) ∨ (J.go i H ∧ ∃ N : St → Hp → Prop, (∀ σ' H', N σ' H' → ∃ m', m' < m ∧ W (i + 1) m' σ' H') ∧ ∀ x H', J.yld i H x H' → g x σ H' fun σ2 H2 => t { nx := N, rt := rt, ct := N, bk := nx } σ2 H2)
theorem m_for {wi : TI} {g : TG} (h : wi σ H fun J H1 => Fj J g t nx rt σ H1) : Sm (tFor wi g t) nx rt bk ct σ H := h
theorem w_rng1 {tl : TA} {R : It → Hp → Prop} (h : tl σ H fun vs H1 => ∃ j : Int, vs = [.int j] ∧ -(2 ^ 62) ≤ j ∧ j < 2 ^ 62 ∧ R (Itr 0 j.toNat) H1) : iRng1 tl σ H R := h
theorem w_rng2 {tl : TA} {R : It → Hp → Prop} (h : tl σ H fun vs H1 => ∃ i j : Int, vs = [.int i, .int j] ∧ (-(2 ^ 62) ≤ i ∧ i < 2 ^ 62 ∧ -(2 ^ 62) ≤ j ∧ j < 2 ^ 62) ∧ R (Itr i (j - i).toNat) H1) : iRng2 tl σ H R := h
theorem w_itl {te : TE} {R : It → Hp → Prop} (h : te σ H fun x H1 => ∃ a, x = .ref a ∧ (∃ xs, SqL K H1 a xs) ∧ R (Itl K a) H1) : iList K te σ H R := h
theorem w_itt {te : TE} {R : It → Hp → Prop} (h : te σ H fun x H1 => ∃ a, x = .ref a ∧ (∃ xs, SqT K H1 a xs) ∧ R (Itt K a) H1) : iTup K te σ H R := h
theorem f_rng1 {j : Nat} {n : Int} (h0 : 0 ≤ n) (h1 : n ≤ 100000) (Pv : Nat → St → Hp → Prop) (p0 : Pv 0 σ H)
    (hs : ∀ (i : Nat) σ' H', (i : Int) < n → Pv i σ' H' → Sm t (Pv (i + 1)) rt nx (Pv (i + 1)) (σ'.set j (some (.int (i : Int)))) H') (hd : ∀ σ' H', Pv n.toNat σ' H' → nx σ' H') :
    ∃ k : Int, [V.int n] = [.int k] ∧ -(2 ^ 62) ≤ k ∧ k < 2 ^ 62 ∧ Fj (Itr 0 k.toNat) (gName j) t nx rt σ H := by
  refine ⟨n, rfl, by omega, by omega, for_range (D := ⟨nx, rt, nx, nx⟩) (lo := 0) (n := n.toNat) Pv p0 (fun i σ' H' hi p => ?_) hd⟩
  have e0 : (0 : Int) + (i : Int) = (i : Int) := Int.zero_add _
  show t { nx := Pv (i + 1), rt := rt, ct := Pv (i + 1), bk := nx } (σ'.set j (some (.int ((0 : Int) + (i : Int))))) H'
  rw [e0]
  exact hs i σ' H' (by omega) p
theorem f_rng2 {j : Nat} {lo n : Int} (h0 : -100000 ≤ lo ∧ lo ≤ 100000 ∧ -100000 ≤ n ∧ n ≤ 100000) (Pv : Nat → St → Hp → Prop) (p0 : Pv 0 σ H)
    (hs : ∀ (i : Nat) σ' H', lo + (i : Int) < n → Pv i σ' H' → Sm t (Pv (i + 1)) rt nx (Pv (i + 1)) (σ'.set j (some (.int (lo + (i : Int))))) H') (hd : ∀ σ' H', Pv (n - lo).toNat σ' H' → nx σ' H') :
    ∃ i k : Int, [V.int lo, V.int n] = [.int i, .int k] ∧ (-(2 ^ 62) ≤ i ∧ i < 2 ^ 62 ∧ -(2 ^ 62) ≤ k ∧ k < 2 ^ 62) ∧ Fj (Itr i (k - i).toNat) (gName j) t nx rt σ H :=
  ⟨lo, n, rfl, ⟨by omega, by omega, by omega, by omega⟩, for_range (D := ⟨nx, rt, nx, nx⟩) (lo := lo) (n := (n - lo).toNat) Pv p0 (fun i σ' H' hi p => hs i σ' H' (by omega) p) hd⟩
theorem f_list {g : TG} {a : Addr} {xs : List V} (hx : SqL K H a xs) (Pv : Nat → St → Hp → Prop) (p0 : Pv 0 σ H) (hl : ∀ i σ' H', i ≤ xs.length → Pv i σ' H' → SqL K H' a xs)
    (hs : ∀ i x σ' H', xs[i]? = some x → Pv i σ' H' → g x σ' H' fun σ2 H2 => Sm t (Pv (i + 1)) rt nx (Pv (i + 1)) σ2 H2) (hd : ∀ σ' H', Pv xs.length σ' H' → nx σ' H') :
    ∃ b, V.ref a = .ref b ∧ (∃ ys, SqL K H b ys) ∧ Fj (Itl K b) g t nx rt σ H := ⟨a, rfl, ⟨xs, hx⟩, for_list (D := ⟨nx, rt, nx, nx⟩) Pv p0 hl hs hd⟩
theorem f_tup {g : TG} {a : Addr} {xs : List V} (hx : SqT K H a xs) (Pv : Nat → St → Hp → Prop) (p0 : Pv 0 σ H) (hl : ∀ i σ' H', i ≤ xs.length → Pv i σ' H' → SqT K H' a xs)
    (hs : ∀ i x σ' H', xs[i]? = some x → Pv i σ' H' → g x σ' H' fun σ2 H2 => Sm t (Pv (i + 1)) rt nx (Pv (i + 1)) σ2 H2) (hd : ∀ σ' H', Pv xs.length σ' H' → nx σ' H') :
    ∃ b, V.ref a = .ref b ∧ (∃ ys, SqT K H b ys) ∧ Fj (Itt K b) g t nx rt σ H := ⟨a, rfl, ⟨xs, hx⟩, for_tup (D := ⟨nx, rt, nx, nx⟩) Pv p0 hl hs hd⟩
/-- a turn of a while -/
def Turn (W : Nat → St → Hp → Prop) (m : Nat) (t : TS) (nx : St → Hp → Prop) (rt : VK) (σ : St) (H : Hp) : Prop := ∃ N : St → Hp → Prop, (∀ σ' H', N σ' H' → ∃ m', m' < m ∧ W m' σ' H') ∧ t ⟨N, rt, nx, N⟩ σ H
theorem turn_go {W : Nat → St → Hp → Prop} {m : Nat} (h : Sm t (fun σ' H' => ∃ m', m' < m ∧ W m' σ' H') rt nx (fun σ' H' => ∃ m', m' < m ∧ W m' σ' H') σ H) : Turn W m t nx rt σ H := ⟨_, fun _ _ h => h, h⟩
theorem m_whileT (W : Nat → St → Hp → Prop) (m0 : Nat) (h0 : W m0 σ H) (hs : ∀ m σ' H', W m σ' H' → c σ' H' fun b H1 => if b = true then Turn W m t nx rt σ' H1 else nx σ' H1) : Sm (tWhile c t) nx rt bk ct σ H := ⟨W, ⟨m0, h0⟩, hs⟩
theorem m_while (W : Nat → St → Hp → Prop) (m0 : Nat) (h0 : W m0 σ H)
    (hs : ∀ m σ' H', W m σ' H' → c σ' H' fun b H1 => if b = true then Sm t (fun σ2 H2 => ∃ m', m' < m ∧ W m' σ2 H2) rt nx (fun σ2 H2 => ∃ m', m' < m ∧ W m' σ2 H2) σ' H1 else nx σ' H1)
    (mono : ∀ σ H (A B : Bool → Hp → Prop), (∀ b H, A b H → B b H) → c σ H A → c σ H B) : Sm (tWhile c t) nx rt bk ct σ H := by
  refine ⟨W, ⟨m0, h0⟩, fun m σ' H' hw => mono _ _ _ _ (fun b H1 h => ?_) (hs m σ' H' hw)⟩
  cases b
  · exact iteF (by rw [if_neg Bool.false_ne_true] at h; exact h)
  · refine iteT ⟨fun σ2 H2 => ∃ m', m' < m ∧ W m' σ2 H2, fun _ _ n => n, ?_⟩
    rw [if_pos rfl] at h
    exact h
end
theorem divW {i j : Int} (h : 0 < j) (hb : j < 2 ^ 250) : CDivW i j := wide_div (b := 250) h (by omega) (by decide) (by decide)
/-- a written tuple of texts and ints -/
def KTup (K : PySem.W.Frag) (a : Addr) (xs : List V) : Prop := ∃ (o : Obj) (its : Array Value) (n : Nat), K.lookup a = some o ∧ o.cls = .type "tuple" ∧ o.data = .seq its n ∧ its.size ≤ sizeLine ∧ Vals xs its.toList
def relB : V → Value → Bool
  | .int i, .int j _ => i == j
  | .str x, .str y _ => x == y
  | _, _ => false
def relsB : List V → List Value → Bool
  | [], [] => true
  | x :: xs, u :: us => relB x u && relsB xs us
  | _, _ => false
def tupB (o : Obj) (xs : List V) : Bool := (match o.cls with | .type t => t == "tuple" | _ => false) && match o.data with | .seq its _ => decide (its.size ≤ sizeLine) && relsB xs its.toList | _ => false
theorem relB_of : ∀ {x : V} {u : Value}, relB x u = true → RelV x u
  | .int i, .int j t, h => by
    have e : i = j := eq_of_beq h
    exact ⟨t, by rw [e]⟩
  | .str i, .str j t, h => by
    have e : i = j := eq_of_beq h
    exact ⟨t, by rw [e]⟩
theorem relsB_of : ∀ {xs : List V} {us : List Value}, relsB xs us = true → Vals xs us
  | [], [], _ => .nil
  | x :: xs, u :: us, h => by
    unfold relsB at h
    rw [Bool.and_eq_true] at h
    exact .cons (relB_of h.1) (relsB_of h.2)
theorem ktup_of {K : PySem.W.Frag} {a : Addr} {o : Obj} {xs : List V} (h : K.lookup a = some o) (t : tupB o xs = true) : KTup K a xs := by
  unfold tupB at t
  rw [Bool.and_eq_true] at t
  obtain ⟨t1, t2⟩ := t
  obtain ⟨cls, dd, data, sl⟩ := o
  cases data with
  | seq its n =>
    simp only [Bool.and_eq_true, decide_eq_true_eq] at t2
    cases cls with
    | type c =>
      have e : c = "tuple" := eq_of_beq t1
      subst e
      exact ⟨_, its, n, h, rfl, rfl, t2.1, relsB_of t2.2⟩
    | _ => cases t1
  | _ => cases t2
theorem KTup.sq {K : PySem.W.Frag} {a : Addr} {xs : List V} (h : KTup K a xs) (H : Hp) : SqT K H a xs := Or.inr h
theorem ok_body {X : Cx} {body : List Stmt} {t : TS} {Q : VK} {σ σ0 : St} {H : Hp} (h : PSs X body t) (e : σ0 = σ) (q : Sm t (fun _ H' => Q .non H') Q (fun _ _ => False) (fun _ _ => False) σ H) :
    ∃ t : TS, PSs X body t ∧ t { nx := fun _ H' => Q .non H', rt := Q } σ0 H := ⟨t, h, by subst e; exact q⟩
/-- all but one object as it was -/
def ExBut (p : Addr) (H H' : Hp) : Prop := ∀ b o, b ≠ p → H b = some o → H' b = some o
theorem ExBut.ex {p : Addr} {H0 H H' : Hp} (e : Ex H0 H) (h : H0 p = none) (m : ExBut p H H') : Ex H0 H' := fun b o hb => m b o (ne_of_none hb h) (e b o hb)
theorem ExBut.refl (p : Addr) (H : Hp) : ExBut p H H := fun _ _ _ h => h
theorem ExBut.trans {p : Addr} {H H1 H2 : Hp} (a : ExBut p H H1) (b : ExBut p H1 H2) : ExBut p H H2 := fun c o n h => b c o n (a c o n h)
theorem ExBut.of {p : Addr} {H H' : Hp} (e : Ex H H') : ExBut p H H' := fun b o _ h => e b o h
theorem ExBut.upd {p : Addr} {H H' : Hp} {o : HO} (e : ExBut p H H') : ExBut p H (upd H' p o) := fun b u n h => by rw [upd_ne n]; exact e b u n h
theorem ex_snoc {H H1 H2 : Hp} (b : Ex H1 H2) (a : Ex H H1) : Ex H H2 := a.trans b
theorem but_snoc {p : Addr} {H H1 H2 : Hp} (b : ExBut p H1 H2) (a : ExBut p H H1) : ExBut p H H2 := a.trans b
theorem but_snocE {p : Addr} {H H1 H2 : Hp} (b : Ex H1 H2) (a : ExBut p H H1) : ExBut p H H2 := a.trans (.of b)
theorem w_put {K : PySem.W.Frag} {H : Hp} {a C dx : Addr} {fs fs' : List (Str × V)} {f : Str} {y : V} {R : Hp → Prop} (h : H a = some (.ins C dx fs)) (cl : Cls K C) (n : NoAttr K C f) (hl : fs.length < 1000) (e : putF f y fs = fs') (q : ∀ H2, ExBut a H H2 → H2 a = some (.ins C dx fs') → R H2) : PutOf K f y (.ref a) H R :=
  ⟨a, C, dx, fs, rfl, h, cl, n, hl, q _ (ExBut.upd (ExBut.refl a H)) (by rw [e]; exact upd_same)⟩
theorem ex_but {p : Addr} {H0 H H' : Hp} (m : ExBut p H H') (h : H0 p = none) (e : Ex H0 H) : Ex H0 H' := ExBut.ex e h m
theorem but_get {p a : Addr} {H H' : Hp} {o : HO} (m : ExBut p H H') (n : a ≠ p) (h : H a = some o) : H' a = some o := m a o n h
theorem w_setL {p : Addr} {xs ys : List V} {k : Int} {j : Nat} {v : V} {H : Hp} {Q : Hp → Prop} (h : H p = some (.lst xs)) (hj : ixN xs.length k = some j) (e : xs.set j v = ys) (q : ∀ H2, ExBut p H H2 → H2 p = some (.lst ys) → Q H2) : rSetL (.ref p) (.int k) v H Q :=
  ⟨p, xs, k, j, rfl, rfl, h, hj, q _ (ExBut.upd (ExBut.refl p H)) (by rw [e]; exact upd_same)⟩
theorem ex_get {H1 H2 : Hp} {a : Addr} {o : HO} (e : Ex H1 H2) (h : H1 a = some o) : H2 a = some o := e a o h
theorem small {n m : Nat} (h : n ≤ m) (hm : m ≤ 1000) : n ≤ 1000 := Nat.le_trans h hm
end Kit

namespace Kit
open PySem PySem.Spec PyProof.Rows L2 Evl
/-! ### the walk by words: "wp" goes as far as it can, "wp1" one step; "hp": what stands at an address; "sq": a list, a tuple is there; "side": a side condition -/
end Kit

namespace Kit
open PySem PySem.Spec PyProof.Rows L2 Evl
/-! ### comprehensions -/
def Lcj (J : It) (g : TG) (tt : TT) (te : TE) (vs : List Nat) (σ : St) (H1 : Hp) (Q : VK) : Prop := ∀ D, H1 D = none → ∃ W : Nat → Nat → Hp → Prop, (∃ m, W 0 m (upd H1 D (.lst []))) ∧ ∀ i m H, W i m H →
  (J.stop i H ∧ Q (.ref D) H) ∨ (J.go i H ∧ ∃ Nx : Hp → Prop, (∀ H', Nx H' → ∃ m', m' < m ∧ W (i + 1) m' H') ∧ ∀ x H', J.yld i H x H' → g x (wipe σ vs) H' fun σ2 H2 => wipe σ2 vs = wipe σ vs ∧ tt σ2 H2 fun b H3 =>
    if b = true then te σ2 H3 fun y H4 => ∃ acc, H4 D = some (.lst acc) ∧ acc.length < sizeLine ∧ Nx (upd H4 D (.lst (acc ++ [y]))) else Nx H3)
section
variable {σ : St} {H : Hp} {Q : VK} {j : Nat} {vs : List Nat} {te : TE} {tt : TT} {K : PySem.W.Frag}
theorem w_lc {wi : TI} {g : TG} {tt : TT} (h : wi σ H fun J H1 => Lcj J g tt te vs σ H1 Q) : tLc wi g tt te vs σ H Q := h
theorem w_rng3 {tl : TA} {R : It → Hp → Prop} (h : tl σ H fun vs H1 => ∃ (i j c : Int) (n : Nat), vs = [.int i, .int j, .int c] ∧ RgC i j c n ∧ R (Itc i c n) H1) : iRng3 tl σ H R := h
/-- what J walks, while S stands -/
structure Walks (J : It) (n : Nat) (x : Nat → V) (S : Hp → Prop) : Prop where
  stop : ∀ H, S H → J.stop n H
  go : ∀ i H, S H → i < n → J.go i H
  yld : ∀ i H y H', S H → i < n → J.yld i H y H' → H' = H ∧ y = x i
theorem walks_rng {lo : Int} {n : Nat} : Walks (Itr lo n) n (fun i => .int (lo + i)) (fun _ => True) := ⟨fun _ _ => Nat.le_refl n, fun _ _ _ h => h, fun _ _ _ _ _ _ h => h⟩
theorem walks_rngC {lo c : Int} {n : Nat} : Walks (Itc lo c n) n (fun i => .int (lo + (i : Nat) * c)) (fun _ => True) := ⟨fun _ _ => Nat.le_refl n, fun _ _ _ h => h, fun _ _ _ _ _ _ h => h⟩
theorem walks_list {a : Addr} {xs : List V} : Walks (Itl K a) xs.length (fun i => (xs[i]?).getD .non) (fun H => SqL K H a xs) := by
  refine ⟨fun H h => ⟨xs, h, Nat.le_refl _⟩, fun i H h hi => ⟨xs, xs[i], h, List.getElem?_eq_getElem hi⟩, fun i H y H' h hi hy => ⟨hy.1, ?_⟩⟩
  rw [hy.2 xs h]
  rfl
theorem walks_tup {a : Addr} {xs : List V} : Walks (Itt K a) xs.length (fun i => (xs[i]?).getD .non) (fun H => SqT K H a xs) := by
  refine ⟨fun H h => ⟨xs, h, Nat.le_refl _⟩, fun i H h hi => ⟨xs, xs[i], h, List.getElem?_eq_getElem hi⟩, fun i H y H' h hi hy => ⟨hy.1, ?_⟩⟩
  rw [hy.2 xs h]
  rfl
/-- any turn's word: Iv by the new list's address, the turn, what it holds -/
theorem l_any {J : It} {n : Nat} {x : Nat → V} {S : Hp → Prop} (w : Walks J n x S) (hn : n ≤ 40000) (hw : ∀ v, wipe ((wipe σ vs).set j (some v)) vs = wipe σ vs)
    (Iv : Addr → Nat → List V → Hp → Prop) (hS : ∀ D i acc H', Iv D i acc H' → S H') (h0 : ∀ D, H D = none → Iv D 0 [] (upd H D (.lst [])))
    (he : ∀ D i acc H', H D = none → i < n → acc.length ≤ i → H' D = some (.lst acc) → Iv D i acc H' → ∀ R : Bool → Hp → Prop, (∀ H2, H2 D = some (.lst acc) → Iv D (i + 1) acc H2 → R false H2) →
      (∀ H2, (∀ R2 : VK, (∀ y H3, H3 D = some (.lst acc) → Iv D (i + 1) (acc ++ [y]) (upd H3 D (.lst (acc ++ [y]))) → R2 y H3) → te ((wipe σ vs).set j (some (x i))) H2 R2) → R true H2) → tt ((wipe σ vs).set j (some (x i))) H' R)
    (q : ∀ D acc H2, H D = none → acc.length ≤ n → H2 D = some (.lst acc) → Iv D n acc H2 → Q (.ref D) H2) : Lcj J (gName j) tt te vs σ H Q := by
  intro D hD
  refine ⟨fun i m H' => i ≤ n ∧ m = n - i ∧ ∃ acc, acc.length ≤ i ∧ H' D = some (.lst acc) ∧ Iv D i acc H', ⟨n, Nat.zero_le _, by omega, [], Nat.le_refl 0, upd_same, h0 D hD⟩, fun i m H' ⟨hi, hm, acc, ha, hd, iv⟩ => ?_⟩
  by_cases hlt : i < n
  · refine .inr ⟨w.go i H' (hS _ _ _ _ iv) hlt, fun H'' => ∃ acc, acc.length ≤ i + 1 ∧ H'' D = some (.lst acc) ∧ Iv D (i + 1) acc H'', fun H'' h => ⟨n - (i + 1), by omega, by omega, rfl, h⟩, fun y H'' hy => ?_⟩
    obtain ⟨rfl, rfl⟩ := w.yld i H' y H'' (hS _ _ _ _ iv) hlt hy
    refine ⟨hw _, ?_⟩
    refine he D i acc H'' hD hlt ha hd iv _ (fun H2 h2 iv2 => ?_) fun H2 h => ?_
    · exact iteF ⟨acc, by omega, h2, iv2⟩
    · refine iteT (h _ fun v H3 h3 iv3 => ?_)
      exact ⟨acc, h3, sz_lt (by omega), acc ++ [v], by rw [List.length_append]; exact Nat.succ_le_succ ha, upd_same, iv3⟩
  · have e : i = n := by omega
    subst e
    exact .inl ⟨w.stop H' (hS _ _ _ _ iv), q D acc H' hD ha hd iv⟩
/-- items that only make new objects, no test: Pe says what the i-th is -/
theorem l_grow {J : It} {n : Nat} {x : Nat → V} {S : Hp → Prop} (w : Walks J n x S) (hn : n ≤ 40000) (hw : ∀ v, wipe ((wipe σ vs).set j (some v)) vs = wipe σ vs)
    (s0 : S H) (sm : ∀ H1 H2, Ex H1 H2 → S H1 → S H2) (Pe : Addr → Nat → V → Hp → Prop) (pm : ∀ D i v H1 H2, ExBut D H1 H2 → Pe D i v H1 → Pe D i v H2)
    (he : ∀ D i acc H', H D = none → i < n → Ex H H' → H' D = some (.lst acc) → ∀ R : VK, (∀ v H2, Ex H' H2 → Pe D i v H2 → R v H2) → te ((wipe σ vs).set j (some (x i))) H' R)
    (q : ∀ D ys H2, H D = none → Ex H H2 → H2 D = some (.lst ys) → ys.length = n → (∀ i y, ys[i]? = some y → Pe D i y H2) → Q (.ref D) H2) : Lcj J (gName j) tYes te vs σ H Q := by
  refine l_any w hn hw (fun D i acc H' => H D = none ∧ Ex H H' ∧ acc.length = i ∧ ∀ k y, acc[k]? = some y → Pe D k y H') (fun D i acc H' h => sm _ _ h.2.1 s0) (fun D hD => ⟨hD, Ex.new hD, rfl, fun k y h => by simp at h⟩) ?_ ?_
  · intro D i acc H' hD hi ha hd ⟨_, e, hl, hp⟩ R r1 r2
    refine r2 H' fun R2 r => ?_
    refine he D i acc H' hD hi e hd R2 fun v H2 e2 pv => ?_
    have m1 : ExBut D H' (upd H2 D (.lst (acc ++ [v]))) := ExBut.upd (.of e2)
    have m2 : ExBut D H2 (upd H2 D (.lst (acc ++ [v]))) := ExBut.upd (.refl D H2)
    refine r v H2 (e2 D _ hd) ⟨hD, ExBut.ex e hD m1, by rw [List.length_append, hl]; rfl, fun k y hk => ?_⟩
    by_cases h : k < acc.length
    · rw [List.getElem?_append_left h] at hk
      exact pm D k y _ _ m1 (hp k y hk)
    · have hlen : k < (acc ++ [v]).length := (List.getElem?_eq_some_iff.mp hk).1
      rw [List.length_append] at hlen
      have e : k = acc.length := by simp at hlen; omega
      rw [e, List.getElem?_concat_length] at hk
      cases hk
      rw [e, hl]
      exact pm D i v _ _ m2 pv
  · intro D acc H2 hD _ hd ⟨_, e, hl, hp⟩
    exact q D acc H2 hD e hd hl hp
theorem eq_map {ys : List V} {n : Nat} {v : Nat → V} (hl : ys.length = n) (h : ∀ i y, ys[i]? = some y → y = v i) : ys = (List.range n).map v := by
  apply List.ext_getElem?
  intro i
  by_cases hi : i < n
  · rw [List.getElem?_map, List.getElem?_range hi, List.getElem?_eq_getElem (by omega)]
    exact congrArg some (h i _ (List.getElem?_eq_getElem (by omega)))
  · rw [List.getElem?_eq_none (by omega), List.getElem?_eq_none (by rw [List.length_map, List.length_range]; omega)]
/-- items that are told: the i-th is v i -/
theorem l_val {J : It} {n : Nat} {x : Nat → V} {S : Hp → Prop} (w : Walks J n x S) (hn : n ≤ 40000) (hw : ∀ v, wipe ((wipe σ vs).set j (some v)) vs = wipe σ vs)
    (s0 : S H) (sm : ∀ H1 H2, Ex H1 H2 → S H1 → S H2) (v : Nat → V)
    (he : ∀ i H', i < n → Ex H H' → ∀ R : VK, (∀ H2, Ex H' H2 → R (v i) H2) → te ((wipe σ vs).set j (some (x i))) H' R)
    (q : ∀ p H2, H p = none → Ex H H2 → H2 p = some (.lst ((List.range n).map v)) → Q (.ref p) H2) : Lcj J (gName j) tYes te vs σ H Q :=
  l_grow w hn hw s0 sm (fun _ i y _ => y = v i) (fun _ _ _ _ _ _ h => h) (fun D i acc H' hD hi e hd R r => he i H' hi e R fun H2 e2 => r _ H2 e2 rfl)
    fun D ys H2 hD e hd hl hp => q D H2 hD e (by rw [hd, eq_map hl hp])
/-- over range(n) -/
theorem l_rng1 {n : Int} (h0 : 0 ≤ n) (hn : n ≤ 40000) (hw : ∀ v, wipe ((wipe σ vs).set j (some v)) vs = wipe σ vs) (v : Nat → V)
    (he : ∀ (i : Nat) H', (i : Int) < n → Ex H H' → ∀ R : VK, (∀ H2, Ex H' H2 → R (v i) H2) → te ((wipe σ vs).set j (some (.int (i : Int)))) H' R)
    (q : ∀ p H2, H p = none → Ex H H2 → H2 p = some (.lst ((List.range n.toNat).map v)) → Q (.ref p) H2) :
    ∃ k : Int, [V.int n] = [.int k] ∧ -(2 ^ 62) ≤ k ∧ k < 2 ^ 62 ∧ Lcj (Itr 0 k.toNat) (gName j) tYes te vs σ H Q :=
  ⟨n, rfl, by omega, by omega, l_val walks_rng (by omega) hw trivial (fun _ _ _ h => h) v (fun i H' hi e R r => by
    have e0 : (0 : Int) + (i : Int) = (i : Int) := Int.zero_add _
    show te ((wipe σ vs).set j (some (.int (0 + (i : Int))))) H' R
    rw [e0]
    exact he i H' (by omega) e R r) q⟩
/-- over range(0, n, 2) -/
theorem l_rng2 {n : Int} {m : Nat} (h0 : n = 2 * m) (hn : m ≤ 40000) (hw : ∀ v, wipe ((wipe σ vs).set j (some v)) vs = wipe σ vs) (v : Nat → V)
    (he : ∀ (i : Nat) H', i < m → Ex H H' → ∀ R : VK, (∀ H2, Ex H' H2 → R (v i) H2) → te ((wipe σ vs).set j (some (.int (2 * (i : Int))))) H' R)
    (q : ∀ p H2, H p = none → Ex H H2 → H2 p = some (.lst ((List.range m).map v)) → Q (.ref p) H2) :
    ∃ (a b c : Int) (k : Nat), [V.int 0, V.int n, V.int 2] = [.int a, .int b, .int c] ∧ RgC a b c k ∧ Lcj (Itc a c k) (gName j) tYes te vs σ H Q := by
  have hr : RgC 0 n 2 m := by
    refine ⟨by decide, by decide, ?_, ?_⟩
    · subst h0
      unfold Builtin.Range.small Builtin.Range.rangeSize
      rw [if_pos (show (2 : Int) > 0 by decide), if_pos (show (2 : Int) > 0 by decide)]
      have hf : ∀ x : Int, 0 ≤ x → x ≤ 100000 → Builtin.Range.rangeFitsLong x = true := fun x h1 h2 => by
        unfold Builtin.Range.rangeFitsLong
        simp only [Bool.and_eq_true, decide_eq_true_eq]
        omega
      have h3 : (0 : Int) ≤ (if (0 : Int) < 2 * (m : Int) then (2 * (m : Int) - 0 - 1) / 2 + 1 else 0) ∧ (if (0 : Int) < 2 * (m : Int) then (2 * (m : Int) - 0 - 1) / 2 + 1 else 0) ≤ 100000 := by split <;> omega
      rw [hf 0 (by omega) (by omega), hf (2 * (m : Int)) (by omega) (by omega), hf 2 (by omega) (by omega), hf _ h3.1 h3.2, hf (2 * (m : Int) + (2 - 1)) (by omega) (by omega)]
      simp
    · subst h0
      unfold Builtin.Range.rangeSize
      split <;> omega
  refine ⟨0, n, 2, m, rfl, hr, l_val walks_rngC hn hw trivial (fun _ _ _ h => h) v (fun i H' hi e R r => ?_) q⟩
  have e0 : (0 : Int) + (i : Int) * 2 = 2 * (i : Int) := by omega
  show te ((wipe σ vs).set j (some (.int (0 + (i : Int) * 2)))) H' R
  rw [e0]
  exact he i H' hi e R r
/-- over a list -/
theorem l_list {a : Addr} {xs : List V} (hx : SqL K H a xs) (hn : xs.length ≤ 40000) (hw : ∀ v, wipe ((wipe σ vs).set j (some v)) vs = wipe σ vs) (v : Nat → V)
    (he : ∀ (i : Nat) x H', xs[i]? = some x → Ex H H' → ∀ R : VK, (∀ H2, Ex H' H2 → R (v i) H2) → te ((wipe σ vs).set j (some x)) H' R)
    (q : ∀ p H2, H p = none → Ex H H2 → H2 p = some (.lst ((List.range xs.length).map v)) → Q (.ref p) H2) :
    ∃ b, V.ref a = .ref b ∧ (∃ ys, SqL K H b ys) ∧ Lcj (Itl K b) (gName j) tYes te vs σ H Q :=
  ⟨a, rfl, ⟨xs, hx⟩, l_val walks_list hn hw hx (fun _ _ e h => ex_l e h) v (fun i H' hi e R r => by
    have z : xs[i]? = some xs[i] := List.getElem?_eq_getElem hi
    show te ((wipe σ vs).set j (some ((xs[i]?).getD .non))) H' R
    rw [z]
    exact he i xs[i] H' z e R r) q⟩
theorem l_tup {a : Addr} {xs : List V} (hx : SqT K H a xs) (hn : xs.length ≤ 40000) (hw : ∀ v, wipe ((wipe σ vs).set j (some v)) vs = wipe σ vs) (v : Nat → V)
    (he : ∀ (i : Nat) x H', xs[i]? = some x → Ex H H' → ∀ R : VK, (∀ H2, Ex H' H2 → R (v i) H2) → te ((wipe σ vs).set j (some x)) H' R)
    (q : ∀ p H2, H p = none → Ex H H2 → H2 p = some (.lst ((List.range xs.length).map v)) → Q (.ref p) H2) :
    ∃ b, V.ref a = .ref b ∧ (∃ ys, SqT K H b ys) ∧ Lcj (Itt K b) (gName j) tYes te vs σ H Q :=
  ⟨a, rfl, ⟨xs, hx⟩, l_val walks_tup hn hw hx (fun _ _ e h => ex_t e h) v (fun i H' hi e R r => by
    have z : xs[i]? = some xs[i] := List.getElem?_eq_getElem hi
    show te ((wipe σ vs).set j (some ((xs[i]?).getD .non))) H' R
    rw [z]
    exact he i xs[i] H' z e R r) q⟩
end
end Kit

namespace Kit
open PySem PySem.Spec PyProof.Rows L2 Evl
/-! ### the rules that speak of the written part, with it named -/
section
variable (K : PySem.W.Frag) {X : Cx}
theorem ixL (h : X.K = K := by rfl) : IxR X (rIxL K) := h ▸ ix_list
theorem ixT (h : X.K = K := by rfl) : IxR X (rIxT K) := h ▸ ix_tup
theorem kLen (h : X.K = K := by rfl) : CallR X (.builtin "len") (rLenS K) := h ▸ call_len_seq
theorem kList (h : X.K = K := by rfl) : CallR X (.type "list") (rListS K) := h ▸ call_list_of
theorem kTuple (h : X.K = K := by rfl) : CallR X (.type "tuple") (rTupS K) := h ▸ call_tuple_of
theorem kIn (h : X.K = K := by rfl) : OpR X (compareOp .In) (rIn K false) := h ▸ op_in_seq
theorem kNotIn (h : X.K = K := by rfl) : OpR X (compareOp .NotIn) (rIn K true) := h ▸ op_notIn_seq
theorem kEqD (hu : X.A.units + 64 < cLine) (h : X.K = K := by rfl) : OpR X (compareOp .Eq) (rEqD K) := h ▸ op_eqD hu
theorem kNeD (hu : X.A.units + 64 < cLine) (h : X.K = K := by rfl) : OpR X (compareOp .NotEq) (rNeD K) := h ▸ op_neD hu
theorem kCat (h : X.K = K := by rfl) : OpR X (binaryOp .Add) (rCatA K) := h ▸ op_catA
theorem kRepT (h : X.K = K := by rfl) : OpR X (binaryOp .Mult) (rRepT K) := h ▸ op_repT
theorem kSlL (h : X.K = K := by rfl) : SlR X (rSlL K) := h ▸ sl_list
theorem kSlT (h : X.K = K := by rfl) : SlR X (rSlA K) := h ▸ sl_tupA
theorem kIsi (h : X.K = K := by rfl) : CallR X (.builtin "isinstance") (rIsi K) := h ▸ call_isi
theorem kFld {e : Expr} {ta : TE} {f : Str} {pos : Pos} (he : PE X e ta) (hb : attributeBase e f X.env (eval e X.env) = eval e X.env) (h : X.K = K := by rfl) : PE X (.Attribute e f pos) (tFld K ta f) := h ▸ pe_fld he hb
theorem kSet {o value : Expr} {ta tv : TE} {f : Str} {pos pos' : Pos} (ha : PE X o ta) (hv : PE X value tv) (hs : swapsWith value (some (.Attribute o f pos')) pos.line X.env = pure false) (h : X.K = K := by rfl) : PS X (.Assign [.Attribute o f pos'] value pos) (sFld K ta tv f) := h ▸ ps_fld ha hv hs
theorem kpList {tg l : Expr} {tl : TE} (hl : PE X l tl) (h : X.K = K := by rfl) : PI X tg l (iList K tl) := h ▸ pi_list hl
theorem kpTup {tg l : Expr} {tl : TE} (hl : PE X l tl) (h : X.K = K := by rfl) : PI X tg l (iTup K tl) := h ▸ pi_tup hl
theorem kgTup {es : List Expr} {k : Nat} {t : TGs} {n : Nat} {pos : Pos} (hc : X.calm = true) (hg : PGs X es t) (hn : (assignEach es X.env).length = n := by rfl) (hst : (assignEach es X.env).findIdx? (·.1) = none := by rfl) (h : X.K = K := by rfl) : PG X (.Tuple es k pos) (gTup K n t) := h ▸ pg_tup hc hg hn hst
end
end Kit

namespace Kit
open PySem PySem.Spec PyProof.Rows L2 Evl
/-! ### == of data -/
def isFlN : V → Bool
  | .non | .bl _ | .int _ => true
  | _ => false
theorem fln_fl : ∀ {vs : List V}, vs.all isFlN = true → vs.all isFl = true
  | [], _ => rfl
  | v :: vs, h => by
    rw [List.all_cons, Bool.and_eq_true] at h ⊢
    refine ⟨?_, fln_fl h.2⟩
    cases v <;> first | rfl | cases h.1
theorem flats_ok : ∀ {vs : List V}, vs.all isFlN = true → PyData.canLayAll0 (vs.map flatD) = true ∧ PyData.depthAll (vs.map flatD) = 0
  | [], _ => ⟨rfl, rfl⟩
  | v :: vs, h => by
    rw [List.all_cons, Bool.and_eq_true] at h
    obtain ⟨h1, h2⟩ := flats_ok h.2
    have h3 : (flatD v).canLay0 = true ∧ PyData.depth (flatD v) = 0 := by
      cases v <;> first | (cases h.1; done) | exact ⟨by simp [flatD, PyData.canLay0], by simp [flatD, PyData.depth]⟩
    rw [List.map_cons, PyData.canLayAll0, PyData.depthAll, h1, h2, h3.1, h3.2]
    exact ⟨rfl, rfl⟩
theorem shaped_tup {vs : List V} (h : vs.all isFlN = true) : SeqAt.shaped (.tuple (vs.map flatD)) = true := by
  obtain ⟨h1, h2⟩ := flats_ok h
  unfold SeqAt.shaped
  rw [PyData.canLay0, PyData.depth, h1, h2]
  rfl
theorem shaped_lst {vs : List V} (h : vs.all isFlN = true) : SeqAt.shaped (.list (vs.map flatD)) = true := by
  obtain ⟨h1, h2⟩ := flats_ok h
  unfold SeqAt.shaped
  rw [PyData.canLay0, PyData.depth, h1, h2]
  rfl
theorem ints_fln : ∀ r : List Int, (r.map V.int).all isFlN = true
  | [] => rfl
  | _ :: r => by
    rw [List.map_cons, List.all_cons, ints_fln r]
    rfl
theorem eqvAll_ints : ∀ r s : List Int, PyData.eqvAll ((r.map V.int).map flatD) ((s.map V.int).map flatD) = decide (r = s)
  | [], [] => by simp [PyData.eqvAll]
  | [], _ :: _ => by simp [PyData.eqvAll]
  | _ :: _, [] => by simp [PyData.eqvAll]
  | x :: r, y :: s => by
    show PyData.eqvAll (.int x :: (r.map V.int).map flatD) (.int y :: (s.map V.int).map flatD) = _
    rw [PyData.eqvAll, eqvAll_ints r s]
    by_cases h : x = y
    · subst h
      simp [PyData.eqv]
    · simp [PyData.eqv, h]
section
variable {H : Hp} {Q : VK} {K : PySem.W.Frag} {a b : Addr} {r s : List Int}
theorem w_neTT (h1 : SqT K H a (r.map V.int)) (h2 : SqT K H b (s.map V.int)) (q : Q (.bl (!decide (r = s))) H) : rNeD K (.ref a) (.ref b) H Q :=
  w_neD (dp_tup h1 (fln_fl (ints_fln r))) (dp_tup h2 (fln_fl (ints_fln s))) (shaped_tup (ints_fln r)) (shaped_tup (ints_fln s)) (by rw [PyData.eqv, eqvAll_ints]; exact q)
theorem w_eqTT (h1 : SqT K H a (r.map V.int)) (h2 : SqT K H b (s.map V.int)) (q : Q (.bl (decide (r = s))) H) : rEqD K (.ref a) (.ref b) H Q :=
  w_eqD (dp_tup h1 (fln_fl (ints_fln r))) (dp_tup h2 (fln_fl (ints_fln s))) (shaped_tup (ints_fln r)) (shaped_tup (ints_fln s)) (by rw [PyData.eqv, eqvAll_ints]; exact q)
theorem w_neLL (h1 : SqL K H a (r.map V.int)) (h2 : SqL K H b (s.map V.int)) (q : Q (.bl (!decide (r = s))) H) : rNeD K (.ref a) (.ref b) H Q :=
  w_neD (dp_lst h1 (fln_fl (ints_fln r))) (dp_lst h2 (fln_fl (ints_fln s))) (shaped_lst (ints_fln r)) (shaped_lst (ints_fln s)) (by rw [PyData.eqv, eqvAll_ints]; exact q)
theorem w_eqLL (h1 : SqL K H a (r.map V.int)) (h2 : SqL K H b (s.map V.int)) (q : Q (.bl (decide (r = s))) H) : rEqD K (.ref a) (.ref b) H Q :=
  w_eqD (dp_lst h1 (fln_fl (ints_fln r))) (dp_lst h2 (fln_fl (ints_fln s))) (shaped_lst (ints_fln r)) (shaped_lst (ints_fln s)) (by rw [PyData.eqv, eqvAll_ints]; exact q)
end
end Kit
namespace Kit
open PySem PySem.Spec PyProof.Rows L2 Evl
/-! ### steps of the walk that ask nothing: found by the goal's head -/
class Step (G : Prop) (G' : outParam Prop) : Prop where
  go : G' → G
theorem step {G G' : Prop} [h : Step G G'] (x : G') : G := h.go x
class GetN (l : St) (i : Nat) (v : outParam V) : Prop where
  eq : l[i]? = some (some v)
class SetN (l : St) (i : Nat) (f : outParam (V → St)) : Prop where
  eq : ∀ v, l.set i (some v) = f v
section
variable {l : St} {a : Option V} {v : V} {n : Nat} {f : V → St}
instance : GetN (some v :: l) 0 v := ⟨rfl⟩
instance [h : GetN l n v] : GetN (a :: l) (n + 1) v := ⟨h.eq⟩
instance : SetN (a :: l) 0 (fun v => some v :: l) := ⟨fun _ => rfl⟩
instance [h : SetN l n f] : SetN (a :: l) (n + 1) (fun v => a :: f v) := ⟨fun v => congrArg (a :: ·) (h.eq v)⟩
end
section
variable {σ : St} {H H1 H2 : Hp} {Q : VK} {R : Bool → Hp → Prop} {A : List V → Hp → Prop} {i n : Nat} {v x y : V} {ta tb te tv : TE} {tl tr : TA} {b : Bool} {K : PySem.W.Frag} {C dx p : Addr} {fs : List (Str × V)} {f : Str} {t u c : TT}
instance [h : GetN σ i v] : Step (tVar i σ H Q) (Q v H) := ⟨fun q => w_var h.eq q⟩
instance : Step (tC v σ H Q) (Q v H) := ⟨w_c⟩
instance {r : R2} : Step (tOp r ta tb σ H Q) (ta σ H fun x H1 => tb σ H1 fun y H2 => r x y H2 Q) := ⟨w_op⟩
instance {r : V → Hp → VK → Prop} : Step (tUn r ta σ H Q) (ta σ H fun x H1 => r x H1 Q) := ⟨w_un⟩
instance {r : List V → Hp → VK → Prop} : Step (tCB r tl σ H Q) (tl σ H fun vs H1 => r vs H1 Q) := ⟨w_cb⟩
instance : Step (tNil σ H A) (A [] H) := ⟨w_nil⟩
instance : Step (tCons te tr σ H A) (te σ H fun x H1 => tr σ H1 fun xs H2 => A (x :: xs) H2) := ⟨w_cons⟩
instance : Step (tTup tl σ H Q) (tl σ H fun xs H1 => Alloc xs.length (.tup xs) H1 Q) := ⟨w_tup⟩
instance : Step (tLst tl σ H Q) (tl σ H fun xs H1 => Alloc xs.length (.lst xs) H1 Q) := ⟨w_lst⟩
instance {sp : Sp} {E : XK} : Step (tCall sp [] E tl σ H Q) (tl σ H fun vs H1 => sp vs H1 Q E) := ⟨w_call0⟩
instance : Step (tTest te σ H R) (te σ H fun x H' => ∃ k, x = .bl k ∧ R k H') := ⟨w_test⟩
instance : Step (tB te σ H R) (te σ H fun x H' => ∃ k, x = .bl k ∧ R k H') := ⟨w_B⟩
instance : Step (tAnd t u σ H R) (t σ H fun c H1 => if c = true then u σ H1 R else R false H1) := ⟨w_and⟩
instance : Step (tOr t u σ H R) (t σ H fun c H1 => if c = true then R true H1 else u σ H1 R) := ⟨w_or⟩
instance : Step (tNot t σ H R) (t σ H fun c H1 => R (!c) H1) := ⟨w_not⟩
instance : Step (tAndV ta tb σ H Q) (ta σ H fun x H1 => ∃ c, x = .bl c ∧ if c = true then tb σ H1 Q else Q (.bl false) H1) := ⟨w_andV⟩
instance : Step (tOrV ta tb σ H Q) (ta σ H fun x H1 => ∃ c, x = .bl c ∧ if c = true then Q (.bl true) H1 else tb σ H1 Q) := ⟨w_orV⟩
instance : Step (tNotV ta σ H Q) (ta σ H fun x H1 => ∃ c, x = .bl c ∧ Q (.bl (!c)) H1) := ⟨w_notV⟩
instance : Step (tIf t ta tb σ H Q) (t σ H fun c H1 => if c = true then ta σ H1 Q else tb σ H1 Q) := ⟨w_ifE⟩
instance : Step (tFld K ta f σ H Q) (ta σ H fun x H1 => FldOf K f x H1 Q) := ⟨w_fld⟩
instance {m : Str} {sp : Sp} {E : XK} : Step (tMeth C m sp [] E ta tl σ H Q) (ta σ H fun x H1 => InsOf C m x H1 (tl σ H1 fun vs H2 => sp (x :: vs) H2 Q E)) := ⟨w_meth⟩
instance {sp : Sp} {E : XK} : Step (tMake C sp [] E tl σ H Q) (tl σ H fun vs H1 => MakeOf C sp E vs H1 Q) := ⟨w_make⟩
instance {k : Bool} {P : Bool → Prop} : Step (∃ k', V.bl k = V.bl k' ∧ P k') (P k) := ⟨w_blE⟩
instance {g : Int → Int → V} {i j : Int} : Step (rI0 g (.int i) (.int j) H Q) (Q (g i j) H) := ⟨w_I0⟩
instance {g : Int → V} {i : Int} : Step (rU g (.int i) H Q) (Q (g i) H) := ⟨w_U⟩
instance {i j : Int} : Step (rEq (.int i) (.int j) H Q) (Q (.bl (decide (i = j))) H) := ⟨w_eqI⟩
instance {i j : Int} : Step (rNe (.int i) (.int j) H Q) (Q (.bl (!decide (i = j))) H) := ⟨w_neI⟩
instance {i j : Bool} : Step (rEq (.bl i) (.bl j) H Q) (Q (.bl (i == j)) H) := ⟨w_eqB⟩
instance {i : Int} : Step (rInt [.int i] H Q) (Q (.int i) H) := ⟨w_int⟩
instance {i j : Int} : Step (rMax [.int i, .int j] H Q) (Q (.int (if j > i then j else i)) H) := ⟨w_max⟩
instance {i j : Int} : Step (rMin [.int i, .int j] H Q) (Q (.int (if j < i then j else i)) H) := ⟨w_min⟩
instance {i : Int} : Step (rAbs [.int i] H Q) (Q (.int (if i < 0 then -i else i)) H) := ⟨w_abs⟩
instance : Step (rIsNo .non .non H Q) (Q (.bl true) H) := ⟨w_isNN⟩
instance {i : Int} : Step (rIsNo (.int i) .non H Q) (Q (.bl false) H) := ⟨w_isNI⟩
instance {i : Bool} : Step (rIsNo (.bl i) .non H Q) (Q (.bl false) H) := ⟨w_isNB⟩
instance {i : Addr} : Step (rIsNo (.ref i) .non H Q) (Q (.bl false) H) := ⟨w_isNR⟩
instance : Step (rNotNo .non .non H Q) (Q (.bl false) H) := ⟨w_notNN⟩
instance {i : Int} : Step (rNotNo (.int i) .non H Q) (Q (.bl true) H) := ⟨w_notNI⟩
instance {i : Bool} : Step (rNotNo (.bl i) .non H Q) (Q (.bl true) H) := ⟨w_notNB⟩
instance {i : Addr} : Step (rNotNo (.ref i) .non H Q) (Q (.bl true) H) := ⟨w_notNR⟩
instance {T : String} {r : V → List V → Hp → VK → Prop} {to : TE} : Step (tBM K T r to tl σ H Q) (to σ H fun x H1 => tyV K T x H1 ∧ tl σ H1 fun xs H2 => r x xs H2 Q) := ⟨w_bm⟩
instance {T : String} {r : V → List V → Hp → VK → Prop} {to : TE} : Step (tBM0 K T r to σ H Q) (to σ H fun x H1 => tyV K T x H1 ∧ r x [] H1 Q) := ⟨w_bm0⟩
instance {r : V → Option Int → Option Int → Hp → VK → Prop} {to th : TO} : Step (L2.tSl r te to th σ H Q) (te σ H fun x H1 => to σ H1 fun l H2 => th σ H2 fun u H3 => r x l u H3 Q) := ⟨w_sl⟩
instance {W : Option Int → Hp → Prop} : Step (tNoPart σ H W) (W none H) := ⟨w_po⟩
instance {W : Option Int → Hp → Prop} : Step (tPart te σ H W) (te σ H fun x H1 => PartOf W x H1) := ⟨w_ps⟩
instance {W : Option Int → Hp → Prop} {i : Int} : Step (PartOf W (.int i) H) (W (some i) H) := ⟨w_pi⟩
instance {A B : Prop} : Step (if true = true then A else B) A := ⟨i_T⟩
instance {A B : Prop} : Step (if false = true then A else B) B := ⟨i_F⟩
instance {A B : Prop} {k : Bool} : Step (if (!k) = true then A else B) (if k = true then B else A) := ⟨i_N⟩
end
section
variable {σ : St} {H : Hp} {nx bk ct : St → Hp → Prop} {rt : VK} {t u : TS} {c : TT} {te : TE} {i : Nat} {K : PySem.W.Frag} {vs : List Nat} {Q : VK}
instance (priority := 2000) {l : St} {v : V} {f : V → St} [h : SetN l i f] : Step (Sm t nx rt bk ct (l.set i (some v)) H) (Sm t nx rt bk ct (f v) H) := ⟨fun q => by rw [h.eq]; exact q⟩
instance : Step (Sm (tSeq t u) nx rt bk ct σ H) (Sm t (fun σ H => Sm u nx rt bk ct σ H) rt bk ct σ H) := ⟨m_seq⟩
instance (priority := high) {f : V → St} [h : SetN σ i f] : Step (Sm (tAsg te (gName i)) nx rt bk ct σ H) (te σ H fun v H1 => nx (f v) H1) := ⟨fun q => m_asg (by simp only [h.eq]; exact q)⟩
instance (priority := low) {g : TG} : Step (Sm (tAsg te g) nx rt bk ct σ H) (te σ H fun v H1 => g v σ H1 nx) := ⟨m_asgG⟩
instance : Step (Sm (tRet te) nx rt bk ct σ H) (te σ H rt) := ⟨m_ret⟩
instance : Step (Sm tRetN nx rt bk ct σ H) (rt .non H) := ⟨m_retN⟩
instance : Step (Sm (tDrop te) nx rt bk ct σ H) (te σ H fun _ H1 => nx σ H1) := ⟨m_drop⟩
instance : Step (Sm tNext nx rt bk ct σ H) (nx σ H) := ⟨m_next⟩
instance : Step (Sm tBreak nx rt bk ct σ H) (bk σ H) := ⟨m_brk⟩
instance : Step (Sm tCont nx rt bk ct σ H) (ct σ H) := ⟨m_cont⟩
instance : Step (Sm (tIfS c t u) nx rt bk ct σ H) (c σ H fun b H1 => if b = true then Sm t nx rt bk ct σ H1 else Sm u nx rt bk ct σ H1) := ⟨m_if⟩
instance {ta tv : TE} {f : Str} : Step (Sm (sFld K ta tv f) nx rt bk ct σ H) (tv σ H fun y H1 => ta σ H1 fun x H2 => PutOf K f y x H2 (nx σ)) := ⟨m_fld⟩
instance {wi : TI} {g : TG} : Step (Sm (tFor wi g t) nx rt bk ct σ H) (wi σ H fun J H1 => Fj J g t nx rt σ H1) := ⟨m_for⟩
instance {tl : TA} {R : It → Hp → Prop} : Step (iRng1 tl σ H R) (tl σ H fun vs H1 => ∃ j : Int, vs = [.int j] ∧ -(2 ^ 62) ≤ j ∧ j < 2 ^ 62 ∧ R (Itr 0 j.toNat) H1) := ⟨w_rng1⟩
instance {tl : TA} {R : It → Hp → Prop} : Step (iRng2 tl σ H R) (tl σ H fun vs H1 => ∃ i j : Int, vs = [.int i, .int j] ∧ (-(2 ^ 62) ≤ i ∧ i < 2 ^ 62 ∧ -(2 ^ 62) ≤ j ∧ j < 2 ^ 62) ∧ R (Itr i (j - i).toNat) H1) := ⟨w_rng2⟩
instance {tl : TA} {R : It → Hp → Prop} : Step (iRng3 tl σ H R) (tl σ H fun vs H1 => ∃ (i j c : Int) (n : Nat), vs = [.int i, .int j, .int c] ∧ RgC i j c n ∧ R (Itc i c n) H1) := ⟨w_rng3⟩
instance {R : It → Hp → Prop} : Step (iList K te σ H R) (te σ H fun x H1 => ∃ a, x = .ref a ∧ (∃ xs, SqL K H1 a xs) ∧ R (Itl K a) H1) := ⟨w_itl⟩
instance {R : It → Hp → Prop} : Step (iTup K te σ H R) (te σ H fun x H1 => ∃ a, x = .ref a ∧ (∃ xs, SqT K H1 a xs) ∧ R (Itt K a) H1) := ⟨w_itt⟩
instance {wi : TI} {g : TG} {tt : TT} : Step (tLc wi g tt te vs σ H Q) (wi σ H fun J H1 => Lcj J g tt te vs σ H1 Q) := ⟨w_lc⟩
end
end Kit

set_option Elab.async false
set_option linter.all false
namespace KM
/-! ### rows, their levels, roots and paths, for any fold f -/
section
variable (f : Int → Int → Int)
def pairs : List Int → List Int
  | x :: y :: r => f x y :: pairs r
  | _ => []
def levs : Nat → List Int → List (List Int)
  | 0, r => [r]
  | k + 1, r => r :: levs k (pairs f r)
def rootM : Nat → List Int → Int
  | 0, r => r.headD 0
  | k + 1, r => rootM k (pairs f r)
def nb (p : Nat) : Nat := if p % 2 = 0 then p + 1 else p - 1
def pathM : Nat → List Int → Nat → List Int
  | 0, _, _ => []
  | k + 1, r, p => (r[nb p]?).getD 0 :: pathM k (pairs f r) (p / 2)
def rootBy : Nat → Int → List Int → Int
  | _, d, [] => d
  | p, d, x :: r => rootBy (p / 2) (if p % 2 = 0 then f d x else f x d) r
variable {f}
theorem pairs_len : ∀ (r : List Int) {n : Nat}, r.length = 2 * n → (pairs f r).length = n
  | [], 0, _ => rfl
  | [], n + 1, h => by simp at h
  | [_], n, h => by simp at h; omega
  | x :: y :: r, 0, h => by simp at h
  | x :: y :: r, n + 1, h => by
    have h2 : r.length = 2 * n := by simp at h; omega
    show (f x y :: pairs f r).length = n + 1
    rw [List.length_cons, pairs_len r h2]
theorem pairs_get : ∀ (r : List Int) {i : Nat} {x y : Int}, r[2 * i]? = some x → r[2 * i + 1]? = some y → (pairs f r)[i]? = some (f x y)
  | [], i, _, _, h, _ => by simp at h
  | [_], 0, _, _, _, h => by simp at h
  | [_], i + 1, _, _, h, _ => by
    rw [show 2 * (i + 1) = 2 * i + 1 + 1 by omega] at h
    simp at h
  | a :: b :: r, 0, x, y, h, h2 => by
    have e1 : a = x := by simpa using h
    have e2 : b = y := by simpa using h2
    subst e1 e2
    rfl
  | a :: b :: r, i + 1, x, y, h, h2 => by
    rw [show 2 * (i + 1) = 2 * i + 1 + 1 by omega] at h
    rw [show 2 * (i + 1) + 1 = 2 * i + 1 + 1 + 1 by omega] at h2
    exact pairs_get r (i := i) (by simpa using h) (by simpa using h2)
theorem pairs_append : ∀ (a b : List Int) {n : Nat}, a.length = 2 * n → pairs f (a ++ b) = pairs f a ++ pairs f b
  | [], b, _, _ => rfl
  | [_], _, n, h => by simp at h; omega
  | x :: y :: r, b, 0, h => by simp at h
  | x :: y :: r, b, n + 1, h => by
    have h2 : r.length = 2 * n := by simp at h; omega
    show f x y :: pairs f (r ++ b) = f x y :: pairs f r ++ pairs f b
    rw [pairs_append r b h2]
    rfl
theorem two_pow (k : Nat) : 2 ^ (k + 1) = 2 * 2 ^ k := by rw [Nat.pow_succ]; omega
theorem root_halves : ∀ (k : Nat) (a b : List Int), a.length = 2 ^ k → b.length = 2 ^ k → rootM f (k + 1) (a ++ b) = f (rootM f k a) (rootM f k b)
  | 0, a, b, ha, hb => by
    match a, b, ha, hb with
    | [x], [y], _, _ => rfl
  | k + 1, a, b, ha, hb => by
    rw [two_pow] at ha hb
    show rootM f (k + 1) (pairs f (a ++ b)) = f (rootM f k (pairs f a)) (rootM f k (pairs f b))
    rw [pairs_append a b ha]
    exact root_halves k _ _ (pairs_len a ha) (pairs_len b hb)
theorem path_left : ∀ (k : Nat) (a b : List Int) (p : Nat), a.length = 2 ^ k → b.length = 2 ^ k → p < 2 ^ k → pathM f (k + 1) (a ++ b) p = pathM f k a p ++ [rootM f k b]
  | 0, a, b, p, ha, hb, hp => by
    match a, b, ha, hb with
    | [x], [y], _, _ =>
      have e : p = 0 := by omega
      subst e
      rfl
  | k + 1, a, b, p, ha, hb, hp => by
    have hp2 : nb p < a.length := by
      rw [ha, two_pow]
      rw [two_pow] at hp
      unfold nb
      split <;> omega
    rw [two_pow] at ha hb hp
    show ((a ++ b)[nb p]?).getD 0 :: pathM f (k + 1) (pairs f (a ++ b)) (p / 2) = (a[nb p]?).getD 0 :: pathM f k (pairs f a) (p / 2) ++ [rootM f k (pairs f b)]
    rw [pairs_append a b ha, path_left k _ _ (p / 2) (pairs_len a ha) (pairs_len b hb) (by omega), List.getElem?_append_left hp2]
    rfl
theorem path_right : ∀ (k : Nat) (a b : List Int) (p : Nat), a.length = 2 ^ k → b.length = 2 ^ k → p < 2 ^ k → pathM f (k + 1) (a ++ b) (2 ^ k + p) = pathM f k b p ++ [rootM f k a]
  | 0, a, b, p, ha, hb, hp => by
    match a, b, ha, hb with
    | [x], [y], _, _ =>
      have e : p = 0 := by omega
      subst e
      rfl
  | k + 1, a, b, p, ha, hb, hp => by
    rw [two_pow] at ha hb hp ⊢
    have hn : nb (2 * 2 ^ k + p) = a.length + nb p := by
      rw [ha]
      unfold nb
      by_cases h : p % 2 = 0
      · rw [if_pos h, if_pos (by omega)]; omega
      · rw [if_neg h, if_neg (by omega)]; omega
    have hd : (2 * 2 ^ k + p) / 2 = 2 ^ k + p / 2 := by omega
    show ((a ++ b)[nb (2 * 2 ^ k + p)]?).getD 0 :: pathM f (k + 1) (pairs f (a ++ b)) ((2 * 2 ^ k + p) / 2) = (b[nb p]?).getD 0 :: pathM f k (pairs f b) (p / 2) ++ [rootM f k (pairs f a)]
    rw [pairs_append a b ha, hd, path_right k _ _ (p / 2) (pairs_len a ha) (pairs_len b hb) (by omega), hn, List.getElem?_append_right (Nat.le_add_right _ _), Nat.add_sub_cancel_left]
    rfl
theorem path_len : ∀ (k : Nat) (r : List Int) (p : Nat), (pathM f k r p).length = k
  | 0, _, _ => rfl
  | k + 1, r, p => by
    show (_ :: pathM f k _ _).length = _
    rw [List.length_cons, path_len k]
theorem levs_len : ∀ (k : Nat) (r : List Int), (levs f k r).length = k + 1
  | 0, _ => rfl
  | k + 1, r => by
    show (r :: levs f k (pairs f r)).length = _
    rw [List.length_cons, levs_len k]
/-- the root by its path -/
theorem rootBy_path : ∀ (k : Nat) (r : List Int) (p : Nat) (d : Int), r.length = 2 ^ k → r[p]? = some d → rootBy f p d (pathM f k r p) = rootM f k r
  | 0, r, p, d, hr, hd => by
    match r, hr with
    | [x], _ =>
      cases p with
      | zero =>
        have e : x = d := by simpa using hd
        subst e
        rfl
      | succ p => simp at hd
  | k + 1, r, p, d, hr, hd => by
    rw [two_pow] at hr
    have hp : p < 2 * 2 ^ k := by
      have := (List.getElem?_eq_some_iff.mp hd).1
      omega
    have hl : (pairs f r).length = 2 ^ k := pairs_len r hr
    show rootBy f (p / 2) (if p % 2 = 0 then f d ((r[nb p]?).getD 0) else f ((r[nb p]?).getD 0) d) (pathM f k (pairs f r) (p / 2)) = rootM f k (pairs f r)
    refine rootBy_path k _ (p / 2) _ hl ?_
    by_cases h : p % 2 = 0
    · have e : nb p = p + 1 := by unfold nb; rw [if_pos h]
      have hq : p + 1 < r.length := by omega
      rw [if_pos h, e, List.getElem?_eq_getElem hq]
      refine pairs_get r (i := p / 2) ?_ ?_
      · rw [show 2 * (p / 2) = p by omega]; exact hd
      · rw [show 2 * (p / 2) + 1 = p + 1 by omega, List.getElem?_eq_getElem hq]; rfl
    · have e : nb p = p - 1 := by unfold nb; rw [if_neg h]
      have hq : p - 1 < r.length := by omega
      rw [if_neg h, e, List.getElem?_eq_getElem hq]
      refine pairs_get r (i := p / 2) ?_ ?_
      · rw [show 2 * (p / 2) = p - 1 by omega, List.getElem?_eq_getElem hq]; rfl
      · rw [show 2 * (p / 2) + 1 = p by omega]; exact hd
end
end KM

set_option Elab.async false
set_option linter.all false
set_option maxRecDepth 100000
set_option maxHeartbeats 4000000
/-! A book's dicts: keys (kind, text), a text being a number or a tuple of numbers. -/
namespace Kit
open PySem PySem.Spec PyProof.Rows L2 Evl
inductive TK where
  | num (i : Int)
  | nums (is : List Int)
deriving DecidableEq
def TK.nk : TK → NestedKey
  | .num i => .num i
  | .nums is => .tup (is.map .num)
/-- the value x is the text t -/
def TVal (H : Hp) : TK → V → Prop
  | .num i, x => x = .int i
  | .nums is, x => ∃ a, x = .ref a ∧ H a = some (.tup (is.map V.int))
abbrev BK := Str × TK
def bk (k : BK) : NestedKey := .tup [.text k.1, k.2.nk]
def KeyAt (H : Hp) (k : BK) (b : Addr) : Prop := ∃ x, H b = some (.tup [.str k.1, x]) ∧ TVal H k.2 x
theorem nums_inj : ∀ {a b : List Int}, a.map NestedKey.num = b.map NestedKey.num → a = b
  | [], [], _ => rfl
  | [], _ :: _, e => by simp at e
  | _ :: _, [], e => by simp at e
  | x :: a, y :: b, e => by
    simp only [List.map_cons, List.cons.injEq, NestedKey.num.injEq] at e
    rw [e.1, nums_inj e.2]
theorem nk_inj {a b : TK} (e : a.nk = b.nk) : a = b := by
  cases a <;> cases b <;> simp only [TK.nk, NestedKey.num.injEq, NestedKey.tup.injEq, reduceCtorEq] at e
  · rw [e]
  · rw [nums_inj e]
theorem bk_inj {a b : BK} (e : bk a = bk b) : a = b := by
  obtain ⟨a1, a2⟩ := a
  obtain ⟨b1, b2⟩ := b
  simp only [bk, NestedKey.tup.injEq, List.cons.injEq, NestedKey.text.injEq, and_true] at e
  rw [e.1, nk_inj e.2]
theorem depth_nums : ∀ is : List Int, NestedKey.depthAll (is.map .num) = 0
  | [] => rfl
  | _ :: is => by rw [List.map_cons, NestedKey.depthAll, depth_nums is]; rfl
theorem bk_depth (k : BK) : (bk k).depth ≤ 8 := by
  obtain ⟨x, t⟩ := k
  cases t <;> simp [bk, TK.nk, NestedKey.depth, NestedKey.depthAll, depth_nums]
theorem nums_all {h : Heap} : ∀ {is : List Int} {us : List Value}, Vals (is.map V.int) us → NestedAll h (is.map .num) us
  | [], _, r => by cases r; exact .nil
  | i :: is, _, r => by
    rw [List.map_cons] at r
    cases r with
    | cons a t =>
      obtain ⟨z, rfl⟩ := (show ∃ z, _ = Value.int i z from a)
      exact .cons (.int i z) (nums_all t)
section
variable {P : Program} {w : World} {H H' : Hp} {h : Heap} {a b : Addr} {k : BK} {t : TK} {x : V} {u : Value}
theorem tval_is (ok : HOk P w H h) (r : RelV x u) (e : TVal H t x) : NestedIs h t.nk u := by
  cases t with
  | num i =>
    obtain rfl := e
    obtain ⟨z, rfl⟩ := (show ∃ z, u = Value.int i z from r)
    exact .int i z
  | nums is =>
    obtain ⟨c, rfl, e⟩ := e
    obtain rfl := (show u = Value.ref c from r)
    obtain ⟨_, its, rs, o, h1, h2, n, h3⟩ := (show ObjOk P w H h c (.tup _) from ok c _ e)
    exact .tup h1 h2 h3 (by rw [List.toList_toArray]; exact nums_all rs)
theorem key_is (ok : HOk P w H h) (e : KeyAt H k b) : (nestedKind P w).is h (bk k) b := by
  obtain ⟨x, e, t⟩ := e
  obtain ⟨_, its, rs, o, h1, h2, n, h3⟩ := (show ObjOk P w H h b (.tup _) from ok b _ e)
  refine ⟨.tup h1 h2 h3 ?_, bk_depth k⟩
  rw [List.toList_toArray]
  cases rs with
  | cons r1 r2 =>
    cases r2 with
    | cons r2 r3 =>
      cases r3
      obtain ⟨z, rfl⟩ := (show ∃ z, _ = Value.str k.1 z from r1)
      exact .cons (.text _ z) (.cons (tval_is ok r2 t) .nil)
theorem TVal.mono (m : ∀ c xs, H c = some (.tup xs) → H' c = some (.tup xs)) (e : TVal H t x) : TVal H' t x := by
  cases t with
  | num i => exact e
  | nums is => exact let ⟨c, e1, e2⟩ := e; ⟨c, e1, m _ _ e2⟩
theorem KeyAt.mono (m : ∀ c xs, H c = some (.tup xs) → H' c = some (.tup xs)) (e : KeyAt H k b) : KeyAt H' k b := let ⟨x, e1, e2⟩ := e; ⟨x, m _ _ e1, e2.mono m⟩
end
/-- the entries that stand in the dict, and what is told of them -/
def ERel (H : Hp) (p : BK × V) (q : NestedKey × Addr × Value) : Prop := q.1 = bk p.1 ∧ KeyAt H p.1 q.2.1 ∧ RelV p.2 q.2.2
abbrev Ents (H : Hp) := Paired (ERel H)
def bkPhi (P : Program) (w : World) (a : Addr) (xs : List (NestedKey × Addr × Value)) (h : Heap) : Prop :=
  xs.length ≤ sizeLine ∧ (a == sysModules) = false ∧ ∃ o es ep, h.get? a = some o ∧ o.ExactDict ∧ o.data = .dict es ep ∧ es.toList = xs.map (entryOfKey (nestedKind P w)) ∧ (xs.map (·.1)).Nodup
def bkO (P : Program) (w : World) (a : Addr) (xs : List (NestedKey × Addr × Value)) : HO := .ext (bkPhi P w a xs)
/-- at a: a book's dict -/
def BkAt (P : Program) (w : World) (H : Hp) (a : Addr) (kvs : List (BK × V)) : Prop := (kvs = [] ∧ H a = some (.dK [])) ∨ ∃ xs, H a = some (bkO P w a xs) ∧ Ents H kvs xs
section
variable {P : Program} {w : World} {H H' : Hp} {h : Heap} {a b : Addr} {k : BK} {kvs : List (BK × V)} {xs : List (NestedKey × Addr × Value)} {y : V} {u : Value}
theorem Ents.mono (m : ∀ c zs, H c = some (.tup zs) → H' c = some (.tup zs)) (r : Ents H kvs xs) : Ents H' kvs xs := Paired.mapP r fun _ _ z => ⟨z.1, z.2.1.mono m, z.2.2⟩
theorem BkAt.mono (e : BkAt P w H a kvs) (ha : ∀ o, H a = some o → H' a = some o) (m : ∀ c zs, H c = some (.tup zs) → H' c = some (.tup zs)) : BkAt P w H' a kvs := by
  rcases e with ⟨e1, e2⟩ | ⟨xs, e1, e2⟩
  · exact .inl ⟨e1, ha _ e2⟩
  · exact .inr ⟨xs, ha _ e1, Ents.mono m e2⟩
theorem BkAt.ex (e : BkAt P w H a kvs) (x : Ex H H') : BkAt P w H' a kvs := e.mono (fun o => x _ o) fun c zs => x c _
theorem Ents.find (r : Ents H kvs xs) (k : BK) : RelO (valV kvs k) ((atKey xs (bk k)).map (·.2)) := by
  induction r with
  | nil => exact True.intro
  | @cons p q ps qs z t ih =>
    obtain ⟨z1, _, z3⟩ := z
    by_cases e : p.1 = k
    · rw [valV_pos e, show atKey (q :: qs) (bk k) = some q.2 from by simp [atKey, List.find?_cons, z1, e]]
      exact z3
    · have e' : ¬ q.1 = bk k := fun c => e (bk_inj (z1.symm.trans c))
      rw [valV_neg e, show atKey (q :: qs) (bk k) = atKey qs (bk k) from by simp [atKey, List.find?_cons, e']]
      exact ih
theorem Ents.store (r : Ents H kvs xs) (hb : KeyAt H k b) (ry : RelV y u) : Ents H (putK kvs k y) (storedH xs (bk k) b u) := by
  have same : (kvs.any fun kv => decide (kv.1 = k)) = (atKey xs (bk k)).isSome := by rw [valV_any, (r.find k).isSome_eq, Option.isSome_map]
  unfold putK storedH
  rw [same]
  cases (atKey xs (bk k)).isSome with
  | false => exact Paired.snoc r ⟨rfl, hb, ry⟩
  | true =>
    show Ents H (kvs.map _) (xs.map _)
    clear same
    induction r with
    | nil => exact .nil
    | @cons p q ps qs z t ih =>
      refine .cons ?_ ih
      obtain ⟨z1, z2, z3⟩ := z
      unfold putAt
      show ERel H (if p.1 = k then (p.1, y) else p) _
      by_cases e : p.1 = k
      · rw [if_pos e, if_pos (z1.trans (congrArg bk e))]
        exact ⟨z1, z2, ry⟩
      · rw [if_neg e, if_neg fun c => e (bk_inj (z1.symm.trans c))]
        exact ⟨z1, z2, z3⟩
theorem ents_is (ok : HOk P w H h) : ∀ {kvs : List (BK × V)} {xs : List (NestedKey × Addr × Value)}, Ents H kvs xs → ∀ x ∈ xs, (nestedKind P w).is h x.1 x.2.1
  | _, _, .nil => fun _ m => nomatch m
  | _, _, .cons z t => fun x m => by
    rcases List.mem_cons.mp m with rfl | m
    · rw [z.1]
      exact key_is ok z.2.1
    · exact ents_is ok t x m
theorem bk_of (ok : HOk P w H h) (e : BkAt P w H a kvs) : kvs.length ≤ sizeLine ∧ (a == sysModules) = false ∧ ∃ xs, Ents H kvs xs ∧ h.DictOfH (nestedKind P w) a xs := by
  rcases e with ⟨rfl, e⟩ | ⟨xs, e, r⟩
  · obtain ⟨z, hd, vs, rel, o, es, ep, h1, h2, h3, _, h5, _⟩ := dk_of ok e
    cases rel
    refine ⟨z, hd, [], .nil, o, es, ep, h1, h2, h3, ?_, fun _ m => (nomatch m), List.nodup_nil⟩
    cases hes : es.toList with
    | nil => rfl
    | cons _ _ => rw [hes] at h5; cases h5
  · obtain ⟨z, hd, o, es, ep, h1, h2, h3, h4, h5⟩ := (show ObjOk P w H h a (.ext (bkPhi P w a xs)) from ok a _ e).1
    exact ⟨by rw [Paired.length r]; exact z, hd, xs, r, o, es, ep, h1, h2, h3, h4, ents_is ok r, h5⟩
theorem bk_mut (e : BkAt P w H a kvs) : Mut (H a) := by
  rcases e with ⟨_, e⟩ | ⟨_, e, _⟩ <;> (rw [e]; exact True.intro)
theorem bk_no (e : BkAt P w H a kvs) {c : Addr} {zs : List V} (hc : H c = some (.tup zs)) : c ≠ a := by
  rintro rfl
  rcases e with ⟨_, e⟩ | ⟨_, e, _⟩ <;> (rw [hc] at e; cases e)
theorem bk_new (z : xs.length ≤ sizeLine) (hd : (a == sysModules) = false) (dd : h.DictOfH (nestedKind P w) a xs) : ObjOk P w H h a (bkO P w a xs) := by
  obtain ⟨o, es, ep, h1, h2, h3, h4, _, h5⟩ := dd
  exact ⟨⟨z, hd, o, es, ep, h1, h2, h3, h4, h5⟩, ⟨o, h1⟩, fun g1 g2 q m => let ⟨q1, q2, o', es', ep', p1, p2⟩ := q; ⟨q1, q2, o', es', ep', m _ p1, p2⟩⟩
theorem bk_put (e : BkAt P w H a kvs) (r : Ents H kvs xs) (hb : KeyAt H k b) (ry : RelV y u) : BkAt P w (upd H a (bkO P w a (storedH xs (bk k) b u))) a (putK kvs k y) :=
  .inr ⟨_, upd_same, Ents.mono (fun c zs hc => by rw [upd_ne (bk_no e hc)]; exact hc) (r.store hb ry)⟩
theorem storedH_len {κ : Type} [DecidableEq κ] (xs : List (κ × Addr × Value)) (q : κ) (b : Addr) (u : Value) : (storedH xs q b u).length ≤ xs.length + 1 := by
  unfold storedH
  split <;> simp
theorem room8 {A : Around} (hu : A.units + 64 < cLine) : (nestedKind P w).room A.in1 := by
  show A.units + 1 + 8 < cLine
  omega
end
section
variable {X : Cx} {pins : List (Addr × Obj)} {σ : St} {H : Hp} {s : Shared} {a b : Addr} {y : V} {r : Value} {k : BK} {kvs : List (BK × V)} {A : Around} {E : Value → Shared → Prop}
theorem bk_write {h' : Heap} {t' : Nat} {xs : List (NestedKey × Addr × Value)} {u : Value} (I : Inv X pins σ H s) (e : BkAt X.prog X.w H a kvs) (hs : Heap.SameBut a s.heap h') (hd : (a == sysModules) = false) (hl : xs.length < sizeLine)
    (dd : h'.DictOfH (nestedKind X.prog X.w) a (storedH xs (bk k) b u)) : Inv X pins σ (upd H a (bkO X.prog X.w a (storedH xs (bk k) b u))) { s with heap := h', toks := t' } := by
  have there : ∃ q, h'.get? a = some q := let ⟨q, _, _, hq, _⟩ := dd; ⟨q, hq⟩
  exact d_write I (bk_mut e) hs there (bk_new (Nat.le_trans (storedH_len ..) hl) hd dd)
theorem bk_setItem {Q : Unit → Shared → Prop} (hu : A.units + 64 < cLine) (I : Inv X pins σ H s) (e : BkAt X.prog X.w H a kvs) (hb : KeyAt H k b) (hl : kvs.length < sizeLine) (ry : RelV y r)
    (q : ∀ H' s', ExBut a H H' → BkAt X.prog X.w H' a (putK kvs k y) → Inv X pins σ H' s' → Q () s') : wpAny (model X.prog X.w) A (setItem (.ref a) (.ref b) r) Q E s := by
  obtain ⟨z, hd, xs, rel, dd⟩ := bk_of I.hok e
  have hx : xs.length < sizeLine := by rw [← Paired.length rel]; exact hl
  exact wpAny_setItem_heap (hsz := Nat.le_of_lt hx) (room8 hu) (key_is I.hok hb) dd fun h' dd' hs => q _ _ (ExBut.upd (ExBut.refl a H)) (bk_put e rel hb ry) (bk_write I e hs hd hx dd')
theorem bk_setd {Q : Value → Shared → Prop} (hu : A.units + 64 < cLine) (I : Inv X pins σ H s) (e : BkAt X.prog X.w H a kvs) (hb : KeyAt H k b) (hl : kvs.length < sizeLine) (ry : RelV y r)
    (q1 : ∀ v, valV kvs k = some v → ∀ v' s', RelV v v' → Inv X pins σ H s' → Q v' s')
    (q2 : valV kvs k = none → ∀ H' s', ExBut a H H' → BkAt X.prog X.w H' a (putK kvs k y) → Inv X pins σ H' s' → Q r s') : wpAny (model X.prog X.w) A (call (.builtin "dict.setdefault") [.ref a, .ref b, r]) Q E s := by
  obtain ⟨z, hd, xs, rel, dd⟩ := bk_of I.hok e
  have hx : xs.length < sizeLine := by rw [← Paired.length rel]; exact hl
  have f := rel.find k
  refine call_setdefault_heap (hsz := Nat.le_of_lt hx) (room8 hu) (key_is I.hok hb) hd dd (fun p hp => ?_) fun hn h' dd' hs => ?_
  · rw [hp] at f
    cases hv : valV kvs k with
    | none => rw [hv] at f; exact (show False from f).elim
    | some v => rw [hv] at f; exact q1 v hv _ _ f (I.tok _)
  · rw [hn] at f
    cases hv : valV kvs k with
    | some v => rw [hv] at f; exact (show False from f).elim
    | none => exact q2 hv _ _ (ExBut.upd (ExBut.refl a H)) (bk_put e rel hb ry) (bk_write I e hs hd hx dd')
end
/-! ### the rules -/
def BkIn (P : Program) (w : World) (x : V) (H : Hp) (R : Addr → Prop) : Prop := ∃ a, x = .ref a ∧ (∃ kvs, BkAt P w H a kvs) ∧ R a
def BkPut (P : Program) (w : World) (a : Addr) (y v : V) (H : Hp) (W : Hp → Prop) : Prop := ∃ kvs k b, BkAt P w H a kvs ∧ y = .ref b ∧ KeyAt H k b ∧ kvs.length < sizeLine ∧ ∀ H', ExBut a H H' → BkAt P w H' a (putK kvs k v) → W H'
def BkSetd (P : Program) (w : World) (a : Addr) (y v : V) (H : Hp) (Q : VK) : Prop := ∃ kvs k b, BkAt P w H a kvs ∧ y = .ref b ∧ KeyAt H k b ∧ kvs.length < sizeLine ∧ (∀ u, valV kvs k = some u → Q u H) ∧ (valV kvs k = none → ∀ H', ExBut a H H' → BkAt P w H' a (putK kvs k v) → Q v H')
def sBkPut (P : Program) (w : World) (td ty tv : TE) : TS := fun D σ H => tv σ H fun v H1 => td σ H1 fun x H2 => ty σ H2 fun y H3 => ∃ a, x = .ref a ∧ BkPut P w a y v H3 (D.nx σ)
def tBkSetd (P : Program) (w : World) (td ty tx : TE) : TE := fun σ H Q => td σ H fun x H1 => BkIn P w x H1 fun a => ty σ H1 fun y H2 => tx σ H2 fun z H3 => BkSetd P w a y z H3 Q
def rLenB (P : Program) (w : World) : List V → Hp → VK → Prop := fun xs H Q => ∃ p kvs, xs = [.ref p] ∧ BkAt P w H p kvs ∧ Q (.int (kvs.length : Int)) H
section
variable {X : Cx} {o i f value : Expr} {td ty tv tx : TE} {pos pos' : Pos}
theorem bkPut' (hu : X.A.units + 64 < cLine) (ho : PE X o td) (hi : PE X i ty) (hv : PE X value tv) (hs : swapsWith value (some (.Subscript o i pos')) pos.line X.env = pure false) : PS X (.Assign [.Subscript o i pos'] value pos) (sBkPut X.prog X.w td ty tv) := by
  constructor
  intro pins s σ H D I h
  refine wpAny_Assign_Subscript ?_ hs
  refine thn (hv.run pins s σ H _ I h) fun r s1 z1 => ?_
  obtain ⟨v, H1, I1, rv, z1⟩ := z1
  refine thn (ho.run pins s1 σ H1 _ I1 z1) fun u s2 z2 => ?_
  obtain ⟨x, H2, I2, rx, z2⟩ := z2
  refine thn (hi.run pins s2 σ H2 _ I2 z2) fun iv s3 z3 => ?_
  obtain ⟨y, H3, I3, ry, a, rfl, kvs, k, b, e, rfl, hb, hl, q⟩ := z3
  obtain rfl := (show u = Value.ref a from rx)
  obtain rfl := (show iv = Value.ref b from ry)
  exact bk_setItem hu I3 e hb hl rv fun H4 s4 m e4 I4 => ⟨σ, H4, I4, q H4 m e4⟩
theorem bkSetd' {apos cpos : Pos} (hu : X.A.units + 64 < cLine) (ho : PE X o td) (hi : PE X i ty) (hf : PE X f tx) (m : M2 X o "setdefault" apos i f cpos) : PE X (.Call (.Attribute o "setdefault" apos) [i, f] [] cpos) (tBkSetd X.prog X.w td ty tx) := by
  constructor
  intro pins s σ H Q I h
  refine wpAny_Call_method m.base m.few m.line PySem.F.plainAttrs_dict PySem.F.slot_dict_setdefault PySem.F.type_dict_setdefault ?_
  refine thn (ho.run pins s σ H _ I h) fun u s1 z1 => ?_
  obtain ⟨x, H1, I1, rx, a, rfl, ⟨kv1, e1⟩, z1⟩ := z1
  obtain rfl := (show u = Value.ref a from rx)
  obtain ⟨_, _, xs, _, dd⟩ := bk_of I1.hok e1
  refine ⟨dd.typeIs, fun c hc => ?_, ?_⟩
  · cases hc
    obtain ⟨ob, _, _, g1, g2, _⟩ := dd
    exact ⟨ob, g1, g2.2.1⟩
  · rw [m.trees]
    refine Calls.callWith_builtin rfl (Calls.evalArgs_plain (Calls.spliced_cons ?_))
    refine thn (hi.run pins s1 σ H1 _ I1 z1) fun iv s2 z2 => ?_
    obtain ⟨y, H2, I2, ry, z2⟩ := z2
    refine Calls.spliced_cons (thn (hf.run pins s2 σ H2 _ I2 z2) fun fv s3 z3 => ?_)
    obtain ⟨z, H3, I3, rz, kvs, k, b, e, rfl, hb, hl, q1, q2⟩ := z3
    obtain rfl := (show iv = Value.ref b from ry)
    exact Calls.spliced_nil (bk_setd hu I3 e hb hl rz (fun v hv v' s4 r4 I4 => ⟨v, H3, I4, r4, q1 v hv⟩) fun hn H4 s4 m4 e4 I4 => ⟨z, H4, I4, rz, q2 hn H4 m4 e4⟩)
theorem bkLen' : CallR X (.builtin "len") (rLenB X.prog X.w) := by
  intro pins s σ H xs us Q I r h
  obtain ⟨p, kvs, rfl, e, q⟩ := h
  obtain ⟨u, rfl, rx⟩ := vals1 r
  obtain rfl := (show u = Value.ref p from rx)
  obtain ⟨z, hd, ys, rel, dd⟩ := bk_of I.hok e
  have hl := Paired.length rel
  rw [hl] at z q
  exact call_len_dictH hd dd (by rw [sizeLine_eq] at z; omega) ⟨.int ys.length, H, I.tok _, ⟨_, rfl⟩, q⟩
variable (P : Program) (w : World)
theorem bkPut (hu : X.A.units + 64 < cLine) (ho : PE X o td) (hi : PE X i ty) (hv : PE X value tv) (hs : swapsWith value (some (.Subscript o i pos')) pos.line X.env = pure false) (h1 : X.prog = P := by rfl) (h2 : X.w = w := by rfl) :
    PS X (.Assign [.Subscript o i pos'] value pos) (sBkPut P w td ty tv) := h1 ▸ h2 ▸ bkPut' hu ho hi hv hs
theorem bkSetd {apos cpos : Pos} (hu : X.A.units + 64 < cLine) (ho : PE X o td) (hi : PE X i ty) (hf : PE X f tx) (m : M2 X o "setdefault" apos i f cpos) (h1 : X.prog = P := by rfl) (h2 : X.w = w := by rfl) :
    PE X (.Call (.Attribute o "setdefault" apos) [i, f] [] cpos) (tBkSetd P w td ty tx) := h1 ▸ h2 ▸ bkSetd' hu ho hi hf m
theorem bkLen (h1 : X.prog = P := by rfl) (h2 : X.w = w := by rfl) : CallR X (.builtin "len") (rLenB P w) := h1 ▸ h2 ▸ bkLen'
end
end Kit

namespace Kit
open PySem PySem.Spec PyProof.Rows L2 Evl
/-! ### == of texts, rows of texts -/
def TK.data : TK → PyData
  | .num i => .int i
  | .nums is => .tuple ((is.map V.int).map flatD)
section
variable {H H' : Hp} {K : PySem.W.Frag} {t t' : TK} {x y : V} {Q : VK}
theorem TVal.dp (e : TVal H t x) : Dp K H x t.data := by
  cases t with
  | num i => exact (show x = V.int i from e) ▸ Dp.int i
  | nums is => exact let ⟨a, e1, e2⟩ := e; e1 ▸ dp_tup (st_of e2) (fln_fl (ints_fln is))
theorem TK.lay (t : TK) : t.data.canLay0 = true ∧ PyData.depth t.data ≤ 1 := by
  cases t with
  | num i => exact ⟨rfl, Nat.zero_le _⟩
  | nums is =>
    obtain ⟨h1, h2⟩ := flats_ok (ints_fln is)
    exact ⟨h1, by show PyData.depthAll _ + 1 ≤ 1; rw [h2]; exact Nat.le_refl 1⟩
theorem TK.shaped (t : TK) : SeqAt.shaped t.data = true := by
  unfold SeqAt.shaped
  rw [t.lay.1, decide_eq_true (Nat.le_trans t.lay.2 (by decide))]
  rfl
theorem TK.eqv (t t' : TK) : PyData.eqv t.data t'.data = decide (t = t') := by
  cases t <;> cases t'
  · rename_i i j
    by_cases h : i = j
    · subst h; simp [TK.data, PyData.eqv]
    · simp [TK.data, PyData.eqv, h]
  · simp [TK.data, PyData.eqv]
  · simp [TK.data, PyData.eqv]
  · rename_i a b
    show PyData.eqvAll _ _ = _
    rw [eqvAll_ints]
    by_cases h : a = b
    · subst h; simp
    · simp [h]
theorem w_neTV (h1 : TVal H t x) (h2 : TVal H t' y) (q : Q (.bl (!decide (t = t'))) H) : rNeD K x y H Q := w_neD h1.dp h2.dp t.shaped t'.shaped (by rw [TK.eqv]; exact q)
theorem w_eqTV (h1 : TVal H t x) (h2 : TVal H t' y) (q : Q (.bl (decide (t = t'))) H) : rEqD K x y H Q := w_eqD h1.dp h2.dp t.shaped t'.shaped (by rw [TK.eqv]; exact q)
end
abbrev Rw := Str × TK × Int
def Rw.data (r : Rw) : PyData := .tuple [.str r.1, r.2.1.data, .int r.2.2]
/-- the value v is the row r -/
def RowAt (H : Hp) (r : Rw) (v : V) : Prop := ∃ a x, v = .ref a ∧ H a = some (.tup [.str r.1, x, .int r.2.2]) ∧ TVal H r.2.1 x
section
variable {H H' : Hp} {K : PySem.W.Frag} {r r' : Rw} {v x y : V} {Q : VK} {rs : List Rw} {vs : List V}
theorem RowAt.mono (m : ∀ c xs, H c = some (.tup xs) → H' c = some (.tup xs)) (e : RowAt H r v) : RowAt H' r v := let ⟨a, x, e1, e2, e3⟩ := e; ⟨a, x, e1, m _ _ e2, e3.mono m⟩
theorem RowAt.dp (e : RowAt H r v) : Dp K H v r.data := by
  obtain ⟨a, x, rfl, e, t⟩ := e
  exact .tup (st_of e) (.cons (.str _) (.cons t.dp (.cons (.int _) .nil)))
theorem rows_dp (h : Paired (RowAt H) rs vs) : DpAll K H vs (rs.map Rw.data) := by
  induction h with
  | nil => exact .nil
  | cons a _ ih => exact .cons a.dp ih
theorem Rw.lay (ok : PyData.strOk r.1 = true) : r.data.canLay0 = true ∧ PyData.depth r.data ≤ 2 := by
  have l := r.2.1.lay
  refine ⟨?_, ?_⟩
  · simp [Rw.data, PyData.canLay0, PyData.canLayAll0, ok, l.1]
  · have l2 := l.2
    simp only [Rw.data, PyData.depth, PyData.depthAll]
    omega
theorem Rw.shaped (ok : PyData.strOk r.1 = true) : SeqAt.shaped r.data = true := by
  have l := Rw.lay ok
  unfold SeqAt.shaped
  rw [l.1, decide_eq_true (Nat.le_trans l.2 (by decide))]
  rfl
theorem rows_lay : ∀ {rs : List Rw}, (∀ r ∈ rs, PyData.strOk r.1 = true) → PyData.canLayAll0 (rs.map Rw.data) = true ∧ PyData.depthAll (rs.map Rw.data) ≤ 2
  | [], _ => ⟨rfl, Nat.zero_le _⟩
  | r :: rs, ok => by
    have l := Rw.lay (ok r (List.mem_cons_self ..))
    have m := rows_lay fun r h => ok r (List.mem_cons_of_mem _ h)
    rw [List.map_cons, PyData.canLayAll0, PyData.depthAll, l.1, m.1]
    exact ⟨rfl, Nat.max_le.mpr ⟨l.2, m.2⟩⟩
theorem rows_shaped (ok : ∀ r ∈ rs, PyData.strOk r.1 = true) : SeqAt.shaped (.list (rs.map Rw.data)) = true := by
  have l := rows_lay ok
  unfold SeqAt.shaped
  rw [show (PyData.list (rs.map Rw.data)).canLay0 = true from l.1, show PyData.depth (PyData.list (rs.map Rw.data)) = PyData.depthAll (rs.map Rw.data) + 1 from rfl, decide_eq_true (Nat.le_trans (Nat.succ_le_succ l.2) (by decide))]
  rfl
theorem Rw.eqv (r r' : Rw) : PyData.eqv r.data r'.data = decide (r = r') := by
  obtain ⟨k, t, d⟩ := r
  obtain ⟨k', t', d'⟩ := r'
  simp only [Rw.data, PyData.eqv, PyData.eqvAll, TK.eqv, Bool.and_true]
  rw [Bool.eq_iff_iff]
  simp [Prod.ext_iff]
theorem w_notInRows {p : Addr} (hv : RowAt H r v) (hp : SqL K H p vs) (hr : Paired (RowAt H) rs vs) (ok1 : PyData.strOk r.1 = true) (ok : ∀ r ∈ rs, PyData.strOk r.1 = true) (q : Q (.bl (!decide (r ∈ rs))) H) : rNotInD K v (.ref p) H Q := by
  refine ⟨r.data, rs.map Rw.data, hv.dp, .lst hp (rows_dp hr), Rw.shaped ok1, rows_shaped ok, ?_⟩
  have e : ((rs.map Rw.data).any fun z => PyData.eqv z r.data) = decide (r ∈ rs) := by
    rw [List.any_map, Bool.eq_iff_iff, List.any_eq_true, decide_eq_true_iff]
    constructor
    · rintro ⟨z, hz, e⟩
      rw [Function.comp_apply, Rw.eqv, decide_eq_true_iff] at e
      exact e ▸ hz
    · exact fun h => ⟨r, h, by rw [Function.comp_apply, Rw.eqv, decide_eq_true rfl]⟩
  rw [e]
  exact q
end
section
variable (K : PySem.W.Frag) {X : Cx}
theorem kNotInD (hu : X.A.units + 65 < cLine) (h : X.K = K := by rfl) : OpR X (compareOp .NotIn) (rNotInD K) := h ▸ op_notInD hu
end
theorem units65 {k : Nat} {A : Around} (hr : Room k A) : A.units + 65 < cLine := by have := hr.un; omega
theorem w_dnew {σ : St} {H : Hp} {Q : VK} (q : ∀ p H2, H p = none → Ex H H2 → H2 p = some (.dK []) → Q (.ref p) H2) : tDNewK σ H Q := fun p hp => q p _ hp (Ex.new hp) upd_same
theorem m_bkPut {P : Program} {w : World} {td ty tv : TE} {nx : St → Hp → Prop} {rt : VK} {bk ct : St → Hp → Prop} {σ : St} {H : Hp} (h : tv σ H fun v H1 => td σ H1 fun x H2 => ty σ H2 fun y H3 => ∃ a, x = .ref a ∧ BkPut P w a y v H3 (nx σ)) :
    Sm (sBkPut P w td ty tv) nx rt bk ct σ H := h
theorem w_bkSetd {P : Program} {w : World} {td ty tx : TE} {σ : St} {H : Hp} {Q : VK} (h : td σ H fun x H1 => BkIn P w x H1 fun a => ty σ H1 fun y H2 => tx σ H2 fun z H3 => BkSetd P w a y z H3 Q) : tBkSetd P w td ty tx σ H Q := h
/-! ### what a call on a book keeps: all but the book and dicts -/
def mutB : HO → Bool
  | .dK _ | .dT _ | .ext _ => true
  | _ => false
def KeepB (p : Addr) (H H' : Hp) : Prop := ∀ b o, b ≠ p → H b = some o → mutB o = false → H' b = some o
section
variable {p d : Addr} {H H1 H2 : Hp} {P : Program} {w : World} {K : PySem.W.Frag} {xs : List V}
theorem KeepB.of (e : Ex H H1) : KeepB p H H1 := fun b o _ h _ => e b o h
theorem KeepB.but (e : ExBut p H H1) : KeepB p H H1 := fun b o n h _ => e b o n h
theorem KeepB.trans (a : KeepB p H H1) (b : KeepB p H1 H2) : KeepB p H H2 := fun c o n h m => b c o n (a c o n h m) m
theorem bk_is {kvs : List (BK × V)} (e : BkAt P w H d kvs) : ∃ o, H d = some o ∧ mutB o = true := by
  rcases e with ⟨_, e⟩ | ⟨_, e, _⟩ <;> exact ⟨_, e, rfl⟩
theorem KeepB.dict {kvs : List (BK × V)} (e : BkAt P w H d kvs) (m : ExBut d H H1) : KeepB p H H1 := fun b o _ h z => by
  refine m b o ?_ h
  rintro rfl
  obtain ⟨o', e1, e2⟩ := bk_is e
  rw [h] at e1
  cases e1
  rw [z] at e2
  cases e2
theorem KeepB.tup {C dx : Addr} {fs : List (Str × V)} (k : KeepB p H H1) (hp : H p = some (.ins C dx fs)) (c : Addr) (zs : List V) (h : H c = some (.tup zs)) : H1 c = some (.tup zs) :=
  k c _ (by rintro rfl; rw [hp] at h; cases h) h rfl
theorem KeepB.lst {C dx : Addr} {fs : List (Str × V)} (k : KeepB p H H1) (hp : H p = some (.ins C dx fs)) (c : Addr) (zs : List V) (h : H c = some (.lst zs)) : H1 c = some (.lst zs) :=
  k c _ (by rintro rfl; rw [hp] at h; cases h) h rfl
theorem KeepB.sqL {C dx : Addr} {fs : List (Str × V)} (k : KeepB p H H1) (hp : H p = some (.ins C dx fs)) {c : Addr} (h : SqL K H c xs) : SqL K H1 c xs := by
  rcases h with (h | ⟨o, h⟩) | h
  · exact .inl (.inl (k.lst hp c _ h))
  · exact .inl (.inr ⟨o, k c _ (by rintro rfl; rw [hp] at h; cases h) h rfl⟩)
  · exact .inr h
end
end Kit

namespace Kit
open PySem PySem.Spec PyProof.Rows L2 Evl
theorem paired_get {α β : Type} {F : α → β → Prop} {l : List α} {m : List β} (h : Paired F l m) : ∀ {i : Nat} {v : β}, m[i]? = some v → ∃ r, l[i]? = some r ∧ F r v := by
  induction h with
  | nil => intro i v h; simp at h
  | cons a t ih =>
    intro i v h
    cases i with
    | zero =>
      rw [List.getElem?_cons_zero] at h
      exact ⟨_, rfl, Option.some.inj h ▸ a⟩
    | succ i =>
      rw [List.getElem?_cons_succ] at h
      exact ih h
/-- [x for x in xs if ..], the test leaving the heap -/
theorem l_filter {K : PySem.W.Frag} {a : Addr} {xs : List V} {vs : List Nat} {σ : St} {j : Nat} {tt : TT} {te : TE} {H : Hp} {Q : VK} (hx : SqL K H a xs) (hn : xs.length ≤ 40000) (hw : ∀ v, wipe ((wipe σ vs).set j (some v)) vs = wipe σ vs) (b : Nat → Bool)
    (ht : ∀ i x H', xs[i]? = some x → Ex H H' → ∀ R : Bool → Hp → Prop, R (b i) H' → tt ((wipe σ vs).set j (some x)) H' R) (he : ∀ x H' (R : VK), R x H' → te ((wipe σ vs).set j (some x)) H' R)
    (q : ∀ p H2 ys, H p = none → Ex H H2 → H2 p = some (.lst ys) → (∀ y ∈ ys, ∃ i, xs[i]? = some y ∧ b i = true) → (ys = [] → ∀ i, i < xs.length → b i = false) → ys.length ≤ xs.length → Q (.ref p) H2) :
    ∃ c, V.ref a = .ref c ∧ (∃ ys, SqL K H c ys) ∧ Lcj (Itl K c) (gName j) tt te vs σ H Q := by
  refine ⟨a, rfl, ⟨xs, hx⟩, l_any walks_list hn hw (fun D i acc H' => H D = none ∧ Ex H H' ∧ (∀ y ∈ acc, ∃ k, xs[k]? = some y ∧ b k = true) ∧ (acc = [] → ∀ k, k < i → b k = false)) (fun D i acc H' h => ex_l h.2.1 hx) (fun D hD => ⟨hD, Ex.new hD, fun y h => (nomatch h), fun _ k h => (nomatch h)⟩) ?_ ?_⟩
  · intro D i acc H' hD hi ha hd ⟨_, e, h1, h2⟩ R r1 r2
    have z : xs[i]? = some xs[i] := List.getElem?_eq_getElem hi
    show tt ((wipe σ vs).set j (some ((xs[i]?).getD .non))) H' R
    rw [z]
    refine ht i xs[i] H' z e R ?_
    cases hb : b i with
    | false =>
      refine r1 H' hd ⟨hD, e, h1, fun hz k hk => ?_⟩
      by_cases h : k < i
      · exact h2 hz k h
      · rw [show k = i from by omega]; exact hb
    | true =>
      refine r2 H' fun R2 r => ?_
      show te ((wipe σ vs).set j (some ((xs[i]?).getD .non))) H' R2
      rw [z]
      refine he xs[i] H' R2 (r xs[i] H' hd ⟨hD, ExBut.ex e hD (ExBut.upd (ExBut.refl D H')), fun y hy => ?_, fun hz => by simp at hz⟩)
      rcases List.mem_append.mp hy with hy | hy
      · exact h1 y hy
      · rw [List.mem_singleton.mp hy]
        exact ⟨i, z, hb⟩
  · intro D acc H2 hD hl hd ⟨_, e, h1, h2⟩
    exact q D H2 acc hD e hd h1 h2 hl
end Kit

namespace Kit
open PySem PySem.Spec PyProof.Rows L2 Evl
/-- a statement, then the rest, with what stands between them said -/
theorem m_cutN {a b : TS} {nx bk ct : St → Hp → Prop} {rt : VK} {σ : St} {H : Hp} (M : St → Hp → Prop) (k : ∀ N : St → Hp → Prop, (∀ σ H, M σ H → N σ H) → Sm a N rt bk ct σ H) (h : ∀ σ H, M σ H → Sm b nx rt bk ct σ H) : Sm (tSeq a b) nx rt bk ct σ H := k _ h
end Kit

namespace Kit
open PySem PySem.Spec PyProof.Rows L2 Evl
section
variable {σ : St} {H : Hp} {Q : VK} {ta tb tc : TE} {r r' : R2} {a b : Bool}
theorem w_chain (h : ta σ H fun x H1 => tb σ H1 fun y H2 => r x y H2 fun z H3 => ∃ k, z = .bl k ∧ (if k = true then tc σ H3 fun w' H4 => r' y w' H4 Q else Q (.bl false) H3)) : tChain r r' ta tb tc σ H Q := h
theorem w_isB (q : Q (.bl (decide (a = b))) H) : rIsB (.bl a) (.bl b) H Q := ⟨a, b, rfl, rfl, q⟩
theorem w_notB (q : Q (.bl (!decide (a = b))) H) : rNotB (.bl a) (.bl b) H Q := ⟨a, b, rfl, rfl, q⟩
end
theorem foldl_take {α β : Type} {f : β → α → β} {l : List α} {i : Nat} {x : α} {b : β} (h : l[i]? = some x) : (l.take (i + 1)).foldl f b = f ((l.take i).foldl f b) x := by
  rw [List.take_succ, h, List.foldl_append]
  rfl
end Kit

set_option Elab.async false
set_option linter.all false
set_option maxRecDepth 100000
set_option maxHeartbeats 4000000
/-! errors of the program's own, without an __init__, two below ValueError -/
namespace Kit
open PySem PySem.Spec PyProof.Rows L2 Evl
structure ExT (K : PySem.W.Frag) (mg : Str → Option Value) (x : Str) where
  C : Addr
  g : mg x = some (.ref C)
  x : PySem.W.excIn K C [.type "ValueError", .type "Exception", .type "BaseException", .type "object"] "ValueError.__new__" = true
  k : PySem.W.keepIn K (.ref C) = true
  b : PySem.W.subIn K (.ref C) (.type "BaseException") = some true
  t : PySem.W.typeIn K (.ref C) = some (.type "type")
  e : PySem.W.exmOne K (.ref C) (.ref C) = some true
/-- a class names its own errors -/
theorem exm_own {K : PySem.W.Frag} {S : Addr} (hB : PySem.W.subIn K (.ref S) (.type "BaseException") = some true) (hC : PySem.W.isClsIn K S = true) (hT : PySem.W.typeIn K (.ref S) = some (.type "type")) (hS : PySem.W.subIn K (.ref S) (.ref S) = some true) : PySem.W.exmOne K (.ref S) (.ref S) = some true := by
  have hC' : (PySem.W.clsIn K S).isSome = true := hC
  unfold PySem.W.exmOne PySem.W.kitCls
  simp [hB, hC', hT, hS]
theorem ext_mk {K : PySem.W.Frag} {mg : Str → Option Value} {x : Str} {C : Addr} (g : mg x = some (.ref C)) (hx : PySem.W.excIn K C [.type "ValueError", .type "Exception", .type "BaseException", .type "object"] "ValueError.__new__" = true) (k : PySem.W.keepIn K (.ref C) = true)
    (hB : PySem.W.subIn K (.ref C) (.type "BaseException") = some true) (hT : PySem.W.typeIn K (.ref C) = some (.type "type")) (hC : PySem.W.isClsIn K C = true) (hS : PySem.W.subIn K (.ref C) (.ref C) = some true) : ∃ T : ExT K mg x, T.C = C := ⟨⟨C, g, hx, k, hB, hT, exm_own hB hC hT hS⟩, rfl⟩
def tRs (E : XK) (cls : Value) : TS := fun _ _ H => E cls none H
section
variable {X : Cx} {x : Str} {p pos pos2 : Pos}
/-- x() -/
theorem pmk_own0 {mg : Str → Option Value} {K : PySem.W.Frag} (T : ExT K mg x) (hK : X.K = K) (hm : X.mg = mg) (hg : Gl X x) (hdb : (x == ("__debug__" : Str)) = false := by decide) : PMk X (.Call (.Name x p) [] [] pos) (fun _ H Q => Q (.ref T.C) none H) := by
  subst hK
  subst hm
  intro pins s σ H Q I h
  refine wpAny_Call_Name_kw (ld_glob I hg T.g ?_ hdb)
  refine PySem.W.callWith_K0 I.kIn T.k ?_
  obtain ⟨bm, N, nm, qn, bs, hdct, sn, sub, ab, col, dd, k0, k1, k2, k3, k5, mN, hC, hN, hni, tail⟩ := exc_obj I.kIn T.x
  refine wpAny_call_exc_subT PySem.F.excBase_ValueError tail hC hN hni (fun h' e hm => ?_) (Nat.zero_le _)
  exact mk_of I hm (raises_own T.b T.t) h (I.hok.gone hm.new)
/-- raise x() -/
theorem ps_raise0 {E : XK} {mg : Str → Option Value} {K : PySem.W.Frag} (hc : X.calm = true) (tk : Takes X (fun cls d _ H => E cls d H)) (T : ExT K mg x) (hK : X.K = K) (hm : X.mg = mg) (hg : Gl X x) (hdb : (x == ("__debug__" : Str)) = false := by decide) :
    PS X (.Raise (some (.Call (.Name x p) [] [] pos)) none pos2) (tRs E (.ref T.C)) := ps_raise hc tk (pmk_own0 T hK hm hg hdb)
end
theorem m_raise {E : XK} {cls : Value} {nx bk ct : L2.St → Hp → Prop} {rt : VK} {σ : L2.St} {H : Hp} (h : E cls none H) : Sm (tRs E cls) nx rt bk ct σ H := h
instance {E : XK} {cls : Value} {nx bk ct : L2.St → Hp → Prop} {rt : VK} {σ : L2.St} {H : Hp} : Step (Sm (tRs E cls) nx rt bk ct σ H) (E cls none H) := ⟨m_raise⟩
/-- try: a call; except x: return True -/
def tRefused (K : PySem.W.Frag) (C : Addr) (sp : Sp) (tl : TA) : TS := fun D σ H => tDrop (tCallS sp (WE (wOnly K (.ref C) (fun _ _ _ => tRet (tC (.bl true))) (fun _ _ _ _ => False) D)) tl) D σ H
theorem m_refused {K : PySem.W.Frag} {C : Addr} {sp : Sp} {tl : TA} {nx bk ct : L2.St → Hp → Prop} {rt : VK} {σ : L2.St} {H : Hp}
    (h : tl σ H fun vs H1 => sp vs H1 (fun _ H2 => nx σ H2) (WE (wOnly K (.ref C) (fun _ _ _ => tRet (tC (.bl true))) (fun _ _ _ _ => False) ⟨nx, rt, bk, ct⟩) σ)) : Sm (tRefused K C sp tl) nx rt bk ct σ H := h
theorem w_caught {K : PySem.W.Frag} {C : Addr} {D : Ends} {σ : L2.St} {H : Hp} {d : Option Addr} (e : PySem.W.exmOne K (.ref C) (.ref C) = some true) (q : D.rt (.bl true) H) : WE (wOnly K (.ref C) (fun _ _ _ => tRet (tC (.bl true))) (fun _ _ _ _ => False) D) σ (.ref C) d H :=
  ⟨true, e, fun _ _ _ => q, fun z => Bool.noConfusion z⟩
end Kit

set_option Elab.async false
set_option linter.all false
set_option maxRecDepth 100000
set_option maxHeartbeats 4000000
/-! what a call on a book keeps: all but the book and its own dicts; and nothing goes away -/
namespace Kit
open PySem PySem.Spec PyProof.Rows L2 Evl
def mutE : HO → Bool
  | .dK _ | .ext _ => true
  | _ => false
def KeepE (p : Addr) (H H' : Hp) : Prop := (∀ b o, b ≠ p → H b = some o → mutE o = false → H' b = some o) ∧ ∀ b, H' b = none → H b = none
section
variable {p d : Addr} {H H1 H2 : Hp} {P : Program} {w : World} {K : PySem.W.Frag} {xs : List V} {o : HO}
theorem KeepE.of (e : Ex H H1) : KeepE p H H1 := ⟨fun b o _ h _ => e b o h, fun _ h => fresh_back e h⟩
theorem back_but {a : Addr} (e : ExBut a H H1) (h : H1 a = some o) : ∀ b, H1 b = none → H b = none := fun b hb => by
  cases hh : H b with
  | none => rfl
  | some o' =>
    by_cases z : b = a
    · rw [z, h] at hb; cases hb
    · rw [e b o' z hh] at hb; cases hb
theorem KeepE.but (e : ExBut p H H1) (h : H1 p = some o) : KeepE p H H1 := ⟨fun b o n h _ => e b o n h, back_but e h⟩
theorem KeepE.trans (a : KeepE p H H1) (b : KeepE p H1 H2) : KeepE p H H2 := ⟨fun c o n h m => b.1 c o n (a.1 c o n h m) m, fun x h => a.2 x (b.2 x h)⟩
theorem bk_isE {kvs : List (BK × V)} (e : BkAt P w H d kvs) : ∃ o, H d = some o ∧ mutE o = true := by
  rcases e with ⟨_, e⟩ | ⟨_, e, _⟩ <;> exact ⟨_, e, rfl⟩
theorem KeepE.dict {kvs : List (BK × V)} (e : BkAt P w H d kvs) (m : ExBut d H H1) (h : H1 d = some o) : KeepE p H H1 := by
  refine ⟨fun b o2 _ hb z => m b o2 ?_ hb, back_but m h⟩
  rintro rfl
  obtain ⟨o3, e1, e2⟩ := bk_isE e
  rw [hb] at e1
  cases e1
  rw [z] at e2
  cases e2
theorem KeepE.tup {C dx : Addr} {fs : List (Str × V)} (k : KeepE p H H1) (hp : H p = some (.ins C dx fs)) (c : Addr) (zs : List V) (h : H c = some (.tup zs)) : H1 c = some (.tup zs) :=
  k.1 c _ (by rintro rfl; rw [hp] at h; cases h) h rfl
theorem KeepE.lst {C dx : Addr} {fs : List (Str × V)} (k : KeepE p H H1) (hp : H p = some (.ins C dx fs)) (c : Addr) (zs : List V) (h : H c = some (.lst zs)) : H1 c = some (.lst zs) :=
  k.1 c _ (by rintro rfl; rw [hp] at h; cases h) h rfl
theorem KeepE.sqL {C dx : Addr} {fs : List (Str × V)} (k : KeepE p H H1) (hp : H p = some (.ins C dx fs)) {c : Addr} (h : SqL K H c xs) : SqL K H1 c xs := by
  rcases h with (h | ⟨o, h⟩) | h
  · exact .inl (.inl (k.lst hp c _ h))
  · exact .inl (.inr ⟨o, k.1 c _ (by rintro rfl; rw [hp] at h; cases h) h rfl⟩)
  · exact .inr h
end
end Kit

set_option Elab.async false
set_option linter.all false
set_option maxRecDepth 100000
set_option maxHeartbeats 4000000
/-! several except clauses, some of them with a name -/
namespace Kit
open PySem PySem.Spec PyProof.Rows L2
def oexB (K : PySem.W.Frag) (C : Addr) : Bool := match K.lookup C with
  | some ⟨.type "type", _, .cls cd, sl⟩ => (match cd.mro, sl.toList with
    | .ref C' :: bm, [_, _, _, _, some (.builtin n), _] => C' == C && n == "ValueError.__new__" && !cd.hasDel && cd.hasDict && PySem.HandSPX.refsVE bm
    | _, _ => false)
  | _ => false
theorem oexB_ok {K : PySem.W.Frag} {C : Addr} (q : oexB K C = true) : ∃ nm q N bs bm sn sub ab col dd k0 k1 k2 k3 k5, K.lookup C = some (excClassObj nm q C N bs bm true sn sub ab col dd k0 k1 k2 k3 k5 "ValueError.__new__") ∧ PySem.HandSPX.refsVE bm = true := by
  unfold oexB at q
  split at q
  · rename_i dd cd sl ho
    split at q
    · rename_i C' bm k0 k1 k2 k3 n k5 hm hs
      simp only [Bool.and_eq_true, beq_iff_eq, Bool.not_eq_true'] at q
      obtain ⟨⟨⟨⟨rfl, rfl⟩, hdel⟩, hd⟩, hv⟩ := q
      obtain ⟨nm, bs, mro, ns, qn, hdct, sn, sub, ab, col, del⟩ := cd
      dsimp only at hm hdel hd
      subst hm hdel hd
      have hsl : sl = #[k0, k1, k2, k3, some (.builtin "ValueError.__new__"), k5] := by
        obtain ⟨l⟩ := sl
        simp only at hs
        rw [hs]
      subst hsl
      exact ⟨nm, qn, ns, bs, bm, sn, sub, ab, col, dd, k0, k1, k2, k3, k5, ho, hv⟩
    · cases q
  · cases q
theorem oex_mk {K : PySem.W.Frag} {C : Addr} (q : oexB K C = true) (sa : PySem.W.findIn K (.ref C) "__setattr__" = some (some (.builtin "object.__setattr__"))) (b : PySem.W.subIn K (.ref C) (.type "BaseException") = some true) (t : PySem.W.typeIn K (.ref C) = some (.type "type")) (k : PySem.W.keepIn K (.ref C) = true) : OexC K C := ⟨oexB_ok q, sa, b, t, k⟩
/-- an error's class and another one -/
theorem exm_pair {K : PySem.W.Frag} {S D : Addr} {b : Bool} (hB : PySem.W.subIn K (.ref D) (.type "BaseException") = some true) (hC : PySem.W.isClsIn K D = true) (hT : PySem.W.typeIn K (.ref D) = some (.type "type")) (hS : PySem.W.subIn K (.ref S) (.ref D) = some b) : PySem.W.exmOne K (.ref S) (.ref D) = some b := by
  have hC' : (PySem.W.clsIn K D).isSome = true := hC
  unfold PySem.W.exmOne PySem.W.kitCls
  simp [hB, hC', hT, hS]
structure ExI (K : PySem.W.Frag) (mg : Str → Option Value) (x : Str) (fI : Addr) where
  C : Addr
  g : mg x = some (.ref C)
  o : OexC K C
  i : PySem.W.findIn K (.ref C) "__init__" = some (some (.ref fI))
  t : PySem.W.typeIn K (.ref fI) = some (.type "function")
  e : PySem.W.exmOne K (.ref C) (.ref C) = some true
  xf : XfC K C
def wHs (K : PySem.W.Frag) (Wout : WX) (D : Ends) : List (Value × Option Nat × (Addr → Value → Option Addr → TS)) → WX
  | [] => Wout
  | (c, none, ts) :: r => fun cls d σ H => ∃ b, PySem.W.exmOne K cls c = some b ∧ (b = true → ∀ a, H a = none → ts a cls d D σ H) ∧ (b = false → wHs K Wout D r cls d σ H)
  | (c, some i, ts) :: r => fun cls d σ H => ∃ b, PySem.W.exmOne K cls c = some b ∧ (b = true → ∀ a, H a = none → ts a cls d { nx := fun σ' H' => D.nx (σ'.set i none) H', rt := D.rt, bk := fun σ' H' => D.bk (σ'.set i none) H', ct := fun σ' H' => D.ct (σ'.set i none) H' } (σ.set i (some (.ref a))) H) ∧ (b = false → wHs K Wout D r cls d σ H)
inductive HsOk (X : Cx) : List ExceptHandler → List (Value × Option Nat × (Addr → Value → Option Addr → TS)) → Prop
  | nil : HsOk X [] []
  | cons {x : Str} {c : Value} {ts : Addr → Value → Option Addr → TS} {b₀ : Stmt} {suite : List Stmt} {np pos' : Pos} {hds : List ExceptHandler} {l : List (Value × Option Nat × (Addr → Value → Option Addr → TS))} (hc : Names X x c)
      (hsu : ∀ (a : Addr) (oe : Obj) (cls : Value) (d : Option Addr) (pn : List (Addr × Obj)), Zc cls d oe → (∃ vs, oe.data = .fields vs) → PSs (X.suite a ((a, oe) :: pn)) (b₀ :: suite) (ts a cls d)) (r : HsOk X hds l) :
      HsOk X (.ExceptHandler (some (.Name x np)) none (b₀ :: suite) pos' :: hds) ((c, none, ts) :: l)
  | named {x n : Str} {c : Value} {i : Nat} {ts : Addr → Value → Option Addr → TS} {b₀ : Stmt} {suite : List Stmt} {np pos' : Pos} {hds : List ExceptHandler} {l : List (Value × Option Nat × (Addr → Value → Option Addr → TS))} (hN : X.N.Nodup) (hi : X.N[i]? = some n) (hln : X.env.kindOf n = some .local) (hc : Names X x c)
      (hsu : ∀ (a : Addr) (oe : Obj) (cls : Value) (d : Option Addr) (pn : List (Addr × Obj)), Zc cls d oe → (∃ vs, oe.data = .fields vs) → PSs (X.suite a ((a, oe) :: pn)) (b₀ :: suite) (ts a cls d)) (r : HsOk X hds l) :
      HsOk X (.ExceptHandler (some (.Name x np)) (some n) (b₀ :: suite) pos' :: hds) ((c, some i, ts) :: l)
section
variable {X : Cx} {body : List Stmt} {h₀ : ExceptHandler} {hds : List ExceptHandler} {l : List (Value × Option Nat × (Addr → Value → Option Addr → TS))} {pos : Pos} {tb : WX → TS} {Wout : WX}
theorem ps_try_hs (hs : X.stack = X.env :: X.outer) (hf : X.env.frame = some X.env.locals) (tk : Takes X Wout)
    (hb : ∀ (W : WX) (pn : List (Addr × Obj)) (xe : Value → Shared → Prop), Takes (X.tr pn xe) W → PassesOwn (model X.prog X.w) X.A X.env xe → PSs (X.tr pn xe) body (tb W))
    (hh : HsOk X (h₀ :: hds) l) : PS X (.Try body (h₀ :: hds) [] [] pos) (fun D σ H => tb (wHs X.K Wout D l) D σ H) := by
  refine ⟨fun pins s σ H D I h => ?_⟩
  have ok := I.ok
  have hfr : X.A.frames = some (X.env :: X.outer) := by rw [ok.frames, hs]
  refine wpAny_Try_except ?_
  refine wpAny_mono ((hb (wHs X.K Wout D l) (X.pn ++ pins) (fun e s₁ => wpAny (model X.prog X.w) X.A (noteFrame e X.env) (fun _ s₂ => wpAny (model X.prog X.w) X.A (setFlight e none) (fun _ s₃ =>
    wpAny (model X.prog X.w) X.A (handleBy e X.env (h₀ :: hds)) (SP X pins D) X.xe s₃) X.xe s₂) X.xe s₁) (fun u s' xx => ?_) PassesOwn.looking).run [] s σ H D (I.toTry _) h) (fun f s1 hsp => ?_) (fun e s1 he => he)
  · obtain ⟨a, B, sI, pins', σ', H', cls, d, rfl, J', nb, up, sky, na, os, ag, w⟩ := xx
    have J : Inv X pins σ' H' sI := J'.ofTry ok
    have sky' : Sky B (X.env :: X.outer) a (Zc cls d) X.env.locals s'.heap := by rw [← hs]; exact sky
    show wpAny (model X.prog X.w) X.A (noteFrame (.ref a) X.env) _ _ _
    refine Sky.land Zc.steady hfr hf sky' fun h3 fl3 up3 => ?_
    have J3 : Inv X pins σ' H' { s' with heap := h3 } := J.landed nb fl3.1 (up.trans up3) os ag
    obtain ⟨oe3, vs3, he3, hz3, hd3⟩ := fl3.there
    have notFr : ∀ {h : Heap} {o : Obj} {vs : Array Value}, h.FunFrames B (X.env :: X.outer) → h.get? a = some o → o.data = .fields vs → a ∉ frs (X.env :: X.outer) := fun {h o vs} ff e dd hm => by
      obtain ⟨_, o', e', hnf⟩ := ff.mem hm
      rw [e] at e'; cases e'
      exact hnf _ dd
    have nfr := notFr fl3.2.2.1 he3 hd3
    have nL : a ≠ X.env.locals := fun z => nfr (List.mem_filterMap.mpr ⟨X.env, List.mem_cons_self, by rw [hf, z]⟩)
    have nF : a ∉ X.fs := fun hm => by
      obtain ⟨e, he, q⟩ := List.mem_filterMap.mp hm
      exact nfr (List.mem_filterMap.mpr ⟨e, List.mem_cons_of_mem _ he, q⟩)
    have S3 := J3.suite he3 hd3 na nL nF
    have LT : PySem.W.Looks (model X.prog X.w) h3 (typeOf (.ref a)) cls := fun A Q E s k q => wpAny_typeOf_ref (k _ _ he3) (by rw [hz3.1]; exact q)
    have go : ∀ {hds' : List ExceptHandler} {l' : List (Value × Option Nat × (Addr → Value → Option Addr → TS))}, HsOk X hds' l' → wHs X.K Wout D l' cls d σ' H' →
        wpAny (model X.prog X.w) X.A (handleBy (.ref a) X.env hds') (SP X pins D) X.xe { s' with heap := h3 } := by
      intro hds' l' hk
      induction hk with
      | nil =>
        intro w
        refine wpAny_handleBy_nil ?_
        obtain ⟨k1, k2, k3, oe, vs, T, oT, ts', he, hz, hd, h1, hr⟩ := id fl3
        unfold PySem.passOn
        refine wpAny_bind (wpAny_field he hd h1 ?_)
        rw [if_neg (show ¬ ((Value.ref T == Value.none) = true) from by simp)]
        have fin : wpAny (model X.prog X.w) X.A (setFlight (.ref a) X.env.frame) (fun _ s4 => wpAny (model X.prog X.w) X.A (throw (.ref a) : Sem Flow) (SP X pins D) X.xe s4) X.xe { s' with heap := h3 } := by
          rw [hf]
          refine HandSPX.setFlight_upZ fl3 fun h4 hh4 up4 => wpAny_throw (tk _ _ ?_)
          exact ⟨a, B, sI, pins, σ', H', cls, d, rfl, J, nb, (up.trans up3).trans up4, .inr (.inr (by rw [hs]; exact hh4)), na, os, ag, w⟩
        first
          | exact wpAny_bind (wpAny_pure (wpAny_bind fin))
          | exact wpAny_bind fin
      | @cons x c ts b₀ suite np pos' hds2 l2 hc hsu r ih =>
        intro w
        obtain ⟨b, hb1, hyes, hno⟩ := w
        refine wpAny_handleBy_cons (codeAny_handlers_test ?_) (by intro q; cases q)
        have LM := PySem.W.exm_one (M := model X.prog X.w) (J3.kIn) LT hb1
        have test : ∀ {Q : Value → Shared → Prop} {E : Value → Shared → Prop}, Q c { s' with heap := h3 } → wpAny (model X.prog X.w) (X.A.mark (some (.ref a))) (eval (.Name x np) X.env) Q E { s' with heap := h3 } := fun {Q E} q => by
          obtain ⟨hg, hdbg, hm | ⟨hm, hv, hnn⟩⟩ := hc
          · exact ld_glob (X := X.suite a ((a, oe3) :: (X.pn ++ pins))) S3 hg hm q hdbg
          · exact ld_blt (X := X.suite a ((a, oe3) :: (X.pn ++ pins))) S3 hg hm hv q hnn hdbg
        refine test (LM.here ?_)
        cases b with
        | true =>
          refine codeAny_handlers_suite ?_
          refine HandSPX.lands_againZ fl3 fun h4 fl4 up4 => ?_
          have J4 : Inv X pins σ' H' { s' with heap := h4 } := J.landed nb fl4.1 ((up.trans up3).trans up4) os ag
          obtain ⟨oe4, vs4, he4, hz4, hd4⟩ := fl4.there
          have S4 := J4.suite he4 hd4 na nL nF
          refine wpAny_mono ((hsu a oe4 cls d (X.pn ++ pins) hz4 ⟨_, hd4⟩).run [] _ _ H' _ S4 (hyes rfl a na)) (fun f s6 hsp => ?_) (fun _ _ z => False.elim z)
          cases f with
          | next =>
            obtain ⟨σ6, H6, S6, q6⟩ := hsp
            exact ⟨_, _, S6.unsuite ok, q6⟩
          | brk =>
            obtain ⟨σ6, H6, S6, q6⟩ := hsp
            exact ⟨_, _, S6.unsuite ok, q6⟩
          | cont =>
            obtain ⟨σ6, H6, S6, q6⟩ := hsp
            exact ⟨_, _, S6.unsuite ok, q6⟩
          | ret u =>
            obtain ⟨v6, σ6, H6, S6, r6, q6⟩ := hsp
            exact ⟨_, _, _, S6.unsuite ok, r6, q6⟩
        | false =>
          show wpAny _ X.A (handleBy (.ref a) X.env hds2) _ _ _
          exact ih (hno rfl)
      | @named x n c i ts b₀ suite np pos' hds2 l2 hN hi hln hc hsu r ih =>
        intro w
        obtain ⟨b, hb1, hyes, hno⟩ := w
        have hloc : Loc X.env.scope n := .inl hln
        refine wpAny_handleBy_cons (codeAny_handlers_test ?_) (by intro q; cases q)
        have LM := PySem.W.exm_one (M := model X.prog X.w) (J3.kIn) LT hb1
        have test : ∀ {Q : Value → Shared → Prop} {E : Value → Shared → Prop}, Q c { s' with heap := h3 } → wpAny (model X.prog X.w) (X.A.mark (some (.ref a))) (eval (.Name x np) X.env) Q E { s' with heap := h3 } := fun {Q E} q => by
          obtain ⟨hg, hdbg, hm | ⟨hm, hv, hnn⟩⟩ := hc
          · exact ld_glob (X := X.suite a ((a, oe3) :: (X.pn ++ pins))) S3 hg hm q hdbg
          · exact ld_blt (X := X.suite a ((a, oe3) :: (X.pn ++ pins))) S3 hg hm hv q hnn hdbg
        refine test (LM.here ?_)
        cases b with
        | true =>
          refine codeAny_handlers_suite_as ?_
          refine HandSPX.lands_againZ fl3 fun h4 fl4 up4 => ?_
          have J4 : Inv X pins σ' H' { s' with heap := h4 } := J.landed nb fl4.1 ((up.trans up3).trans up4) os ag
          obtain ⟨oe4, vs4, he4, hz4, hd4⟩ := fl4.there
          have S4 := J4.suite he4 hd4 na nL nF
          refine store_ok (X := X.suite a ((a, oe4) :: (X.pn ++ pins))) (v := .ref a) S4 hN hi hloc rfl (fun s5 S5 => ?_) (.inr hln)
          refine wpAny_mono ((hsu a oe4 cls d (X.pn ++ pins) hz4 ⟨_, hd4⟩).run [] s5 _ H' _ S5 (hyes rfl a na)) (fun f s6 hsp => ?_) (fun _ _ z => False.elim z)
          have end_ : ∀ {σ6 : L2.St} {H6 : Hp} {Q : Shared → Prop}, Inv (X.suite a ((a, oe4) :: (X.pn ++ pins))) [] σ6 H6 s6 → (∀ s7, Inv X pins (σ6.set i none) H6 s7 → Q s7) →
              wpAny (model X.prog X.w) X.A (do bindName X.env n .none; unbindBehindTheSuite X.env n pos') (fun _ s7 => Q s7) X.xe s6 := fun {σ6 H6 Q} S6 hq => gone_ok (S6.unsuite ok) hN hi hln hq
          cases f with
          | next =>
            obtain ⟨σ6, H6, S6, q6⟩ := hsp
            exact end_ S6 fun s7 J7 => ⟨_, _, J7, q6⟩
          | brk =>
            obtain ⟨σ6, H6, S6, q6⟩ := hsp
            exact end_ S6 fun s7 J7 => ⟨_, _, J7, q6⟩
          | cont =>
            obtain ⟨σ6, H6, S6, q6⟩ := hsp
            exact end_ S6 fun s7 J7 => ⟨_, _, J7, q6⟩
          | ret u =>
            obtain ⟨v6, σ6, H6, S6, r6, q6⟩ := hsp
            exact end_ S6 fun s7 J7 => ⟨_, _, _, J7, r6, q6⟩
        | false =>
          show wpAny _ X.A (handleBy (.ref a) X.env hds2) _ _ _
          exact ih (hno rfl)
    exact go hh w
  · cases f with
    | next =>
      obtain ⟨σ', H', J', q⟩ := hsp
      exact wpAny_execs_nil ⟨σ', H', J'.ofTry ok, q⟩
    | brk =>
      obtain ⟨σ', H', J', q⟩ := hsp
      exact ⟨σ', H', J'.ofTry ok, q⟩
    | cont =>
      obtain ⟨σ', H', J', q⟩ := hsp
      exact ⟨σ', H', J'.ofTry ok, q⟩
    | ret u =>
      obtain ⟨v, σ', H', J', r, q⟩ := hsp
      exact ⟨v, σ', H', J'.ofTry ok, r, q⟩
end

/-- an own error with fields stands -/
theorem m_ost {K : PySem.W.Frag} {f : Str} {to te : TE} {nx bk ct : L2.St → Hp → Prop} {rt : VK} {σ : L2.St} {H : Hp} (h : te σ H fun y H1 => to σ H1 fun x H2 => ∃ a C : Addr, x = .ref a ∧ OexC K C ∧ PySem.W.findIn K (.ref C) f = some none ∧
  ((H2 a = some (exo a C none) ∧ ∀ dx, H2 dx = none → dx ≠ a → nx σ (upd (upd H2 dx (exd dx [(f, y)])) a (exo a C (some dx)))) ∨
    ∃ (dx : Addr) (fs : List (Str × V)), H2 a = some (exo a C (some dx)) ∧ H2 dx = some (exd dx fs) ∧ fs.length ≤ 900 ∧ nx σ (upd H2 dx (exd dx ((f, y) :: fs))))) : Sm (tOst K f to te) nx rt bk ct σ H := h
/-- try: a call; except .. -/
def tTry (K : PySem.W.Frag) (sp : Sp) (tl : TA) (l : List (Value × Option Nat × (Addr → Value → Option Addr → TS))) : TS := fun D σ H => tDrop (tCallS sp (WE (wHs K (fun _ _ _ _ => False) D l)) tl) D σ H
theorem m_try {K : PySem.W.Frag} {sp : Sp} {tl : TA} {l : List (Value × Option Nat × (Addr → Value → Option Addr → TS))} {nx bk ct : L2.St → Hp → Prop} {rt : VK} {σ : L2.St} {H : Hp}
    (h : tl σ H fun vs H1 => sp vs H1 (fun _ H2 => nx σ H2) fun cls d H2 => wHs K (fun _ _ _ _ => False) ⟨nx, rt, bk, ct⟩ l cls d σ H2) : Sm (tTry K sp tl l) nx rt bk ct σ H := h
theorem wh_no {K : PySem.W.Frag} {W : WX} {D : Ends} {c : Value} {i : Option Nat} {ts : Addr → Value → Option Addr → TS} {l : List (Value × Option Nat × (Addr → Value → Option Addr → TS))} {cls : Value} {d : Option Addr} {σ : L2.St} {H : Hp}
    (e : PySem.W.exmOne K cls c = some false) (h : wHs K W D l cls d σ H) : wHs K W D ((c, i, ts) :: l) cls d σ H := by
  cases i with
  | none => exact ⟨false, e, fun z => Bool.noConfusion z, fun _ => h⟩
  | some i => exact ⟨false, e, fun z => Bool.noConfusion z, fun _ => h⟩
theorem wh_yes {K : PySem.W.Frag} {W : WX} {c : Value} {ts : Addr → Value → Option Addr → TS} {l : List (Value × Option Nat × (Addr → Value → Option Addr → TS))} {cls : Value} {d : Option Addr} {nx bk ct : L2.St → Hp → Prop} {rt : VK} {σ : L2.St} {H : Hp}
    (e : PySem.W.exmOne K cls c = some true) (h : ∀ a, H a = none → Sm (ts a cls d) nx rt bk ct σ H) : wHs K W ⟨nx, rt, bk, ct⟩ ((c, none, ts) :: l) cls d σ H := ⟨true, e, fun _ a na => h a na, fun z => Bool.noConfusion z⟩
theorem wh_as {K : PySem.W.Frag} {W : WX} {c : Value} {i : Nat} {ts : Addr → Value → Option Addr → TS} {l : List (Value × Option Nat × (Addr → Value → Option Addr → TS))} {cls : Value} {d : Option Addr} {nx bk ct : L2.St → Hp → Prop} {rt : VK} {σ : L2.St} {H : Hp}
    (e : PySem.W.exmOne K cls c = some true) (h : ∀ a, H a = none → Sm (ts a cls d) (fun σ' H' => nx (σ'.set i none) H') rt (fun σ' H' => bk (σ'.set i none) H') (fun σ' H' => ct (σ'.set i none) H') (σ.set i (some (.ref a))) H) : wHs K W ⟨nx, rt, bk, ct⟩ ((c, some i, ts) :: l) cls d σ H := ⟨true, e, fun _ a na => h a na, fun z => Bool.noConfusion z⟩
theorem w_xf {a C : Addr} {f : Str} {te : TE} {cls : Value} {d : Option Addr} {σ : L2.St} {H : Hp} {Q : VK} (h : te σ H fun x H1 => x = .ref a ∧ cls = .ref C ∧ ∃ (dd : Addr) (fs : List (Str × V)) (v : V), d = some dd ∧ H1 dd = some (.xd fs) ∧ fs.lookup f = some v ∧ Q v H1) : tXf a cls d C f te σ H Q := h
theorem m_mk {C : Addr} {sp : Sp} {tl : TA} {E : XK} {nx bk ct : L2.St → Hp → Prop} {rt : VK} {σ : L2.St} {H : Hp}
    (h : tl σ H fun vs H1 => vs.length ≤ 1000 ∧ ∀ a, H1 a = none → sp (.ref a :: (vs ++ [])) (upd H1 a (exo a C none)) (fun v H2 => v = .non ∧ ∃ (d : Addr) (fs : List (Str × V)), H2 a = some (exo a C (some d)) ∧ H2 d = some (exd d fs) ∧ H1 d = none ∧ E (.ref C) (some d) (upd (del H2 a) d (.xd fs))) (fun _ _ _ => False)) :
    Sm (fun _ σ H => tMkO C sp [] tl σ H fun cls d H' => E cls d H') nx rt bk ct σ H := h
theorem w_callS {sp : Sp} {E : L2.St → XK} {tl : TA} {σ : L2.St} {H : Hp} {Q : VK} (h : tl σ H fun vs H1 => sp vs H1 Q (E σ)) : tCallS sp E tl σ H Q := h
instance {sp : Sp} {E : L2.St → XK} {tl : TA} {σ : L2.St} {H : Hp} {Q : VK} : Step (tCallS sp E tl σ H Q) (tl σ H fun vs H1 => sp vs H1 Q (E σ)) := ⟨w_callS⟩
instance {K : PySem.W.Frag} {sp : Sp} {tl : TA} {l : List (Value × Option Nat × (Addr → Value → Option Addr → TS))} {nx bk ct : L2.St → Hp → Prop} {rt : VK} {σ : L2.St} {H : Hp} :
    Step (Sm (fun D σ H => tDrop (tCallS sp (WE (wHs K (fun _ _ _ _ => False) D l)) tl) D σ H) nx rt bk ct σ H) (tl σ H fun vs H1 => sp vs H1 (fun _ H2 => nx σ H2) fun cls d H2 => wHs K (fun _ _ _ _ => False) ⟨nx, rt, bk, ct⟩ l cls d σ H2) := ⟨m_try⟩
end Kit
namespace Kit
open PySem PySem.Spec PyProof.Rows L2
/-- isinstance(e, c), e what the suite caught -/
def rIsX (K : PySem.W.Frag) (a : Addr) (cls : Value) (d : Option Addr) (D : Addr) : List V → Hp → VK → Prop := fun xs H Q => cls = .ref D ∧ d = none ∧ rIsE K D a xs H Q
theorem call_isX {X : Cx} {a D : Addr} {oe : Obj} {cls : Value} {d : Option Addr} {pn : List (Addr × Obj)} (C : ExcC X.K D) (hz : Zc cls d oe) (hf : ∃ vs, oe.data = .fields vs) : CallR (X.suite a ((a, oe) :: pn)) (.builtin "isinstance") (rIsX X.K a cls d D) := by
  intro pins s σ H xs us Q I r h
  obtain ⟨rfl, rfl, h⟩ := h
  exact call_isE C hz hf pins s σ H xs us Q I r h
theorem w_isX {K : PySem.W.Frag} {a D : Addr} {H : Hp} {Q : VK} (q : Q (.bl true) H) : rIsX K a (.ref D) none D [.ref a, .ref D] H Q :=
  ⟨rfl, rfl, .ref D, .ref D, true, rfl, fun _ h => h, by unfold PySem.W.kitOne; rw [if_pos (beq_self_eq_true _)], q⟩
/-- try: return [a call]; except .. -/
theorem m_tryL {K : PySem.W.Frag} {sp : Sp} {tl : TA} {l : List (Value × Option Nat × (Addr → Value → Option Addr → TS))} {nx bk ct : L2.St → Hp → Prop} {rt : VK} {σ : L2.St} {H : Hp}
    (h : tl σ H fun vs H1 => sp vs H1 (fun v H2 => Alloc 1 (.lst [v]) H2 rt) fun cls d H2 => wHs K (fun _ _ _ _ => False) ⟨nx, rt, bk, ct⟩ l cls d σ H2) : Sm (fun D σ H => tRet (tLst (tCons (tCallS sp (WE (wHs K (fun _ _ _ _ => False) D l)) tl) tNil)) D σ H) nx rt bk ct σ H := h
end Kit

set_option Elab.async false
set_option linter.all false
set_option maxRecDepth 100000
set_option maxHeartbeats 4000000
/-! t[::-1] of a tuple -/
namespace HT
open PySem PyProof.Rows
section
variable {prog : Program} {w : World} {A : Around} {E : Value → Shared → Prop} {s : Shared}
theorem rev_adjust (n : Nat) : Builtin.Slice.sliceAdjust none none (-1) (n : Int) = ((n : Int) - 1, -1) := by
  unfold Builtin.Slice.sliceAdjust
  simp
theorem rev_places (n : Nat) : Builtin.Slice.slicePlaces ((n : Int) - 1) (-1) (-1) = n := by
  unfold Builtin.Slice.slicePlaces
  rw [if_neg (by decide)]
  by_cases h : (n : Int) - 1 > -1
  · rw [if_pos h, show (-(-1) : Int) = 1 by decide, Int.ediv_one]
    omega
  · rw [if_neg h]
    omega
theorem sliceApplied_rev {sl : Addr} {t : Tok} {n : Nat} {Q : Int × Int × Nat → Shared → Prop} (hs : s.heap.IsSliceOf sl .none .none (.int (-1) t))
    (h : Q ((n : Int) - 1, -1, n) s) : wpAny (model prog w) A (Builtin.Slice.sliceApplied (.ref sl) (pure (n : Int))) Q E s := by
  obtain ⟨os, hos, hcs, hds⟩ := id hs
  unfold Builtin.Slice.sliceApplied Builtin.Slice.sliceFields
  refine wpAny_bind (wpAny_bind (wpAny_field hos hds (x := .none) rfl (wpAny_bind (wpAny_field hos hds (x := .none) rfl (wpAny_bind (wpAny_field hos hds (x := .int (-1) t) rfl (wpAny_pure ?_)))))))
  refine wpAny_bind (slicePart_int ?_)
  show wpAny _ _ (if ((-1 : Int) == 0) = true then _ else _) _ _ s
  rw [if_neg (by decide)]
  refine wpAny_bind (slicePart_none (wpAny_bind (slicePart_none (wpAny_bind (wpAny_pure ?_)))))
  show wpAny _ _ (match Builtin.Slice.sliceAdjust none none (-1) (n : Int) with | (lo, hi) => pure (lo, (-1 : Int), Builtin.Slice.slicePlaces lo hi (-1))) _ _ s
  rw [rev_adjust n]
  show wpAny _ _ (pure ((n : Int) - 1, (-1 : Int), Builtin.Slice.slicePlaces ((n : Int) - 1) (-1) (-1))) _ _ s
  rw [rev_places]
  exact wpAny_pure h
theorem fm_congr {α β : Type} {f g : α → Option β} : ∀ {l : List α}, (∀ a ∈ l, f a = g a) → l.filterMap f = l.filterMap g
  | [], _ => rfl
  | a :: l, h => by
    rw [List.filterMap_cons, List.filterMap_cons, h a List.mem_cons_self, fm_congr fun b hb => h b (List.mem_cons_of_mem _ hb)]
theorem rev_list (xs : List Value) : (List.range xs.length).filterMap (fun (m : Nat) => xs[xs.length - 1 - m]?) = xs.reverse := by
  have e : (List.range xs.length).filterMap (fun (m : Nat) => xs[xs.length - 1 - m]?) = (List.range xs.length).map (fun m => (xs[xs.length - 1 - m]?).getD .none) := by
    rw [← List.filterMap_eq_map]
    refine fm_congr fun m hm => ?_
    have := List.mem_range.mp hm
    show xs[xs.length - 1 - m]? = some ((xs[xs.length - 1 - m]?).getD .none)
    rw [List.getElem?_eq_getElem (by omega)]
    rfl
  rw [e]
  apply List.ext_getElem
  · simp
  · intro i h1 h2
    rw [List.length_map, List.length_range] at h1
    rw [List.getElem_map, List.getElem_range, List.getElem_reverse, List.getElem?_eq_getElem (by omega)]
    rfl
theorem rev_pick (xs : Array Value) : ((List.range xs.size).filterMap fun (m : Nat) => xs[((xs.size : Int) - 1 + (m : Int) * -1).toNat]?).toArray = xs.toList.reverse.toArray := by
  have h := rev_list xs.toList
  rw [Array.length_toList] at h
  rw [← h]
  congr 1
  refine fm_congr fun m hm => ?_
  have := List.mem_range.mp hm
  rw [show ((xs.size : Int) - 1 + (m : Int) * -1).toNat = xs.size - 1 - m by omega, Array.getElem?_toList]
theorem getItem_tuple_rev {t sl : Addr} {items : Array Value} {u : Tok} {Q : Value → Shared → Prop} (ht : IsTup s.heap t items) (hs : s.heap.IsSliceOf sl .none .none (.int (-1) u))
    (h : Q (.ref s.heap.objs.size) { s with heap := s.heap.push { cls := .type "tuple", data := .seq items.toList.reverse.toArray } })
    (hsz : items.size ≤ sizeLine) : wpAny (model prog w) A (getItem (.ref t) (.ref sl)) Q E s := by
  have htake : sizeOk (.seq items.toList.reverse.toArray) := by
    show items.toList.reverse.toArray.size ≤ sizeLine
    rw [List.size_toArray, List.length_reverse, Array.length_toList]
    exact hsz
  obtain ⟨os, hos, hcs, hds⟩ := id hs
  have hTs : s.TypeIs (.ref sl) "slice" := ⟨os, hos, hcs⟩
  unfold getItem
  try with_reducible refine wpAny_holding ?_
  first | refine wpAny_bind (wpAny_pure ?_) | skip
  refine wpAny_bind (wpAny_sequenceKey ht.typeIs (by decide) ?_)
  refine wpAny_bind (wpAny_callSpecial?_slot (name := Str.ofString "__getitem__") ht.typeIs PyProof.Rows.slot_tuple_getitem
    (wpAny_call_entry PyProof.Rows.slot_tuple_getitem ht.typeIs entry_tuple_getitem ?_ (args_tuple_getitem _ _)))
  show wpAny _ _ (Builtin.Tuple.tupleItemsOf (.ref t) >>= _) _ _ s
  refine wpAny_bind (tupleItemsOf_ ht ?_)
  refine wpAny_bind (wpAny_typeOf hTs ?_)
  rw [if_pos (by decide)]
  refine wpAny_bind (sliceApplied_rev hs ?_)
  have hno : ¬ ((((items.size : Int) - 1) == 0 && (-1 : Int) == 1 && items.size == items.size) = true) := by
    intro q
    rw [Bool.and_eq_true, Bool.and_eq_true] at q
    exact absurd q.1.2 (by decide)
  show wpAny _ _ (if (((items.size : Int) - 1) == 0 && (-1 : Int) == 1 && items.size == items.size) = true then _ else _) _ _ s
  rw [if_neg hno, rev_pick]
  first
    | exact wpAny_bind (m := Builtin.Tuple.tupleExact _) (wpAny_newObj_type (wpAny_pure ⟨_, rfl, wpAny_pure h⟩) htake)
    | exact wpAny_bind (m := Builtin.Tuple.tupleExact _) (wpAny_newObj_type (wpAny_bind (wpAny_pure (wpAny_pure ⟨_, rfl, wpAny_pure h⟩))) htake)
    | exact wpAny_bind (wpAny_bind (m := Builtin.Tuple.tupleExact _) (wpAny_newObj_type (wpAny_pure (wpAny_pure ⟨_, rfl, wpAny_pure h⟩)) htake))
    | exact wpAny_bind (wpAny_bind (m := Builtin.Tuple.tupleExact _) (wpAny_newObj_type (wpAny_pure ⟨_, rfl, wpAny_pure h⟩) htake))
end
end HT
namespace Kit
open PySem PySem.Spec PyProof.Rows L2
/-- t[::-1] -/
def tRevT (K : PySem.W.Frag) (te : TE) (ts : TO) : TE := fun σ H Q => te σ H fun x H1 => ts σ H1 fun l H2 => l = some (-1) ∧ ∃ a xs, x = .ref a ∧ SqT K H2 a xs ∧ ∀ p, H2 p = none → Q (.ref p) (upd H2 p (.tup xs.reverse))
theorem pe_revT (K : PySem.W.Frag) {X : Cx} {e st : Expr} {te : TE} {ts : TO} {pos p2 : Pos} (he : PE X e te) (hs : PO X (some st) ts) (h : X.K = K := by rfl) : PE X (.Subscript e (.Slice none none (some st) p2) pos) (tRevT K te ts) := by
  subst h
  refine ⟨fun pins s σ H Q I h => ?_⟩
  refine Subscript_ (thn (he.run pins s σ H _ I h) fun v s1 ⟨x, H1, I1, r1, q1⟩ => ?_)
  refine wpAny_Slice ?_
  rw [evalPart_none]
  refine wpAny_pure (wpAny_pure ?_)
  refine thn (hs.run pins s1 σ H1 _ I1 q1) fun vl s3 ⟨l, H3, I3, pl, q3⟩ => ?_
  obtain ⟨rfl, a, xs, rfl, hx, q⟩ := q3
  cases pl with
  | int i t =>
    have I4 : Inv X pins σ H3 { s3 with heap := s3.heap.push { cls := .type "slice", data := .fields #[.none, .none, .int (-1) t] } } := I3.kept (t' := s3.toks) fun b ob q => Heap.get?_push_of_some _ q
    cases r1
    obtain ⟨its, r, ht, hz⟩ := I4.tuple hx
    have hlen : its.toArray.size = xs.length := by rw [List.size_toArray]; exact r.length.symm
    show wpAny (model X.prog X.w) X.A (subscriptTail e (.Slice none none (some st) p2) (.ref a) (.ref s3.heap.objs.size)) (EP X pins σ Q) X.xe { s3 with heap := s3.heap.push { cls := .type "slice", data := .fields #[.none, .none, .int (-1) t] } }
    refine tail_any (ops := [.ref a, .ref s3.heap.objs.size]) ht.typeIs PyProof.Rows.slot_tuple_getitem.lookup ?_ (by with_unfolding_all rfl)
    refine HT.getItem_tuple_rev ht (Heap.IsSliceOf.new ..) ?_ (by rw [hlen]; exact hz)
    refine ⟨.ref _, _, I4.laid (t' := s3.toks) (o := .tup xs.reverse) (fun b ob q => Heap.get?_push_of_some _ q) (Nat.le_refl _) ?_, rfl, q _ (I4.hok.fresh (Nat.le_refl _))⟩
    refine ⟨by rw [List.length_reverse]; exact hz, _, ?_, IsTup.new _ _⟩
    exact r.reverse
theorem w_revT {K : PySem.W.Frag} {te : TE} {ts : TO} {σ : L2.St} {H : Hp} {Q : VK} (h : te σ H fun x H1 => ts σ H1 fun l H2 => l = some (-1) ∧ ∃ a xs, x = .ref a ∧ SqT K H2 a xs ∧ ∀ p, H2 p = none → Q (.ref p) (upd H2 p (.tup xs.reverse))) : tRevT K te ts σ H Q := h
end Kit

set_option Elab.async false
set_option linter.all false
set_option maxRecDepth 100000
set_option maxHeartbeats 4000000
namespace My
open PySem PySem.Spec PyProof.Rows L2
/-! ### the walk: "wp" goes as far as it can, "wp1" one step; "hp": what stands at an address; "ex": a heap grown; "sqL", "sqT": a list, a tuple to be read; "side": a side condition; "ix": an item -/
local macro_rules | `(tactic| walk_at "hp") => `(tactic| first | with_reducible assumption | exact Kit.ex_get (by with_reducible assumption) (by walk_at "hp") | fail)
local macro_rules | `(tactic| walk_at "ex") => `(tactic| first | with_reducible assumption | with_reducible exact Evl.Ex.refl _ | exact Kit.ex_snoc (by with_reducible assumption) (by walk_at "ex") | exact Kit.ex_but (by with_reducible assumption) (by with_reducible assumption) (by walk_at "ex") | fail)
local macro_rules | `(tactic| walk_at "but") => `(tactic| first | with_reducible assumption | with_reducible exact Kit.ExBut.refl _ _ | exact Kit.but_snoc (by with_reducible assumption) (by walk_at "but") | exact Kit.but_snocE (by with_reducible assumption) (by walk_at "but") | fail)
local macro_rules | `(tactic| walk_at "sqL") => `(tactic| first | with_reducible assumption | exact Evl.sq_of (by with_reducible assumption) | exact Evl.ex_l (by with_reducible assumption) (by walk_at "sqL") | fail)
local macro_rules | `(tactic| walk_at "sqT") => `(tactic| first | with_reducible assumption | exact Evl.st_of (by with_reducible assumption) | exact Evl.ex_t (by with_reducible assumption) (by walk_at "sqT") | fail)
local macro_rules | `(tactic| walk_at "sq2") => `(tactic| first | with_reducible assumption | exact Or.inr (Evl.st_of (by with_reducible assumption)) | exact Or.inl (Evl.sq_of (by with_reducible assumption)) | exact Or.inl (by walk_at "sqL") | exact Or.inr (by walk_at "sqT") | fail)
local macro_rules | `(tactic| walk_at "len") => `(tactic| (first | assumption | omega | fail))
local macro_rules | `(tactic| walk_at "len2") => `(tactic| first | exact Nat.le_of_ble_eq_true rfl | omega | (simp; omega) | fail)
local macro_rules | `(tactic| walk_at "side") => `(tactic| first | (with_reducible exact trivial) | (show (0 : Int) < _; omega) | (show (0 : Int) < _; decide) | (show L2.CDiv _ _; exact ⟨by omega, by omega⟩) | (show L2.CMul _ _; exact .inr ⟨by omega, by omega⟩) | (show L2.CMul _ _; exact .inl ⟨by omega, by omega⟩) | (show L2.CDivW _ _; exact Kit.divW (by omega) (by omega)) | (show L2.CDivW _ _; exact Kit.divW (by decide) (by decide)) | (show L2.CPow _ _; exact ⟨by decide, by decide, by decide⟩) | fail)
local macro_rules | `(tactic| walk_at "ix") => `(tactic| first | exact L2.atI_nat (j := 0) rfl | exact L2.atI_nat (j := 1) rfl | exact L2.atI_nat (j := 2) rfl | exact L2.atI_nat (j := 3) rfl | exact L2.atI_nat (j := 4) rfl | exact L2.atI_nat (j := 5) rfl | assumption | fail)
local macro_rules | `(tactic| walk_at "norm") => `(tactic| ((with_reducible show Kit.Sm _ _ _ _ _ (List.set _ _ _) _); refine Kit.m_norm (by simp only [List.set_cons_succ, List.set_cons_zero]; exact rfl) ?_))
local macro_rules | `(tactic| walk_at "wpA") => `(tactic| first
  | with_reducible refine Kit.i_R ?_
  | ((with_reducible refine Kit.i_D ?_ ?_) <;> intro _)
  | ((with_reducible show L2.rI _ _ _ _ _ _); refine Kit.w_I (by walk_at "side") ?_)
  | ((with_reducible show Kit.Alloc _ _ _ _); refine Kit.w_new (by first | exact Nat.le_of_ble_eq_true rfl | walk_at "len") ?_; intro _ _ _ _ _)
  | ((with_reducible show L2.rIxL _ _ (V.int _) _ _); refine Kit.w_ixL (by walk_at "sqL") (by walk_at "ix") ?_)
  | ((with_reducible show L2.rIxT _ _ (V.int _) _ _); refine Kit.w_ixT (by walk_at "sqT") (by walk_at "ix") ?_)
  | ((with_reducible show L2.rIn _ false _ _ _ _); first | refine Kit.w_inLt (by walk_at "sq2") (by decide +kernel) ?_ | refine Kit.w_inLf (by walk_at "sq2") (by decide +kernel) ?_)
  | ((with_reducible show L2.rEq (V.str _) _ _ _); first | with_reducible refine Kit.w_eqS ?_ | refine Kit.w_eqSF (by decide +kernel) ?_)
  | fail)
local macro_rules | `(tactic| walk_at "wpB") => `(tactic| first
  | ((with_reducible show L2.rSlL _ _ _ _ _ _); refine Kit.w_slL (by walk_at "sqL") ?_; intro _ _ _ _ _)
  | ((with_reducible show L2.rSlA _ _ _ _ _ _); refine Kit.w_slT (by walk_at "sqT") ?_; intro _ _ _ _)
  | ((with_reducible show L2.rCatA _ _ _ _ _); refine Kit.w_catT (by walk_at "sqT") (by walk_at "sqT") (by walk_at "len2") ?_; intro _ _ _ _)
  | ((with_reducible show L2.rCat _ _ _ _); refine Kit.w_catL (by walk_at "hp") (by walk_at "hp") (by walk_at "len2") ?_; intro _ _ _ _ _)
  | ((with_reducible show L2.tyV _ "list" _ _ ∧ _); refine Kit.w_tyL (by walk_at "sqL") ?_)
  | ((with_reducible refine Kit.w_made ?_); intro _ _ _ _ _ _)
  | ((with_reducible show Evl.rLenS _ _ _ _); refine Kit.w_len (by walk_at "sq2") ?_)
  | ((with_reducible show Evl.rListS _ _ _ _); refine Kit.w_list (by walk_at "sq2") ?_; intro _ _ _ _ _)
  | ((with_reducible show Kit.rTupS _ _ _ _); first | (refine Kit.w_tuple (by walk_at "sqL") ?_; intro _ _ _ _ _) | refine Kit.w_tupleT (by walk_at "sqT") ?_)
  | ((with_reducible show L2.rSetL _ (V.int _) _ _ _); refine Kit.w_setL (by walk_at "hp") (by first | exact rfl | exact Evl.ixN_nat (by omega)) (by first | (simp only [List.set_cons_succ, List.set_cons_zero]; exact rfl) | exact rfl) ?_; intro _ _ _)
  | ((with_reducible show L2.rNeD _ _ _ _ _); first | refine Kit.w_neTT (by walk_at "sqT") (by walk_at "sqT") ?_ | refine Kit.w_neLL (by walk_at "sqL") (by walk_at "sqL") ?_)
  | ((with_reducible show L2.rEqD _ _ _ _ _); first | refine Kit.w_eqTT (by walk_at "sqT") (by walk_at "sqT") ?_ | refine Kit.w_eqLL (by walk_at "sqL") (by walk_at "sqL") ?_)
  | fail)
local macro_rules | `(tactic| walk_at "wpC") => `(tactic| first
  | with_reducible refine Kit.w_intB ?_
  | ((with_reducible show L2.rIsi _ _ _ _); first | refine Kit.w_isiInt (b := true) (by decide +kernel) ?_ | refine Kit.w_isiInt (b := false) (by decide +kernel) ?_ | refine Kit.w_isiNon (b := true) (by decide +kernel) ?_ | refine Kit.w_isiNon (b := false) (by decide +kernel) ?_ | refine Kit.w_isiBl (b := true) (by decide +kernel) ?_ | refine Kit.w_isiBl (b := false) (by decide +kernel) ?_ | refine Kit.w_isiStr (b := true) (by decide +kernel) ?_ | refine Kit.w_isiStr (b := false) (by decide +kernel) ?_ | refine Kit.w_isiTup (b := true) (by walk_at "sqT") (by decide +kernel) ?_ | refine Kit.w_isiTup (b := false) (by walk_at "sqT") (by decide +kernel) ?_ | refine Kit.w_isiLst (b := true) (by walk_at "sqL") (by decide +kernel) ?_ | refine Kit.w_isiLst (b := false) (by walk_at "sqL") (by decide +kernel) ?_)
  | with_reducible refine Kit.m_gsub ?_
  | with_reducible refine Kit.w_dget ?_
  | ((with_reducible refine Kit.w_disp ?_); intro _ _ _ _ _)
  | with_reducible refine Kit.w_pp ?_
  | with_reducible refine Kit.w_pn ?_
  | fail)
local macro_rules | `(tactic| walk_at "wpS") => `(tactic| first
  | ((with_reducible show L2.tVar _ _ _ _); refine Kit.w_var rfl ?_)
  | with_reducible refine Kit.w_op ?_
  | with_reducible refine Kit.w_c ?_
  | with_reducible refine Kit.w_cons ?_
  | with_reducible refine Kit.w_nil ?_
  | ((with_reducible show Kit.Sm _ _ _ _ _ _ _); first
      | ((with_reducible show Kit.Sm _ _ _ _ _ (List.set _ _ _) _); refine Kit.m_norm (by simp only [List.set_cons_succ, List.set_cons_zero]; exact rfl) ?_)
      | with_reducible refine Kit.m_seq ?_
      | with_reducible refine Kit.m_asg ?_
      | with_reducible refine Kit.m_if ?_
      | with_reducible refine Kit.m_ret ?_
      | with_reducible refine Kit.m_next ?_
      | with_reducible refine Kit.m_asgG ?_
      | with_reducible refine Kit.m_drop ?_
      | with_reducible refine Kit.m_fld ?_
      | with_reducible refine Kit.m_for ?_
      | with_reducible refine Kit.m_retN ?_
      | with_reducible refine Kit.m_cont ?_
      | with_reducible refine Kit.m_brk ?_)
  | with_reducible refine Kit.w_test ?_
  | with_reducible refine Kit.w_bl ?_
  | with_reducible refine Kit.w_blE ?_
  | with_reducible refine Kit.w_I0 ?_
  | with_reducible refine Kit.w_eqI ?_
  | with_reducible refine Kit.i_T ?_
  | with_reducible refine Kit.i_F ?_
  | with_reducible refine Kit.i_N ?_
  | with_reducible refine Kit.w_cb ?_
  | with_reducible refine Kit.w_call0 ?_
  | with_reducible refine Kit.w_tup ?_
  | with_reducible refine Kit.w_lst ?_
  | with_reducible refine Kit.w_int ?_
  | with_reducible refine Kit.w_not ?_
  | with_reducible refine Kit.w_and ?_
  | with_reducible refine Kit.w_or ?_
  | with_reducible refine Kit.w_B ?_
  | with_reducible refine Kit.w_ifE ?_
  | with_reducible refine Kit.w_fld ?_
  | with_reducible refine Kit.w_meth ?_
  | with_reducible refine Kit.w_sl ?_
  | with_reducible refine Kit.w_po ?_
  | with_reducible refine Kit.w_ps ?_
  | with_reducible refine Kit.w_pi ?_
  | with_reducible refine Kit.w_bm ?_
  | with_reducible refine Kit.w_bm0 ?_
  | with_reducible refine Kit.w_make ?_
  | with_reducible refine Kit.w_neI ?_
  | with_reducible refine Kit.w_un ?_
  | with_reducible refine Kit.w_U ?_
  | with_reducible refine Kit.w_andV ?_
  | with_reducible refine Kit.w_orV ?_
  | with_reducible refine Kit.w_notV ?_
  | with_reducible refine Kit.w_eqB ?_
  | with_reducible refine Kit.w_max ?_
  | with_reducible refine Kit.w_min ?_
  | with_reducible refine Kit.w_abs ?_
  | ((with_reducible show Kit.rIsNo _ _ _ _); first | with_reducible refine Kit.w_isNN ?_ | with_reducible refine Kit.w_isNI ?_ | with_reducible refine Kit.w_isNB ?_ | with_reducible refine Kit.w_isNR ?_)
  | ((with_reducible show Kit.rNotNo _ _ _ _); first | with_reducible refine Kit.w_notNN ?_ | with_reducible refine Kit.w_notNI ?_ | with_reducible refine Kit.w_notNB ?_ | with_reducible refine Kit.w_notNR ?_)
  | with_reducible refine Kit.w_rng1 ?_
  | with_reducible refine Kit.w_rng2 ?_
  | with_reducible refine Kit.w_rng3 ?_
  | with_reducible refine Kit.w_lc ?_
  | with_reducible refine Kit.w_itl ?_
  | with_reducible refine Kit.w_itt ?_
  | fail)
local macro_rules | `(tactic| walk_at "wpZ") => `(tactic| first
  | ((with_reducible refine Kit.i_B ?_ ?_) <;> intro _)
  | fail)
local macro_rules | `(tactic| walk_at "wp1") => `(tactic| first | walk_at "wpA" | walk_at "wpB" | walk_at "wpC" | walk_at "wpZ" | walk_at "wpS")
local macro_rules | `(tactic| walk_at "wp") => `(tactic| repeat' (first | with_reducible refine Kit.step ?_ | walk_at "wp1"))

/-! ### the text by places -/
def topS (i : Nat) : Stmt := PySem.Challenge.pw_onestepcourt_k21_whole_no_other_opening.main.body.getD i (.Pass ⟨0, 0, 0, 0⟩)
abbrev s_is_integer : Stmt := topS 5
abbrev N_is_integer : List Str := ["value", "least", "greatest"]
theorem sc_is_integer : FnScope N_is_integer ["value", "least", "greatest"] (defScope s_is_integer) := ⟨rfl, rfl, rfl, by decide +kernel, rfl, by decide +kernel, by decide +kernel⟩
abbrev s_is_word : Stmt := topS 6
abbrev N_is_word : List Str := ["value"]
theorem sc_is_word : FnScope N_is_word ["value"] (defScope s_is_word) := ⟨rfl, rfl, rfl, by decide +kernel, rfl, by decide +kernel, by decide +kernel⟩
abbrev s_Digests___init : Stmt := inClass (topS 7) 0
abbrev N_Digests___init : List Str := ["self", "bits", "book"]
theorem sc_Digests___init : FnScope N_Digests___init ["self", "bits", "book"] (defScope s_Digests___init) := ⟨rfl, rfl, rfl, by decide +kernel, rfl, by decide +kernel, by decide +kernel⟩
abbrev s_Digests_leaf : Stmt := inClass (topS 7) 1
abbrev N_Digests_leaf : List Str := ["self", "word"]
theorem sc_Digests_leaf : FnScope N_Digests_leaf ["self", "word"] (defScope s_Digests_leaf) := ⟨rfl, rfl, rfl, by decide +kernel, rfl, by decide +kernel, by decide +kernel⟩
abbrev s_Digests_fold : Stmt := inClass (topS 7) 2
abbrev N_Digests_fold : List Str := ["self", "left", "right", "mixed", "digest"]
theorem sc_Digests_fold : FnScope N_Digests_fold ["self", "left", "right"] (defScope s_Digests_fold) := ⟨rfl, rfl, rfl, by decide +kernel, rfl, by decide +kernel, by decide +kernel⟩
abbrev s_Digests_state : Stmt := inClass (topS 7) 3
abbrev N_Digests_state : List Str := ["self", "numbers", "digest", "number"]
theorem sc_Digests_state : FnScope N_Digests_state ["self", "numbers"] (defScope s_Digests_state) := ⟨rfl, rfl, rfl, by decide +kernel, rfl, by decide +kernel, by decide +kernel⟩
abbrev s_Digests_is_digest : Stmt := inClass (topS 7) 5
abbrev N_Digests_is_digest : List Str := ["self", "value"]
theorem sc_Digests_is_digest : FnScope N_Digests_is_digest ["self", "value"] (defScope s_Digests_is_digest) := ⟨rfl, rfl, rfl, by decide +kernel, rfl, by decide +kernel, by decide +kernel⟩
abbrev s_Digests__noted : Stmt := inClass (topS 7) 7
abbrev N_Digests__noted : List Str := ["self", "kind", "text", "digest"]
theorem sc_Digests__noted : FnScope N_Digests__noted ["self", "kind", "text", "digest"] (defScope s_Digests__noted) := ⟨rfl, rfl, rfl, by decide +kernel, rfl, by decide +kernel, by decide +kernel⟩
abbrev s_Book___init : Stmt := inClass (topS 8) 0
abbrev N_Book___init : List Str := ["self"]
theorem sc_Book___init : FnScope N_Book___init ["self"] (defScope s_Book___init) := ⟨rfl, rfl, rfl, by decide +kernel, rfl, by decide +kernel, by decide +kernel⟩
abbrev s_Book_add : Stmt := inClass (topS 8) 1
abbrev N_Book_add : List Str := ["self", "kind", "text", "digest"]
theorem sc_Book_add : FnScope N_Book_add ["self", "kind", "text", "digest"] (defScope s_Book_add) := ⟨rfl, rfl, rfl, by decide +kernel, rfl, by decide +kernel, by decide +kernel⟩
abbrev s_Book_has_collision : Stmt := inClass (topS 8) 2
abbrev N_Book_has_collision : List Str := ["self"]
theorem sc_Book_has_collision : FnScope N_Book_has_collision ["self"] (defScope s_Book_has_collision) := ⟨rfl, rfl, rfl, by decide +kernel, rfl, by decide +kernel, by decide +kernel⟩
abbrev s_Book_count : Stmt := inClass (topS 8) 3
abbrev N_Book_count : List Str := ["self"]
theorem sc_Book_count : FnScope N_Book_count ["self"] (defScope s_Book_count) := ⟨rfl, rfl, rfl, by decide +kernel, rfl, by decide +kernel, by decide +kernel⟩
abbrev s_root_by : Stmt := topS 14
abbrev N_root_by : List Str := ["digests", "place", "digest", "path", "root", "item"]
theorem sc_root_by : FnScope N_root_by ["digests", "place", "digest", "path"] (defScope s_root_by) := ⟨rfl, rfl, rfl, by decide +kernel, rfl, by decide +kernel, by decide +kernel⟩
abbrev s_levels_of : Stmt := topS 15
abbrev N_levels_of : List Str := ["digests", "row", "levels", "below", "k"]
theorem sc_levels_of : FnScope N_levels_of ["digests", "row"] (defScope s_levels_of) := ⟨rfl, rfl, rfl, by decide +kernel, rfl, by decide +kernel, by decide +kernel⟩
abbrev s_path_in : Stmt := topS 16
abbrev N_path_in : List Str := ["levels", "place", "path", "level", "neighbour"]
theorem sc_path_in : FnScope N_path_in ["levels", "place"] (defScope s_path_in) := ⟨rfl, rfl, rfl, by decide +kernel, rfl, by decide +kernel, by decide +kernel⟩
abbrev s_Memory___init : Stmt := inClass (topS 17) 0
abbrev N_Memory___init : List Str := ["self", "digests", "words", "word"]
theorem sc_Memory___init : FnScope N_Memory___init ["self", "digests", "words"] (defScope s_Memory___init) := ⟨rfl, rfl, rfl, by decide +kernel, rfl, by decide +kernel, by decide +kernel⟩
abbrev s_Memory_word : Stmt := inClass (topS 17) 1
abbrev N_Memory_word : List Str := ["self", "place"]
theorem sc_Memory_word : FnScope N_Memory_word ["self", "place"] (defScope s_Memory_word) := ⟨rfl, rfl, rfl, by decide +kernel, rfl, by decide +kernel, by decide +kernel⟩
abbrev s_Memory_change : Stmt := inClass (topS 17) 2
abbrev N_Memory_change : List Str := ["self", "place", "word", "at", "height", "below"]
theorem sc_Memory_change : FnScope N_Memory_change ["self", "place", "word"] (defScope s_Memory_change) := ⟨rfl, rfl, rfl, by decide +kernel, rfl, by decide +kernel, by decide +kernel⟩
abbrev s_Memory_words : Stmt := inClass (topS 17) 3
abbrev N_Memory_words : List Str := ["self"]
theorem sc_Memory_words : FnScope N_Memory_words ["self"] (defScope s_Memory_words) := ⟨rfl, rfl, rfl, by decide +kernel, rfl, by decide +kernel, by decide +kernel⟩
abbrev s_Memory_root : Stmt := inClass (topS 17) 4
abbrev N_Memory_root : List Str := ["self"]
theorem sc_Memory_root : FnScope N_Memory_root ["self"] (defScope s_Memory_root) := ⟨rfl, rfl, rfl, by decide +kernel, rfl, by decide +kernel, by decide +kernel⟩
abbrev s_Memory_path : Stmt := inClass (topS 17) 5
abbrev N_Memory_path : List Str := ["self", "place"]
theorem sc_Memory_path : FnScope N_Memory_path ["self", "place"] (defScope s_Memory_path) := ⟨rfl, rfl, rfl, by decide +kernel, rfl, by decide +kernel, by decide +kernel⟩
abbrev s_op : Stmt := topS 20
abbrev N_op : List Str := ["sign", "a", "b"]
theorem sc_op : FnScope N_op ["sign", "a", "b"] (defScope s_op) := ⟨rfl, rfl, rfl, by decide +kernel, rfl, by decide +kernel, by decide +kernel⟩
abbrev s_divided : Stmt := topS 21
abbrev N_divided : List Str := ["sign", "a", "b"]
theorem sc_divided : FnScope N_divided ["sign", "a", "b"] (defScope s_divided) := ⟨rfl, rfl, rfl, by decide +kernel, rfl, by decide +kernel, by decide +kernel⟩
abbrev s_wrapped : Stmt := topS 22
abbrev N_wrapped : List Str := ["sign", "a", "b", "result"]
theorem sc_wrapped : FnScope N_wrapped ["sign", "a", "b"] (defScope s_wrapped) := ⟨rfl, rfl, rfl, by decide +kernel, rfl, by decide +kernel, by decide +kernel⟩
abbrev s_holds : Stmt := topS 23
abbrev N_holds : List Str := ["sign", "a", "b"]
theorem sc_holds : FnScope N_holds ["sign", "a", "b"] (defScope s_holds) := ⟨rfl, rfl, rfl, by decide +kernel, rfl, by decide +kernel, by decide +kernel⟩
abbrev s_out_behind : Stmt := topS 27
abbrev N_out_behind : List Str := ["digests", "out", "word"]
theorem sc_out_behind : FnScope N_out_behind ["digests", "out", "word"] (defScope s_out_behind) := ⟨rfl, rfl, rfl, by decide +kernel, rfl, by decide +kernel, by decide +kernel⟩
abbrev s_name_of : Stmt := topS 28
abbrev N_name_of : List Str := ["word", "number"]
theorem sc_name_of : FnScope N_name_of ["word"] (defScope s_name_of) := ⟨rfl, rfl, rfl, by decide +kernel, rfl, by decide +kernel, by decide +kernel⟩
abbrev s_behind : Stmt := topS 29
abbrev N_behind : List Str := ["place"]
theorem sc_behind : FnScope N_behind ["place"] (defScope s_behind) := ⟨rfl, rfl, rfl, by decide +kernel, rfl, by decide +kernel, by decide +kernel⟩
abbrev s_data_of : Stmt := topS 30
abbrev N_data_of : List Str := ["registers", "word", "name", "place", "place_by_x"]
theorem sc_data_of : FnScope N_data_of ["registers", "word"] (defScope s_data_of) := ⟨rfl, rfl, rfl, by decide +kernel, rfl, by decide +kernel, by decide +kernel⟩
abbrev s_done_by : Stmt := topS 31
abbrev N_done_by : List Str := ["digests", "registers", "word", "data", "pc", "acc", "x", "mark", "out", "count", "name", "halt", "pc_then", "acc_then", "x_then"]
theorem sc_done_by : FnScope N_done_by ["digests", "registers", "word", "data"] (defScope s_done_by) := ⟨rfl, rfl, rfl, by decide +kernel, rfl, by decide +kernel, by decide +kernel⟩
abbrev s_halt_by : Stmt := topS 32
abbrev N_halt_by : List Str := ["name", "registers", "word", "data", "pc", "acc", "x", "mark", "out", "count"]
theorem sc_halt_by : FnScope N_halt_by ["name", "registers", "word", "data"] (defScope s_halt_by) := ⟨rfl, rfl, rfl, by decide +kernel, rfl, by decide +kernel, by decide +kernel⟩
abbrev s_pc_by : Stmt := topS 33
abbrev N_pc_by : List Str := ["name", "registers", "word", "data", "pc", "acc", "place"]
theorem sc_pc_by : FnScope N_pc_by ["name", "registers", "word", "data"] (defScope s_pc_by) := ⟨rfl, rfl, rfl, by decide +kernel, rfl, by decide +kernel, by decide +kernel⟩
abbrev s_acc_by : Stmt := topS 34
abbrev N_acc_by : List Str := ["name", "registers", "word", "data", "acc"]
theorem sc_acc_by : FnScope N_acc_by ["name", "registers", "word", "data"] (defScope s_acc_by) := ⟨rfl, rfl, rfl, by decide +kernel, rfl, by decide +kernel, by decide +kernel⟩
abbrev s_x_by : Stmt := topS 35
abbrev N_x_by : List Str := ["name", "registers", "data"]
theorem sc_x_by : FnScope N_x_by ["name", "registers", "data"] (defScope s_x_by) := ⟨rfl, rfl, rfl, by decide +kernel, rfl, by decide +kernel, by decide +kernel⟩
abbrev s_changed_by : Stmt := topS 36
abbrev N_changed_by : List Str := ["name", "registers"]
theorem sc_changed_by : FnScope N_changed_by ["name", "registers"] (defScope s_changed_by) := ⟨rfl, rfl, rfl, by decide +kernel, rfl, by decide +kernel, by decide +kernel⟩
abbrev s_Machine___init : Stmt := inClass (topS 37) 0
abbrev N_Machine___init : List Str := ["self", "digests", "registers", "words"]
theorem sc_Machine___init : FnScope N_Machine___init ["self", "digests", "registers", "words"] (defScope s_Machine___init) := ⟨rfl, rfl, rfl, by decide +kernel, rfl, by decide +kernel, by decide +kernel⟩
abbrev s_Machine_registers : Stmt := inClass (topS 37) 1
abbrev N_Machine_registers : List Str := ["self"]
theorem sc_Machine_registers : FnScope N_Machine_registers ["self"] (defScope s_Machine_registers) := ⟨rfl, rfl, rfl, by decide +kernel, rfl, by decide +kernel, by decide +kernel⟩
abbrev s_Machine_words : Stmt := inClass (topS 37) 2
abbrev N_Machine_words : List Str := ["self"]
theorem sc_Machine_words : FnScope N_Machine_words ["self"] (defScope s_Machine_words) := ⟨rfl, rfl, rfl, by decide +kernel, rfl, by decide +kernel, by decide +kernel⟩
abbrev s_Machine_word : Stmt := inClass (topS 37) 3
abbrev N_Machine_word : List Str := ["self", "place"]
theorem sc_Machine_word : FnScope N_Machine_word ["self", "place"] (defScope s_Machine_word) := ⟨rfl, rfl, rfl, by decide +kernel, rfl, by decide +kernel, by decide +kernel⟩
abbrev s_Machine_path : Stmt := inClass (topS 37) 4
abbrev N_Machine_path : List Str := ["self", "place"]
theorem sc_Machine_path : FnScope N_Machine_path ["self", "place"] (defScope s_Machine_path) := ⟨rfl, rfl, rfl, by decide +kernel, rfl, by decide +kernel, by decide +kernel⟩
abbrev s_Machine_root : Stmt := inClass (topS 37) 5
abbrev N_Machine_root : List Str := ["self"]
theorem sc_Machine_root : FnScope N_Machine_root ["self"] (defScope s_Machine_root) := ⟨rfl, rfl, rfl, by decide +kernel, rfl, by decide +kernel, by decide +kernel⟩
abbrev s_Machine_digest : Stmt := inClass (topS 37) 6
abbrev N_Machine_digest : List Str := ["self"]
theorem sc_Machine_digest : FnScope N_Machine_digest ["self"] (defScope s_Machine_digest) := ⟨rfl, rfl, rfl, by decide +kernel, rfl, by decide +kernel, by decide +kernel⟩
abbrev s_Machine_step : Stmt := inClass (topS 37) 7
abbrev N_Machine_step : List Str := ["self", "pc", "acc", "x", "mark", "out", "count", "word", "other", "data", "changed"]
theorem sc_Machine_step : FnScope N_Machine_step ["self"] (defScope s_Machine_step) := ⟨rfl, rfl, rfl, by decide +kernel, rfl, by decide +kernel, by decide +kernel⟩
abbrev s_Machine_told : Stmt := inClass (topS 37) 8
abbrev N_Machine_told : List Str := ["self"]
theorem sc_Machine_told : FnScope N_Machine_told ["self"] (defScope s_Machine_told) := ⟨rfl, rfl, rfl, by decide +kernel, rfl, by decide +kernel, by decide +kernel⟩
abbrev s_opened : Stmt := topS 39
abbrev N_opened : List Str := ["machine", "registers", "places", "parts", "place"]
theorem sc_opened : FnScope N_opened ["machine"] (defScope s_opened) := ⟨rfl, rfl, rfl, by decide +kernel, rfl, by decide +kernel, by decide +kernel⟩
abbrev s_places_of : Stmt := topS 40
abbrev N_places_of : List Str := ["registers", "word", "other"]
theorem sc_places_of : FnScope N_places_of ["registers", "word"] (defScope s_places_of) := ⟨rfl, rfl, rfl, by decide +kernel, rfl, by decide +kernel, by decide +kernel⟩
abbrev s_step_of : Stmt := topS 41
abbrev N_step_of : List Str := ["digests", "digest", "opening", "registers", "root", "parts"]
theorem sc_step_of : FnScope N_step_of ["digests", "digest", "opening"] (defScope s_step_of) := ⟨rfl, rfl, rfl, by decide +kernel, rfl, by decide +kernel, by decide +kernel⟩
abbrev s_step_by : Stmt := topS 42
abbrev N_step_by : List Str := ["digests", "registers", "root", "parts", "word", "places", "place", "part", "data", "path", "registers_then", "changed"]
theorem sc_step_by : FnScope N_step_by ["digests", "registers", "root", "parts"] (defScope s_step_by) := ⟨rfl, rfl, rfl, by decide +kernel, rfl, by decide +kernel, by decide +kernel⟩
abbrev s_root_with : Stmt := topS 43
abbrev N_root_with : List Str := ["digests", "place", "word", "path"]
theorem sc_root_with : FnScope N_root_with ["digests", "place", "word", "path"] (defScope s_root_with) := ⟨rfl, rfl, rfl, by decide +kernel, rfl, by decide +kernel, by decide +kernel⟩
abbrev s_is_opening : Stmt := topS 44
abbrev N_is_opening : List Str := ["digests", "value", "registers", "root", "parts", "part"]
theorem sc_is_opening : FnScope N_is_opening ["digests", "value"] (defScope s_is_opening) := ⟨rfl, rfl, rfl, by decide +kernel, rfl, by decide +kernel, by decide +kernel⟩
abbrev s_is_part : Stmt := topS 45
abbrev N_is_part : List Str := ["digests", "value", "word", "path", "item"]
theorem sc_is_part : FnScope N_is_part ["digests", "value"] (defScope s_is_part) := ⟨rfl, rfl, rfl, by decide +kernel, rfl, by decide +kernel, by decide +kernel⟩
abbrev s_are_registers : Stmt := topS 46
abbrev N_are_registers : List Str := ["digests", "value", "pc", "acc", "x", "mark", "out", "count"]
theorem sc_are_registers : FnScope N_are_registers ["digests", "value"] (defScope s_are_registers) := ⟨rfl, rfl, rfl, by decide +kernel, rfl, by decide +kernel, by decide +kernel⟩
abbrev s_law_bag : Stmt := topS 48
abbrev N_law_bag : List Str := ["script"]
theorem sc_law_bag : FnScope N_law_bag ["script"] (defScope s_law_bag) := ⟨rfl, rfl, rfl, by decide +kernel, rfl, by decide +kernel, by decide +kernel⟩
abbrev s_law_draw : Stmt := topS 49
abbrev N_law_draw : List Str := ["bag", "many", "cell", "cells", "seed", "rest"]
theorem sc_law_draw : FnScope N_law_draw ["bag", "many"] (defScope s_law_draw) := ⟨rfl, rfl, rfl, by decide +kernel, rfl, by decide +kernel, by decide +kernel⟩
abbrev s_law_word : Stmt := topS 50
abbrev N_law_word : List Str := ["bag", "pick"]
theorem sc_law_word : FnScope N_law_word ["bag"] (defScope s_law_word) := ⟨rfl, rfl, rfl, by decide +kernel, rfl, by decide +kernel, by decide +kernel⟩
abbrev s_law_words : Stmt := topS 51
abbrev N_law_words : List Str := ["bag", "size", "row", "k"]
theorem sc_law_words : FnScope N_law_words ["bag"] (defScope s_law_words) := ⟨rfl, rfl, rfl, by decide +kernel, rfl, by decide +kernel, by decide +kernel⟩
abbrev s_law_start : Stmt := topS 52
abbrev N_law_start : List Str := ["bag", "m", "small", "pc", "count", "out", "mark"]
theorem sc_law_start : FnScope N_law_start ["bag", "m"] (defScope s_law_start) := ⟨rfl, rfl, rfl, by decide +kernel, rfl, by decide +kernel, by decide +kernel⟩
abbrev s_law_put : Stmt := topS 54
abbrev N_law_put : List Str := ["row", "place", "value"]
theorem sc_law_put : FnScope N_law_put ["row", "place", "value"] (defScope s_law_put) := ⟨rfl, rfl, rfl, by decide +kernel, rfl, by decide +kernel, by decide +kernel⟩
abbrev s_law_registers_turned : Stmt := topS 55
abbrev N_law_registers_turned : List Str := ["bag", "m", "registers", "place", "most", "near"]
theorem sc_law_registers_turned : FnScope N_law_registers_turned ["bag", "m", "registers"] (defScope s_law_registers_turned) := ⟨rfl, rfl, rfl, by decide +kernel, rfl, by decide +kernel, by decide +kernel⟩
abbrev s_law_part_turned : Stmt := topS 56
abbrev N_law_part_turned : List Str := ["bag", "m", "part", "place"]
theorem sc_law_part_turned : FnScope N_law_part_turned ["bag", "m", "part"] (defScope s_law_part_turned) := ⟨rfl, rfl, rfl, by decide +kernel, rfl, by decide +kernel, by decide +kernel⟩
abbrev s_law_turned : Stmt := topS 57
abbrev N_law_turned : List Str := ["bag", "m", "opening", "others", "registers", "root", "parts", "pick", "other", "place"]
theorem sc_law_turned : FnScope N_law_turned ["bag", "m", "opening", "others"] (defScope s_law_turned) := ⟨rfl, rfl, rfl, by decide +kernel, rfl, by decide +kernel, by decide +kernel⟩
abbrev s_law_told : Stmt := topS 58
abbrev N_law_told : List Str := ["digests", "digest", "opening", "e"]
theorem sc_law_told : FnScope N_law_told ["digests", "digest", "opening"] (defScope s_law_told) := ⟨rfl, rfl, rfl, by decide +kernel, rfl, by decide +kernel, by decide +kernel⟩
abbrev s_law : Stmt := topS 59
abbrev N_law : List Str := ["script", "bag", "bits", "m", "book", "digests", "machine", "second", "turn", "opening", "digest", "others", "turned", "told"]
theorem sc_law : FnScope N_law ["script"] (defScope s_law) := ⟨rfl, rfl, rfl, by decide +kernel, rfl, by decide +kernel, by decide +kernel⟩
/-! ### what the top has written -/
structure Txt (K : PySem.W.Frag) (mg : Str → Option Value) where
  f_is_integer : Kit.GFn' K mg "is_integer" "is_integer" s_is_integer ["value", "least", "greatest"]
  f_is_word : Kit.GFn' K mg "is_word" "is_word" s_is_word ["value"]
  f_Digests___init : Kit.GFn K "__init__" "Digests.__init__" s_Digests___init ["self", "bits", "book"]
  f_Digests_leaf : Kit.GFn K "leaf" "Digests.leaf" s_Digests_leaf ["self", "word"]
  f_Digests_fold : Kit.GFn K "fold" "Digests.fold" s_Digests_fold ["self", "left", "right"]
  f_Digests_state : Kit.GFn K "state" "Digests.state" s_Digests_state ["self", "numbers"]
  f_Digests_is_digest : Kit.GFn K "is_digest" "Digests.is_digest" s_Digests_is_digest ["self", "value"]
  f_Digests__noted : Kit.GFn K "_noted" "Digests._noted" s_Digests__noted ["self", "kind", "text", "digest"]
  f_Book___init : Kit.GFn K "__init__" "Book.__init__" s_Book___init ["self"]
  f_Book_add : Kit.GFn K "add" "Book.add" s_Book_add ["self", "kind", "text", "digest"]
  f_Book_has_collision : Kit.GFn K "has_collision" "Book.has_collision" s_Book_has_collision ["self"]
  f_Book_count : Kit.GFn K "count" "Book.count" s_Book_count ["self"]
  f_root_by : Kit.GFn' K mg "root_by" "root_by" s_root_by ["digests", "place", "digest", "path"]
  f_levels_of : Kit.GFn' K mg "levels_of" "levels_of" s_levels_of ["digests", "row"]
  f_path_in : Kit.GFn' K mg "path_in" "path_in" s_path_in ["levels", "place"]
  f_Memory___init : Kit.GFn K "__init__" "Memory.__init__" s_Memory___init ["self", "digests", "words"]
  f_Memory_word : Kit.GFn K "word" "Memory.word" s_Memory_word ["self", "place"]
  f_Memory_change : Kit.GFn K "change" "Memory.change" s_Memory_change ["self", "place", "word"]
  f_Memory_words : Kit.GFn K "words" "Memory.words" s_Memory_words ["self"]
  f_Memory_root : Kit.GFn K "root" "Memory.root" s_Memory_root ["self"]
  f_Memory_path : Kit.GFn K "path" "Memory.path" s_Memory_path ["self", "place"]
  f_op : Kit.GFn' K mg "op" "op" s_op ["sign", "a", "b"]
  f_divided : Kit.GFn' K mg "divided" "divided" s_divided ["sign", "a", "b"]
  f_wrapped : Kit.GFn' K mg "wrapped" "wrapped" s_wrapped ["sign", "a", "b"]
  f_holds : Kit.GFn' K mg "holds" "holds" s_holds ["sign", "a", "b"]
  f_out_behind : Kit.GFn' K mg "out_behind" "out_behind" s_out_behind ["digests", "out", "word"]
  f_name_of : Kit.GFn' K mg "name_of" "name_of" s_name_of ["word"]
  f_behind : Kit.GFn' K mg "behind" "behind" s_behind ["place"]
  f_data_of : Kit.GFn' K mg "data_of" "data_of" s_data_of ["registers", "word"]
  f_done_by : Kit.GFn' K mg "done_by" "done_by" s_done_by ["digests", "registers", "word", "data"]
  f_halt_by : Kit.GFn' K mg "halt_by" "halt_by" s_halt_by ["name", "registers", "word", "data"]
  f_pc_by : Kit.GFn' K mg "pc_by" "pc_by" s_pc_by ["name", "registers", "word", "data"]
  f_acc_by : Kit.GFn' K mg "acc_by" "acc_by" s_acc_by ["name", "registers", "word", "data"]
  f_x_by : Kit.GFn' K mg "x_by" "x_by" s_x_by ["name", "registers", "data"]
  f_changed_by : Kit.GFn' K mg "changed_by" "changed_by" s_changed_by ["name", "registers"]
  f_Machine___init : Kit.GFn K "__init__" "Machine.__init__" s_Machine___init ["self", "digests", "registers", "words"]
  f_Machine_registers : Kit.GFn K "registers" "Machine.registers" s_Machine_registers ["self"]
  f_Machine_words : Kit.GFn K "words" "Machine.words" s_Machine_words ["self"]
  f_Machine_word : Kit.GFn K "word" "Machine.word" s_Machine_word ["self", "place"]
  f_Machine_path : Kit.GFn K "path" "Machine.path" s_Machine_path ["self", "place"]
  f_Machine_root : Kit.GFn K "root" "Machine.root" s_Machine_root ["self"]
  f_Machine_digest : Kit.GFn K "digest" "Machine.digest" s_Machine_digest ["self"]
  f_Machine_step : Kit.GFn K "step" "Machine.step" s_Machine_step ["self"]
  f_Machine_told : Kit.GFn K "told" "Machine.told" s_Machine_told ["self"]
  f_opened : Kit.GFn' K mg "opened" "opened" s_opened ["machine"]
  f_places_of : Kit.GFn' K mg "places_of" "places_of" s_places_of ["registers", "word"]
  f_step_of : Kit.GFn' K mg "step_of" "step_of" s_step_of ["digests", "digest", "opening"]
  f_step_by : Kit.GFn' K mg "step_by" "step_by" s_step_by ["digests", "registers", "root", "parts"]
  f_root_with : Kit.GFn' K mg "root_with" "root_with" s_root_with ["digests", "place", "word", "path"]
  f_is_opening : Kit.GFn' K mg "is_opening" "is_opening" s_is_opening ["digests", "value"]
  f_is_part : Kit.GFn' K mg "is_part" "is_part" s_is_part ["digests", "value"]
  f_are_registers : Kit.GFn' K mg "are_registers" "are_registers" s_are_registers ["digests", "value"]
  f_law_bag : Kit.GFn' K mg "_law_bag" "_law_bag" s_law_bag ["script"]
  f_law_draw : Kit.GFn' K mg "_law_draw" "_law_draw" s_law_draw ["bag", "many"]
  f_law_word : Kit.GFn' K mg "_law_word" "_law_word" s_law_word ["bag"]
  f_law_words : Kit.GFn' K mg "_law_words" "_law_words" s_law_words ["bag"]
  f_law_start : Kit.GFn' K mg "_law_start" "_law_start" s_law_start ["bag", "m"]
  f_law_put : Kit.GFn' K mg "_law_put" "_law_put" s_law_put ["row", "place", "value"]
  f_law_registers_turned : Kit.GFn' K mg "_law_registers_turned" "_law_registers_turned" s_law_registers_turned ["bag", "m", "registers"]
  f_law_part_turned : Kit.GFn' K mg "_law_part_turned" "_law_part_turned" s_law_part_turned ["bag", "m", "part"]
  f_law_turned : Kit.GFn' K mg "_law_turned" "_law_turned" s_law_turned ["bag", "m", "opening", "others"]
  f_law_told : Kit.GFn' K mg "_law_told" "_law_told" s_law_told ["digests", "digest", "opening"]
  f_law : Kit.GFn' K mg "law" "law" s_law ["script"]
  c_Digests : Kit.GCl K mg "Digests" f_Digests___init.f
  m_Digests_leaf : Meth K c_Digests.C "leaf" f_Digests_leaf.f
  m_Digests_fold : Meth K c_Digests.C "fold" f_Digests_fold.f
  m_Digests_state : Meth K c_Digests.C "state" f_Digests_state.f
  m_Digests_is_digest : Meth K c_Digests.C "is_digest" f_Digests_is_digest.f
  m_Digests__noted : Meth K c_Digests.C "_noted" f_Digests__noted.f
  n_Digests_bits : NoAttr K c_Digests.C "_bits"
  n_Digests_book : NoAttr K c_Digests.C "_book"
  n_Digests_modulus : NoAttr K c_Digests.C "_modulus"
  c_Book : Kit.GCl K mg "Book" f_Book___init.f
  m_Book_add : Meth K c_Book.C "add" f_Book_add.f
  m_Book_has_collision : Meth K c_Book.C "has_collision" f_Book_has_collision.f
  m_Book_count : Meth K c_Book.C "count" f_Book_count.f
  n_Book_texts : NoAttr K c_Book.C "_texts"
  n_Book_firsts : NoAttr K c_Book.C "_firsts"
  n_Book_collided : NoAttr K c_Book.C "_collided"
  c_Memory : Kit.GCl K mg "Memory" f_Memory___init.f
  m_Memory_word : Meth K c_Memory.C "word" f_Memory_word.f
  m_Memory_change : Meth K c_Memory.C "change" f_Memory_change.f
  m_Memory_words : Meth K c_Memory.C "words" f_Memory_words.f
  m_Memory_root : Meth K c_Memory.C "root" f_Memory_root.f
  m_Memory_path : Meth K c_Memory.C "path" f_Memory_path.f
  n_Memory_digests : NoAttr K c_Memory.C "_digests"
  n_Memory_words : NoAttr K c_Memory.C "_words"
  n_Memory_levels : NoAttr K c_Memory.C "_levels"
  c_Machine : Kit.GCl K mg "Machine" f_Machine___init.f
  m_Machine_registers : Meth K c_Machine.C "registers" f_Machine_registers.f
  m_Machine_words : Meth K c_Machine.C "words" f_Machine_words.f
  m_Machine_word : Meth K c_Machine.C "word" f_Machine_word.f
  m_Machine_path : Meth K c_Machine.C "path" f_Machine_path.f
  m_Machine_root : Meth K c_Machine.C "root" f_Machine_root.f
  m_Machine_digest : Meth K c_Machine.C "digest" f_Machine_digest.f
  m_Machine_step : Meth K c_Machine.C "step" f_Machine_step.f
  m_Machine_told : Meth K c_Machine.C "told" f_Machine_told.f
  n_Machine_digests : NoAttr K c_Machine.C "_digests"
  n_Machine_registers : NoAttr K c_Machine.C "_registers"
  n_Machine_memory : NoAttr K c_Machine.C "_memory"
  n_Machine_told : NoAttr K c_Machine.C "_told"
  e_CourtError : Kit.ExT K mg "CourtError"
  e_BadOpening : Kit.ExT K mg "BadOpening"
  x_BadOpening : ExcC K e_BadOpening.C
  p_BadOpening_CourtError : PySem.W.exmOne K (.ref e_BadOpening.C) (.ref e_CourtError.C) = some true
  t_DEPTH : Tok
  g_DEPTH : mg "DEPTH" = some (.int 8 t_DEPTH)
  a_MARKS : Addr
  g_MARKS : mg "MARKS" = some (.ref a_MARKS)
  w_MARKS : Kit.KTup K a_MARKS [.str "long", .str "done", .str "divided", .str "place", .str "input", .str "full", .str "bad"]
  t_MOST_TOLD : Tok
  g_MOST_TOLD : mg "MOST_TOLD" = some (.int 16 t_MOST_TOLD)
  t_MOST_WORD : Tok
  g_MOST_WORD : mg "MOST_WORD" = some (.int 65535 t_MOST_WORD)
  a_NAMES : Addr
  g_NAMES : mg "NAMES" = some (.ref a_NAMES)
  w_NAMES : Kit.KTup K a_NAMES [.str "bad", .str "halt", .str "lit", .str "load", .str "store", .str "loadx", .str "storex", .str "tox", .str "index", .str "bound", .str "within", .str "not", .str "+", .str "-", .str "*", .str "/", .str "mod", .str "==", .str "!=", .str "<", .str "<=", .str ">", .str ">=", .str "jump", .str "zero", .str "some", .str "call", .str "back", .str "tell"]
  t_PLACES : Tok
  g_PLACES : mg "PLACES" = some (.int 256 t_PLACES)
  a_SIGNS : Addr
  g_SIGNS : mg "SIGNS" = some (.ref a_SIGNS)
  w_SIGNS : Kit.KTup K a_SIGNS [.str "+", .str "-", .str "*", .str "/", .str "mod", .str "==", .str "!=", .str "<", .str "<=", .str ">", .str ">="]
  y_MARKS : ∃ o, K.lookup a_MARKS = some o ∧ o.cls = .type "tuple" ∧ o.dict = none
  z_all : mg "all" = none
  z_bool : mg "bool" = none
  z_int : mg "int" = none
  z_isinstance : mg "isinstance" = none
  z_len : mg "len" = none
  z_list : mg "list" = none
  z_range : mg "range" = none
  z_tuple : mg "tuple" = none
  z_zip : mg "zip" = none
def fl_Digests (v0 v1 v2 : V) : List (Str × V) := [("_bits", v0), ("_book", v1), ("_modulus", v2)]
section
variable {K : PySem.W.Frag} {mg : Str → Option Value} {H : Hp} {p C dx : Addr} {v0 v1 v2 : V} {Q : VK} {R : Prop}
theorem rd_Digests_bits (T : Txt K mg) (h : H p = some (.ins T.c_Digests.C dx (fl_Digests v0 v1 v2))) (q : Q v0 H) : Kit.FldOf K "_bits" (.ref p) H Q := Kit.w_rd h T.c_Digests.cl T.n_Digests_bits rfl q
theorem pt_Digests_bits (T : Txt K mg) {y : V} {W : Hp → Prop} (h : H p = some (.ins T.c_Digests.C dx (fl_Digests v0 v1 v2))) (q : ∀ H2, Kit.ExBut p H H2 → H2 p = some (.ins T.c_Digests.C dx (fl_Digests y v1 v2)) → W H2) : Kit.PutOf K "_bits" y (.ref p) H W := Kit.w_put h T.c_Digests.cl T.n_Digests_bits (Nat.lt_of_lt_of_le (Nat.lt_of_le_of_lt (Nat.le_refl 3) (by decide : 3 < 100)) (by decide)) rfl q
theorem in_Digests_bits (T : Txt K mg) {y : V} {W : Hp → Prop} (h : H p = some (.ins T.c_Digests.C dx [])) (q : ∀ H2, Kit.ExBut p H H2 → H2 p = some (.ins T.c_Digests.C dx ([("_bits", y)])) → W H2) : Kit.PutOf K "_bits" y (.ref p) H W := Kit.w_put h T.c_Digests.cl T.n_Digests_bits (Nat.lt_of_lt_of_le (Nat.lt_of_le_of_lt (Nat.le_refl 0) (by decide : 0 < 100)) (by decide)) rfl q
theorem rd_Digests_book (T : Txt K mg) (h : H p = some (.ins T.c_Digests.C dx (fl_Digests v0 v1 v2))) (q : Q v1 H) : Kit.FldOf K "_book" (.ref p) H Q := Kit.w_rd h T.c_Digests.cl T.n_Digests_book rfl q
theorem pt_Digests_book (T : Txt K mg) {y : V} {W : Hp → Prop} (h : H p = some (.ins T.c_Digests.C dx (fl_Digests v0 v1 v2))) (q : ∀ H2, Kit.ExBut p H H2 → H2 p = some (.ins T.c_Digests.C dx (fl_Digests v0 y v2)) → W H2) : Kit.PutOf K "_book" y (.ref p) H W := Kit.w_put h T.c_Digests.cl T.n_Digests_book (Nat.lt_of_lt_of_le (Nat.lt_of_le_of_lt (Nat.le_refl 3) (by decide : 3 < 100)) (by decide)) rfl q
theorem in_Digests_book (T : Txt K mg) {y : V} {W : Hp → Prop} (h : H p = some (.ins T.c_Digests.C dx [("_bits", v0)])) (q : ∀ H2, Kit.ExBut p H H2 → H2 p = some (.ins T.c_Digests.C dx ([("_bits", v0), ("_book", y)])) → W H2) : Kit.PutOf K "_book" y (.ref p) H W := Kit.w_put h T.c_Digests.cl T.n_Digests_book (Nat.lt_of_lt_of_le (Nat.lt_of_le_of_lt (Nat.le_refl 1) (by decide : 1 < 100)) (by decide)) rfl q
theorem rd_Digests_modulus (T : Txt K mg) (h : H p = some (.ins T.c_Digests.C dx (fl_Digests v0 v1 v2))) (q : Q v2 H) : Kit.FldOf K "_modulus" (.ref p) H Q := Kit.w_rd h T.c_Digests.cl T.n_Digests_modulus rfl q
theorem pt_Digests_modulus (T : Txt K mg) {y : V} {W : Hp → Prop} (h : H p = some (.ins T.c_Digests.C dx (fl_Digests v0 v1 v2))) (q : ∀ H2, Kit.ExBut p H H2 → H2 p = some (.ins T.c_Digests.C dx (fl_Digests v0 v1 y)) → W H2) : Kit.PutOf K "_modulus" y (.ref p) H W := Kit.w_put h T.c_Digests.cl T.n_Digests_modulus (Nat.lt_of_lt_of_le (Nat.lt_of_le_of_lt (Nat.le_refl 3) (by decide : 3 < 100)) (by decide)) rfl q
theorem in_Digests_modulus (T : Txt K mg) {y : V} {W : Hp → Prop} (h : H p = some (.ins T.c_Digests.C dx [("_bits", v0), ("_book", v1)])) (q : ∀ H2, Kit.ExBut p H H2 → H2 p = some (.ins T.c_Digests.C dx (fl_Digests v0 v1 y)) → W H2) : Kit.PutOf K "_modulus" y (.ref p) H W := Kit.w_put h T.c_Digests.cl T.n_Digests_modulus (Nat.lt_of_lt_of_le (Nat.lt_of_le_of_lt (Nat.le_refl 2) (by decide : 2 < 100)) (by decide)) rfl q
theorem me_Digests_leaf (h : H p = some (.ins C dx (fl_Digests v0 v1 v2))) (r : R) : Kit.InsOf C "leaf" (.ref p) H R := Kit.w_ins h rfl r
theorem me_Digests_fold (h : H p = some (.ins C dx (fl_Digests v0 v1 v2))) (r : R) : Kit.InsOf C "fold" (.ref p) H R := Kit.w_ins h rfl r
theorem me_Digests_state (h : H p = some (.ins C dx (fl_Digests v0 v1 v2))) (r : R) : Kit.InsOf C "state" (.ref p) H R := Kit.w_ins h rfl r
theorem me_Digests_is_digest (h : H p = some (.ins C dx (fl_Digests v0 v1 v2))) (r : R) : Kit.InsOf C "is_digest" (.ref p) H R := Kit.w_ins h rfl r
theorem me_Digests__noted (h : H p = some (.ins C dx (fl_Digests v0 v1 v2))) (r : R) : Kit.InsOf C "_noted" (.ref p) H R := Kit.w_ins h rfl r
end
def fl_Book (v0 v1 v2 : V) : List (Str × V) := [("_texts", v0), ("_firsts", v1), ("_collided", v2)]
section
variable {K : PySem.W.Frag} {mg : Str → Option Value} {H : Hp} {p C dx : Addr} {v0 v1 v2 : V} {Q : VK} {R : Prop}
theorem rd_Book_texts (T : Txt K mg) (h : H p = some (.ins T.c_Book.C dx (fl_Book v0 v1 v2))) (q : Q v0 H) : Kit.FldOf K "_texts" (.ref p) H Q := Kit.w_rd h T.c_Book.cl T.n_Book_texts rfl q
theorem pt_Book_texts (T : Txt K mg) {y : V} {W : Hp → Prop} (h : H p = some (.ins T.c_Book.C dx (fl_Book v0 v1 v2))) (q : ∀ H2, Kit.ExBut p H H2 → H2 p = some (.ins T.c_Book.C dx (fl_Book y v1 v2)) → W H2) : Kit.PutOf K "_texts" y (.ref p) H W := Kit.w_put h T.c_Book.cl T.n_Book_texts (Nat.lt_of_lt_of_le (Nat.lt_of_le_of_lt (Nat.le_refl 3) (by decide : 3 < 100)) (by decide)) rfl q
theorem in_Book_texts (T : Txt K mg) {y : V} {W : Hp → Prop} (h : H p = some (.ins T.c_Book.C dx [])) (q : ∀ H2, Kit.ExBut p H H2 → H2 p = some (.ins T.c_Book.C dx ([("_texts", y)])) → W H2) : Kit.PutOf K "_texts" y (.ref p) H W := Kit.w_put h T.c_Book.cl T.n_Book_texts (Nat.lt_of_lt_of_le (Nat.lt_of_le_of_lt (Nat.le_refl 0) (by decide : 0 < 100)) (by decide)) rfl q
theorem rd_Book_firsts (T : Txt K mg) (h : H p = some (.ins T.c_Book.C dx (fl_Book v0 v1 v2))) (q : Q v1 H) : Kit.FldOf K "_firsts" (.ref p) H Q := Kit.w_rd h T.c_Book.cl T.n_Book_firsts rfl q
theorem pt_Book_firsts (T : Txt K mg) {y : V} {W : Hp → Prop} (h : H p = some (.ins T.c_Book.C dx (fl_Book v0 v1 v2))) (q : ∀ H2, Kit.ExBut p H H2 → H2 p = some (.ins T.c_Book.C dx (fl_Book v0 y v2)) → W H2) : Kit.PutOf K "_firsts" y (.ref p) H W := Kit.w_put h T.c_Book.cl T.n_Book_firsts (Nat.lt_of_lt_of_le (Nat.lt_of_le_of_lt (Nat.le_refl 3) (by decide : 3 < 100)) (by decide)) rfl q
theorem in_Book_firsts (T : Txt K mg) {y : V} {W : Hp → Prop} (h : H p = some (.ins T.c_Book.C dx [("_texts", v0)])) (q : ∀ H2, Kit.ExBut p H H2 → H2 p = some (.ins T.c_Book.C dx ([("_texts", v0), ("_firsts", y)])) → W H2) : Kit.PutOf K "_firsts" y (.ref p) H W := Kit.w_put h T.c_Book.cl T.n_Book_firsts (Nat.lt_of_lt_of_le (Nat.lt_of_le_of_lt (Nat.le_refl 1) (by decide : 1 < 100)) (by decide)) rfl q
theorem rd_Book_collided (T : Txt K mg) (h : H p = some (.ins T.c_Book.C dx (fl_Book v0 v1 v2))) (q : Q v2 H) : Kit.FldOf K "_collided" (.ref p) H Q := Kit.w_rd h T.c_Book.cl T.n_Book_collided rfl q
theorem pt_Book_collided (T : Txt K mg) {y : V} {W : Hp → Prop} (h : H p = some (.ins T.c_Book.C dx (fl_Book v0 v1 v2))) (q : ∀ H2, Kit.ExBut p H H2 → H2 p = some (.ins T.c_Book.C dx (fl_Book v0 v1 y)) → W H2) : Kit.PutOf K "_collided" y (.ref p) H W := Kit.w_put h T.c_Book.cl T.n_Book_collided (Nat.lt_of_lt_of_le (Nat.lt_of_le_of_lt (Nat.le_refl 3) (by decide : 3 < 100)) (by decide)) rfl q
theorem in_Book_collided (T : Txt K mg) {y : V} {W : Hp → Prop} (h : H p = some (.ins T.c_Book.C dx [("_texts", v0), ("_firsts", v1)])) (q : ∀ H2, Kit.ExBut p H H2 → H2 p = some (.ins T.c_Book.C dx (fl_Book v0 v1 y)) → W H2) : Kit.PutOf K "_collided" y (.ref p) H W := Kit.w_put h T.c_Book.cl T.n_Book_collided (Nat.lt_of_lt_of_le (Nat.lt_of_le_of_lt (Nat.le_refl 2) (by decide : 2 < 100)) (by decide)) rfl q
theorem me_Book_add (h : H p = some (.ins C dx (fl_Book v0 v1 v2))) (r : R) : Kit.InsOf C "add" (.ref p) H R := Kit.w_ins h rfl r
theorem me_Book_has_collision (h : H p = some (.ins C dx (fl_Book v0 v1 v2))) (r : R) : Kit.InsOf C "has_collision" (.ref p) H R := Kit.w_ins h rfl r
theorem me_Book_count (h : H p = some (.ins C dx (fl_Book v0 v1 v2))) (r : R) : Kit.InsOf C "count" (.ref p) H R := Kit.w_ins h rfl r
end
def fl_Memory (v0 v1 v2 : V) : List (Str × V) := [("_digests", v0), ("_words", v1), ("_levels", v2)]
section
variable {K : PySem.W.Frag} {mg : Str → Option Value} {H : Hp} {p C dx : Addr} {v0 v1 v2 : V} {Q : VK} {R : Prop}
theorem rd_Memory_digests (T : Txt K mg) (h : H p = some (.ins T.c_Memory.C dx (fl_Memory v0 v1 v2))) (q : Q v0 H) : Kit.FldOf K "_digests" (.ref p) H Q := Kit.w_rd h T.c_Memory.cl T.n_Memory_digests rfl q
theorem pt_Memory_digests (T : Txt K mg) {y : V} {W : Hp → Prop} (h : H p = some (.ins T.c_Memory.C dx (fl_Memory v0 v1 v2))) (q : ∀ H2, Kit.ExBut p H H2 → H2 p = some (.ins T.c_Memory.C dx (fl_Memory y v1 v2)) → W H2) : Kit.PutOf K "_digests" y (.ref p) H W := Kit.w_put h T.c_Memory.cl T.n_Memory_digests (Nat.lt_of_lt_of_le (Nat.lt_of_le_of_lt (Nat.le_refl 3) (by decide : 3 < 100)) (by decide)) rfl q
theorem in_Memory_digests (T : Txt K mg) {y : V} {W : Hp → Prop} (h : H p = some (.ins T.c_Memory.C dx [])) (q : ∀ H2, Kit.ExBut p H H2 → H2 p = some (.ins T.c_Memory.C dx ([("_digests", y)])) → W H2) : Kit.PutOf K "_digests" y (.ref p) H W := Kit.w_put h T.c_Memory.cl T.n_Memory_digests (Nat.lt_of_lt_of_le (Nat.lt_of_le_of_lt (Nat.le_refl 0) (by decide : 0 < 100)) (by decide)) rfl q
theorem rd_Memory_words (T : Txt K mg) (h : H p = some (.ins T.c_Memory.C dx (fl_Memory v0 v1 v2))) (q : Q v1 H) : Kit.FldOf K "_words" (.ref p) H Q := Kit.w_rd h T.c_Memory.cl T.n_Memory_words rfl q
theorem pt_Memory_words (T : Txt K mg) {y : V} {W : Hp → Prop} (h : H p = some (.ins T.c_Memory.C dx (fl_Memory v0 v1 v2))) (q : ∀ H2, Kit.ExBut p H H2 → H2 p = some (.ins T.c_Memory.C dx (fl_Memory v0 y v2)) → W H2) : Kit.PutOf K "_words" y (.ref p) H W := Kit.w_put h T.c_Memory.cl T.n_Memory_words (Nat.lt_of_lt_of_le (Nat.lt_of_le_of_lt (Nat.le_refl 3) (by decide : 3 < 100)) (by decide)) rfl q
theorem in_Memory_words (T : Txt K mg) {y : V} {W : Hp → Prop} (h : H p = some (.ins T.c_Memory.C dx [("_digests", v0)])) (q : ∀ H2, Kit.ExBut p H H2 → H2 p = some (.ins T.c_Memory.C dx ([("_digests", v0), ("_words", y)])) → W H2) : Kit.PutOf K "_words" y (.ref p) H W := Kit.w_put h T.c_Memory.cl T.n_Memory_words (Nat.lt_of_lt_of_le (Nat.lt_of_le_of_lt (Nat.le_refl 1) (by decide : 1 < 100)) (by decide)) rfl q
theorem rd_Memory_levels (T : Txt K mg) (h : H p = some (.ins T.c_Memory.C dx (fl_Memory v0 v1 v2))) (q : Q v2 H) : Kit.FldOf K "_levels" (.ref p) H Q := Kit.w_rd h T.c_Memory.cl T.n_Memory_levels rfl q
theorem pt_Memory_levels (T : Txt K mg) {y : V} {W : Hp → Prop} (h : H p = some (.ins T.c_Memory.C dx (fl_Memory v0 v1 v2))) (q : ∀ H2, Kit.ExBut p H H2 → H2 p = some (.ins T.c_Memory.C dx (fl_Memory v0 v1 y)) → W H2) : Kit.PutOf K "_levels" y (.ref p) H W := Kit.w_put h T.c_Memory.cl T.n_Memory_levels (Nat.lt_of_lt_of_le (Nat.lt_of_le_of_lt (Nat.le_refl 3) (by decide : 3 < 100)) (by decide)) rfl q
theorem in_Memory_levels (T : Txt K mg) {y : V} {W : Hp → Prop} (h : H p = some (.ins T.c_Memory.C dx [("_digests", v0), ("_words", v1)])) (q : ∀ H2, Kit.ExBut p H H2 → H2 p = some (.ins T.c_Memory.C dx (fl_Memory v0 v1 y)) → W H2) : Kit.PutOf K "_levels" y (.ref p) H W := Kit.w_put h T.c_Memory.cl T.n_Memory_levels (Nat.lt_of_lt_of_le (Nat.lt_of_le_of_lt (Nat.le_refl 2) (by decide : 2 < 100)) (by decide)) rfl q
theorem me_Memory_word (h : H p = some (.ins C dx (fl_Memory v0 v1 v2))) (r : R) : Kit.InsOf C "word" (.ref p) H R := Kit.w_ins h rfl r
theorem me_Memory_change (h : H p = some (.ins C dx (fl_Memory v0 v1 v2))) (r : R) : Kit.InsOf C "change" (.ref p) H R := Kit.w_ins h rfl r
theorem me_Memory_words (h : H p = some (.ins C dx (fl_Memory v0 v1 v2))) (r : R) : Kit.InsOf C "words" (.ref p) H R := Kit.w_ins h rfl r
theorem me_Memory_root (h : H p = some (.ins C dx (fl_Memory v0 v1 v2))) (r : R) : Kit.InsOf C "root" (.ref p) H R := Kit.w_ins h rfl r
theorem me_Memory_path (h : H p = some (.ins C dx (fl_Memory v0 v1 v2))) (r : R) : Kit.InsOf C "path" (.ref p) H R := Kit.w_ins h rfl r
end
def fl_Machine (v0 v1 v2 v3 : V) : List (Str × V) := [("_digests", v0), ("_registers", v1), ("_memory", v2), ("_told", v3)]
section
variable {K : PySem.W.Frag} {mg : Str → Option Value} {H : Hp} {p C dx : Addr} {v0 v1 v2 v3 : V} {Q : VK} {R : Prop}
theorem rd_Machine_digests (T : Txt K mg) (h : H p = some (.ins T.c_Machine.C dx (fl_Machine v0 v1 v2 v3))) (q : Q v0 H) : Kit.FldOf K "_digests" (.ref p) H Q := Kit.w_rd h T.c_Machine.cl T.n_Machine_digests rfl q
theorem pt_Machine_digests (T : Txt K mg) {y : V} {W : Hp → Prop} (h : H p = some (.ins T.c_Machine.C dx (fl_Machine v0 v1 v2 v3))) (q : ∀ H2, Kit.ExBut p H H2 → H2 p = some (.ins T.c_Machine.C dx (fl_Machine y v1 v2 v3)) → W H2) : Kit.PutOf K "_digests" y (.ref p) H W := Kit.w_put h T.c_Machine.cl T.n_Machine_digests (Nat.lt_of_lt_of_le (Nat.lt_of_le_of_lt (Nat.le_refl 4) (by decide : 4 < 100)) (by decide)) rfl q
theorem in_Machine_digests (T : Txt K mg) {y : V} {W : Hp → Prop} (h : H p = some (.ins T.c_Machine.C dx [])) (q : ∀ H2, Kit.ExBut p H H2 → H2 p = some (.ins T.c_Machine.C dx ([("_digests", y)])) → W H2) : Kit.PutOf K "_digests" y (.ref p) H W := Kit.w_put h T.c_Machine.cl T.n_Machine_digests (Nat.lt_of_lt_of_le (Nat.lt_of_le_of_lt (Nat.le_refl 0) (by decide : 0 < 100)) (by decide)) rfl q
theorem rd_Machine_registers (T : Txt K mg) (h : H p = some (.ins T.c_Machine.C dx (fl_Machine v0 v1 v2 v3))) (q : Q v1 H) : Kit.FldOf K "_registers" (.ref p) H Q := Kit.w_rd h T.c_Machine.cl T.n_Machine_registers rfl q
theorem pt_Machine_registers (T : Txt K mg) {y : V} {W : Hp → Prop} (h : H p = some (.ins T.c_Machine.C dx (fl_Machine v0 v1 v2 v3))) (q : ∀ H2, Kit.ExBut p H H2 → H2 p = some (.ins T.c_Machine.C dx (fl_Machine v0 y v2 v3)) → W H2) : Kit.PutOf K "_registers" y (.ref p) H W := Kit.w_put h T.c_Machine.cl T.n_Machine_registers (Nat.lt_of_lt_of_le (Nat.lt_of_le_of_lt (Nat.le_refl 4) (by decide : 4 < 100)) (by decide)) rfl q
theorem in_Machine_registers (T : Txt K mg) {y : V} {W : Hp → Prop} (h : H p = some (.ins T.c_Machine.C dx [("_digests", v0)])) (q : ∀ H2, Kit.ExBut p H H2 → H2 p = some (.ins T.c_Machine.C dx ([("_digests", v0), ("_registers", y)])) → W H2) : Kit.PutOf K "_registers" y (.ref p) H W := Kit.w_put h T.c_Machine.cl T.n_Machine_registers (Nat.lt_of_lt_of_le (Nat.lt_of_le_of_lt (Nat.le_refl 1) (by decide : 1 < 100)) (by decide)) rfl q
theorem rd_Machine_memory (T : Txt K mg) (h : H p = some (.ins T.c_Machine.C dx (fl_Machine v0 v1 v2 v3))) (q : Q v2 H) : Kit.FldOf K "_memory" (.ref p) H Q := Kit.w_rd h T.c_Machine.cl T.n_Machine_memory rfl q
theorem pt_Machine_memory (T : Txt K mg) {y : V} {W : Hp → Prop} (h : H p = some (.ins T.c_Machine.C dx (fl_Machine v0 v1 v2 v3))) (q : ∀ H2, Kit.ExBut p H H2 → H2 p = some (.ins T.c_Machine.C dx (fl_Machine v0 v1 y v3)) → W H2) : Kit.PutOf K "_memory" y (.ref p) H W := Kit.w_put h T.c_Machine.cl T.n_Machine_memory (Nat.lt_of_lt_of_le (Nat.lt_of_le_of_lt (Nat.le_refl 4) (by decide : 4 < 100)) (by decide)) rfl q
theorem in_Machine_memory (T : Txt K mg) {y : V} {W : Hp → Prop} (h : H p = some (.ins T.c_Machine.C dx [("_digests", v0), ("_registers", v1)])) (q : ∀ H2, Kit.ExBut p H H2 → H2 p = some (.ins T.c_Machine.C dx ([("_digests", v0), ("_registers", v1), ("_memory", y)])) → W H2) : Kit.PutOf K "_memory" y (.ref p) H W := Kit.w_put h T.c_Machine.cl T.n_Machine_memory (Nat.lt_of_lt_of_le (Nat.lt_of_le_of_lt (Nat.le_refl 2) (by decide : 2 < 100)) (by decide)) rfl q
theorem rd_Machine_told (T : Txt K mg) (h : H p = some (.ins T.c_Machine.C dx (fl_Machine v0 v1 v2 v3))) (q : Q v3 H) : Kit.FldOf K "_told" (.ref p) H Q := Kit.w_rd h T.c_Machine.cl T.n_Machine_told rfl q
theorem pt_Machine_told (T : Txt K mg) {y : V} {W : Hp → Prop} (h : H p = some (.ins T.c_Machine.C dx (fl_Machine v0 v1 v2 v3))) (q : ∀ H2, Kit.ExBut p H H2 → H2 p = some (.ins T.c_Machine.C dx (fl_Machine v0 v1 v2 y)) → W H2) : Kit.PutOf K "_told" y (.ref p) H W := Kit.w_put h T.c_Machine.cl T.n_Machine_told (Nat.lt_of_lt_of_le (Nat.lt_of_le_of_lt (Nat.le_refl 4) (by decide : 4 < 100)) (by decide)) rfl q
theorem in_Machine_told (T : Txt K mg) {y : V} {W : Hp → Prop} (h : H p = some (.ins T.c_Machine.C dx [("_digests", v0), ("_registers", v1), ("_memory", v2)])) (q : ∀ H2, Kit.ExBut p H H2 → H2 p = some (.ins T.c_Machine.C dx (fl_Machine v0 v1 v2 y)) → W H2) : Kit.PutOf K "_told" y (.ref p) H W := Kit.w_put h T.c_Machine.cl T.n_Machine_told (Nat.lt_of_lt_of_le (Nat.lt_of_le_of_lt (Nat.le_refl 3) (by decide : 3 < 100)) (by decide)) rfl q
theorem me_Machine_registers (h : H p = some (.ins C dx (fl_Machine v0 v1 v2 v3))) (r : R) : Kit.InsOf C "registers" (.ref p) H R := Kit.w_ins h rfl r
theorem me_Machine_words (h : H p = some (.ins C dx (fl_Machine v0 v1 v2 v3))) (r : R) : Kit.InsOf C "words" (.ref p) H R := Kit.w_ins h rfl r
theorem me_Machine_word (h : H p = some (.ins C dx (fl_Machine v0 v1 v2 v3))) (r : R) : Kit.InsOf C "word" (.ref p) H R := Kit.w_ins h rfl r
theorem me_Machine_path (h : H p = some (.ins C dx (fl_Machine v0 v1 v2 v3))) (r : R) : Kit.InsOf C "path" (.ref p) H R := Kit.w_ins h rfl r
theorem me_Machine_root (h : H p = some (.ins C dx (fl_Machine v0 v1 v2 v3))) (r : R) : Kit.InsOf C "root" (.ref p) H R := Kit.w_ins h rfl r
theorem me_Machine_digest (h : H p = some (.ins C dx (fl_Machine v0 v1 v2 v3))) (r : R) : Kit.InsOf C "digest" (.ref p) H R := Kit.w_ins h rfl r
theorem me_Machine_step (h : H p = some (.ins C dx (fl_Machine v0 v1 v2 v3))) (r : R) : Kit.InsOf C "step" (.ref p) H R := Kit.w_ins h rfl r
theorem me_Machine_told (h : H p = some (.ins C dx (fl_Machine v0 v1 v2 v3))) (r : R) : Kit.InsOf C "told" (.ref p) H R := Kit.w_ins h rfl r
end
local macro_rules | `(tactic| walk_at "wp1") => `(tactic| ((with_reducible show Kit.FldOf _ _ _ _ _); first | with_reducible refine rd_Digests_bits _ (by walk_at "hp") ?_ | with_reducible refine rd_Digests_book _ (by walk_at "hp") ?_ | with_reducible refine rd_Digests_modulus _ (by walk_at "hp") ?_ | with_reducible refine rd_Book_texts _ (by walk_at "hp") ?_ | with_reducible refine rd_Book_firsts _ (by walk_at "hp") ?_ | with_reducible refine rd_Book_collided _ (by walk_at "hp") ?_ | with_reducible refine rd_Memory_digests _ (by walk_at "hp") ?_ | with_reducible refine rd_Memory_words _ (by walk_at "hp") ?_ | with_reducible refine rd_Memory_levels _ (by walk_at "hp") ?_ | with_reducible refine rd_Machine_digests _ (by walk_at "hp") ?_ | with_reducible refine rd_Machine_registers _ (by walk_at "hp") ?_ | with_reducible refine rd_Machine_memory _ (by walk_at "hp") ?_ | with_reducible refine rd_Machine_told _ (by walk_at "hp") ?_))
local macro_rules | `(tactic| walk_at "wp1") => `(tactic| ((with_reducible show Kit.InsOf _ _ _ _ _); first | with_reducible refine me_Digests_leaf (by walk_at "hp") ?_ | with_reducible refine me_Digests_fold (by walk_at "hp") ?_ | with_reducible refine me_Digests_state (by walk_at "hp") ?_ | with_reducible refine me_Digests_is_digest (by walk_at "hp") ?_ | with_reducible refine me_Digests__noted (by walk_at "hp") ?_ | with_reducible refine me_Book_add (by walk_at "hp") ?_ | with_reducible refine me_Book_has_collision (by walk_at "hp") ?_ | with_reducible refine me_Book_count (by walk_at "hp") ?_ | with_reducible refine me_Memory_word (by walk_at "hp") ?_ | with_reducible refine me_Memory_change (by walk_at "hp") ?_ | with_reducible refine me_Memory_words (by walk_at "hp") ?_ | with_reducible refine me_Memory_root (by walk_at "hp") ?_ | with_reducible refine me_Memory_path (by walk_at "hp") ?_ | with_reducible refine me_Machine_registers (by walk_at "hp") ?_ | with_reducible refine me_Machine_words (by walk_at "hp") ?_ | with_reducible refine me_Machine_word (by walk_at "hp") ?_ | with_reducible refine me_Machine_path (by walk_at "hp") ?_ | with_reducible refine me_Machine_root (by walk_at "hp") ?_ | with_reducible refine me_Machine_digest (by walk_at "hp") ?_ | with_reducible refine me_Machine_step (by walk_at "hp") ?_ | with_reducible refine me_Machine_told (by walk_at "hp") ?_))
local macro_rules | `(tactic| walk_at "wp1") => `(tactic| ((with_reducible show Kit.PutOf _ _ _ _ _ _); first | (with_reducible refine pt_Digests_bits _ (by walk_at "hp") ?_; intro _ _ _) | (with_reducible refine in_Digests_bits _ (by walk_at "hp") ?_; intro _ _ _) | (with_reducible refine pt_Digests_book _ (by walk_at "hp") ?_; intro _ _ _) | (with_reducible refine in_Digests_book _ (by walk_at "hp") ?_; intro _ _ _) | (with_reducible refine pt_Digests_modulus _ (by walk_at "hp") ?_; intro _ _ _) | (with_reducible refine in_Digests_modulus _ (by walk_at "hp") ?_; intro _ _ _) | (with_reducible refine pt_Book_texts _ (by walk_at "hp") ?_; intro _ _ _) | (with_reducible refine in_Book_texts _ (by walk_at "hp") ?_; intro _ _ _) | (with_reducible refine pt_Book_firsts _ (by walk_at "hp") ?_; intro _ _ _) | (with_reducible refine in_Book_firsts _ (by walk_at "hp") ?_; intro _ _ _) | (with_reducible refine pt_Book_collided _ (by walk_at "hp") ?_; intro _ _ _) | (with_reducible refine in_Book_collided _ (by walk_at "hp") ?_; intro _ _ _) | (with_reducible refine pt_Memory_digests _ (by walk_at "hp") ?_; intro _ _ _) | (with_reducible refine in_Memory_digests _ (by walk_at "hp") ?_; intro _ _ _) | (with_reducible refine pt_Memory_words _ (by walk_at "hp") ?_; intro _ _ _) | (with_reducible refine in_Memory_words _ (by walk_at "hp") ?_; intro _ _ _) | (with_reducible refine pt_Memory_levels _ (by walk_at "hp") ?_; intro _ _ _) | (with_reducible refine in_Memory_levels _ (by walk_at "hp") ?_; intro _ _ _) | (with_reducible refine pt_Machine_digests _ (by walk_at "hp") ?_; intro _ _ _) | (with_reducible refine in_Machine_digests _ (by walk_at "hp") ?_; intro _ _ _) | (with_reducible refine pt_Machine_registers _ (by walk_at "hp") ?_; intro _ _ _) | (with_reducible refine in_Machine_registers _ (by walk_at "hp") ?_; intro _ _ _) | (with_reducible refine pt_Machine_memory _ (by walk_at "hp") ?_; intro _ _ _) | (with_reducible refine in_Machine_memory _ (by walk_at "hp") ?_; intro _ _ _) | (with_reducible refine pt_Machine_told _ (by walk_at "hp") ?_; intro _ _ _) | (with_reducible refine in_Machine_told _ (by walk_at "hp") ?_; intro _ _ _)))
theorem ex_done {Q : VK} {v u : V} {H H' : Hp} (q : ∀ H', Evl.Ex H H' → Q v H') (e : Evl.Ex H H') (h : v = u) : Q u H' := h ▸ q H' e
section
variable {P : Program} {w : World} {K : PySem.W.Frag} {mg : Str → Option Value} {base : Heap}

theorem kAll (K : PySem.W.Frag) {X : Cx} (hc : X.calm = true) (h : X.K = K := by rfl) : CallR X (.builtin "all") (rAll K) := h ▸ cr_all hc

/-! ### the mathematics -/
inductive Sg where | add | sub | mul | div | mod | eq | ne | lt | le | gt | ge
deriving DecidableEq
def Sg.str : Sg → Str
  | .add => "+" | .sub => "-" | .mul => "*" | .div => "/" | .mod => "mod" | .eq => "==" | .ne => "!=" | .lt => "<" | .le => "<=" | .gt => ">" | .ge => ">="
def sp_divided : Sp := fun vs H Q _ => ∃ (s : Str) (a b : Int), vs = [.str s, .int a, .int b] ∧ (s = "/" ∨ s = "mod") ∧ 0 ≤ b ∧ b < 65536 ∧ ∀ H', Evl.Ex H H' → Q (if b = 0 then .non else if s = "/" then .int (a / b) else .int (a % b)) H'
theorem ok_divided (T : Txt K mg) : FnOk P w K mg base CX0 1 T.f_divided.f T.f_divided.fd ["sign", "a", "b"] (sp_divided) := by
  refine T.f_divided.F.ok sc_divided (fun vs H Q E h => ?_) (fun cdv A outer s H vs Q E hr h => ?_)
  · obtain ⟨s, a, b, rfl, hs, h0, h1, q⟩ := h
    rfl
  obtain ⟨s, a, b, rfl, hs, h0, h1, q⟩ := h
  have nd := sc_divided.nd
  refine Kit.ok_body (σ := [some _, some _, some _]) ((pss_cons (ps_if (pt_cmpR op_eq (pv 2) pe_int (nomark _))
    (pss_one (ps_ret pe_non))
    pss_nil)
    (pss_one (ps_ret (pe_ifExp (pt_cmpR op_eq (pv 0) pe_str (nomark _)) (pe_op op_fdivW (pv 1) (pv 2)) (pe_op op_mod (pv 1) (pv 2))))))) rfl ?_
  rcases hs with rfl | rfl <;> walk_at "wp"
  all_goals rename_i hb
  · rw [if_pos hb] at q
    exact q _ (Evl.Ex.refl _)
  · rw [if_neg hb, if_pos rfl] at q
    exact q _ (Evl.Ex.refl _)
  · rw [if_pos hb] at q
    exact q _ (Evl.Ex.refl _)
  · rw [if_neg hb, if_neg (by decide +kernel)] at q
    exact q _ (Evl.Ex.refl _)
def sp_wrapped : Sp := fun vs H Q _ => ∃ (s : Str) (a b : Int), vs = [.str s, .int a, .int b] ∧ (s = "+" ∨ s = "-" ∨ s = "*") ∧ 0 ≤ a ∧ a < 65536 ∧ 0 ≤ b ∧ b < 65536 ∧ ∀ H', Evl.Ex H H' → Q (.int ((if s = "+" then a + b else if s = "-" then a - b else a * b) % 65536)) H'
theorem ok_wrapped (T : Txt K mg) : FnOk P w K mg base CX0 1 T.f_wrapped.f T.f_wrapped.fd ["sign", "a", "b"] (sp_wrapped) := by
  refine T.f_wrapped.F.ok sc_wrapped (fun vs H Q E h => ?_) (fun cdv A outer s H vs Q E hr h => ?_)
  · obtain ⟨s, a, b, rfl, hs, ha0, ha1, h0, h1, q⟩ := h
    rfl
  obtain ⟨s, a, b, rfl, hs, ha0, ha1, h0, h1, q⟩ := h
  have nd := sc_wrapped.nd
  refine Kit.ok_body (σ := [some _, some _, some _, none]) ((pss_cons (ps_if (pt_cmpR op_eq (pv 0) pe_str (nomark _))
    (pss_one (ps_set (i := 3) nd rfl (Or.inl rfl) (pe_op op_add (pv 1) (pv 2))))
    (pss_one (ps_if (pt_cmpR op_eq (pv 0) pe_str (nomark _))
    (pss_one (ps_set (i := 3) nd rfl (Or.inl rfl) (pe_op op_sub (pv 1) (pv 2))))
    (pss_one (ps_set (i := 3) nd rfl (Or.inl rfl) (pe_op op_mul (pv 1) (pv 2)))))))
    (pss_one (ps_ret (pe_op op_mod (pv 3) (pe_op op_add (pe_glob (v := .int 65535) rfl T.g_MOST_WORD ⟨_, rfl⟩) pe_int)))))) rfl ?_
  rcases hs with rfl | rfl | rfl <;> walk_at "wp"
  · rw [if_pos rfl] at q
    exact q _ (Evl.Ex.refl _)
  · rw [if_neg (by decide +kernel), if_pos rfl] at q
    exact q _ (Evl.Ex.refl _)
  · rw [if_neg (by decide +kernel), if_neg (by decide +kernel)] at q
    exact q _ (Evl.Ex.refl _)
def cmpB : Sg → Int → Int → Bool
  | .eq, a, b => decide (a = b)
  | .ne, a, b => !decide (a = b)
  | .lt, a, b => decide (a < b)
  | .le, a, b => decide (a ≤ b)
  | .gt, a, b => decide (b < a)
  | .ge, a, b => decide (b ≤ a)
  | _, _, _ => false
def Sg.isCmp : Sg → Bool
  | .eq | .ne | .lt | .le | .gt | .ge => true
  | _ => false
def sp_holds : Sp := fun vs H Q _ => ∃ (g : Sg) (a b : Int), vs = [.str g.str, .int a, .int b] ∧ g.isCmp = true ∧ ∀ H', Evl.Ex H H' → Q (.bl (cmpB g a b)) H'
theorem ok_holds (T : Txt K mg) : FnOk P w K mg base CX0 1 T.f_holds.f T.f_holds.fd ["sign", "a", "b"] (sp_holds) := by
  refine T.f_holds.F.ok sc_holds (fun vs H Q E h => ?_) (fun cdv A outer s H vs Q E hr h => ?_)
  · obtain ⟨g, a, b, rfl, hs, q⟩ := h
    rfl
  obtain ⟨g, a, b, rfl, hs, q⟩ := h
  have nd := sc_holds.nd
  refine Kit.ok_body (σ := [some _, some _, some _]) ((pss_cons (ps_if (pt_cmpR op_eq (pv 0) pe_str (nomark _))
    (pss_one (ps_ret (pe_cmpR op_eq (pv 1) (pv 2) (nomark _))))
    pss_nil)
    (pss_cons (ps_if (pt_cmpR op_eq (pv 0) pe_str (nomark _))
    (pss_one (ps_ret (pe_cmpR op_ne (pv 1) (pv 2) (nomark _))))
    pss_nil)
    (pss_cons (ps_if (pt_cmpR op_eq (pv 0) pe_str (nomark _))
    (pss_one (ps_ret (pe_cmpR op_lt (pv 1) (pv 2) (nomark _))))
    pss_nil)
    (pss_cons (ps_if (pt_cmpR op_eq (pv 0) pe_str (nomark _))
    (pss_one (ps_ret (pe_cmpR op_le (pv 1) (pv 2) (nomark _))))
    pss_nil)
    (pss_cons (ps_if (pt_cmpR op_eq (pv 0) pe_str (nomark _))
    (pss_one (ps_ret (pe_cmpR op_gt (pv 1) (pv 2) (nomark _))))
    pss_nil)
    (pss_one (ps_ret (pe_cmpR op_ge (pv 1) (pv 2) (nomark _)))))))))) rfl ?_
  have q := q _ (Evl.Ex.refl _)
  cases g <;> first | (cases hs; done) | skip
  all_goals dsimp only [Sg.str]
  all_goals walk_at "wp"
  all_goals exact q
def opV : Sg → Int → Int → V
  | .add, a, b => .int ((a + b) % 65536)
  | .sub, a, b => .int ((a - b) % 65536)
  | .mul, a, b => .int ((a * b) % 65536)
  | .div, a, b => if b = 0 then .non else .int (a / b)
  | .mod, a, b => if b = 0 then .non else .int (a % b)
  | g, a, b => if cmpB g a b = true then .int 1 else .int 0
theorem use_divided {s : Str} {a b : Int} {H : Hp} {Q : VK} {E : XK} (hs : s = "/" ∨ s = "mod") (h0 : 0 ≤ b) (h1 : b < 65536) (k : ∀ H', Evl.Ex H H' → Q (if b = 0 then .non else if s = "/" then .int (a / b) else .int (a % b)) H') : sp_divided [.str s, .int a, .int b] H Q E := ⟨s, a, b, rfl, hs, h0, h1, k⟩
theorem use_wrapped {s : Str} {a b : Int} {H : Hp} {Q : VK} {E : XK} (hs : s = "+" ∨ s = "-" ∨ s = "*") (ha0 : 0 ≤ a) (ha1 : a < 65536) (h0 : 0 ≤ b) (h1 : b < 65536) (k : ∀ H', Evl.Ex H H' → Q (.int ((if s = "+" then a + b else if s = "-" then a - b else a * b) % 65536)) H') : sp_wrapped [.str s, .int a, .int b] H Q E := ⟨s, a, b, rfl, hs, ha0, ha1, h0, h1, k⟩
theorem opV_cmp {g : Sg} {a b : Int} (hg : g.isCmp = true) : opV g a b = if cmpB g a b = true then .int 1 else .int 0 := by cases g <;> first | rfl | cases hg
def sp_op : Sp := fun vs H Q _ => ∃ (g : Sg) (a b : Int), vs = [.str g.str, .int a, .int b] ∧ 0 ≤ a ∧ a < 65536 ∧ 0 ≤ b ∧ b < 65536 ∧ ∀ H', Evl.Ex H H' → Q (opV g a b) H'
local macro_rules | `(tactic| walk_at "wp1") => `(tactic| ((with_reducible refine use_divided (by first | exact .inl rfl | exact .inr rfl) (by assumption) (by assumption) ?_); intro _ _))
local macro_rules | `(tactic| walk_at "wp1") => `(tactic| ((with_reducible refine use_wrapped (by first | exact .inl rfl | exact .inr (.inl rfl) | exact .inr (.inr rfl)) (by assumption) (by assumption) (by assumption) (by assumption) ?_); intro _ _))
theorem use_holds {g : Sg} {a b : Int} {H : Hp} {Q : VK} {E : XK} (s : Str) (hs : g.str = s) (hg : g.isCmp = true) (k : ∀ H', Evl.Ex H H' → Q (.bl (cmpB g a b)) H') : sp_holds [.str s, .int a, .int b] H Q E := ⟨g, a, b, by rw [hs], hg, k⟩
theorem ok_op (T : Txt K mg) : FnOk P w K mg base CX0 2 T.f_op.f T.f_op.fd ["sign", "a", "b"] (sp_op) := by
  have G_divided := ok_divided (P := P) (w := w) (base := base) T
  have G_holds := ok_holds (P := P) (w := w) (base := base) T
  have G_wrapped := ok_wrapped (P := P) (w := w) (base := base) T
  refine T.f_op.F.ok sc_op (fun vs H Q E h => ?_) (fun cdv A outer s H vs Q E hr h => ?_)
  · obtain ⟨g, a, b, rfl, ha0, ha1, h0, h1, q⟩ := h
    rfl
  obtain ⟨g, a, b, rfl, ha0, ha1, h0, h1, q⟩ := h
  have nd := sc_op.nd
  have hr1 : Room 1 _ := hr.mono (by decide)
  refine Kit.ok_body (σ := [some _, some _, some _]) ((pss_cons (ps_if (pt_cmpR (Kit.kIn K) (pv 0) (pe_tup (pa_cons pe_str (pa_cons pe_str pa_nil))) (by rfl))
    (pss_one (ps_ret (pe_call G_divided hr1 (by rfl) T.f_divided.g T.f_divided.F.kp T.f_divided.b .nil pass0 (pa_cons (pv 0) (pa_cons (pv 1) (pa_cons (pv 2) pa_nil))))))
    pss_nil)
    (pss_cons (ps_if (pt_cmpR (Kit.kIn K) (pv 0) (pe_tup (pa_cons pe_str (pa_cons pe_str (pa_cons pe_str pa_nil)))) (by rfl))
    (pss_one (ps_ret (pe_call G_wrapped hr1 (by rfl) T.f_wrapped.g T.f_wrapped.F.kp T.f_wrapped.b .nil pass0 (pa_cons (pv 0) (pa_cons (pv 1) (pa_cons (pv 2) pa_nil))))))
    pss_nil)
    (pss_one (ps_ret (pe_ifExp (pt_val (pe_call G_holds hr1 (by rfl) T.f_holds.g T.f_holds.F.kp T.f_holds.b .nil pass0 (pa_cons (pv 0) (pa_cons (pv 1) (pa_cons (pv 2) pa_nil))))) pe_int pe_int)))))) rfl ?_
  cases g
  all_goals dsimp only [Sg.str]
  all_goals walk_at "wp"
  all_goals try exact ex_done q (by walk_at "ex") rfl
  · refine use_holds (g := .eq) _ rfl rfl fun H' e => ?_
    walk_at "wp" <;> (rename_i hc; exact ex_done q (by walk_at "ex") (by rw [opV_cmp rfl, hc]; rfl))
  · refine use_holds (g := .ne) _ rfl rfl fun H' e => ?_
    walk_at "wp" <;> (rename_i hc; exact ex_done q (by walk_at "ex") (by rw [opV_cmp rfl, hc]; rfl))
  · refine use_holds (g := .lt) _ rfl rfl fun H' e => ?_
    walk_at "wp" <;> (rename_i hc; exact ex_done q (by walk_at "ex") (by rw [opV_cmp rfl, hc]; rfl))
  · refine use_holds (g := .le) _ rfl rfl fun H' e => ?_
    walk_at "wp" <;> (rename_i hc; exact ex_done q (by walk_at "ex") (by rw [opV_cmp rfl, hc]; rfl))
  · refine use_holds (g := .gt) _ rfl rfl fun H' e => ?_
    walk_at "wp" <;> (rename_i hc; exact ex_done q (by walk_at "ex") (by rw [opV_cmp rfl, hc]; rfl))
  · refine use_holds (g := .ge) _ rfl rfl fun H' e => ?_
    walk_at "wp" <;> (rename_i hc; exact ex_done q (by walk_at "ex") (by rw [opV_cmp rfl, hc]; rfl))
/-! ### the law's own reckoning -/

/-! ### the machine's names, by texts -/
def strL : List V → List Str := fun xs => xs.filterMap fun v => match v with
  | .str s => some s
  | _ => none
def isStr : V → Bool
  | .str _ => true
  | _ => false
theorem inV_strs {s : Str} : ∀ {xs : List V}, xs.all isStr = true → inV (.str s) xs = decide (s ∈ strL xs) ∧ xs.all flatV = true
  | [], _ => ⟨rfl, rfl⟩
  | v :: xs, h => by
    rw [List.all_cons, Bool.and_eq_true] at h
    obtain ⟨h1, h2⟩ := inV_strs (s := s) h.2
    cases v with
    | str t =>
      refine ⟨?_, by rw [List.all_cons, h2]; rfl⟩
      show (eqV (.str t) (.str s) || inV (.str s) xs) = decide (s ∈ t :: strL xs)
      rw [h1]
      show ((t == s) || decide (s ∈ strL xs)) = _
      rw [Bool.eq_iff_iff, Bool.or_eq_true, beq_iff_eq, decide_eq_true_iff, decide_eq_true_iff, List.mem_cons]
      exact ⟨fun h => h.imp Eq.symm id, fun h => h.imp Eq.symm id⟩
    | _ => cases h.1
theorem w_inS {K : PySem.W.Frag} {s : Str} {p : Addr} {xs : List V} {H : Hp} {Q : VK} (h : SqL K H p xs ∨ SqT K H p xs) (hs : xs.all isStr = true) (q : Q (.bl (decide (s ∈ strL xs))) H) : rIn K false (.str s) (.ref p) H Q := by
  obtain ⟨h1, h2⟩ := inV_strs (s := s) hs
  refine ⟨p, xs, rfl, h, rfl, h2, ?_⟩
  rw [if_neg Bool.false_ne_true, h1]
  exact q
theorem w_gtup {K : PySem.W.Frag} {a : Addr} {xs : List V} {n : Nat} {t : TGs} {σ : L2.St} {H : Hp} {Q : L2.St → Hp → Prop} (h : SqT K H a xs) (hl : xs.length = n) (q : t xs σ H Q) : gTup K n t (.ref a) σ H Q := ⟨a, xs, rfl, h, hl, q⟩
theorem w_gcons {t : TG} {u : TGs} {v : V} {r : List V} {σ : L2.St} {H : Hp} {Q : L2.St → Hp → Prop} (q : t v σ H fun σ' H' => u r σ' H' Q) : gCons t u (v :: r) σ H Q := ⟨v, r, rfl, q⟩
local macro_rules | `(tactic| walk_at "wp1") => `(tactic| first
  | ((with_reducible show L2.rEq (V.str _) _ _ _); refine Kit.w_eqSd ?_)
  | ((with_reducible show L2.rIn _ false (V.str _) _ _ _); refine w_inS (by walk_at "sq2") (by rfl) ?_)
  | ((with_reducible show L2.gTup _ _ _ _ _ _ _); refine w_gtup (by walk_at "sqT") (by rfl) ?_)
  | with_reducible refine w_gcons ?_)
def sgs : List Str := ["+", "-", "*", "/", "mod", "==", "!=", "<", "<=", ">", ">="]
def nms : List Str := ["bad", "halt", "lit", "load", "store", "loadx", "storex", "tox", "index", "bound", "within", "not", "+", "-", "*", "/", "mod", "==", "!=", "<", "<=", ">", ">=", "jump", "zero", "some", "call", "back", "tell"]
def nm (n : Int) : Str := nms.getD n.toNat "bad"
theorem nm_at {n : Int} (h0 : 0 ≤ n) (h1 : n < 29) : atI (nms.map V.str) n = some (.str (nm n)) := by
  obtain ⟨j, rfl⟩ := Int.eq_ofNat_of_zero_le h0
  refine L2.atI_nat (j := j) ?_
  have hj : j < nms.length := by show j < 29; omega
  rw [List.getElem?_map, List.getElem?_eq_getElem hj]
  unfold nm
  show some (V.str nms[j]) = some (V.str (nms.getD (Int.toNat (j : Int)) "bad"))
  rw [Int.toNat_natCast, List.getD_eq_getElem?_getD, List.getElem?_eq_getElem hj]
  rfl
theorem nm_bad {n : Int} (h1 : ¬ n < 29) : nm n = "bad" := by
  unfold nm
  rw [List.getD_eq_getElem?_getD, List.getElem?_eq_none (by show 29 ≤ _; omega)]
  rfl
def sp_name_of : Sp := fun vs H Q _ => ∃ word : Int, vs = [.int word] ∧ 0 ≤ word ∧ word < 65536 ∧ Q (.str (nm (word / 1024))) H
theorem ok_name_of (T : Txt K mg) : FnOk P w K mg base CX0 1 T.f_name_of.f T.f_name_of.fd ["word"] (sp_name_of) := by
  refine T.f_name_of.F.ok sc_name_of (fun vs H Q E h => ?_) (fun cdv A outer s H vs Q E hr h => ?_)
  · obtain ⟨word, rfl, h0, h1, q⟩ := h
    rfl
  obtain ⟨word, rfl, h0, h1, q⟩ := h
  have nd := sc_name_of.nd
  refine Kit.ok_body (σ := [some _, none]) ((pss_cons (ps_set (i := 1) nd rfl (Or.inl rfl) (pe_op op_fdiv (pv 0) pe_int))
    (pss_one (ps_ret (pe_ifExp (pt_cmpR op_lt (pv 1) (pe_callB (Kit.kLen K) (by rfl) T.z_len (by decide +kernel) (pa_cons (pe_glob (v := .ref T.a_NAMES) rfl T.g_NAMES rfl) pa_nil)) (nomark _)) (pe_ix (Kit.ixT K) (pe_glob (v := .ref T.a_NAMES) rfl T.g_NAMES rfl) (pv 1) (fun _ _ => rfl)) pe_str))))) rfl ?_
  walk_at "wp"
  refine Kit.w_len (.inr (T.w_NAMES.sq _)) ?_
  walk_at "wp"
  · rename_i h
    have h : word / 1024 < 29 := h
    exact Kit.w_ixT (xs := nms.map V.str) (T.w_NAMES.sq _) (nm_at (by omega) h) q
  · rename_i h
    have h : ¬ word / 1024 < 29 := h
    rw [nm_bad h] at q
    exact q
def sp_behind : Sp := fun vs H Q _ => ∃ p : Int, vs = [.int p] ∧ Q (.int ((p + 1) % 256)) H
theorem ok_behind (T : Txt K mg) : FnOk P w K mg base CX0 1 T.f_behind.f T.f_behind.fd ["place"] (sp_behind) := by
  refine T.f_behind.F.ok sc_behind (fun vs H Q E h => ?_) (fun cdv A outer s H vs Q E hr h => ?_)
  · obtain ⟨p, rfl, q⟩ := h
    rfl
  obtain ⟨p, rfl, q⟩ := h
  have nd := sc_behind.nd
  refine Kit.ok_body (σ := [some _]) ((pss_one (ps_ret (pe_op op_mod (pe_op op_add (pv 0) pe_int) (pe_glob (v := .int 256) rfl T.g_PLACES ⟨_, rfl⟩))))) rfl ?_
  walk_at "wp"
  exact q
local macro_rules | `(tactic| walk_at "wp1") => `(tactic| ((with_reducible show sp_behind _ _ _ _); refine ⟨_, rfl, ?_⟩))
/-- the place of the other word, and whether it is changed -/
def dataM (s : Str) (word x : Int) : Option (Int × Bool) :=
  if s ∈ (["load", "index", "within", "back"] : List Str) ∨ s ∈ sgs then some (word % 256, false)
  else if s = "loadx" then some ((word % 256 + x) % 256, false)
  else if s ∈ (["store", "call"] : List Str) then some (word % 256, true)
  else if s = "storex" then some ((word % 256 + x) % 256, true)
  else none
def VData (H : Hp) : Option (Int × Bool) → V → Prop
  | none, v => v = .non
  | some (p, b), v => ∃ t, v = .ref t ∧ H t = some (.tup [.int p, .bl b])
def regsV (pc acc x mark out count : Int) : List V := [.int pc, .int acc, .int x, .int mark, .int out, .int count]
def sp_data_of (K : PySem.W.Frag) : Sp := fun vs H Q _ => ∃ (r : Addr) (word pc acc x mark out count : Int), vs = [.ref r, .int word] ∧ SqT K H r [.int pc, .int acc, .int x, .int mark, .int out, .int count] ∧ 0 ≤ word ∧ word < 65536 ∧ ∀ v H', Evl.Ex H H' → VData H' (dataM (nm (word / 1024)) word x) v → Q v H'
theorem ok_data_of (T : Txt K mg) : FnOk P w K mg base CX0 2 T.f_data_of.f T.f_data_of.fd ["registers", "word"] (sp_data_of K) := by
  have G_name_of := ok_name_of (P := P) (w := w) (base := base) T
  refine T.f_data_of.F.ok sc_data_of (fun vs H Q E h => ?_) (fun cdv A outer s H vs Q E hr h => ?_)
  · obtain ⟨r, word, pc, acc, x, mark, out, count, rfl, hr6, h0, h1, q⟩ := h
    rfl
  obtain ⟨r, word, pc, acc, x, mark, out, count, rfl, hr6, h0, h1, q⟩ := h
  have nd := sc_data_of.nd
  have hr1 : Room 1 _ := hr.mono (by decide)
  refine Kit.ok_body (σ := [some _, some _, none, none, none]) ((pss_cons (ps_set (i := 2) nd rfl (Or.inl rfl) (pe_call G_name_of hr1 (by rfl) T.f_name_of.g T.f_name_of.F.kp T.f_name_of.b .nil pass0 (pa_cons (pv 1) pa_nil)))
    (pss_cons (ps_set (i := 3) nd rfl (Or.inl rfl) (pe_op op_mod (pv 1) (pe_glob (v := .int 256) rfl T.g_PLACES ⟨_, rfl⟩)))
    (pss_cons (ps_set (i := 4) nd rfl (Or.inl rfl) (pe_op op_mod (pe_op op_add (pv 3) (pe_ix (Kit.ixT K) (pv 0) pe_int (fun _ _ => rfl))) (pe_glob (v := .int 256) rfl T.g_PLACES ⟨_, rfl⟩)))
    (pss_cons (ps_if (PW.pt (pw_or (pt_cmpR (Kit.kIn K) (pv 2) (pe_tup (pa_cons pe_str (pa_cons pe_str (pa_cons pe_str (pa_cons pe_str pa_nil))))) (by rfl)) (pw_or1 (pt_cmpR (Kit.kIn K) (pv 2) (pe_glob (v := .ref T.a_SIGNS) rfl T.g_SIGNS rfl) (by rfl)))))
    (pss_one (ps_ret (pe_tup (pa_cons (pv 3) (pa_cons pe_bl pa_nil)))))
    pss_nil)
    (pss_cons (ps_if (pt_cmpR op_eq (pv 2) pe_str (nomark _))
    (pss_one (ps_ret (pe_tup (pa_cons (pv 4) (pa_cons pe_bl pa_nil)))))
    pss_nil)
    (pss_cons (ps_if (pt_cmpR (Kit.kIn K) (pv 2) (pe_tup (pa_cons pe_str (pa_cons pe_str pa_nil))) (by rfl))
    (pss_one (ps_ret (pe_tup (pa_cons (pv 3) (pa_cons pe_bl pa_nil)))))
    pss_nil)
    (pss_cons (ps_if (pt_cmpR op_eq (pv 2) pe_str (nomark _))
    (pss_one (ps_ret (pe_tup (pa_cons (pv 4) (pa_cons pe_bl pa_nil)))))
    pss_nil)
    (pss_one (ps_ret pe_non)))))))))) rfl ?_
  walk_at "wp"
  refine ⟨word, rfl, h0, h1, ?_⟩
  generalize nm (word / 1024) = s at *
  have go : ∀ (p : Int) (b : Bool) (t : Addr) (H' : Hp), dataM s word x = some (p, b) → Evl.Ex H H' → H' t = some (.tup [.int p, .bl b]) → Q (.ref t) H' := fun p b t H' e1 e2 e3 => q _ _ e2 (by rw [e1]; exact ⟨t, rfl, e3⟩)
  walk_at "wp"
  · refine go _ _ _ _ ?_ (by walk_at "ex") (by assumption)
    unfold dataM
    rw [if_pos (.inl ‹_›)]
  rename_i p1 H1 n1 e1 f1 hn1
  refine w_inS (.inr (T.w_SIGNS.sq _)) (by rfl) ?_
  walk_at "wp"
  · refine go _ _ _ _ ?_ (by walk_at "ex") (by assumption)
    unfold dataM
    rw [if_pos (.inr ‹_›)]
  all_goals (try (refine go _ _ _ _ ?_ (by walk_at "ex") (by assumption)))
  all_goals (try (refine q _ _ (by walk_at "ex") ?_; rw [show dataM s word x = none from ?_]; first | rfl | skip))
  all_goals
    unfold dataM
    rw [if_neg (fun z => z.elim (by assumption) (by assumption))]
  · rw [if_pos (by assumption)]
  · rw [if_neg (by assumption), if_pos (by assumption)]
  · rw [if_neg (by assumption), if_neg (by assumption), if_pos (by assumption)]
  · rw [if_neg (by assumption), if_neg (by assumption), if_neg (by assumption)]

def ParOf (i j : Nat) (vs : List V) (σ : L2.St) (H : Hp) (nx : L2.St → Hp → Prop) : Prop := ∃ v w, vs = [v, w] ∧ nx ((σ.set i (some v)).set j (some w)) H
theorem m_par {i j : Nat} {ta : TA} {nx bk ct : L2.St → Hp → Prop} {rt : VK} {σ : L2.St} {H : Hp} (h : ta σ H fun vs H1 => ParOf i j vs σ H1 nx) : Kit.Sm (tPar i j ta) nx rt bk ct σ H := h
theorem w_par {i j : Nat} {v u : V} {σ σ' : L2.St} {H : Hp} {nx : L2.St → Hp → Prop} (e : (σ.set i (some v)).set j (some u) = σ') (h : nx σ' H) : ParOf i j [v, u] σ H nx := ⟨v, u, rfl, by rw [e]; exact h⟩
theorem w_gname {i : Nat} {v : V} {σ σ' : L2.St} {H : Hp} {Q : L2.St → Hp → Prop} (e : σ.set i (some v) = σ') (h : Q σ' H) : gName i v σ H Q := by subst e; exact h
theorem w_gnil {σ : L2.St} {H : Hp} {Q : L2.St → Hp → Prop} (h : Q σ H) : gNil [] σ H Q := ⟨rfl, h⟩
local macro_rules | `(tactic| walk_at "wp1") => `(tactic| first
  | ((with_reducible show L2.gName _ _ _ _ _); refine w_gname (by simp only [List.set_cons_succ, List.set_cons_zero]; exact rfl) ?_)
  | with_reducible refine w_gnil ?_
  | with_reducible refine m_par ?_
  | ((with_reducible show ParOf _ _ _ _ _ _); refine w_par (by simp only [List.set_cons_succ, List.set_cons_zero]; exact rfl) ?_))
local macro_rules | `(tactic| walk_at "ex2") => `(tactic| first | with_reducible exact Evl.Ex.refl _ | (walk_at "ex"))
/-! ### the registers behind a step -/
def xM (s : Str) (acc x : Int) (data : V) : V := if s = "tox" then .int acc else if s = "index" then data else .int x
def sp_x_by (K : PySem.W.Frag) : Sp := fun vs H Q _ => ∃ (s : Str) (r : Addr) (pc acc x mark out count : Int) (data : V), vs = [.str s, .ref r, data] ∧ SqT K H r [.int pc, .int acc, .int x, .int mark, .int out, .int count] ∧ ∀ H', Evl.Ex H H' → Q (xM s acc x data) H'
theorem ok_x_by (T : Txt K mg) : FnOk P w K mg base CX0 1 T.f_x_by.f T.f_x_by.fd ["name", "registers", "data"] (sp_x_by K) := by
  refine T.f_x_by.F.ok sc_x_by (fun vs H Q E h => ?_) (fun cdv A outer s H vs Q E hr h => ?_)
  · obtain ⟨s, r, pc, acc, x, mark, out, count, data, rfl, hr6, q⟩ := h
    rfl
  obtain ⟨s, r, pc, acc, x, mark, out, count, data, rfl, hr6, q⟩ := h
  have nd := sc_x_by.nd
  refine Kit.ok_body (σ := [some _, some _, some _]) ((pss_cons (ps_if (pt_cmpR op_eq (pv 0) pe_str (nomark _))
    (pss_one (ps_ret (pe_ix (Kit.ixT K) (pv 1) pe_int (fun _ _ => rfl))))
    pss_nil)
    (pss_cons (ps_if (pt_cmpR op_eq (pv 0) pe_str (nomark _))
    (pss_one (ps_ret (pv 2)))
    pss_nil)
    (pss_one (ps_ret (pe_ix (Kit.ixT K) (pv 1) pe_int (fun _ _ => rfl))))))) rfl ?_
  walk_at "wp"
  all_goals (refine ex_done q (by walk_at "ex2") ?_; unfold xM)
  · rw [if_pos (by assumption)]
  · rw [if_neg (by assumption), if_pos (by assumption)]
  · rw [if_neg (by assumption), if_neg (by assumption)]
def chM (s : Str) (pc acc : Int) : V := if s ∈ (["store", "storex"] : List Str) then .int acc else if s = "call" then .int ((pc + 1) % 256) else .non
def sp_changed_by (K : PySem.W.Frag) : Sp := fun vs H Q _ => ∃ (s : Str) (r : Addr) (pc acc x mark out count : Int), vs = [.str s, .ref r] ∧ SqT K H r [.int pc, .int acc, .int x, .int mark, .int out, .int count] ∧ ∀ H', Evl.Ex H H' → Q (chM s pc acc) H'
theorem ok_changed_by (T : Txt K mg) : FnOk P w K mg base CX0 2 T.f_changed_by.f T.f_changed_by.fd ["name", "registers"] (sp_changed_by K) := by
  have G_behind := ok_behind (P := P) (w := w) (base := base) T
  refine T.f_changed_by.F.ok sc_changed_by (fun vs H Q E h => ?_) (fun cdv A outer s H vs Q E hr h => ?_)
  · obtain ⟨s, r, pc, acc, x, mark, out, count, rfl, hr6, q⟩ := h
    rfl
  obtain ⟨s, r, pc, acc, x, mark, out, count, rfl, hr6, q⟩ := h
  have nd := sc_changed_by.nd
  have hr1 : Room 1 _ := hr.mono (by decide)
  refine Kit.ok_body (σ := [some _, some _]) ((pss_cons (ps_if (pt_cmpR (Kit.kIn K) (pv 0) (pe_tup (pa_cons pe_str (pa_cons pe_str pa_nil))) (by rfl))
    (pss_one (ps_ret (pe_ix (Kit.ixT K) (pv 1) pe_int (fun _ _ => rfl))))
    pss_nil)
    (pss_cons (ps_if (pt_cmpR op_eq (pv 0) pe_str (nomark _))
    (pss_one (ps_ret (pe_call G_behind hr1 (by rfl) T.f_behind.g T.f_behind.F.kp T.f_behind.b .nil pass0 (pa_cons (pe_ix (Kit.ixT K) (pv 1) pe_int (fun _ _ => rfl)) pa_nil))))
    pss_nil)
    (pss_one (ps_ret pe_non))))) rfl ?_
  walk_at "wp"
  all_goals (refine ex_done q (by walk_at "ex2") ?_; unfold chM)
  · rw [if_pos (by assumption)]
  · rw [if_neg (by assumption), if_pos (by assumption)]
  · rw [if_neg (by assumption), if_neg (by assumption)]
def pcM (s : Str) (pc acc word d : Int) : Int :=
  if s = "jump" ∨ (s = "zero" ∧ acc = 0) ∨ (s = "some" ∧ ¬ acc = 0) then word % 256 else if s = "call" then (word % 256 + 1) % 256 else if s = "back" then d % 256 else (pc + 1) % 256
def sp_pc_by (K : PySem.W.Frag) : Sp := fun vs H Q _ => ∃ (s : Str) (r : Addr) (pc acc x mark out count word d : Int) (data : V), vs = [.str s, .ref r, .int word, data] ∧ SqT K H r [.int pc, .int acc, .int x, .int mark, .int out, .int count] ∧ (s = "back" → data = .int d) ∧ ∀ H', Evl.Ex H H' → Q (.int (pcM s pc acc word d)) H'
theorem ok_pc_by (T : Txt K mg) : FnOk P w K mg base CX0 2 T.f_pc_by.f T.f_pc_by.fd ["name", "registers", "word", "data"] (sp_pc_by K) := by
  have G_behind := ok_behind (P := P) (w := w) (base := base) T
  refine T.f_pc_by.F.ok sc_pc_by (fun vs H Q E h => ?_) (fun cdv A outer s H vs Q E hr h => ?_)
  · obtain ⟨s, r, pc, acc, x, mark, out, count, word, d, data, rfl, hr6, hd, q⟩ := h
    rfl
  obtain ⟨s, r, pc, acc, x, mark, out, count, word, d, data, rfl, hr6, hd, q⟩ := h
  have nd := sc_pc_by.nd
  have hr1 : Room 1 _ := hr.mono (by decide)
  refine Kit.ok_body (σ := [some _, some _, some _, some _, none, none, none]) ((pss_cons (ps_par (i := 4) (j := 5) rfl nd rfl rfl (by decide) rfl rfl (pa_cons (pe_ix (Kit.ixT K) (pv 1) pe_int (fun _ _ => rfl)) (pa_cons (pe_ix (Kit.ixT K) (pv 1) pe_int (fun _ _ => rfl)) pa_nil)) rfl)
    (pss_cons (ps_set (i := 6) nd rfl (Or.inl rfl) (pe_op op_mod (pv 2) (pe_glob (v := .int 256) rfl T.g_PLACES ⟨_, rfl⟩)))
    (pss_cons (ps_if (PW.pt (pw_or (pt_cmpR op_eq (pv 0) pe_str (nomark _)) (pw_or (PW.pt (pw_and (pt_cmpR op_eq (pv 0) pe_str (nomark _)) (pw_and1 (pt_cmpR op_eq (pv 5) pe_int (nomark _))))) (pw_or1 (PW.pt (pw_and (pt_cmpR op_eq (pv 0) pe_str (nomark _)) (pw_and1 (pt_cmpR op_ne (pv 5) pe_int (nomark _)))))))))
    (pss_one (ps_ret (pv 6)))
    pss_nil)
    (pss_cons (ps_if (pt_cmpR op_eq (pv 0) pe_str (nomark _))
    (pss_one (ps_ret (pe_call G_behind hr1 (by rfl) T.f_behind.g T.f_behind.F.kp T.f_behind.b .nil pass0 (pa_cons (pv 6) pa_nil))))
    pss_nil)
    (pss_cons (ps_if (pt_cmpR op_eq (pv 0) pe_str (nomark _))
    (pss_one (ps_ret (pe_op op_mod (pv 3) (pe_glob (v := .int 256) rfl T.g_PLACES ⟨_, rfl⟩))))
    pss_nil)
    (pss_one (ps_ret (pe_call G_behind hr1 (by rfl) T.f_behind.g T.f_behind.F.kp T.f_behind.b .nil pass0 (pa_cons (pv 4) pa_nil)))))))))) rfl ?_
  walk_at "wp"
  all_goals (try contradiction)
  all_goals (try (rw [hd (by assumption)]; walk_at "wp"))
  all_goals (refine ex_done q (by walk_at "ex2") ?_; unfold pcM)
  all_goals first
    | rw [if_pos (by first | exact .inl (by assumption) | exact .inr (.inl ⟨by assumption, by assumption⟩) | exact .inr (.inr ⟨by assumption, by assumption⟩))]
    | (rw [if_neg (by intro z; rcases z with z | ⟨z, z'⟩ | ⟨z, z'⟩ <;> contradiction)]; first | rw [if_pos (by assumption)] | (rw [if_neg (by assumption)]; first | rw [if_pos (by assumption)] | rw [if_neg (by assumption)]))
theorem opV_cases (g : Sg) (a b : Int) : opV g a b = .non ∨ ∃ n, opV g a b = .int n := by
  by_cases hg : g.isCmp = true
  · rw [opV_cmp hg]
    by_cases h : cmpB g a b = true
    · rw [if_pos h]; exact .inr ⟨_, rfl⟩
    · rw [if_neg h]; exact .inr ⟨_, rfl⟩
  · cases g <;> first | exact .inr ⟨_, rfl⟩ | exact (hg rfl).elim | (by_cases h : b = 0 <;> first | exact .inl (if_pos h) | exact .inr ⟨_, if_neg h⟩)
def sgOf (s : Str) : Sg := if s = "+" then .add else if s = "-" then .sub else if s = "*" then .mul else if s = "/" then .div else if s = "mod" then .mod else if s = "==" then .eq else if s = "!=" then .ne else if s = "<" then .lt else if s = "<=" then .le else if s = ">" then .gt else .ge
theorem sgOf_str : ∀ g : Sg, sgOf g.str = g := by intro g; cases g <;> decide +kernel
theorem sg_of {s : Str} (h : s ∈ sgs) : ∃ g : Sg, s = g.str := by
  simp only [sgs, List.mem_cons, List.not_mem_nil, or_false] at h
  rcases h with rfl | rfl | rfl | rfl | rfl | rfl | rfl | rfl | rfl | rfl | rfl
  · exact ⟨.add, rfl⟩
  · exact ⟨.sub, rfl⟩
  · exact ⟨.mul, rfl⟩
  · exact ⟨.div, rfl⟩
  · exact ⟨.mod, rfl⟩
  · exact ⟨.eq, rfl⟩
  · exact ⟨.ne, rfl⟩
  · exact ⟨.lt, rfl⟩
  · exact ⟨.le, rfl⟩
  · exact ⟨.gt, rfl⟩
  · exact ⟨.ge, rfl⟩
theorem use_op {s : Str} {a b : Int} {H : Hp} {Q : VK} {E : XK} (hs : s ∈ sgs) (h1 : 0 ≤ a ∧ a < 65536) (h2 : 0 ≤ b ∧ b < 65536) (k : ∀ H', Evl.Ex H H' → Q (opV (sgOf s) a b) H') : sp_op [.str s, .int a, .int b] H Q E := by
  obtain ⟨g, rfl⟩ := sg_of hs
  rw [sgOf_str] at k
  exact ⟨g, a, b, rfl, h1.1, h1.2, h2.1, h2.2, k⟩
def accM (s : Str) (acc word d : Int) (data : V) : V :=
  if s = "lit" then .int (word % 1024) else if s ∈ (["load", "loadx"] : List Str) then data else if s = "not" then (if acc = 0 then .int 1 else .int 0) else if s ∈ sgs then opV (sgOf s) acc d else .int acc
def sp_acc_by (K : PySem.W.Frag) : Sp := fun vs H Q _ => ∃ (s : Str) (r : Addr) (pc acc x mark out count word d : Int) (data : V), vs = [.str s, .ref r, .int word, data] ∧ SqT K H r [.int pc, .int acc, .int x, .int mark, .int out, .int count] ∧ 0 ≤ acc ∧ acc < 65536 ∧ (s ∈ sgs → data = .int d ∧ 0 ≤ d ∧ d < 65536) ∧ ∀ H', Evl.Ex H H' → Q (accM s acc word d data) H'
theorem ok_acc_by (T : Txt K mg) : FnOk P w K mg base CX0 3 T.f_acc_by.f T.f_acc_by.fd ["name", "registers", "word", "data"] (sp_acc_by K) := by
  have G_op := ok_op (P := P) (w := w) (base := base) T
  refine T.f_acc_by.F.ok sc_acc_by (fun vs H Q E h => ?_) (fun cdv A outer s H vs Q E hr h => ?_)
  · obtain ⟨s, r, pc, acc, x, mark, out, count, word, d, data, rfl, hr6, a0, a1, hd, q⟩ := h
    rfl
  obtain ⟨s, r, pc, acc, x, mark, out, count, word, d, data, rfl, hr6, a0, a1, hd, q⟩ := h
  have nd := sc_acc_by.nd
  have hr2 : Room 2 _ := hr.mono (by decide)
  refine Kit.ok_body (σ := [some _, some _, some _, some _, none]) ((pss_cons (ps_set (i := 4) nd rfl (Or.inl rfl) (pe_ix (Kit.ixT K) (pv 1) pe_int (fun _ _ => rfl)))
    (pss_cons (ps_if (pt_cmpR op_eq (pv 0) pe_str (nomark _))
    (pss_one (ps_ret (pe_op op_mod (pv 2) pe_int)))
    pss_nil)
    (pss_cons (ps_if (pt_cmpR (Kit.kIn K) (pv 0) (pe_tup (pa_cons pe_str (pa_cons pe_str pa_nil))) (by rfl))
    (pss_one (ps_ret (pv 3)))
    pss_nil)
    (pss_cons (ps_if (pt_cmpR op_eq (pv 0) pe_str (nomark _))
    (pss_one (ps_ret (pe_ifExp (pt_cmpR op_eq (pv 4) pe_int (nomark _)) pe_int pe_int)))
    pss_nil)
    (pss_cons (ps_if (pt_cmpR (Kit.kIn K) (pv 0) (pe_glob (v := .ref T.a_SIGNS) rfl T.g_SIGNS rfl) (by rfl))
    (pss_one (ps_ret (pe_call G_op hr2 (by rfl) T.f_op.g T.f_op.F.kp T.f_op.b .nil pass0 (pa_cons (pv 0) (pa_cons (pv 4) (pa_cons (pv 3) pa_nil))))))
    pss_nil)
    (pss_one (ps_ret (pv 4))))))))) rfl ?_
  walk_at "wp"
  · refine ex_done q (by walk_at "ex2") ?_
    unfold accM
    rw [if_pos (by assumption)]
  · refine ex_done q (by walk_at "ex2") ?_
    unfold accM
    rw [if_neg (by assumption), if_pos (by assumption)]
  · refine ex_done q (by walk_at "ex2") ?_
    unfold accM
    rw [if_neg (by assumption), if_neg (by assumption), if_pos (by assumption), if_pos (by assumption)]
  · refine ex_done q (by walk_at "ex2") ?_
    unfold accM
    rw [if_neg (by assumption), if_neg (by assumption), if_pos (by assumption), if_neg (by assumption)]
  · refine w_inS (.inr (T.w_SIGNS.sq _)) (by rfl) ?_
    walk_at "wp"
    · rename_i hs
      obtain ⟨rfl, d0, d1⟩ := hd hs
      refine use_op hs ⟨a0, a1⟩ ⟨d0, d1⟩ fun H2 e2 => ex_done q (by walk_at "ex2") ?_
      unfold accM
      rw [if_neg (by assumption), if_neg (by assumption), if_neg (by assumption), if_pos (by assumption)]
    · refine ex_done q (by walk_at "ex2") ?_
      unfold accM
      rw [if_neg (by assumption), if_neg (by assumption), if_neg (by assumption), if_neg (by assumption)]
def haltM (s : Str) (word acc x count d : Int) : V :=
  if s = "bad" then .str "bad" else if s = "halt" then .str "done" else if s = "bound" ∧ word % 1024 ≤ x then .str "place" else if s = "within" ∧ d ≤ x then .str "input"
  else if s ∈ sgs ∧ opV (sgOf s) acc d = .non then .str "divided" else if s = "tell" ∧ count = 16 then .str "full" else .non
def sp_halt_by (K : PySem.W.Frag) : Sp := fun vs H Q _ => ∃ (s : Str) (r : Addr) (pc acc x mark out count word d : Int) (data : V), vs = [.str s, .ref r, .int word, data] ∧ SqT K H r [.int pc, .int acc, .int x, .int mark, .int out, .int count] ∧ 0 ≤ acc ∧ acc < 65536 ∧ (s = "within" ∨ s ∈ sgs → data = .int d ∧ 0 ≤ d ∧ d < 65536) ∧ ∀ H', Evl.Ex H H' → Q (haltM s word acc x count d) H'
local macro_rules | `(tactic| walk_at "chain") => `(tactic| repeat (first
  | rw [if_pos (by first | assumption | exact ⟨by assumption, by assumption⟩)]
  | rw [if_neg (by first | assumption | (intro z; first | exact absurd z.1 (by assumption) | exact absurd z.2 (by assumption)))]))
theorem ok_halt_by (T : Txt K mg) : FnOk P w K mg base CX0 3 T.f_halt_by.f T.f_halt_by.fd ["name", "registers", "word", "data"] (sp_halt_by K) := by
  have G_op := ok_op (P := P) (w := w) (base := base) T
  refine T.f_halt_by.F.ok sc_halt_by (fun vs H Q E h => ?_) (fun cdv A outer s H vs Q E hr h => ?_)
  · obtain ⟨s, r, pc, acc, x, mark, out, count, word, d, data, rfl, hr6, a0, a1, hd, q⟩ := h
    rfl
  obtain ⟨s, r, pc, acc, x, mark, out, count, word, d, data, rfl, hr6, a0, a1, hd, q⟩ := h
  have nd := sc_halt_by.nd
  have hr2 : Room 2 _ := hr.mono (by decide)
  refine Kit.ok_body (σ := [some _, some _, some _, some _, none, none, none, none, none, none]) ((pss_cons (ps_asg (pv 1) (Kit.kgTup K rfl (pgs_cons (pg_name (i := 4) nd rfl (Or.inl rfl)) (pgs_cons (pg_name (i := 5) nd rfl (Or.inl rfl)) (pgs_cons (pg_name (i := 6) nd rfl (Or.inl rfl)) (pgs_cons (pg_name (i := 7) nd rfl (Or.inl rfl)) (pgs_cons (pg_name (i := 8) nd rfl (Or.inl rfl)) (pgs_cons (pg_name (i := 9) nd rfl (Or.inl rfl)) pgs_nil))))))))
    (pss_cons (ps_if (pt_cmpR op_eq (pv 0) pe_str (nomark _))
    (pss_one (ps_ret pe_str))
    pss_nil)
    (pss_cons (ps_if (pt_cmpR op_eq (pv 0) pe_str (nomark _))
    (pss_one (ps_ret pe_str))
    pss_nil)
    (pss_cons (ps_if (PW.pt (pw_and (pt_cmpR op_eq (pv 0) pe_str (nomark _)) (pw_and1 (pt_cmpR op_ge (pv 6) (pe_op op_mod (pv 2) pe_int) (nomark _)))))
    (pss_one (ps_ret pe_str))
    pss_nil)
    (pss_cons (ps_if (PW.pt (pw_and (pt_cmpR op_eq (pv 0) pe_str (nomark _)) (pw_and1 (pt_cmpR op_ge (pv 6) (pv 3) (nomark _)))))
    (pss_one (ps_ret pe_str))
    pss_nil)
    (pss_cons (ps_if (PW.pt (pw_and (pt_cmpR (Kit.kIn K) (pv 0) (pe_glob (v := .ref T.a_SIGNS) rfl T.g_SIGNS rfl) (by rfl)) (pw_and1 (pt_cmpR Kit.k_isN (pe_call G_op hr2 (by rfl) T.f_op.g T.f_op.F.kp T.f_op.b .nil pass0 (pa_cons (pv 0) (pa_cons (pv 5) (pa_cons (pv 3) pa_nil)))) pe_non (nomark _)))))
    (pss_one (ps_ret pe_str))
    pss_nil)
    (pss_cons (ps_if (PW.pt (pw_and (pt_cmpR op_eq (pv 0) pe_str (nomark _)) (pw_and1 (pt_cmpR op_eq (pv 9) (pe_glob (v := .int 16) rfl T.g_MOST_TOLD ⟨_, rfl⟩) (nomark _)))))
    (pss_one (ps_ret pe_str))
    pss_nil)
    (pss_one (ps_ret pe_non)))))))))) rfl ?_
  walk_at "wp"
  all_goals (try ((with_reducible show rI0 _ _ _ _ _); have hw : s = ("within" : Str) := (by assumption); have e := hd (.inl hw); obtain ⟨e, d0, d1⟩ := e; cases e; walk_at "wp"))
  all_goals (try (refine w_inS (.inr (T.w_SIGNS.sq _)) (by rfl) ?_; walk_at "wp"))
  all_goals (try ((with_reducible show sp_op _ _ _ _); rename_i hs; have e := hd (.inr hs); obtain ⟨e, d0, d1⟩ := e; cases e; refine use_op hs ⟨a0, a1⟩ ⟨d0, d1⟩ fun H2 e2 => ?_; rcases opV_cases (sgOf s) acc d with hN | ⟨nn, hM⟩))
  all_goals (try (rw [hN]; walk_at "wp"))
  all_goals (try (have hn : ¬ opV (sgOf s) acc d = .non := (by rw [hM]; exact fun z => nomatch z)); try (rw [hM]; walk_at "wp"))
  all_goals (refine ex_done q (by walk_at "ex2") ?_; unfold haltM; walk_at "chain")

/-! ### the law's draws: some list of ints -/
def sp_law_draws (K : PySem.W.Frag) : Sp := fun vs H Q _ => ∃ (a : Addr) (ns : List Int) (most : Int), vs = [.ref a, .int 0, .int most] ∧ SqL K H a (ns.map V.int) ∧ ns.length ≤ 63 ∧ 0 ≤ most ∧ most ≤ 1000 ∧
  ∀ p H' (ds : List Int), H p = none → Evl.Ex H H' → H' p = some (.lst (ds.map V.int)) → (ds.length : Int) ≤ most → Q (.ref p) H'
theorem cut_front {xs : List V} {n : Int} (h : 0 ≤ n) : cutV xs none (some n) = xs.take n.toNat := by
  obtain ⟨j, rfl⟩ := Int.eq_ofNat_of_zero_le h
  unfold cutV
  rw [HT.sIx_none, HT.sIx_nat]
  show (xs.drop 0).take (min j xs.length - 0) = xs.take j
  rw [List.drop_zero, Nat.sub_zero]
  by_cases hj : j ≤ xs.length
  · rw [Nat.min_eq_left hj]
  · rw [Nat.min_eq_right (by omega), List.take_length, List.take_of_length_le (by omega)]
theorem cut_zero {xs : List V} : cutV xs (some 0) none = xs := by
  unfold cutV
  rw [HT.sIx_none]
  have e : HT.sIx xs.length 0 (some 0) = 0 := by
    have := HT.sIx_nat xs.length 0 0
    simpa using this
  rw [e]
  simp
def DrawInv (s : Addr) (D : Addr) (H1 : Hp) (most : Int) (i : Nat) (σ : L2.St) (H : Hp) : Prop := ∃ (ds : List Int) (y4 y5 y6 y7 : Option V), σ = [some (.ref s), some (.int 0), some (.int most), some (.ref D), y4, y5, y6, y7] ∧ Kit.ExBut D H1 H ∧ H D = some (.lst (ds.map V.int)) ∧ ds.length ≤ 12 * i
theorem map_snoc {ds : List Int} {x : Int} : ds.map V.int ++ [.int x] = (ds ++ [x]).map V.int := by rw [List.map_append]; rfl
theorem use_law_draws {K : PySem.W.Frag} {a : Addr} {ns : List Int} {most : Int} {H : Hp} {Q : VK} {E : XK} (ha : SqL K H a (ns.map V.int)) (hl : ns.length ≤ 63) (m0 : 0 ≤ most) (m1 : most ≤ 1000)
    (q : ∀ p H' (ds : List Int), H p = none → Evl.Ex H H' → H' p = some (.lst (ds.map V.int)) → (ds.length : Int) ≤ most → Q (.ref p) H') : sp_law_draws K [.ref a, .int 0, .int most] H Q E := ⟨a, ns, most, rfl, ha, hl, m0, m1, q⟩

/-! ### a book -/
def addT (T : List Kit.BK) (k : Kit.BK) : List Kit.BK := if k ∈ T then T else T ++ [k]
def findF (F : List (Kit.BK × Kit.TK)) (k : Kit.BK) : Option Kit.TK := (F.find? fun f => decide (f.1 = k)).map (·.2)
def addF (F : List (Kit.BK × Kit.TK)) (k : Kit.BK) (t : Kit.TK) : List (Kit.BK × Kit.TK) := match findF F k with
  | some _ => F
  | none => F ++ [(k, t)]
def addC (c : Bool) (F : List (Kit.BK × Kit.TK)) (k : Kit.BK) (t : Kit.TK) : Bool := match findF F k with
  | some t0 => if t0 = t then c else true
  | none => c
def yesT (T : List Kit.BK) : List (Kit.BK × V) := T.map fun k => (k, V.bl true)
abbrev FRel (H : Hp) := Paired fun (f : Kit.BK × Kit.TK) (q : Kit.BK × V) => q.1 = f.1 ∧ Kit.TVal H f.2 q.2
theorem FRel.mono {H H' : Hp} {F : List (Kit.BK × Kit.TK)} {kv : List (Kit.BK × V)} (m : ∀ c xs, H c = some (.tup xs) → H' c = some (.tup xs)) (r : FRel H F kv) : FRel H' F kv := Paired.mapP r fun _ _ z => ⟨z.1, z.2.mono m⟩
theorem FRel.find {H : Hp} {F : List (Kit.BK × Kit.TK)} {kv : List (Kit.BK × V)} (r : FRel H F kv) (k : Kit.BK) : (∃ t v, findF F k = some t ∧ valV kv k = some v ∧ Kit.TVal H t v) ∨ (findF F k = none ∧ valV kv k = none) := by
  induction r with
  | nil => exact .inr ⟨rfl, rfl⟩
  | @cons f q fs qs z t ih =>
    obtain ⟨z1, z2⟩ := z
    by_cases e : f.1 = k
    · exact .inl ⟨f.2, q.2, by simp [findF, List.find?_cons, e], valV_pos (z1.trans e), z2⟩
    · rw [valV_neg fun h => e (z1.symm.trans h), show findF (f :: fs) k = findF fs k from by simp [findF, List.find?_cons, e]]
      exact ih
theorem valV_yes (T : List Kit.BK) (k : Kit.BK) : ((yesT T).any fun kv => decide (kv.1 = k)) = decide (k ∈ T) := by
  unfold yesT
  rw [List.any_map, Bool.eq_iff_iff, List.any_eq_true, decide_eq_true_iff]
  constructor
  · rintro ⟨x, hx, e⟩
    exact (of_decide_eq_true e : x = k) ▸ hx
  · exact fun h => ⟨k, h, decide_eq_true rfl⟩
theorem put_yes (T : List Kit.BK) (k : Kit.BK) : putK (yesT T) k (V.bl true) = yesT (addT T k) := by
  unfold putK addT
  rw [valV_yes]
  by_cases h : k ∈ T
  · rw [if_pos (decide_eq_true h), if_pos h]
    unfold yesT
    rw [List.map_map]
    refine List.map_congr_left fun x _ => ?_
    show (if x = k then (x, V.bl true) else (x, V.bl true)) = (x, V.bl true)
    split <;> rfl
  · rw [if_neg (by rw [decide_eq_false h]; exact Bool.false_ne_true), if_neg h]
    unfold yesT
    rw [List.map_append]
    rfl
theorem put_new {κ : Type} [DecidableEq κ] {kv : List (κ × V)} {k : κ} {v : V} (h : valV kv k = none) : putK kv k v = kv ++ [(k, v)] := by
  unfold putK
  rw [valV_any, h]
  exact if_neg Bool.false_ne_true
/-- at p: a book that has met the texts T, the firsts F -/
def BookAt (P : Program) (w : World) (C : Addr) (H : Hp) (p : Addr) (T : List Kit.BK) (F : List (Kit.BK × Kit.TK)) (c : Bool) : Prop :=
  ∃ dx d1 d2 kv, H p = some (.ins C dx (fl_Book (.ref d1) (.ref d2) (.bl c))) ∧ Kit.BkAt P w H d1 (yesT T) ∧ Kit.BkAt P w H d2 kv ∧ d1 ≠ d2 ∧ FRel H F kv
theorem BookAt.ex {P : Program} {w : World} {C p : Addr} {H H' : Hp} {T : List Kit.BK} {F : List (Kit.BK × Kit.TK)} {c : Bool} (e : Evl.Ex H H') (b : BookAt P w C H p T F c) : BookAt P w C H' p T F c :=
  let ⟨dx, d1, d2, kv, h1, h2, h3, h4, h5⟩ := b
  ⟨dx, d1, d2, kv, e _ _ h1, h2.ex e, h3.ex e, h4, h5.mono fun c xs => e c _⟩
def sp_Book_init (C : Addr) : Sp := fun vs H Q _ => ∃ (p dx : Addr), vs = [.ref p] ∧ H p = some (.ins C dx []) ∧ ∀ H' d1 d2, Kit.ExBut p H H' → H' p = some (.ins C dx (fl_Book (.ref d1) (.ref d2) (.bl false))) → H' d1 = some (.dK []) → H' d2 = some (.dK []) → d1 ≠ d2 → Q .non H'
local macro_rules | `(tactic| walk_at "wp1") => `(tactic| first
  | ((with_reducible refine Kit.w_dnew ?_); intro _ _ _ _ _)
  | with_reducible refine Kit.m_bkPut ?_
  | with_reducible refine Kit.w_bkSetd ?_)
theorem ok_Book___init (T : Txt K mg) : FnOk P w K mg base CX0 1 T.f_Book___init.f T.f_Book___init.fd ["self"] (sp_Book_init T.c_Book.C) := by
  refine T.f_Book___init.F.ok sc_Book___init (fun vs H Q E h => ?_) (fun cdv A outer s H vs Q E hr h => ?_)
  · obtain ⟨p, dx, rfl, hp, q⟩ := h
    rfl
  obtain ⟨p, dx, rfl, hp, q⟩ := h
  have nd := sc_Book___init.nd
  refine Kit.ok_body (σ := [some _]) ((pss_cons (Kit.kSet K (pv 0) pe_dnewK rfl)
    (pss_cons (Kit.kSet K (pv 0) pe_dnewK rfl)
    (pss_one (Kit.kSet K (pv 0) pe_bl rfl))))) rfl ?_
  walk_at "wp"
  rename_i d1 H1 n1 e1 f1 H2 m2 f2 d2 H3 n3 e3 f3 H4 m4 f4 H5 m5 f5
  have a1 : d1 ≠ p := (ne_of_none hp n1).symm
  have a2 : d2 ≠ p := (ne_of_none f2 n3).symm
  have g1 := m2 _ _ a1 f1
  exact q H5 d1 d2 (by walk_at "but") f5 (m5 _ _ a1 (m4 _ _ a1 (e3 _ _ g1))) (m5 _ _ a2 (m4 _ _ a2 f3)) (ne_of_none g1 n3)
theorem use_Book {P : Program} {w : World} {C : Addr} {H : Hp} {Q : VK} {E : XK} (k : ∀ p H', H p = none → Evl.Ex H H' → BookAt P w C H' p [] [] false → Q (.ref p) H') : Kit.MakeOf C (sp_Book_init C) E [] H Q := by
  refine Kit.w_made fun x dx H2 hx e h => ⟨x, dx, rfl, h, fun H3 d1 d2 m h3 h4 h5 n => ⟨rfl, k x H3 hx (Kit.ex_but m hx e) ⟨dx, d1, d2, [], h3, .inl ⟨rfl, h4⟩, .inl ⟨rfl, h5⟩, n, .nil⟩⟩⟩
def sp_Book_add (P : Program) (w : World) (C : Addr) : Sp := fun vs H Q _ => ∃ (p : Addr) (kd : Str) (x : V) (d : Int) (t : Kit.TK) (TT : List Kit.BK) (F : List (Kit.BK × Kit.TK)) (c : Bool), vs = [.ref p, .str kd, x, .int d] ∧ BookAt P w C H p TT F c ∧ Kit.TVal H t x ∧ TT.length ≤ 100000 ∧ F.length ≤ 100000 ∧
  ∀ H', Kit.KeepE p H H' → BookAt P w C H' p (addT TT (kd, t)) (addF F (kd, .num d) t) (addC c F (kd, .num d) t) → Q .non H'
theorem FRel.len {H : Hp} {F : List (Kit.BK × Kit.TK)} {kv : List (Kit.BK × V)} (r : FRel H F kv) : F.length = kv.length := Paired.length r
theorem sz1 {n : Nat} (h : n ≤ 100000) : n < sizeLine := by rw [sizeLine_eq]; omega
theorem bk_apart {P : Program} {w : World} {H H' : Hp} {d1 d2 : Addr} {kv kv2 : List (Kit.BK × V)} (h2 : Kit.BkAt P w H d2 kv2) (h1 : Kit.BkAt P w H d1 kv) (n : d2 ≠ d1) (m : Kit.ExBut d1 H H') : Kit.BkAt P w H' d2 kv2 := h2.mono (fun o h => m _ o n h) fun c zs h => m c _ (Kit.bk_no h1 h) h
theorem ok_Book_add (T : Txt K mg) : FnOk P w K mg base CX0 1 T.f_Book_add.f T.f_Book_add.fd ["self", "kind", "text", "digest"] (sp_Book_add P w T.c_Book.C) := by
  refine T.f_Book_add.F.ok sc_Book_add (fun vs H Q E h => ?_) (fun cdv A outer s H vs Q E hr h => ?_)
  · obtain ⟨p, kd, x, d, t, TT, F, c, rfl, ⟨dx, d1, d2, kv, hp, b1, b2, nd12, fr⟩, tv, l1, l2, q⟩ := h
    rfl
  obtain ⟨p, kd, x, d, t, TT, F, c, rfl, ⟨dx, d1, d2, kv, hp, b1, b2, nd12, fr⟩, tv, l1, l2, q⟩ := h
  have nd := sc_Book_add.nd
  refine Kit.ok_body (σ := [some _, some _, some _, some _]) ((pss_cons (Kit.bkPut P w hr.units (Kit.kFld K (pv 0) rfl) (pe_tup (pa_cons (pv 1) (pa_cons (pv 2) pa_nil))) pe_bl rfl)
    (pss_one (ps_if (pt_cmpR (Kit.kNeD K hr.units) (Kit.bkSetd P w hr.units (Kit.kFld K (pv 0) rfl) (pe_tup (pa_cons (pv 1) (pa_cons (pv 3) pa_nil))) (pv 2) ⟨rfl, rfl, rfl, rfl⟩) (pv 2) (nomark _))
    (pss_one (Kit.kSet K (pv 0) pe_bl rfl))
    pss_nil)))) rfl ?_
  have tv0 := tv
  walk_at "wp"
  rename_i a H1 n1 e1 f1
  have p1 : d1 ≠ p := by rintro rfl; obtain ⟨o, z1, z2⟩ := Kit.bk_is b1; rw [hp] at z1; cases z1; cases z2
  have p2 : d2 ≠ p := by rintro rfl; obtain ⟨o, z1, z2⟩ := Kit.bk_is b2; rw [hp] at z1; cases z1; cases z2
  refine ⟨d1, rfl, yesT TT, (kd, t), a, b1.ex e1, rfl, ⟨x, f1, tv.mono fun c zs => e1 c _⟩, sz1 (by unfold yesT; rw [List.length_map]; exact l1), fun H2 m2 b1' => ?_⟩
  rw [put_yes] at b1'
  have tup2 : ∀ c zs, H c = some (.tup zs) → H2 c = some (.tup zs) := fun c zs h => m2 c _ (Kit.bk_no (b1.ex e1) (e1 c _ h)) (e1 c _ h)
  have b2' := bk_apart (b2.ex e1) (b1.ex e1) nd12.symm m2
  have hp2 := m2 _ _ p1.symm (e1 _ _ hp)
  have k2 : Kit.KeepE p H H2 := (Kit.KeepE.of e1).trans (Kit.KeepE.dict (b1.ex e1) m2 (Kit.bk_is b1').choose_spec.1)
  walk_at "wp"
  refine ⟨d2, rfl, ⟨kv, b2'⟩, ?_⟩
  walk_at "wp"
  rename_i b H3 n3 e3 f3
  have tup3 : ∀ c zs, H c = some (.tup zs) → H3 c = some (.tup zs) := fun c zs h => e3 c _ (tup2 c zs h)
  have k3 := k2.trans (Kit.KeepE.of e3)
  have b1' := b1'.ex e3
  have b2' := b2'.ex e3
  have fr := fr.mono tup3
  have tv := tv.mono tup3
  have hp3 := e3 _ _ hp2
  refine ⟨kv, (kd, .num d), b, b2', rfl, ⟨_, f3, rfl⟩, sz1 (by rw [← fr.len]; exact l2), fun v hv => ?_, fun hn H4 m4 b4 => ?_⟩
  · rcases fr.find (kd, .num d) with ⟨t0, v0, hf, hv0, tv0⟩ | ⟨_, hn⟩
    · obtain rfl : v0 = v := Option.some.inj (hv0.symm.trans hv)
      have ef : addF F (kd, .num d) t = F := by unfold addF; rw [hf]
      have ec : addC c F (kd, .num d) t = if t0 = t then c else true := by unfold addC; rw [hf]
      rw [ef, ec] at q
      walk_at "wp"
      refine Kit.w_neTV tv0 tv ?_
      by_cases h : t0 = t
      · rw [if_pos h] at q
        rw [decide_eq_true h]
        walk_at "wp"
        exact q _ k3 ⟨dx, d1, d2, kv, hp3, b1', b2', nd12, fr⟩
      · rw [if_neg h] at q
        rw [decide_eq_false h]
        walk_at "wp"
        rename_i H5 m5 f5
        have tup5 : ∀ c zs, H3 c = some (.tup zs) → H5 c = some (.tup zs) := fun c zs h => m5 c _ (by rintro rfl; rw [hp3] at h; cases h) h
        exact q _ (k3.trans (Kit.KeepE.but m5 f5)) ⟨dx, d1, d2, kv, f5, b1'.mono (fun o h => m5 _ o p1 h) tup5, b2'.mono (fun o h => m5 _ o p2 h) tup5, nd12, fr.mono tup5⟩
    · rw [hn] at hv
      cases hv
  · rcases fr.find (kd, .num d) with ⟨t0, v0, hf, hv0, tv0⟩ | ⟨hf, _⟩
    · rw [hn] at hv0
      cases hv0
    · have ef : addF F (kd, .num d) t = F ++ [((kd, .num d), t)] := by unfold addF; rw [hf]
      have ec : addC c F (kd, .num d) t = c := by unfold addC; rw [hf]
      rw [ef, ec] at q
      rw [put_new hn] at b4
      have tup4 : ∀ c zs, H3 c = some (.tup zs) → H4 c = some (.tup zs) := fun c zs h => m4 c _ (Kit.bk_no b2' h) h
      walk_at "wp"
      refine Kit.w_neTV (tv.mono tup4) (tv.mono tup4) ?_
      rw [decide_eq_true rfl]
      walk_at "wp"
      exact q _ (k3.trans (Kit.KeepE.dict b2' m4 (Kit.bk_is b4).choose_spec.1)) ⟨dx, d1, d2, _, m4 _ _ p2.symm hp3, bk_apart b1' b2' nd12 m4, b4, nd12, (fr.mono tup4).snoc ⟨rfl, tv.mono tup4⟩⟩
def sp_Book_coll (P : Program) (w : World) (C : Addr) : Sp := fun vs H Q _ => ∃ (p : Addr) (TT : List Kit.BK) (F : List (Kit.BK × Kit.TK)) (c : Bool), vs = [.ref p] ∧ BookAt P w C H p TT F c ∧ Q (.bl c) H
theorem ok_Book_has_collision (T : Txt K mg) : FnOk P w K mg base CX0 1 T.f_Book_has_collision.f T.f_Book_has_collision.fd ["self"] (sp_Book_coll P w T.c_Book.C) := by
  refine T.f_Book_has_collision.F.ok sc_Book_has_collision (fun vs H Q E h => ?_) (fun cdv A outer s H vs Q E hr h => ?_)
  · obtain ⟨p, TT, F, c, rfl, ⟨dx, d1, d2, kv, hp, b1, b2, nd12, fr⟩, q⟩ := h
    rfl
  obtain ⟨p, TT, F, c, rfl, ⟨dx, d1, d2, kv, hp, b1, b2, nd12, fr⟩, q⟩ := h
  have nd := sc_Book_has_collision.nd
  refine Kit.ok_body (σ := [some _]) ((pss_one (ps_ret (Kit.kFld K (pv 0) rfl)))) rfl ?_
  walk_at "wp"
  exact q
def sp_Book_count (P : Program) (w : World) (C : Addr) : Sp := fun vs H Q _ => ∃ (p : Addr) (TT : List Kit.BK) (F : List (Kit.BK × Kit.TK)) (c : Bool), vs = [.ref p] ∧ BookAt P w C H p TT F c ∧ Q (.int (TT.length : Int)) H
theorem ok_Book_count (T : Txt K mg) : FnOk P w K mg base CX0 1 T.f_Book_count.f T.f_Book_count.fd ["self"] (sp_Book_count P w T.c_Book.C) := by
  refine T.f_Book_count.F.ok sc_Book_count (fun vs H Q E h => ?_) (fun cdv A outer s H vs Q E hr h => ?_)
  · obtain ⟨p, TT, F, c, rfl, ⟨dx, d1, d2, kv, hp, b1, b2, nd12, fr⟩, q⟩ := h
    rfl
  obtain ⟨p, TT, F, c, rfl, ⟨dx, d1, d2, kv, hp, b1, b2, nd12, fr⟩, q⟩ := h
  have nd := sc_Book_count.nd
  refine Kit.ok_body (σ := [some _]) ((pss_one (ps_ret (pe_callB (Kit.bkLen P w) (by rfl) T.z_len (by decide +kernel) (pa_cons (Kit.kFld K (pv 0) rfl) pa_nil))))) rfl ?_
  walk_at "wp"
  refine ⟨d1, yesT TT, rfl, b1, ?_⟩
  rw [show (yesT TT).length = TT.length from List.length_map _]
  exact q
theorem BookAt.ins {P : Program} {w : World} {C p : Addr} {H : Hp} {TT : List Kit.BK} {F : List (Kit.BK × Kit.TK)} {c : Bool} {x : Str} {R : Prop} (b : BookAt P w C H p TT F c) (l : ∀ d1 d2 c, (fl_Book d1 d2 c).lookup x = none) (r : R) : Kit.InsOf C x (.ref p) H R := let ⟨_, _, _, _, h, _⟩ := b; Kit.w_ins h (l _ _ _) r
theorem BookAt.butL {P : Program} {w : World} {C p r : Addr} {H H' : Hp} {TT : List Kit.BK} {F : List (Kit.BK × Kit.TK)} {c : Bool} {vs : List V} (b : BookAt P w C H p TT F c) (hr : H r = some (.lst vs)) (m : Kit.ExBut r H H') : BookAt P w C H' p TT F c := by
  obtain ⟨dx, d1, d2, kv, h1, h2, h3, h4, h5⟩ := b
  have tp : ∀ c zs, H c = some (.tup zs) → H' c = some (.tup zs) := fun c zs h => m c _ (by rintro rfl; rw [hr] at h; cases h) h
  refine ⟨dx, d1, d2, kv, m _ _ (by rintro rfl; rw [hr] at h1; cases h1) h1, h2.mono (fun o h => m _ _ ?_ h) tp, h3.mono (fun o h => m _ _ ?_ h) tp, h4, h5.mono tp⟩
  · rintro rfl
    obtain ⟨o, z1, z2⟩ := Kit.bk_is h2
    rw [hr] at z1; cases z1; cases z2
  · rintro rfl
    obtain ⟨o, z1, z2⟩ := Kit.bk_is h3
    rw [hr] at z1; cases z1; cases z2
local macro_rules | `(tactic| walk_at "wp1") => `(tactic| ((with_reducible show Kit.InsOf _ _ _ _ _); refine BookAt.ins (by assumption) (fun _ _ _ => rfl) ?_))

/-! ### digests, with or without a book -/
def leafI (m x : Int) : Int := (48271 * x + 11) % m
def foldI (m x y : Int) : Int := (y * y + 3 * x + 7 * y + 1 + (69621 * x + 16807 * y + 5) * (69621 * x + 16807 * y + 5)) % m
def stepI (m d n : Int) : Int := ((d + n) * (d + 48611) + 52774 * n + 19) % m
def stateI (m : Int) (ns : List Int) : Int := ns.foldl (stepI m) 3
def Dg (m x : Int) : Prop := 0 ≤ x ∧ x < m
inductive IsBits : Int → Prop where
  | b7 : IsBits 7 | b13 : IsBits 13 | b31 : IsBits 31 | b61 : IsBits 61
theorem IsBits.or {b : Int} (h : IsBits b) : b = 7 ∨ b = 13 ∨ b = 31 ∨ b = 61 := by cases h <;> simp
theorem IsBits.m {b : Int} (h : IsBits b) : 100 < 2 ^ b.toNat - (1 : Int) ∧ 2 ^ b.toNat - (1 : Int) < 2 ^ 62 := by cases h <;> decide
theorem mulW {i j : Int} (ha : i.natAbs < 2 ^ 100) (hb : j.natAbs < 2 ^ 100) : CMulW i j := wide_mul (a := 100) (b := 100) ha hb (by decide) (by decide) (by decide)
/-- what a digest's note on its book comes to -/
def NoteK (P : Program) (w : World) (C : Addr) (H : Hp) (bk : V) (k : Kit.BK) (d : Int) (R : Hp → Prop) : Prop := (bk = .non ∧ ∀ H', Evl.Ex H H' → R H') ∨
  ∃ pb TT F c, bk = .ref pb ∧ BookAt P w C H pb TT F c ∧ TT.length ≤ 100000 ∧ F.length ≤ 100000 ∧ ∀ H', Kit.KeepE pb H H' → BookAt P w C H' pb (addT TT k) (addF F (k.1, .num d) k.2) (addC c F (k.1, .num d) k.2) → R H'
theorem NoteK.ex {P : Program} {w : World} {C : Addr} {H H1 : Hp} {bk : V} {k : Kit.BK} {d : Int} {R : Hp → Prop} (n : NoteK P w C H bk k d R) (e : Evl.Ex H H1) : NoteK P w C H1 bk k d R := by
  rcases n with ⟨h, q⟩ | ⟨pb, TT, F, c, h, b, l1, l2, q⟩
  · exact .inl ⟨h, fun H' e' => q H' (e.trans e')⟩
  · exact .inr ⟨pb, TT, F, c, h, b.ex e, l1, l2, fun H' k' b' => q H' ((Kit.KeepE.of e).trans k') b'⟩
theorem NoteK.of {P : Program} {w : World} {C : Addr} {H : Hp} {bk : V} {k : Kit.BK} {d d' : Int} {R : Hp → Prop} (n : NoteK P w C H bk k d R) (h : d = d') : NoteK P w C H bk k d' R := h ▸ n
def DigO (C : Addr) (H : Hp) (d : Addr) (m : Int) (bk : V) : Prop := ∃ dx b, H d = some (.ins C dx (fl_Digests (.int b) bk (.int m)))
def sp_Digests_init (C : Addr) : Sp := fun vs H Q _ => ∃ (p dx : Addr) (b : Int) (bk : V), vs = [.ref p, .int b, bk] ∧ H p = some (.ins C dx []) ∧ 0 ≤ b ∧ b ≤ 61 ∧ ∀ H', Kit.ExBut p H H' → H' p = some (.ins C dx (fl_Digests (.int b) bk (.int (2 ^ b.toNat - 1)))) → Q .non H'
theorem ok_Digests___init (T : Txt K mg) : FnOk P w K mg base CX0 1 T.f_Digests___init.f T.f_Digests___init.fd ["self", "bits", "book"] (sp_Digests_init T.c_Digests.C) := by
  refine T.f_Digests___init.F.ok sc_Digests___init (fun vs H Q E h => ?_) (fun cdv A outer s H vs Q E hr h => ?_)
  · obtain ⟨p, dx, b, bk, rfl, hp, b0, b1, q⟩ := h
    rfl
  obtain ⟨p, dx, b, bk, rfl, hp, b0, b1, q⟩ := h
  have nd := sc_Digests___init.nd
  refine Kit.ok_body (σ := [some _, some _, some _]) ((pss_cons (Kit.kSet K (pv 0) (pv 1) rfl)
    (pss_cons (Kit.kSet K (pv 0) (pv 2) rfl)
    (pss_one (Kit.kSet K (pv 0) (pe_op op_sub (pe_op op_shl pe_int (pv 1)) pe_int) rfl))))) rfl ?_
  walk_at "wp"
  refine Kit.w_I (show CPow 1 b from ⟨b0, by omega, by decide⟩) ?_
  walk_at "wp"
  rename_i f
  refine q _ (by walk_at "but") ?_
  rw [Int.one_mul] at f
  exact f
theorem use_Digests {C : Addr} {b : Int} {bk : V} {H : Hp} {Q : VK} {E : XK} (hb : IsBits b) (k : ∀ p dx H', H p = none → Evl.Ex H H' → H' p = some (.ins C dx (fl_Digests (.int b) bk (.int (2 ^ b.toNat - 1)))) → Q (.ref p) H') : Kit.MakeOf C (sp_Digests_init C) E [.int b, bk] H Q := by
  have b0 := hb.or
  refine Kit.w_made fun x dx H2 hx e h => ?_
  exact ⟨x, dx, b, bk, rfl, h, by omega, by omega, fun H3 m h3 => ⟨rfl, k x dx H3 hx (Kit.ex_but m hx e) h3⟩⟩
local macro_rules | `(tactic| walk_at "wp1") => `(tactic| ((with_reducible show Kit.MakeOf _ (sp_Digests_init _) _ [_, _] _ _); refine use_Digests (by assumption) ?_; intro _ _ _ _ _ _))
def sp_noted (P : Program) (w : World) (C CB : Addr) : Sp := fun vs H Q _ => ∃ (p dx : Addr) (b m bk : V) (kd : Str) (x : V) (t : Kit.TK) (d : Int), vs = [.ref p, .str kd, x, .int d] ∧ H p = some (.ins C dx (fl_Digests b bk m)) ∧ Kit.TVal H t x ∧ NoteK P w CB H bk (kd, t) d fun H' => Q (.int d) H'
theorem ok_Digests__noted (T : Txt K mg) : FnOk P w K mg base CX0 2 T.f_Digests__noted.f T.f_Digests__noted.fd ["self", "kind", "text", "digest"] (sp_noted P w T.c_Digests.C T.c_Book.C) := by
  have G_Book_add := ok_Book_add (P := P) (w := w) (base := base) T
  refine T.f_Digests__noted.F.ok sc_Digests__noted (fun vs H Q E h => ?_) (fun cdv A outer s H vs Q E hr h => ?_)
  · obtain ⟨p, dx, b, m, bk, kd, x, t, d, rfl, hp, tv, nk⟩ := h
    rfl
  obtain ⟨p, dx, b, m, bk, kd, x, t, d, rfl, hp, tv, nk⟩ := h
  have nd := sc_Digests__noted.nd
  have hr1 : Room 1 _ := hr.mono (by decide)
  refine Kit.ok_body (σ := [some _, some _, some _, some _]) ((pss_cons (ps_if (pt_cmpR Kit.k_notN (Kit.kFld K (pv 0) rfl) pe_non (nomark _))
    (pss_one (ps_expr (pe_meth (Kit.kFld K (pv 0) rfl) T.c_Book.cl T.m_Book_add G_Book_add hr1 T.f_Book_add.b .nil pass0 (pa_cons (pv 1) (pa_cons (pv 2) (pa_cons (pv 3) pa_nil))))))
    pss_nil)
    (pss_one (ps_ret (pv 3))))) rfl ?_
  try dsimp only [L2.cxOf, L2.Cx.nox]
  rcases nk with ⟨rfl, q⟩ | ⟨pb, TT, F, c, rfl, hb, l1, l2, q⟩
  · walk_at "wp"
    exact q _ (Evl.Ex.refl _)
  · walk_at "wp"
    refine ⟨pb, kd, x, d, t, TT, F, c, rfl, hb, tv, l1, l2, fun H' k' b' => ?_⟩
    walk_at "wp"
    exact q H' k' b'
def sp_leaf (P : Program) (w : World) (C CB : Addr) : Sp := fun vs H Q _ => ∃ (p dx : Addr) (b bk : V) (m x : Int), vs = [.ref p, .int x] ∧ H p = some (.ins C dx (fl_Digests b bk (.int m))) ∧ 0 < m ∧ NoteK P w CB H bk ("leaf", .num x) (leafI m x) fun H' => Q (.int (leafI m x)) H'
theorem ok_Digests_leaf (T : Txt K mg) : FnOk P w K mg base CX0 3 T.f_Digests_leaf.f T.f_Digests_leaf.fd ["self", "word"] (sp_leaf P w T.c_Digests.C T.c_Book.C) := by
  have G_Digests__noted := ok_Digests__noted (P := P) (w := w) (base := base) T
  refine T.f_Digests_leaf.F.ok sc_Digests_leaf (fun vs H Q E h => ?_) (fun cdv A outer s H vs Q E hr h => ?_)
  · obtain ⟨p, dx, b, bk, m, x, rfl, hp, m0, nk⟩ := h
    rfl
  obtain ⟨p, dx, b, bk, m, x, rfl, hp, m0, nk⟩ := h
  have nd := sc_Digests_leaf.nd
  have hr2 : Room 2 _ := hr.mono (by decide)
  refine Kit.ok_body (σ := [some _, some _]) ((pss_one (ps_ret (pe_meth (pv 0) T.c_Digests.cl T.m_Digests__noted G_Digests__noted hr2 T.f_Digests__noted.b .nil pass0 (pa_cons pe_str (pa_cons (pv 1) (pa_cons (pe_op op_mod (pe_op op_add (pe_op op_mul pe_int (pv 1)) pe_int) (Kit.kFld K (pv 0) rfl)) pa_nil))))))) rfl ?_
  try dsimp only [L2.cxOf, L2.Cx.nox]
  walk_at "wp"
  exact ⟨p, dx, b, .int m, bk, "leaf", .int x, .num x, _, rfl, hp, rfl, nk⟩
def sp_fold (P : Program) (w : World) (C CB : Addr) : Sp := fun vs H Q _ => ∃ (p dx : Addr) (b bk : V) (m x y : Int), vs = [.ref p, .int x, .int y] ∧ H p = some (.ins C dx (fl_Digests b bk (.int m))) ∧ 0 < m ∧ m < 2 ^ 62 ∧ Dg m x ∧ Dg m y ∧ NoteK P w CB H bk ("fold", .nums [x, y]) (foldI m x y) fun H' => Q (.int (foldI m x y)) H'
theorem ok_Digests_fold (T : Txt K mg) : FnOk P w K mg base CX0 3 T.f_Digests_fold.f T.f_Digests_fold.fd ["self", "left", "right"] (sp_fold P w T.c_Digests.C T.c_Book.C) := by
  have G_Digests__noted := ok_Digests__noted (P := P) (w := w) (base := base) T
  refine T.f_Digests_fold.F.ok sc_Digests_fold (fun vs H Q E h => ?_) (fun cdv A outer s H vs Q E hr h => ?_)
  · obtain ⟨p, dx, b, bk, m, x, y, rfl, hp, m0, m1, ⟨x0, x1⟩, ⟨y0, y1⟩, nk⟩ := h
    rfl
  obtain ⟨p, dx, b, bk, m, x, y, rfl, hp, m0, m1, ⟨x0, x1⟩, ⟨y0, y1⟩, nk⟩ := h
  have nd := sc_Digests_fold.nd
  have hr2 : Room 2 _ := hr.mono (by decide)
  refine Kit.ok_body (σ := [some _, some _, some _, none, none]) ((pss_cons (ps_set (i := 3) nd rfl (Or.inl rfl) (pe_op op_add (pe_op op_add (pe_op op_mul pe_int (pv 1)) (pe_op op_mul pe_int (pv 2))) pe_int))
    (pss_cons (ps_set (i := 4) nd rfl (Or.inl rfl) (pe_op op_add (pe_op op_add (pe_op op_add (pe_op op_add (pe_op op_mul (pv 2) (pv 2)) (pe_op op_mul pe_int (pv 1))) (pe_op op_mul pe_int (pv 2))) pe_int) (pe_op op_mulW (pv 3) (pv 3))))
    (pss_one (ps_ret (pe_meth (pv 0) T.c_Digests.cl T.m_Digests__noted G_Digests__noted hr2 T.f_Digests__noted.b .nil pass0 (pa_cons pe_str (pa_cons (pe_tup (pa_cons (pv 1) (pa_cons (pv 2) pa_nil))) (pa_cons (pe_op op_mod (pv 4) (Kit.kFld K (pv 0) rfl)) pa_nil))))))))) rfl ?_
  try dsimp only [L2.cxOf, L2.Cx.nox]
  walk_at "wp"
  refine Kit.w_I (mulW (by omega) (by omega)) ?_
  walk_at "wp"
  rename_i a H1 n1 e1 f1
  exact ⟨p, dx, b, .int m, bk, "fold", .ref a, .nums [x, y], _, rfl, e1 _ _ hp, ⟨a, rfl, f1⟩, nk.ex e1⟩
theorem step_dg {m d n : Int} (h : 0 < m) : Dg m (stepI m d n) := ⟨Int.emod_nonneg _ (by omega), Int.emod_lt_of_pos _ h⟩
theorem fold_dg {m x y : Int} (h : 0 < m) : Dg m (foldI m x y) := ⟨Int.emod_nonneg _ (by omega), Int.emod_lt_of_pos _ h⟩
theorem leaf_dg {m x : Int} (h : 0 < m) : Dg m (leafI m x) := ⟨Int.emod_nonneg _ (by omega), Int.emod_lt_of_pos _ h⟩
theorem foldl_dg {m : Int} (h : 3 < m) : ∀ (ns : List Int) (d : Int), Dg m d → Dg m (ns.foldl (stepI m) d)
  | [], _, hd => hd
  | _ :: ns, _, _ => foldl_dg h ns _ (step_dg (by omega))
theorem int_of {ns : List Int} {i : Nat} {x : V} (h : (ns.map V.int)[i]? = some x) : ∃ n, ns[i]? = some n ∧ x = .int n ∧ n ∈ ns := by
  rw [List.getElem?_map] at h
  cases e : ns[i]? with
  | none => rw [e] at h; cases h
  | some n => rw [e] at h; exact ⟨n, rfl, (Option.some.inj h).symm, List.mem_of_getElem? e⟩
def sp_state (P : Program) (w : World) (C CB : Addr) : Sp := fun vs H Q _ => ∃ (p dx : Addr) (b bk : V) (m : Int) (a : Addr) (ns : List Int), vs = [.ref p, .ref a] ∧ H p = some (.ins C dx (fl_Digests b bk (.int m))) ∧ 3 < m ∧ m < 2 ^ 62 ∧ H a = some (.tup (ns.map V.int)) ∧ (∀ n ∈ ns, 0 ≤ n ∧ n < 2 ^ 62) ∧ ns.length ≤ 1000 ∧
  NoteK P w CB H bk ("state", .nums ns) (stateI m ns) fun H' => Q (.int (stateI m ns)) H'
theorem ok_Digests_state (T : Txt K mg) : FnOk P w K mg base CX0 3 T.f_Digests_state.f T.f_Digests_state.fd ["self", "numbers"] (sp_state P w T.c_Digests.C T.c_Book.C) := by
  have G_Digests__noted := ok_Digests__noted (P := P) (w := w) (base := base) T
  refine T.f_Digests_state.F.ok sc_Digests_state (fun vs H Q E h => ?_) (fun cdv A outer s H vs Q E hr h => ?_)
  · obtain ⟨p, dx, b, bk, m, a, ns, rfl, hp, m0, m1, ha, hb, hl, nk⟩ := h
    rfl
  obtain ⟨p, dx, b, bk, m, a, ns, rfl, hp, m0, m1, ha, hb, hl, nk⟩ := h
  have nd := sc_Digests_state.nd
  have hr2 : Room 2 _ := hr.mono (by decide)
  refine Kit.ok_body (σ := [some _, some _, none, none]) ((pss_cons (ps_set (i := 2) nd rfl (Or.inl rfl) pe_int)
    (pss_cons (ps_for PassesOwn.never rfl (Kit.kpTup K (pv 1)) (pg_name (i := 3) nd rfl (Or.inl rfl))
    (pss_one (ps_set (i := 2) nd rfl (Or.inl rfl) (pe_op op_mod (pe_op op_add (pe_op op_add (pe_op op_mulW (pe_op op_add (pv 2) (pv 3)) (pe_op op_add (pv 2) pe_int)) (pe_op op_mul pe_int (pv 3))) pe_int) (Kit.kFld K (pv 0) rfl)))))
    (pss_one (ps_ret (pe_meth (pv 0) T.c_Digests.cl T.m_Digests__noted G_Digests__noted hr2 T.f_Digests__noted.b .nil pass0 (pa_cons pe_str (pa_cons (pv 1) (pa_cons (pv 2) pa_nil))))))))) rfl ?_
  try dsimp only [L2.cxOf, L2.Cx.nox]
  walk_at "wp"
  refine Kit.f_tup (Evl.st_of ha) (fun i σ H' => ∃ y3, σ = [some (.ref p), some (.ref a), some (.int ((ns.take i).foldl (stepI m) 3)), y3] ∧ H = H') ⟨_, rfl, rfl⟩ ?_ ?_ ?_
  · rintro i σ' _ _ ⟨y3, rfl, rfl⟩
    exact Evl.st_of ha
  · rintro i x σ' _ hx ⟨y3, rfl, rfl⟩
    obtain ⟨n, hn, rfl, hm⟩ := int_of hx
    obtain ⟨n0, n1⟩ := hb n hm
    obtain ⟨d0, d1⟩ := foldl_dg m0 (ns.take i) 3 ⟨by omega, m0⟩
    rw [Kit.foldl_take hn]
    generalize (ns.take i).foldl (stepI m) 3 = d at *
    show Kit.Sm _ _ _ _ _ _ _
    walk_at "wp"
    refine Kit.w_I (mulW (by omega) (by omega)) ?_
    walk_at "wp"
    exact ⟨_, rfl, rfl⟩
  · rintro σ' _ ⟨y3, rfl, rfl⟩
    rw [List.take_of_length_le (by rw [List.length_map]; exact Nat.le_refl _)]
    walk_at "wp"
    exact ⟨p, dx, b, .int m, bk, "state", .ref a, .nums ns, _, rfl, hp, ⟨a, rfl, ha⟩, nk⟩

/-! ### rows of texts, and what a book knows of them -/
abbrev Rw := Kit.Rw
def cnd (a b : Rw) : Bool := decide (a.1 = b.1) && decide (a.2.2 = b.2.2) && !decide (a.2.1 = b.2.1)
def dueR (rs : List Rw) : Bool := rs.any fun a => rs.any (cnd a)
def keyR (r : Rw) : Kit.BK := (r.1, r.2.1)
def firstK (r : Rw) : Kit.BK := (r.1, .num r.2.2)
structure Knows (rs : List Rw) (TT : List Kit.BK) (F : List (Kit.BK × Kit.TK)) (c : Bool) : Prop where
  texts : TT = rs.map keyR
  sound : ∀ k t, findF F k = some t → ∃ r ∈ rs, firstK r = k ∧ r.2.1 = t
  full : ∀ r ∈ rs, ∃ t, findF F (firstK r) = some t
  coll : c = dueR rs
  size : F.length ≤ rs.length
theorem knows_nil : Knows [] [] [] false := ⟨rfl, fun _ _ h => (nomatch h), fun _ h => (nomatch h), rfl, Nat.le_refl 0⟩
theorem cnd_iff {a b : Rw} : cnd a b = true ↔ firstK a = firstK b ∧ a.2.1 ≠ b.2.1 := by
  obtain ⟨a1, a2, a3⟩ := a
  obtain ⟨b1, b2, b3⟩ := b
  simp [cnd, firstK, and_assoc]
theorem dueR_iff {rs : List Rw} : dueR rs = true ↔ ∃ a ∈ rs, ∃ b ∈ rs, cnd a b = true := by simp [dueR, List.any_eq_true]
theorem findF_snoc (F : List (Kit.BK × Kit.TK)) (k0 k : Kit.BK) (t : Kit.TK) : findF (F ++ [(k0, t)]) k = match findF F k with
    | some x => some x
    | none => if k0 = k then some t else none := by
  unfold findF
  rw [List.find?_append]
  cases h : F.find? fun f => decide (f.1 = k) with
  | some x => rfl
  | none =>
    by_cases e : k0 = k
    · simp [List.find?_cons, e]
    · simp [List.find?_cons, e]
def addR (rs : List Rw) (r : Rw) : List Rw := if r ∈ rs then rs else rs ++ [r]
theorem Knows.add {rs : List Rw} {TT : List Kit.BK} {F : List (Kit.BK × Kit.TK)} {c : Bool} (h : Knows rs TT F c) {r : Rw} (hr : r ∈ rs ∨ ∀ x ∈ rs, keyR x ≠ keyR r) :
    Knows (addR rs r) (addT TT (keyR r)) (addF F (firstK r) r.2.1) (addC c F (firstK r) r.2.1) := by
  by_cases m : r ∈ rs
  · obtain ⟨t0, ht⟩ := h.full r m
    obtain ⟨r0, m0, e0, et⟩ := h.sound _ _ ht
    have e1 : addR rs r = rs := if_pos m
    have e2 : addT TT (keyR r) = TT := if_pos (by rw [h.texts]; exact List.mem_map_of_mem m)
    have e3 : addF F (firstK r) r.2.1 = F := by unfold addF; rw [ht]
    have e4 : addC c F (firstK r) r.2.1 = c := by
      unfold addC
      rw [ht]
      show (if t0 = r.2.1 then c else true) = c
      by_cases e : t0 = r.2.1
      · rw [if_pos e]
      · rw [if_neg e, h.coll]
        exact (dueR_iff.mpr ⟨r0, m0, r, m, cnd_iff.mpr ⟨e0, by rw [et]; exact e⟩⟩).symm
    rw [e1, e2, e3, e4]
    exact h
  · have no : ∀ x ∈ rs, keyR x ≠ keyR r := hr.resolve_left m
    have e1 : addR rs r = rs ++ [r] := if_neg m
    have e2 : addT TT (keyR r) = TT ++ [keyR r] := if_neg (by
      rw [h.texts]
      intro z
      obtain ⟨x, hx, e⟩ := List.mem_map.mp z
      exact no x hx e)
    have hk : ∀ x ∈ rs, firstK x = firstK r → x.2.1 ≠ r.2.1 := fun x hx e et => no x hx (by
      have e' : x.1 = r.1 := (Prod.mk.inj e).1
      show (x.1, x.2.1) = (r.1, r.2.1)
      rw [e', et])
    rw [e1, e2]
    cases hf : findF F (firstK r) with
    | some t0 =>
      obtain ⟨r0, m0, e0, et⟩ := h.sound _ _ hf
      have ne : t0 ≠ r.2.1 := et ▸ hk r0 m0 e0
      have e3 : addF F (firstK r) r.2.1 = F := by unfold addF; rw [hf]
      have e4 : addC c F (firstK r) r.2.1 = true := by unfold addC; rw [hf]; exact if_neg ne
      rw [e3, e4]
      refine ⟨by rw [h.texts, List.map_append]; rfl, fun k t z => ?_, fun x hx => ?_, ?_, by rw [List.length_append]; exact Nat.le_succ_of_le h.size⟩
      · obtain ⟨y, hy, q⟩ := h.sound k t z
        exact ⟨y, List.mem_append_left _ hy, q⟩
      · rcases List.mem_append.mp hx with hx | hx
        · exact h.full x hx
        · rw [List.mem_singleton.mp hx]
          exact ⟨t0, hf⟩
      · exact (dueR_iff.mpr ⟨r0, List.mem_append_left _ m0, r, List.mem_append_right _ (List.mem_singleton.mpr rfl), cnd_iff.mpr ⟨e0, by rw [et]; exact ne⟩⟩).symm
    | none =>
      have no2 : ∀ x ∈ rs, firstK x ≠ firstK r := fun x hx e => by
        obtain ⟨t, ht⟩ := h.full x hx
        rw [e, hf] at ht
        cases ht
      have e3 : addF F (firstK r) r.2.1 = F ++ [(firstK r, r.2.1)] := by unfold addF; rw [hf]
      have e4 : addC c F (firstK r) r.2.1 = c := by unfold addC; rw [hf]
      rw [e3, e4]
      refine ⟨by rw [h.texts, List.map_append]; rfl, fun k t z => ?_, fun x hx => ?_, ?_, by rw [List.length_append, List.length_append]; exact Nat.succ_le_succ h.size⟩
      · rw [findF_snoc] at z
        cases hk2 : findF F k with
        | some y =>
          rw [hk2] at z
          cases z
          obtain ⟨y, hy, q⟩ := h.sound k _ hk2
          exact ⟨y, List.mem_append_left _ hy, q⟩
        | none =>
          rw [hk2] at z
          by_cases e : firstK r = k
          · refine ⟨r, List.mem_append_right _ (List.mem_singleton.mpr rfl), e, ?_⟩
            have z' : (if firstK r = k then some r.2.1 else none) = some t := z
            rw [if_pos e] at z'
            exact Option.some.inj z'
          · have z' : (if firstK r = k then some r.2.1 else none) = some t := z
            rw [if_neg e] at z'
            cases z'
      · rw [findF_snoc]
        rcases List.mem_append.mp hx with hx | hx
        · obtain ⟨t, ht⟩ := h.full x hx
          rw [ht]
          exact ⟨t, rfl⟩
        · rw [List.mem_singleton.mp hx, hf]
          exact ⟨r.2.1, if_pos rfl⟩
      · rw [h.coll, Bool.eq_iff_iff, dueR_iff, dueR_iff]
        constructor
        · rintro ⟨a, ha, b, hb, q⟩
          exact ⟨a, List.mem_append_left _ ha, b, List.mem_append_left _ hb, q⟩
        · rintro ⟨a, ha, b, hb, q⟩
          obtain ⟨q1, q2⟩ := cnd_iff.mp q
          rcases List.mem_append.mp ha with ha | ha <;> rcases List.mem_append.mp hb with hb | hb
          · exact ⟨a, ha, b, hb, q⟩
          · exact (no2 a ha (by rw [q1, List.mem_singleton.mp hb])).elim
          · exact (no2 b hb (by rw [← q1, List.mem_singleton.mp ha])).elim
          · exact (q2 (by rw [List.mem_singleton.mp ha, List.mem_singleton.mp hb])).elim
theorem w_neBB {b : Bool} {H : Hp} {Q : VK} (q : Q (.bl false) H) : rNe (.bl b) (.bl b) H Q := Kit.w_neB (by rw [beq_self_eq_true]; exact q)
theorem sq_but {K : PySem.W.Frag} {H H' : Hp} {a r : Addr} {xs : List V} (m : Kit.ExBut r H H') (n : a ≠ r) (h : SqL K H a xs) : SqL K H' a xs := by
  rcases h with (h | ⟨o, h⟩) | h
  · exact .inl (.inl (m _ _ n h))
  · exact .inl (.inr ⟨o, m _ _ n h⟩)
  · exact .inr h
theorem any_take {α : Type} {l : List α} {p : α → Bool} {i : Nat} {x : α} (h : l[i]? = some x) : (l.take (i + 1)).any p = ((l.take i).any p || p x) := by
  rw [List.take_succ, h, List.any_append]
  simp
def hitB (rs : List Rw) (kd : Str) (t : Kit.TK) (i : Nat) : Bool := match rs[i]? with
  | some r => decide (r.1 = kd) && decide (r.2.1 = t)
  | none => false

/-! ### a book that is told texts -/
inductive Tx where
  | lf (w : Int)
  | fd (x y : Int)
  | st (ns : List Int)
deriving DecidableEq
def Tx.row (m : Int) : Tx → Rw
  | .lf w => ("leaf", .num w, leafI m w)
  | .fd x y => ("fold", .nums [x, y], foldI m x y)
  | .st ns => ("state", .nums ns, stateI m ns)
theorem tx_key {m : Int} {t u : Tx} (h : keyR (t.row m) = keyR (u.row m)) : t = u := by
  have h1 : (t.row m).1 = (u.row m).1 := (Prod.mk.inj h).1
  have h2 : (t.row m).2.1 = (u.row m).2.1 := (Prod.mk.inj h).2
  have ne1 : (("leaf" : Str)) ≠ "fold" := by decide +kernel
  have ne2 : (("leaf" : Str)) ≠ "state" := by decide +kernel
  have ne3 : (("fold" : Str)) ≠ "state" := by decide +kernel
  cases t <;> cases u
  · injection h2 with h2; rw [h2]
  · exact absurd h1 ne1
  · exact absurd h1 ne2
  · exact absurd h1.symm ne1
  · injection h2 with h2
    simp only [List.cons.injEq, and_true] at h2
    rw [h2.1, h2.2]
  · exact absurd h1 ne3
  · exact absurd h1.symm ne2
  · exact absurd h1.symm ne3
  · injection h2 with h2; rw [h2]
theorem tx_mem {m : Int} {l : List Tx} {t : Tx} : t.row m ∈ l.map (Tx.row m) ↔ t ∈ l := by
  rw [List.mem_map]
  exact ⟨fun ⟨x, hx, e⟩ => tx_key (m := m) (congrArg keyR e) ▸ hx, fun h => ⟨t, h, rfl⟩⟩
def addX (l : List Tx) (t : Tx) : List Tx := if t ∈ l then l else l ++ [t]
theorem tx_add {m : Int} {l : List Tx} {t : Tx} : addR (l.map (Tx.row m)) (t.row m) = (addX l t).map (Tx.row m) := by
  unfold addR addX
  by_cases h : t ∈ l
  · rw [if_pos h, if_pos (tx_mem.mpr h)]
  · rw [if_neg h, if_neg (fun z => h (tx_mem.mp z)), List.map_append]
    rfl
/-- l' is l with the texts S: none twice, not too long -/
structure Ext (l l' S : List Tx) (n : Nat) : Prop where
  mem : ∀ t, t ∈ l' ↔ t ∈ l ∨ t ∈ S
  nd : l.Nodup → l'.Nodup
  len : l'.length ≤ l.length + n
theorem Ext.refl (l : List Tx) : Ext l l [] 0 := ⟨fun _ => ⟨.inl, fun h => h.elim id fun z => nomatch z⟩, id, Nat.le_refl _⟩
theorem Ext.trans {l l1 l2 S S2 : List Tx} {n n2 : Nat} (a : Ext l l1 S n) (b : Ext l1 l2 S2 n2) : Ext l l2 (S ++ S2) (n + n2) :=
  ⟨fun t => by rw [b.mem, a.mem, List.mem_append, or_assoc], fun h => b.nd (a.nd h), by have := a.len; have := b.len; omega⟩
theorem Ext.add (l : List Tx) (t : Tx) : Ext l (addX l t) [t] 1 := by
  unfold addX
  by_cases h : t ∈ l
  · rw [if_pos h]
    exact ⟨fun u => ⟨.inl, fun z => z.elim id fun z => List.mem_singleton.mp z ▸ h⟩, id, Nat.le_succ _⟩
  · rw [if_neg h]
    refine ⟨fun u => List.mem_append, fun nd => ?_, by rw [List.length_append]; exact Nat.le_refl _⟩
    rw [List.nodup_append]
    exact ⟨nd, List.nodup_cons.mpr ⟨by simp, List.nodup_nil⟩, fun a ha b hb => by rw [List.mem_singleton.mp hb]; rintro rfl; exact h ha⟩
theorem Ext.of {l l' S S2 : List Tx} {n n2 : Nat} (a : Ext l l' S n) (h : ∀ t, t ∈ S ↔ t ∈ S2) (hn : n ≤ n2) : Ext l l' S2 n2 := ⟨fun t => by rw [a.mem, h], a.nd, Nat.le_trans a.len (by omega)⟩
structure BkG (P : Program) (w : World) (C : Addr) (H : Hp) (pb : Addr) (m : Int) (l : List Tx) : Prop where
  ex : ∃ TT F c, BookAt P w C H pb TT F c ∧ Knows (l.map (Tx.row m)) TT F c
structure DigB (C : Addr) (H : Hp) (p pb : Addr) (m : Int) : Prop where
  at_ : ∃ dx b, H p = some (.ins C dx (fl_Digests b (.ref pb) (.int m)))
  pos : 0 < m
  lt : m < 2 ^ 62
  ne : p ≠ pb
section
variable {P : Program} {w : World} {K : PySem.W.Frag} {C CB p pb : Addr} {m : Int} {l : List Tx} {H H' : Hp}
theorem DigB.keep (d : DigB C H p pb m) (k : Kit.KeepE pb H H') : DigB C H' p pb m := let ⟨⟨dx, b, h⟩, a, c, n⟩ := d; ⟨⟨dx, b, k.1 p _ n h rfl⟩, a, c, n⟩
theorem DigB.but {r : Addr} {vs : List V} (d : DigB C H p pb m) (e : Kit.ExBut r H H') (hr : H r = some (.lst vs)) : DigB C H' p pb m := let ⟨⟨dx, b, h⟩, a, c, n⟩ := d; ⟨⟨dx, b, e p _ (by rintro rfl; rw [hr] at h; cases h) h⟩, a, c, n⟩
theorem BkG.pbI (b : BkG P w CB H pb m l) : ∃ C dx fs, H pb = some (.ins C dx fs) := let ⟨_, _, _, ⟨_, _, _, _, h, _⟩, _⟩ := b.ex; ⟨_, _, _, h⟩
theorem BkG.exE (b : BkG P w CB H pb m l) (e : Evl.Ex H H') : BkG P w CB H' pb m l := let ⟨TT, F, c, h, k⟩ := b.ex; ⟨⟨TT, F, c, h.ex e, k⟩⟩
theorem BkG.but {r : Addr} {vs : List V} (b : BkG P w CB H pb m l) (e : Kit.ExBut r H H') (hr : H r = some (.lst vs)) : BkG P w CB H' pb m l := let ⟨TT, F, c, h, k⟩ := b.ex; ⟨⟨TT, F, c, h.butL hr e, k⟩⟩
theorem keep_lst (b : BkG P w CB H pb m l) (k : Kit.KeepE pb H H') {a : Addr} {vs : List V} (h : H a = some (.lst vs)) : H' a = some (.lst vs) := let ⟨_, _, _, z⟩ := b.pbI; k.lst z a vs h
theorem keep_tup (b : BkG P w CB H pb m l) (k : Kit.KeepE pb H H') {a : Addr} {vs : List V} (h : H a = some (.tup vs)) : H' a = some (.tup vs) := let ⟨_, _, _, z⟩ := b.pbI; k.tup z a vs h
theorem keep_sqL (b : BkG P w CB H pb m l) (k : Kit.KeepE pb H H') {a : Addr} {vs : List V} (h : SqL K H a vs) : SqL K H' a vs := let ⟨_, _, _, z⟩ := b.pbI; k.sqL z h
theorem keep_sqT (b : BkG P w CB H pb m l) (k : Kit.KeepE pb H H') {a : Addr} {vs : List V} (h : SqT K H a vs) : SqT K H' a vs := by
  obtain ⟨_, _, _, z⟩ := b.pbI
  rcases h with (h | ⟨o, h⟩) | h
  · exact .inl (.inl (k.tup z a _ h))
  · exact .inl (.inr ⟨o, k.1 a _ (by rintro rfl; rw [z] at h; cases h) h rfl⟩)
  · exact .inr h
theorem keep_ins (b : BkG P w CB H pb m l) (k : Kit.KeepE pb H H') {a C dx : Addr} {fs : List (Str × V)} (h : H a = some (.ins C dx fs)) (n : a ≠ pb) : H' a = some (.ins C dx fs) := k.1 a _ n h rfl
/-- the book is told one more text -/
theorem BkG.told {H' : Hp} {TT : List Kit.BK} {F : List (Kit.BK × Kit.TK)} {c : Bool} (k : Knows (l.map (Tx.row m)) TT F c) (t : Tx) (b : BookAt P w CB H' pb (addT TT (keyR (t.row m))) (addF F (firstK (t.row m)) (t.row m).2.1) (addC c F (firstK (t.row m)) (t.row m).2.1)) : BkG P w CB H' pb m (addX l t) := by
  refine ⟨⟨_, _, _, b, ?_⟩⟩
  have h := k.add (r := t.row m) (by
    by_cases z : t ∈ l
    · exact .inl (tx_mem.mpr z)
    · refine .inr fun r hr e => ?_
      obtain ⟨s, hs, rfl⟩ := List.mem_map.mp hr
      exact z (tx_key e ▸ hs))
  rw [tx_add] at h
  exact h
theorem BkG.noteK (b : BkG P w CB H pb m l) (hl : l.length ≤ 100000) (t : Tx) {R : Hp → Prop} (q : ∀ H', Kit.KeepE pb H H' → BkG P w CB H' pb m (addX l t) → R H') : NoteK P w CB H (.ref pb) ((t.row m).1, (t.row m).2.1) (t.row m).2.2 R := by
  obtain ⟨TT, F, c, hB, hK⟩ := b.ex
  refine .inr ⟨pb, TT, F, c, rfl, hB, ?_, ?_, fun H' k b' => q H' k (BkG.told hK t b')⟩
  · rw [hK.texts, List.length_map, List.length_map]; exact hl
  · exact Nat.le_trans hK.size (by rw [List.length_map]; exact hl)
theorem use_leafG {x : Int} {Q : VK} {E : XK} (hd : DigB C H p pb m) (hb : BkG P w CB H pb m l) (hl : l.length ≤ 100000) (q : ∀ H', Kit.KeepE pb H H' → BkG P w CB H' pb m (addX l (.lf x)) → Q (.int (leafI m x)) H') : sp_leaf P w C CB [.ref p, .int x] H Q E := by
  obtain ⟨dx, b, h⟩ := hd.at_
  exact ⟨p, dx, b, .ref pb, m, x, rfl, h, hd.pos, hb.noteK hl (.lf x) q⟩
theorem use_foldG {x y : Int} {Q : VK} {E : XK} (hd : DigB C H p pb m) (hb : BkG P w CB H pb m l) (hx : Dg m x) (hy : Dg m y) (hl : l.length ≤ 100000) (q : ∀ H', Kit.KeepE pb H H' → BkG P w CB H' pb m (addX l (.fd x y)) → Q (.int (foldI m x y)) H') : sp_fold P w C CB [.ref p, .int x, .int y] H Q E := by
  obtain ⟨dx, b, h⟩ := hd.at_
  exact ⟨p, dx, b, .ref pb, m, x, y, rfl, h, hd.pos, hd.lt, hx, hy, hb.noteK hl (.fd x y) q⟩
/-- two different texts of one kind with one digest -/
theorem BkG.coll (b : BkG P w CB H pb m l) {x y : Tx} (hx : x ∈ l) (hy : y ∈ l) (n : x ≠ y) (e : firstK (x.row m) = firstK (y.row m)) {Q : VK} {E : XK} (q : Q (.bl true) H) : sp_Book_coll P w CB [.ref pb] H Q E := by
  obtain ⟨TT, F, c, hB, hK⟩ := b.ex
  refine ⟨pb, TT, F, c, rfl, hB, ?_⟩
  have hc : c = true := by
    rw [hK.coll]
    refine dueR_iff.mpr ⟨x.row m, tx_mem.mpr hx, y.row m, tx_mem.mpr hy, cnd_iff.mpr ⟨e, fun z => n (tx_key (m := m) ?_)⟩⟩
    show ((x.row m).1, (x.row m).2.1) = ((y.row m).1, (y.row m).2.1)
    rw [z, show (x.row m).1 = (y.row m).1 from (Prod.mk.inj e).1]
  rw [hc]
  exact q
end
theorem DigB.ins {C H p pb m} (d : DigB C H p pb m) {x : Str} {R : Prop} (l : ∀ b, (fl_Digests b (.ref pb) (.int m)).lookup x = none) (r : R) : Kit.InsOf C x (.ref p) H R := let ⟨⟨_, b, h⟩, _, _, _⟩ := d; Kit.w_ins h (l b) r
theorem BkG.ins {P w C H pb m l} (b : BkG P w C H pb m l) {x : Str} {R : Prop} (h : ∀ d1 d2 c, (fl_Book d1 d2 c).lookup x = none) (r : R) : Kit.InsOf C x (.ref pb) H R := let ⟨_, _, _, ⟨_, _, _, _, z, _⟩, _⟩ := b.ex; Kit.w_ins z (h _ _ _) r
local macro_rules | `(tactic| walk_at "wp1") => `(tactic| ((with_reducible show Kit.InsOf _ _ _ _ _); first | refine DigB.ins (by with_reducible assumption) (fun _ => rfl) ?_ | refine BkG.ins (by with_reducible assumption) (fun _ _ _ => rfl) ?_))
/-- items that change the book alone: the i-th is v i -/
theorem l_keepE {J : It} {n j : Nat} {x : Nat → V} {S : Hp → Prop} {pb : Addr} {H : Hp} {Q : VK} {σ : L2.St} {vs : List Nat} {te : TE} (w : Kit.Walks J n x S) (hn : n ≤ 40000) (hw : ∀ v, wipe ((wipe σ vs).set j (some v)) vs = wipe σ vs)
    (Iv : Nat → Hp → Prop) (v : Nat → V) (hS : ∀ i H', Iv i H' → S H') (hpb : ∀ i H', Iv i H' → ∃ C dx fs, H' pb = some (.ins C dx fs))
    (new : ∀ H2, Evl.Ex H H2 → Iv 0 H2) (stay : ∀ i D H1 H2 us, H D = none → H1 D = some (.lst us) → Kit.ExBut D H1 H2 → Kit.KeepE pb H H1 → Iv i H1 → Iv i H2)
    (he : ∀ i H', i < n → Kit.KeepE pb H H' → Iv i H' → ∀ R : VK, (∀ H2, Kit.KeepE pb H' H2 → Iv (i + 1) H2 → R (v i) H2) → te ((wipe σ vs).set j (some (x i))) H' R)
    (q : ∀ D H2, H D = none → Kit.KeepE pb H H2 → H2 D = some (.lst ((List.range n).map v)) → Iv n H2 → Q (.ref D) H2) : Kit.Lcj J (gName j) tYes te vs σ H Q := by
  have keepU : ∀ D H2 o, H D = none → Kit.KeepE pb H H2 → Kit.KeepE pb H (upd H2 D o) := fun D H2 o hD k => ⟨fun b z n hb hm => (by
    rw [upd_ne (ne_of_none hb hD)]
    exact k.1 b z n hb hm), fun b hb => by
    by_cases z : b = D
    · rw [z]; exact hD
    · rw [upd_ne z] at hb; exact k.2 b hb⟩
  refine Kit.l_any w hn hw (fun D i acc H' => H D = none ∧ Kit.KeepE pb H H' ∧ Iv i H' ∧ acc = (List.range i).map v) (fun D i acc H' h => hS _ _ h.2.2.1) (fun D hD => ⟨hD, .of (Evl.Ex.new hD), new _ (Evl.Ex.new hD), rfl⟩) ?_ ?_
  · rintro D i acc H' hD hi _ ha ⟨_, k, iv, rfl⟩ R _ r2
    refine r2 H' fun R2 rr => ?_
    refine he i H' hi k iv R2 fun H2 k2 iv2 => ?_
    obtain ⟨_, _, _, z⟩ := hpb _ _ iv
    have hD2 := k2.lst z D _ ha
    refine rr (v i) H2 hD2 ⟨hD, keepU D H2 _ hD (k.trans k2), stay (i + 1) D H2 _ _ hD hD2 (Kit.ExBut.upd (Kit.ExBut.refl D H2)) (k.trans k2) iv2, ?_⟩
    rw [List.range_succ, List.map_append]
    rfl
  · rintro D acc H2 hD _ ha ⟨_, k, iv, rfl⟩
    exact q D H2 hD k ha iv
theorem rgc2 {n : Int} {m : Nat} (h0 : n = 2 * m) (hn : m ≤ 40000) : RgC 0 n 2 m := by
  refine ⟨by decide, by decide, ?_, ?_⟩
  · subst h0
    unfold Builtin.Range.small Builtin.Range.rangeSize
    rw [if_pos (show (2 : Int) > 0 by decide), if_pos (show (2 : Int) > 0 by decide)]
    have hf : ∀ x : Int, 0 ≤ x → x ≤ 100000 → Builtin.Range.rangeFitsLong x = true := fun x h1 h2 => by
      unfold Builtin.Range.rangeFitsLong
      simp only [Bool.and_eq_true, decide_eq_true_eq]
      omega
    have h3 : (0 : Int) ≤ (if (0 : Int) < 2 * (m : Int) then (2 * (m : Int) - 0 - 1) / 2 + 1 else 0) ∧ (if (0 : Int) < 2 * (m : Int) then (2 * (m : Int) - 0 - 1) / 2 + 1 else 0) ≤ 100000 := by split <;> omega
    rw [hf 0 (by omega) (by omega), hf (2 * (m : Int)) (by omega) (by omega), hf 2 (by omega) (by omega), hf _ h3.1 h3.2, hf (2 * (m : Int) + (2 - 1)) (by omega) (by omega)]
    simp
  · subst h0
    unfold Builtin.Range.rangeSize
    split <;> omega

/-- a book grown -/
def Gr (l l' : List Tx) (n : Nat) : Prop := (∀ t ∈ l, t ∈ l') ∧ l'.length ≤ l.length + n
theorem Gr.refl (l : List Tx) : Gr l l 0 := ⟨fun _ h => h, Nat.le_refl _⟩
theorem Gr.trans {l l1 l2 : List Tx} {n n2 : Nat} (a : Gr l l1 n) (b : Gr l1 l2 n2) : Gr l l2 (n + n2) := ⟨fun t h => b.1 t (a.1 t h), by have := a.2; have := b.2; omega⟩
theorem Gr.le {l l1 : List Tx} {n n2 : Nat} (a : Gr l l1 n) (h : n ≤ n2) : Gr l l1 n2 := ⟨a.1, by have := a.2; omega⟩
theorem Ext.gr {l l' S : List Tx} {n : Nat} (x : Ext l l' S n) : Gr l l' n := ⟨fun t h => (x.mem t).mpr (.inl h), x.len⟩
def sp_out_behind (P : Program) (w : World) (C CB : Addr) : Sp := fun vs H Q _ => ∃ (p pb : Addr) (m o x : Int) (l : List Tx), vs = [.ref p, .int o, .int x] ∧ DigB C H p pb m ∧ BkG P w CB H pb m l ∧ Dg m o ∧ l.length ≤ 90000 ∧ ∀ H' l', Kit.KeepE pb H H' → BkG P w CB H' pb m l' → Gr l l' 2 → Q (.int (foldI m o (leafI m x))) H'
theorem ok_out_behind (T : Txt K mg) : FnOk P w K mg base CX0 4 T.f_out_behind.f T.f_out_behind.fd ["digests", "out", "word"] (sp_out_behind P w T.c_Digests.C T.c_Book.C) := by
  have G_Digests_fold := ok_Digests_fold (P := P) (w := w) (base := base) T
  have G_Digests_leaf := ok_Digests_leaf (P := P) (w := w) (base := base) T
  refine T.f_out_behind.F.ok sc_out_behind (fun vs H Q E h => ?_) (fun cdv A outer s H vs Q E hr h => ?_)
  · obtain ⟨p, pb, m, o, x, l, rfl, hd, hb, ho, hl, q⟩ := h
    rfl
  obtain ⟨p, pb, m, o, x, l, rfl, hd, hb, ho, hl, q⟩ := h
  have nd := sc_out_behind.nd
  have hr3 : Room 3 _ := hr.mono (by decide)
  refine Kit.ok_body (σ := [some _, some _, some _]) ((pss_one (ps_ret (pe_meth (pv 0) T.c_Digests.cl T.m_Digests_fold G_Digests_fold hr3 T.f_Digests_fold.b .nil pass0 (pa_cons (pv 1) (pa_cons (pe_meth (pv 0) T.c_Digests.cl T.m_Digests_leaf G_Digests_leaf hr3 T.f_Digests_leaf.b .nil pass0 (pa_cons (pv 2) pa_nil)) pa_nil)))))) rfl ?_
  try dsimp only [L2.cxOf, L2.Cx.nox]
  walk_at "wp"
  refine use_leafG hd hb (by omega) fun H1 k1 b1 => ?_
  have x1 := Ext.add l (.lf x)
  have := x1.len
  walk_at "wp"
  exact use_foldG (hd.keep k1) b1 ho (leaf_dg hd.pos) (by omega) fun H2 k2 b2 => q H2 _ (k1.trans k2) b2 (x1.gr.trans (Ext.add _ _).gr)
def rTupI (K : PySem.W.Frag) : V → List V → Hp → VK → Prop := fun x xs H Q => ∃ p, ∃ ys : List Str, ∃ z j, x = .ref p ∧ xs = [.str z] ∧ SqT K H p (ys.map V.str) ∧ ys[j]? = some z ∧ (∀ m, m < j → ys[m]? ≠ some z) ∧ Q (.int (j : Nat)) H
theorem kTupIndex (K : PySem.W.Frag) {X : Cx} (h : X.K = K := by rfl) : MtR X "tuple.index" (rTupI K) := h ▸ mt_tup_index
def marks : List Str := ["long", "done", "divided", "place", "input", "full", "bad"]
theorem marks_first : ∀ j : Fin 7, ∀ m : Fin 7, m.1 < j.1 → marks[m.1]? ≠ marks[j.1]? := by decide +kernel
theorem w_tupI {K : PySem.W.Frag} {p : Addr} {H : Hp} {Q : VK} (j : Nat) (hj : j < 7) {z : Str} (hz : marks[j]? = some z) (h : SqT K H p (marks.map V.str)) (q : Q (.int (j : Int)) H) : rTupI K (.ref p) [.str z] H Q :=
  ⟨p, marks, z, j, rfl, rfl, h, hz, fun m hm => by rw [← hz]; exact marks_first ⟨j, hj⟩ ⟨m, by omega⟩ hm, q⟩
theorem w_notNS {s : Str} {H : Hp} {Q : VK} (q : Q (.bl true) H) : Kit.rNotNo (.str s) .non H Q := ⟨rfl, q⟩
theorem w_tyT {K : PySem.W.Frag} {p : Addr} {H : Hp} {W : Prop} (h : ∃ o, K.lookup p = some o ∧ o.cls = .type "tuple" ∧ o.dict = none) (r : W) : tyV K "tuple" (.ref p) H ∧ W := ⟨Or.inr (Or.inl ⟨rfl, h⟩), r⟩
/-- the mark of a halt, 0 for none -/
def haltN (s : Str) (word acc x count d : Int) : Nat :=
  if s = "bad" then 6 else if s = "halt" then 1 else if s = "bound" ∧ word % 1024 ≤ x then 3 else if s = "within" ∧ d ≤ x then 4
  else if s ∈ sgs ∧ opV (sgOf s) acc d = .non then 2 else if s = "tell" ∧ count = 16 then 5 else 0
theorem halt_two (s : Str) (word acc x count d : Int) : (haltN s word acc x count d = 0 ∧ haltM s word acc x count d = .non) ∨ ∃ z, haltN s word acc x count d < 7 ∧ haltN s word acc x count d ≠ 0 ∧ marks[haltN s word acc x count d]? = some z ∧ haltM s word acc x count d = .str z := by
  unfold haltN haltM
  split
  · exact .inr ⟨_, by decide, by decide, rfl, rfl⟩
  · split
    · exact .inr ⟨_, by decide, by decide, rfl, rfl⟩
    · split
      · exact .inr ⟨_, by decide, by decide, rfl, rfl⟩
      · split
        · exact .inr ⟨_, by decide, by decide, rfl, rfl⟩
        · split
          · exact .inr ⟨_, by decide, by decide, rfl, rfl⟩
          · split
            · exact .inr ⟨_, by decide, by decide, rfl, rfl⟩
            · exact .inl ⟨rfl, rfl⟩
def doneM (m : Int) (s : Str) (pc acc x mark out count word d : Int) (data : V) : List V × V :=
  if haltN s word acc x count d = 0 then
    ([.int (pcM s pc acc word d), accM s acc word d data, xM s acc x data, .int mark, .int (if s = "tell" then foldI m out (leafI m acc) else out), .int (if s = "tell" then count + 1 else count)], chM s pc acc)
  else ([.int pc, .int acc, .int x, .int (haltN s word acc x count d : Nat), .int out, .int count], .non)
def sp_done_by (P : Program) (w : World) (K : PySem.W.Frag) (C CB : Addr) : Sp := fun vs H Q _ => ∃ (g pb r : Addr) (l : List Tx) (m pc acc x mark out count word d : Int) (data : V), vs = [.ref g, .ref r, .int word, data] ∧ DigB C H g pb m ∧ BkG P w CB H pb m l ∧ l.length ≤ 90000 ∧ SqT K H r [.int pc, .int acc, .int x, .int mark, .int out, .int count] ∧ 0 ≤ word ∧ word < 65536 ∧ 0 ≤ acc ∧ acc < 65536 ∧ Dg m out ∧
  (nm (word / 1024) = "back" ∨ nm (word / 1024) = "within" ∨ nm (word / 1024) ∈ sgs → data = .int d ∧ 0 ≤ d ∧ d < 65536) ∧
  ∀ t1 t2 H' l', Kit.KeepE pb H H' → BkG P w CB H' pb m l' → Gr l l' 2 → H' t1 = some (.tup (doneM m (nm (word / 1024)) pc acc x mark out count word d data).1) → H' t2 = some (.tup [.ref t1, (doneM m (nm (word / 1024)) pc acc x mark out count word d data).2]) → Q (.ref t2) H'
theorem ok_done_by (T : Txt K mg) : FnOk P w K mg base CX0 5 T.f_done_by.f T.f_done_by.fd ["digests", "registers", "word", "data"] (sp_done_by P w K T.c_Digests.C T.c_Book.C) := by
  have G_acc_by := ok_acc_by (P := P) (w := w) (base := base) T
  have G_changed_by := ok_changed_by (P := P) (w := w) (base := base) T
  have G_halt_by := ok_halt_by (P := P) (w := w) (base := base) T
  have G_name_of := ok_name_of (P := P) (w := w) (base := base) T
  have G_out_behind := ok_out_behind (P := P) (w := w) (base := base) T
  have G_pc_by := ok_pc_by (P := P) (w := w) (base := base) T
  have G_x_by := ok_x_by (P := P) (w := w) (base := base) T
  refine T.f_done_by.F.ok sc_done_by (fun vs H Q E h => ?_) (fun cdv A outer s H vs Q E hr h => ?_)
  · obtain ⟨g, pb, r, l, m, pc, acc, x, mark, out, count, word, d, data, rfl, hg, hbk, hl, hr6, w0, w1, a0, a1, ho, hd, q⟩ := h
    rfl
  obtain ⟨g, pb, r, l, m, pc, acc, x, mark, out, count, word, d, data, rfl, hg, hbk, hl, hr6, w0, w1, a0, a1, ho, hd, q⟩ := h
  have nd := sc_done_by.nd
  have hr1 : Room 1 _ := hr.mono (by decide)
  have hr2 : Room 2 _ := hr.mono (by decide)
  have hr3 : Room 3 _ := hr.mono (by decide)
  have hr4 : Room 4 _ := hr.mono (by decide)
  refine Kit.ok_body (σ := [some _, some _, some _, some _, none, none, none, none, none, none, none, none, none, none, none]) ((pss_cons (ps_asg (pv 1) (Kit.kgTup K rfl (pgs_cons (pg_name (i := 4) nd rfl (Or.inl rfl)) (pgs_cons (pg_name (i := 5) nd rfl (Or.inl rfl)) (pgs_cons (pg_name (i := 6) nd rfl (Or.inl rfl)) (pgs_cons (pg_name (i := 7) nd rfl (Or.inl rfl)) (pgs_cons (pg_name (i := 8) nd rfl (Or.inl rfl)) (pgs_cons (pg_name (i := 9) nd rfl (Or.inl rfl)) pgs_nil))))))))
    (pss_cons (ps_set (i := 10) nd rfl (Or.inl rfl) (pe_call G_name_of hr1 (by rfl) T.f_name_of.g T.f_name_of.F.kp T.f_name_of.b .nil pass0 (pa_cons (pv 2) pa_nil)))
    (pss_cons (ps_set (i := 11) nd rfl (Or.inl rfl) (pe_call G_halt_by hr3 (by rfl) T.f_halt_by.g T.f_halt_by.F.kp T.f_halt_by.b .nil pass0 (pa_cons (pv 10) (pa_cons (pv 1) (pa_cons (pv 2) (pa_cons (pv 3) pa_nil))))))
    (pss_cons (ps_if (pt_cmpR Kit.k_notN (pv 11) pe_non (nomark _))
    (pss_one (ps_ret (pe_tup (pa_cons (pe_tup (pa_cons (pv 4) (pa_cons (pv 5) (pa_cons (pv 6) (pa_cons (pe_bm PySem.F.plainAttrs_tuple PySem.F.slot_tuple_index PySem.F.type_tuple_index (kTupIndex K) (pe_glob (v := .ref T.a_MARKS) rfl T.g_MARKS rfl) (pa_cons (pv 11) pa_nil)) (pa_cons (pv 8) (pa_cons (pv 9) pa_nil))))))) (pa_cons pe_non pa_nil)))))
    pss_nil)
    (pss_cons (ps_if (pt_cmpR op_eq (pv 10) pe_str (nomark _))
    (pss_cons (ps_set (i := 8) nd rfl (Or.inl rfl) (pe_call G_out_behind hr4 (by rfl) T.f_out_behind.g T.f_out_behind.F.kp T.f_out_behind.b .nil pass0 (pa_cons (pv 0) (pa_cons (pv 8) (pa_cons (pv 5) pa_nil)))))
    (pss_one (ps_set (i := 9) nd rfl (Or.inl rfl) (pe_op op_add (pv 9) pe_int))))
    pss_nil)
    (pss_cons (ps_set (i := 12) nd rfl (Or.inl rfl) (pe_call G_pc_by hr2 (by rfl) T.f_pc_by.g T.f_pc_by.F.kp T.f_pc_by.b .nil pass0 (pa_cons (pv 10) (pa_cons (pv 1) (pa_cons (pv 2) (pa_cons (pv 3) pa_nil))))))
    (pss_cons (ps_set (i := 13) nd rfl (Or.inl rfl) (pe_call G_acc_by hr3 (by rfl) T.f_acc_by.g T.f_acc_by.F.kp T.f_acc_by.b .nil pass0 (pa_cons (pv 10) (pa_cons (pv 1) (pa_cons (pv 2) (pa_cons (pv 3) pa_nil))))))
    (pss_cons (ps_set (i := 14) nd rfl (Or.inl rfl) (pe_call G_x_by hr1 (by rfl) T.f_x_by.g T.f_x_by.F.kp T.f_x_by.b .nil pass0 (pa_cons (pv 10) (pa_cons (pv 1) (pa_cons (pv 3) pa_nil)))))
    (pss_one (ps_ret (pe_tup (pa_cons (pe_tup (pa_cons (pv 12) (pa_cons (pv 13) (pa_cons (pv 14) (pa_cons (pv 7) (pa_cons (pv 8) (pa_cons (pv 9) pa_nil))))))) (pa_cons (pe_call G_changed_by hr2 (by rfl) T.f_changed_by.g T.f_changed_by.F.kp T.f_changed_by.b .nil pass0 (pa_cons (pv 10) (pa_cons (pv 1) pa_nil))) pa_nil)))))))))))))) rfl ?_
  try dsimp only [L2.cxOf, L2.Cx.nox]
  walk_at "wp"
  refine ⟨word, rfl, w0, w1, ?_⟩
  generalize nm (word / 1024) = s at *
  walk_at "wp"
  refine ⟨s, r, pc, acc, x, mark, out, count, word, d, data, rfl, hr6, a0, a1, fun h => hd (.inr h), fun H1 e1 => ?_⟩
  rcases halt_two s word acc x count d with ⟨hn, hm⟩ | ⟨z, h7, hn, hz, hm⟩
  · rw [hm]
    have eD : doneM m s pc acc x mark out count word d data = ([.int (pcM s pc acc word d), accM s acc word d data, xM s acc x data, .int mark, .int (if s = "tell" then foldI m out (leafI m acc) else out), .int (if s = "tell" then count + 1 else count)], chM s pc acc) := if_pos hn
    rw [eD] at q
    walk_at "wp"
    · rename_i ht
      refine ⟨g, pb, m, out, acc, l, rfl, hg.keep (.of e1), hbk.exE e1, ho, hl, fun H2 l2 k2 b2 x2 => ?_⟩
      have K2 := (Kit.KeepE.of (p := pb) e1).trans k2
      have hr6 := keep_sqT hbk K2 hr6
      have E2 := Evl.Ex.refl H2
      walk_at "wp"
      refine ⟨s, r, pc, acc, x, mark, out, count, word, d, data, rfl, hr6, fun h => (hd (.inl h)).1, fun H3 e3 => ?_⟩
      have E3 := E2.trans e3
      walk_at "wp"
      refine ⟨s, r, pc, acc, x, mark, out, count, word, d, data, rfl, Evl.ex_t E3 hr6, a0, a1, fun h => hd (.inr (.inr h)), fun H4 e4 => ?_⟩
      have E4 := E3.trans e4
      walk_at "wp"
      refine ⟨s, r, pc, acc, x, mark, out, count, data, rfl, Evl.ex_t E4 hr6, fun H5 e5 => ?_⟩
      have E5 := E4.trans e5
      walk_at "wp"
      rename_i t1 H6 n6 e6 f6
      have E6 := E5.trans e6
      refine ⟨s, r, pc, acc, x, mark, out, count, rfl, Evl.ex_t E6 hr6, fun H7 e7 => ?_⟩
      have E7 := E6.trans e7
      walk_at "wp"
      rename_i t2 H8 n8 e8 f8
      refine q t1 t2 H8 l2 (K2.trans (.of (E7.trans e8))) (b2.exE (E7.trans e8)) x2 ?_ f8
      rw [if_pos ht, if_pos ht]
      exact e8 _ _ (e7 _ _ f6)
    · rename_i ht
      refine ⟨s, r, pc, acc, x, mark, out, count, word, d, data, rfl, Evl.ex_t e1 hr6, fun h => (hd (.inl h)).1, fun H3 e3 => ?_⟩
      have E3 := e1.trans e3
      walk_at "wp"
      refine ⟨s, r, pc, acc, x, mark, out, count, word, d, data, rfl, Evl.ex_t E3 hr6, a0, a1, fun h => hd (.inr (.inr h)), fun H4 e4 => ?_⟩
      have E4 := E3.trans e4
      walk_at "wp"
      refine ⟨s, r, pc, acc, x, mark, out, count, data, rfl, Evl.ex_t E4 hr6, fun H5 e5 => ?_⟩
      have E5 := E4.trans e5
      walk_at "wp"
      rename_i t1 H6 n6 e6 f6
      have E6 := E5.trans e6
      refine ⟨s, r, pc, acc, x, mark, out, count, rfl, Evl.ex_t E6 hr6, fun H7 e7 => ?_⟩
      have E7 := E6.trans e7
      walk_at "wp"
      rename_i t2 H8 n8 e8 f8
      refine q t1 t2 H8 l (.of (E7.trans e8)) (hbk.exE (E7.trans e8)) ((Gr.refl l).le (by decide)) ?_ f8
      rw [if_neg ht, if_neg ht]
      exact e8 _ _ (e7 _ _ f6)
  · rw [hm]
    have eD : doneM m s pc acc x mark out count word d data = ([.int pc, .int acc, .int x, .int (haltN s word acc x count d : Nat), .int out, .int count], .non) := if_neg hn
    rw [eD] at q
    walk_at "wp"
    refine w_notNS ?_
    walk_at "wp"
    refine w_tyT T.y_MARKS ?_
    walk_at "wp"
    refine w_tupI _ h7 hz (T.w_MARKS.sq _) ?_
    walk_at "wp"
    rename_i t1 H2 n2 e2 f2 t2 H3 n3 e3 f3
    exact q t1 t2 H3 l (.of ((e1.trans e2).trans e3)) (hbk.exE ((e1.trans e2).trans e3)) ((Gr.refl l).le (by decide)) (e3 _ _ f2) f3

/-! ### rows and their levels -/
def iv (ns : List Int) : List V := ns.map V.int
theorem iv_at {r : List Int} {k : Nat} (h : k < r.length) : atI (iv r) (k : Int) = some (.int ((r[k]?).getD 0)) := by
  refine atI_nat (j := k) ?_
  unfold iv
  rw [List.getElem?_map, List.getElem?_eq_getElem h]
  rfl
theorem iv_at' {r : List Int} {z : Int} (k : Nat) (e : z = (k : Int)) (h : k < r.length) : atI (iv r) z = some (.int ((r[k]?).getD 0)) := by
  rw [e]
  exact iv_at h
theorem iv_len (r : List Int) : (iv r).length = r.length := List.length_map _
def AllDg (m : Int) (r : List Int) : Prop := ∀ x ∈ r, Dg m x
theorem AllDg.at {m : Int} {r : List Int} (h : AllDg m r) {k : Nat} (hk : k < r.length) : Dg m ((r[k]?).getD 0) := by
  rw [List.getElem?_eq_getElem hk]
  exact h _ (List.getElem_mem hk)
theorem pairs_at {f : Int → Int → Int} : ∀ (r : List Int) {m : Nat}, r.length = 2 * m → KM.pairs f r = (List.range m).map fun k => f ((r[2 * k]?).getD 0) ((r[2 * k + 1]?).getD 0) := by
  intro r m hr
  apply List.ext_getElem?
  intro i
  by_cases hi : i < m
  · rw [List.getElem?_map, List.getElem?_range hi]
    have h1 : 2 * i < r.length := by omega
    have h2 : 2 * i + 1 < r.length := by omega
    rw [KM.pairs_get r (List.getElem?_eq_getElem h1) (List.getElem?_eq_getElem h2)]
    show _ = some (f ((r[2 * i]?).getD 0) ((r[2 * i + 1]?).getD 0))
    rw [List.getElem?_eq_getElem h1, List.getElem?_eq_getElem h2]
    rfl
  · rw [List.getElem?_eq_none (by rw [KM.pairs_len r hr]; omega), List.getElem?_eq_none (by rw [List.length_map, List.length_range]; omega)]
theorem pairs_dg {m : Int} (hm : 0 < m) : ∀ r : List Int, AllDg m (KM.pairs (foldI m) r)
  | [] => fun x h => by cases h
  | [_] => fun x h => by cases h
  | a :: b :: r => fun x h => by
    rcases List.mem_cons.mp h with rfl | h
    · exact fold_dg hm
    · exact pairs_dg hm r x h
/-- lists at new addresses, one a row -/
def RowsAt (H0 H : Hp) : List Addr → List (List Int) → Prop
  | [], [] => True
  | p :: ps, r :: rs => H0 p = none ∧ H p = some (.lst (iv r)) ∧ p ∉ ps ∧ RowsAt H0 H ps rs
  | _, _ => False
theorem RowsAt.ex {H0 H H' : Hp} (e : Evl.Ex H H') : ∀ {ps : List Addr} {rs : List (List Int)}, RowsAt H0 H ps rs → RowsAt H0 H' ps rs
  | [], [], _ => trivial
  | _ :: _, _ :: _, ⟨a, b, c, d⟩ => ⟨a, e _ _ b, c, RowsAt.ex e d⟩
theorem RowsAt.but {q : Addr} {H0 H H' : Hp} (e : Kit.ExBut q H H') : ∀ {ps : List Addr} {rs : List (List Int)}, q ∉ ps → RowsAt H0 H ps rs → RowsAt H0 H' ps rs
  | [], [], _, _ => trivial
  | p :: ps, _ :: _, n, ⟨a, b, c, d⟩ => ⟨a, e _ _ (fun z => n (z ▸ List.mem_cons_self)) b, c, RowsAt.but e (fun z => n (List.mem_cons_of_mem _ z)) d⟩
theorem RowsAt.len {H0 H : Hp} : ∀ {ps : List Addr} {rs : List (List Int)}, RowsAt H0 H ps rs → ps.length = rs.length
  | [], [], _ => rfl
  | _ :: _, _ :: _, ⟨_, _, _, d⟩ => by rw [List.length_cons, List.length_cons, RowsAt.len d]
theorem RowsAt.get {H0 H : Hp} : ∀ {ps : List Addr} {rs : List (List Int)}, RowsAt H0 H ps rs → ∀ {i : Nat} {r : List Int}, rs[i]? = some r → ∃ p, ps[i]? = some p ∧ H0 p = none ∧ H p = some (.lst (iv r))
  | [], [], _, i, _, h => by simp at h
  | p :: ps, s :: rs, ⟨a, b, c, d⟩, 0, r, h => by
    have e : s = r := by simpa using h
    subst e
    exact ⟨p, rfl, a, b⟩
  | p :: ps, s :: rs, ⟨a, b, c, d⟩, i + 1, r, h => by
    obtain ⟨q, h1, h2⟩ := RowsAt.get d (i := i) (r := r) (by simpa using h)
    exact ⟨q, by simpa using h1, h2⟩
theorem RowsAt.mem {H0 H : Hp} : ∀ {ps : List Addr} {rs : List (List Int)}, RowsAt H0 H ps rs → ∀ {p : Addr}, p ∈ ps → ∃ xs, H p = some (.lst xs)
  | [], [], _, _, h => by cases h
  | q :: ps, s :: rs, ⟨a, b, c, d⟩, p, h => by
    rcases List.mem_cons.mp h with rfl | h
    · exact ⟨_, b⟩
    · exact RowsAt.mem d h
theorem RowsAt.snoc {H0 H : Hp} {q : Addr} {r : List Int} (hq : H0 q = none) (h : H q = some (.lst (iv r))) : ∀ {ps : List Addr} {rs : List (List Int)}, q ∉ ps → RowsAt H0 H ps rs → RowsAt H0 H (ps ++ [q]) (rs ++ [r])
  | [], [], _, _ => ⟨hq, h, by simp, trivial⟩
  | p :: ps, _ :: _, n, ⟨a, b, c, d⟩ => ⟨a, b, by
      intro z
      rcases List.mem_append.mp z with z | z
      · exact c z
      · exact n (List.mem_singleton.mp z ▸ List.mem_cons_self), RowsAt.snoc hq h (fun z => n (List.mem_cons_of_mem _ z)) d⟩
/-- a list of lists: the levels of a row -/
structure LevAt (H0 H : Hp) (l : Addr) (rs : List (List Int)) : Prop where
  ex : ∃ ps : List Addr, H l = some (.lst (ps.map V.ref)) ∧ RowsAt H0 H ps rs ∧ l ∉ ps ∧ H0 l = none
theorem LevAt.mono {H0 H H' : Hp} {l : Addr} {rs : List (List Int)} (e : Evl.Ex H H') (h : LevAt H0 H l rs) : LevAt H0 H' l rs := let ⟨ps, a, b, c, d⟩ := h.ex; ⟨ps, e _ _ a, b.ex e, c, d⟩
/-- the levels so far, by how far one has come -/
def LevSo (f : Int → Int → Int) (k : Nat) (row : List Int) (j : Nat) (rs : List (List Int)) : Prop := ∃ (pre : List (List Int)) (r : List Int), rs = pre ++ [r] ∧ r.length = 2 ^ j ∧ pre ++ KM.levs f j r = KM.levs f k row
theorem LevSo.next {f : Int → Int → Int} {k j : Nat} {row : List Int} {rs : List (List Int)} (h : LevSo f k row (j + 1) rs) : ∃ r, rs.getLast? = some r ∧ r.length = 2 * 2 ^ j ∧ LevSo f k row j (rs ++ [KM.pairs f r]) := by
  obtain ⟨pre, r, rfl, hr, e⟩ := h
  rw [KM.two_pow] at hr
  refine ⟨r, by simp, hr, pre ++ [r], KM.pairs f r, rfl, KM.pairs_len r hr, ?_⟩
  rw [List.append_assoc]
  exact e

/-! ### roots and paths -/
theorem LevAt.get {H0 H : Hp} {l : Addr} {rs : List (List Int)} (h : LevAt H0 H l rs) : ∃ ps : List Addr, H l = some (.lst (ps.map V.ref)) ∧ ps.length = rs.length ∧ ∀ (i : Nat) r, rs[i]? = some r → ∃ p, ps[i]? = some p ∧ H p = some (.lst (iv r)) := by
  obtain ⟨ps, a, b, _, _⟩ := h.ex
  exact ⟨ps, a, b.len, fun i r hi => let ⟨p, x, _, y⟩ := b.get hi; ⟨p, x, y⟩⟩
theorem levs_last {f : Int → Int → Int} : ∀ (k : Nat) (r : List Int), r.length = 2 ^ k → (KM.levs f k r)[k]? = some [KM.rootM f k r]
  | 0, [x], _ => rfl
  | k + 1, r, h => by
    rw [KM.two_pow] at h
    exact levs_last k _ (KM.pairs_len r h)
theorem ref_at {ps : List Addr} {k : Nat} {p : Addr} (h : ps[k]? = some p) : atI (ps.map V.ref) (k : Int) = some (.ref p) := by
  refine atI_nat (j := k) ?_
  rw [List.getElem?_map, h]
  rfl
theorem ref_last {ps : List Addr} {k : Nat} {p : Addr} (hl : ps.length = k + 1) (h : ps[k]? = some p) : atI (ps.map V.ref) (-1) = some (.ref p) := by
  have hne : ps ≠ [] := fun z => by rw [z] at hl; simp at hl
  have hq : ps.getLast hne = p := by
    rw [List.getLast_eq_getElem hne]
    obtain ⟨h3, h4⟩ := List.getElem?_eq_some_iff.mp h
    have h5 : ps.length - 1 = k := by omega
    simp only [h5]
    exact h4
  rw [← List.dropLast_concat_getLast hne, hq, List.map_append]
  exact atI_last _ _

/-! ### levels with a book -/
def prsX : List Int → List Tx
  | a :: b :: r => .fd a b :: prsX r
  | _ => []
def treeX (f : Int → Int → Int) : Nat → List Int → List Tx
  | 0, _ => []
  | k + 1, r => prsX r ++ treeX f k (KM.pairs f r)
theorem prsX_at : ∀ {r : List Int} {n i : Nat}, r.length = 2 * n → i < n → (prsX r)[i]? = some (.fd ((r[2 * i]?).getD 0) ((r[2 * i + 1]?).getD 0))
  | [], n, i, h, hi => by simp at h; omega
  | [_], n, i, h, hi => by simp at h; omega
  | a :: b :: r, n, 0, h, hi => rfl
  | a :: b :: r, n, i + 1, h, hi => by
    show (prsX r)[i]? = _
    rw [prsX_at (r := r) (n := n - 1) (i := i) (by simp at h; omega) (by omega)]
    rfl
theorem prsX_len : ∀ {r : List Int} {n : Nat}, r.length = 2 * n → (prsX r).length = n
  | [], n, h => by
    show 0 = n
    simp at h
    omega
  | [_], n, h => by simp at h; omega
  | a :: b :: r, n, h => by
    show (prsX r).length + 1 = n
    rw [prsX_len (r := r) (n := n - 1) (by simp at h; omega)]
    simp at h
    omega
theorem RowsAt.keep {P : Program} {w : World} {CB pb : Addr} {m : Int} {l : List Tx} {H0 H H' : Hp} (b : BkG P w CB H pb m l) (k : Kit.KeepE pb H H') : ∀ {ps : List Addr} {rs : List (List Int)}, RowsAt H0 H ps rs → RowsAt H0 H' ps rs
  | [], [], _ => trivial
  | _ :: _, _ :: _, ⟨a, h, c, d⟩ => ⟨a, keep_lst b k h, c, RowsAt.keep b k d⟩
theorem keep_upd {pb D : Addr} {H H2 H3 : Hp} {o : HO} (hD : H D = none) (k : Kit.KeepE pb H H2) (m : Kit.ExBut D H2 H3) (h3 : H3 D = some o) : Kit.KeepE pb H H3 := ⟨fun b o n hb hm => m b o (ne_of_none hb hD) (k.1 b o n hb hm), fun b hb => k.2 b (Kit.back_but m h3 b hb)⟩
def sp_levels_of (P : Program) (w : World) (K : PySem.W.Frag) (C CB : Addr) : Sp := fun vs H Q _ => ∃ (p pb a : Addr) (m : Int) (r : List Int) (k : Nat) (l : List Tx), vs = [.ref p, .ref a] ∧ DigB C H p pb m ∧ BkG P w CB H pb m l ∧ (SqL K H a (iv r) ∨ SqT K H a (iv r)) ∧ AllDg m r ∧ r.length = 2 ^ k ∧ k ≤ 8 ∧ l.length + 2 ^ k ≤ 90000 ∧
  ∀ L H' l', Kit.KeepE pb H H' → LevAt H H' L (KM.levs (foldI m) k r) → BkG P w CB H' pb m l' → Ext l l' (treeX (foldI m) k r) (2 ^ k) → Q (.ref L) H'
theorem ok_levels_of (T : Txt K mg) : FnOk P w K mg base CX0 4 T.f_levels_of.f T.f_levels_of.fd ["digests", "row"] (sp_levels_of P w K T.c_Digests.C T.c_Book.C) := by
  have G_Digests_fold := ok_Digests_fold (P := P) (w := w) (base := base) T
  refine T.f_levels_of.F.ok sc_levels_of (fun vs H Q E h => ?_) (fun cdv A outer s H vs Q E hr h => ?_)
  · obtain ⟨p, pb, a, m, r, k, l0, rfl, hd, hb, ha, hx, hk, hk8, hl0, q⟩ := h
    rfl
  obtain ⟨p, pb, a, m, r, k, l0, rfl, hd, hb, ha, hx, hk, hk8, hl0, q⟩ := h
  have nd := sc_levels_of.nd
  have hr3 : Room 3 _ := hr.mono (by decide)
  refine Kit.ok_body (σ := [some _, some _, none, none, none]) ((pss_cons (ps_set (i := 2) nd rfl (Or.inl rfl) (pe_lst (pa_cons (pe_callTy (Kit.kList K) (by rfl) T.z_list (by decide +kernel) (pa_cons (pv 1) pa_nil)) pa_nil)))
    (pss_cons (ps_while PassesOwn.never (pt_cmpR op_gt (pe_callB (Kit.kLen K) (by rfl) T.z_len (by decide +kernel) (pa_cons (pe_ix (Kit.ixL K) (pv 2) (pe_un un_neg pe_int) (fun _ _ => rfl)) pa_nil)) pe_int (nomark _))
    (pss_cons (ps_set (i := 3) nd rfl (Or.inr rfl) (pe_ix (Kit.ixL K) (pv 2) (pe_un un_neg pe_int) (fun _ _ => rfl)))
    (pss_one (ps_expr (pe_bm PySem.F.plainAttrs_list PySem.F.slot_list_append PySem.F.type_list_append mt_append (pv 2) (pa_cons (pe_lc (own := [("k", 4)]) (g := gName 4) (tt := tYes) (by rfl) nd (pi_range3 (by rfl) T.z_range (pa_cons pe_int (pa_cons (pe_callB (Kit.kLen K) (by rfl) T.z_len (by decide +kernel) (pa_cons (pv 3) pa_nil)) (pa_cons pe_int pa_nil)))) (blkOk_by (own := [("k", 4)]) (N := N_levels_of) (sc := defScope s_levels_of) (by decide +kernel)) (fun _ _ _ _ _ => pg_name (i := 4) nd rfl (Or.inl rfl)) (fun _ _ _ _ _ => pts_nil) (fun _ _ _ _ _ => (pe_meth (pv 0) T.c_Digests.cl T.m_Digests_fold G_Digests_fold hr3 T.f_Digests_fold.b .nil pass0 (pa_cons (pe_ix (Kit.ixL K) (pv 3) (pv 4) (fun _ _ => rfl)) (pa_cons (pe_ix (Kit.ixL K) (pv 3) (pe_op op_add (pv 4) pe_int) (fun _ _ => rfl)) pa_nil))))) pa_nil))))))
    (pss_one (ps_ret (pv 2)))))) rfl ?_
  try dsimp only [L2.cxOf, L2.Cx.nox]
  have hlen : (iv r).length ≤ 256 := by
    rw [iv_len, hk]
    exact Nat.pow_le_pow_right (by decide) hk8
  walk_at "wp"
  rename_i c H1 n1 e1 f1 l H2 n2 e2 f2
  have hl : H l = none := Evl.fresh_back e1 n2
  refine Kit.m_whileT (fun j σ' H' => ∃ (rs : List (List Int)) (y3 y4 : Option V) (l1 : List Tx), σ' = [some (.ref p), some (.ref a), some (.ref l), y3, y4] ∧ Kit.KeepE pb H H' ∧ LevAt H H' l rs ∧ LevSo (foldI m) k r j rs ∧ (∀ x ∈ rs, AllDg m x) ∧ rs.length + j = k + 1 ∧ j ≤ k ∧
      DigB T.c_Digests.C H' p pb m ∧ BkG P w T.c_Book.C H' pb m l1 ∧ (∀ rl, rs.getLast? = some rl → ∃ D, treeX (foldI m) k r = D ++ treeX (foldI m) j rl ∧ Ext l0 l1 D (2 ^ k - 2 ^ j))) k
    ⟨[r], none, none, l0, rfl, .of (e1.trans e2), ⟨[c], f2, ⟨n1, e2 _ _ f1, by simp, trivial⟩, fun z => by
      rw [List.mem_singleton] at z
      exact ne_of_none f1 n2 z.symm, hl⟩, ⟨[], r, rfl, hk, rfl⟩, fun x z => by
      rw [List.mem_singleton] at z
      rw [z]; exact hx, by simp; omega, Nat.le_refl k, hd.keep (.of (e1.trans e2)), hb.exE (e1.trans e2), fun rl hrl => by cases hrl; exact ⟨[], rfl, (Ext.refl _).of (fun _ => Iff.rfl) (Nat.zero_le _)⟩⟩ ?_
  rintro j σ' H3 ⟨rs, y3, y4, l1, rfl, e3, ⟨ps, g1, g2, g3, g4⟩, hso, hdg, hj, hjk, hd3, hb3, ht3⟩
  obtain ⟨pre, rl, rfl, hrl, hle⟩ := id hso
  obtain ⟨q0, hq0, _, hq1⟩ := g2.get (i := pre.length) (r := rl) (by simp)
  have hps : ps.length = pre.length + 1 := by rw [g2.len]; simp
  have hat : atI (ps.map V.ref) (-1) = some (.ref q0) := ref_last hps hq0
  obtain ⟨D, hD, xD⟩ := ht3 rl (by simp)
  have hlt : rl.length = 2 ^ j := hrl
  walk_at "wp"
  · rename_i hc
    rw [iv_len, hrl] at hc
    have hj0 : j ≠ 0 := fun z => by subst z; simp at hc
    obtain ⟨j, rfl⟩ : ∃ i, j = i + 1 := ⟨j - 1, by omega⟩
    have hr2 : rl.length = 2 * 2 ^ j := by rw [hrl, KM.two_pow]
    have hb2 : 2 ^ j ≤ 256 := Nat.le_trans (Nat.pow_le_pow_right (by decide) (show j ≤ 8 by omega)) (by decide)
    have hdl := hdg rl (by simp)
    have hpw : 2 ^ (j + 1) = 2 * 2 ^ j := KM.two_pow j
    refine Kit.turn_go ?_
    walk_at "wp"
    have hm := hd.pos
    refine ⟨0, _, 2, 2 ^ j, rfl, rgc2 (by rw [iv_len, hr2]; omega) (by omega), ?_⟩
    refine l_keepE Kit.walks_rngC (by omega) (fun _ => rfl) (fun i H' => DigB T.c_Digests.C H' p pb m ∧ SqL K H' q0 (iv rl) ∧ ∃ l2, BkG P w T.c_Book.C H' pb m l2 ∧ Ext l1 l2 ((prsX rl).take i) i)
      (fun i => .int (foldI m ((rl[2 * i]?).getD 0) ((rl[2 * i + 1]?).getD 0))) (fun _ _ _ => trivial) (fun i H' ⟨_, _, l2, b2, _⟩ => b2.pbI) (fun H4 e4 => ⟨hd3.keep (.of e4), Evl.sq_of (e4 _ _ hq1), l1, hb3.exE e4, Ext.refl _⟩)
      (fun i D Ha Hb us hD hDa mm kk ⟨d2, s2, l2, b2, h1⟩ => ⟨d2.but mm hDa, sq_but mm (ne_of_none hq1 hD) s2, l2, b2.but mm hDa, h1⟩) ?_ ?_
    · rintro i H4 hi k4 ⟨d4, s4, l2, b4, u1⟩ R rr
      have e0 : (0 : Int) + (i : Int) * 2 = 2 * (i : Int) := by omega
      show _
      rw [e0]
      walk_at "wp"
      refine Kit.w_ixL s4 (iv_at' (2 * i) (by omega) (by omega)) ?_
      walk_at "wp"
      refine Kit.w_ixL s4 (iv_at' (2 * i + 1) (by omega) (by omega)) ?_
      walk_at "wp"
      refine use_foldG d4 b4 (hdl.at (by omega)) (hdl.at (by omega)) (by have := u1.len; have := xD.len; omega) fun H5 k5 b5 => ?_
      refine rr H5 k5 ⟨d4.keep k5, keep_sqL b4 k5 s4, _, b5, (u1.trans (Ext.add _ _)).of (fun t => ?_) (Nat.le_refl _)⟩
      rw [List.take_add_one, prsX_at hr2 hi]
      exact Iff.rfl
    · rintro q1 H4 n4 k4 f4 ⟨d4, s4, l2, b4, u1⟩
      rw [show (fun i : Nat => V.int (foldI m ((rl[2 * i]?).getD 0) ((rl[2 * i + 1]?).getD 0))) = V.int ∘ (fun i : Nat => foldI m ((rl[2 * i]?).getD 0) ((rl[2 * i + 1]?).getD 0)) from rfl, ← List.map_map, ← pairs_at rl hr2] at f4
      have g14 := keep_lst hb3 k4 g1
      walk_at "wp"
      have hpl : ps.length ≤ 9 := by rw [hps]; simp at hj; omega
      refine Kit.w_app g14 (by rw [List.length_map]; omega) fun H5 m5 f5 => ?_
      have hql : q1 ≠ l := fun z => by rw [z] at n4; rw [n4] at g1; cases g1
      have hqp : q1 ∉ ps := fun z => by
        obtain ⟨xs, hx⟩ := g2.mem z
        rw [n4] at hx
        cases hx
      refine ⟨j, Nat.lt_succ_self j, pre ++ [rl] ++ [KM.pairs (foldI m) rl], _, _, l2, rfl, keep_upd hl (e3.trans k4) m5 f5, ⟨ps ++ [q1], ?_, ?_, ?_, hl⟩, ?_, ?_, ?_, by omega, d4.but m5 g14, b4.but m5 g14, fun rl' hrl' => ?_⟩
      · rw [f5, List.map_append]; rfl
      · exact RowsAt.snoc (e3.2 _ n4) (m5 _ _ hql f4) hqp ((RowsAt.keep hb3 k4 g2).but m5 g3)
      · intro z
        rcases List.mem_append.mp z with z | z
        · exact g3 z
        · exact hql (List.mem_singleton.mp z).symm
      · obtain ⟨r', hr', _, h⟩ := hso.next
        have : rl = r' := by simpa using hr'
        rw [← this] at h; exact h
      · intro x hx
        rcases List.mem_append.mp hx with hx | hx
        · exact hdg x hx
        · rw [List.mem_singleton.mp hx]
          exact pairs_dg hm rl
      · simp at hj ⊢; omega
      · have hrl2 : rl' = KM.pairs (foldI m) rl := by simpa using hrl'.symm
        subst hrl2
        refine ⟨D ++ prsX rl, by rw [hD, List.append_assoc]; rfl, ?_⟩
        have u1' := u1
        rw [List.take_of_length_le (by rw [prsX_len hr2]; exact Nat.le_refl _)] at u1'
        have hle2 : 2 ^ (j + 1) ≤ 2 ^ k := Nat.pow_le_pow_right (by decide) hjk
        exact (xD.trans u1').of (fun _ => Iff.rfl) (by omega)
  · rename_i hc
    rw [iv_len, hrl] at hc
    have hj0 : j = 0 := by
      cases j with
      | zero => rfl
      | succ j =>
        rw [KM.two_pow] at hc
        have : 0 < 2 ^ j := Nat.pow_pos (by decide)
        omega
    subst hj0
    refine q l H3 l1 e3 (by rw [← hle]; exact ⟨ps, g1, g2, g3, g4⟩) hb3 (xD.of (fun t => by rw [hD]; simp [treeX]) (Nat.sub_le _ _))
theorem use_levels_of {P : Program} {w : World} {K : PySem.W.Frag} {C CB p pb a : Addr} {m : Int} {r : List Int} {k : Nat} {l : List Tx} {H : Hp} {Q : VK} {E : XK} (hd : DigB C H p pb m) (hb : BkG P w CB H pb m l) (ha : SqL K H a (iv r) ∨ SqT K H a (iv r)) (hx : AllDg m r) (hk : r.length = 2 ^ k) (h8 : k ≤ 8) (hl : l.length + 2 ^ k ≤ 90000)
    (q : ∀ L H' l', Kit.KeepE pb H H' → LevAt H H' L (KM.levs (foldI m) k r) → BkG P w CB H' pb m l' → Ext l l' (treeX (foldI m) k r) (2 ^ k) → Q (.ref L) H') : sp_levels_of P w K C CB [.ref p, .ref a] H Q E := ⟨p, pb, a, m, r, k, l, rfl, hd, hb, ha, hx, hk, h8, hl, q⟩

theorem pathM_eq (f : Int → Int → Int) : ∀ (k : Nat) (r : List Int) (pl : Nat) (i : Nat) (s : List Int), (KM.levs f k r)[i]? = some s → i < k → (KM.pathM f k r pl)[i]? = some ((s[KM.nb (pl / 2 ^ i)]?).getD 0)
  | 0, _, _, _, _, _, h => by omega
  | k + 1, r, pl, 0, s, hs, _ => by
    have e : r = s := by simpa [KM.levs] using hs
    subst e
    simp [KM.pathM]
  | k + 1, r, pl, i + 1, s, hs, hi => by
    have h := pathM_eq f k (KM.pairs f r) (pl / 2) i s (by simpa [KM.levs] using hs) (by omega)
    have e : pl / 2 / 2 ^ i = pl / 2 ^ (i + 1) := by
      rw [Nat.div_div_eq_div_mul, KM.two_pow]
    rw [e] at h
    simpa [KM.pathM] using h
theorem levs_at_len {f : Int → Int → Int} : ∀ (k : Nat) (r : List Int) (i : Nat) (s : List Int), r.length = 2 ^ k → (KM.levs f k r)[i]? = some s → s.length = 2 ^ (k - i)
  | 0, r, 0, s, hr, hs => by
    have e : r = s := by simpa [KM.levs] using hs
    rw [← e, hr]
  | 0, r, i + 1, s, hr, hs => by simp [KM.levs] at hs
  | k + 1, r, 0, s, hr, hs => by
    have e : r = s := by simpa [KM.levs] using hs
    rw [← e, hr]
    rfl
  | k + 1, r, i + 1, s, hr, hs => by
    rw [KM.two_pow] at hr
    have h := levs_at_len k (KM.pairs f r) i s (KM.pairs_len r hr) (by simpa [KM.levs] using hs)
    rw [h, Nat.add_sub_add_right]
theorem nb_lt {k i pl : Nat} (hi : i < k) (hp : pl < 2 ^ k) : KM.nb (pl / 2 ^ i) < 2 ^ (k - i) := by
  have h1 : pl / 2 ^ i < 2 ^ (k - i) := by
    rw [Nat.div_lt_iff_lt_mul (Nat.pow_pos (by decide)), ← Nat.pow_add, Nat.sub_add_cancel (Nat.le_of_lt hi)]
    exact hp
  have h2 : 2 ^ (k - i) = 2 * 2 ^ (k - i - 1) := by
    rw [← KM.two_pow]
    congr 1
    omega
  unfold KM.nb
  rw [h2] at h1 ⊢
  generalize pl / 2 ^ i = z at *
  generalize 2 ^ (k - i - 1) = y at *
  split <;> omega
def sp_path_in (K : PySem.W.Frag) : Sp := fun vs H Q _ => ∃ (l : Addr) (ps : List Addr) (f : Int → Int → Int) (r : List Int) (k : Nat) (pl : Nat), vs = [.ref l, .int pl] ∧ H l = some (.lst (ps.map V.ref)) ∧ ps.length = k + 1 ∧ (∀ (i : Nat) s, (KM.levs f k r)[i]? = some s → ∃ p, ps[i]? = some p ∧ H p = some (.lst (iv s))) ∧
  r.length = 2 ^ k ∧ k ≤ 8 ∧ pl < 2 ^ k ∧ ∀ p H', H p = none → Evl.Ex H H' → H' p = some (.tup (iv (KM.pathM f k r pl))) → Q (.ref p) H'
theorem cut_butlast {xs : List V} {n : Nat} (h : xs.length = n + 1) : cutV xs none (some (-1)) = xs.take n := by
  unfold cutV
  rw [HT.sIx_none]
  have e : HT.sIx xs.length xs.length (some (-1)) = n := by
    unfold HT.sIx
    rw [h]
    simp
    omega
  rw [e]
  simp
theorem int_half {pl i : Nat} : ((pl / 2 ^ i : Nat) : Int) / 2 = ((pl / 2 ^ (i + 1) : Nat) : Int) := by
  rw [KM.two_pow, Nat.mul_comm, ← Nat.div_div_eq_div_mul]
  omega
theorem nb_even {z : Nat} (h : (z : Int) % 2 = 0) : (z : Int) + 1 = ((KM.nb z : Nat) : Int) := by
  unfold KM.nb
  rw [if_pos (by omega)]
  omega
theorem nb_odd {z : Nat} (h : ¬ (z : Int) % 2 = 0) : (z : Int) - 1 = ((KM.nb z : Nat) : Int) := by
  unfold KM.nb
  rw [if_neg (by omega)]
  omega
theorem ok_path_in (T : Txt K mg) : FnOk P w K mg base CX0 1 T.f_path_in.f T.f_path_in.fd ["levels", "place"] (sp_path_in K) := by
  refine T.f_path_in.F.ok sc_path_in (fun vs H Q E h => ?_) (fun cdv A outer s H vs Q E hr h => ?_)
  · obtain ⟨l, ps, f, r, k, pl, rfl, hl, hps, hlv, hk, hk8, hpl, q⟩ := h
    rfl
  obtain ⟨l, ps, f, r, k, pl, rfl, hl, hps, hlv, hk, hk8, hpl, q⟩ := h
  have nd := sc_path_in.nd
  refine Kit.ok_body (σ := [some _, some _, none, none, none]) ((pss_cons (ps_set (i := 2) nd rfl (Or.inl rfl) (pe_lst pa_nil))
    (pss_cons (ps_for PassesOwn.never rfl (Kit.kpList K (pe_slice (Kit.kSlL K) (pv 0) po_none (po_some (pe_un un_neg pe_int)))) (pg_name (i := 3) nd rfl (Or.inl rfl))
    (pss_cons (ps_set (i := 4) nd rfl (Or.inl rfl) (pe_ifExp (pt_cmpR op_eq (pe_op op_mod (pv 1) pe_int) pe_int (nomark _)) (pe_op op_add (pv 1) pe_int) (pe_op op_sub (pv 1) pe_int)))
    (pss_cons (ps_expr (pe_bm PySem.F.plainAttrs_list PySem.F.slot_list_append PySem.F.type_list_append mt_append (pv 2) (pa_cons (pe_ix (Kit.ixL K) (pv 3) (pv 4) (fun _ _ => rfl)) pa_nil)))
    (pss_one (ps_set (i := 1) nd rfl (Or.inl rfl) (pe_op op_fdiv (pv 1) pe_int))))))
    (pss_one (ps_ret (pe_callTy (Kit.kTuple K) (by rfl) T.z_tuple (by decide +kernel) (pa_cons (pv 2) pa_nil))))))) rfl ?_
  try dsimp only [L2.cxOf, L2.Cx.nox]
  walk_at "wp"
  rename_i pp H1 n1 e1 f1 c H2 n2 e2 f2
  rw [cut_butlast (n := k) (by rw [List.length_map, hps])] at f2
  have hxl : ((ps.map V.ref).take k).length = k := by rw [List.length_take, List.length_map, hps]; omega
  refine Kit.f_list (Evl.sq_of f2) (fun i σ' H' => ∃ y3 y4, σ' = [some (.ref l), some (.int ((pl / 2 ^ i : Nat) : Int)), some (.ref pp), y3, y4] ∧ Kit.ExBut pp H2 H' ∧ H' pp = some (.lst (iv ((KM.pathM f k r pl).take i)))) ⟨none, none, by simp, Kit.ExBut.refl _ _, by rw [e2 _ _ f1]; rfl⟩ ?_ ?_ ?_
  · rintro i σ' H' _ ⟨y3, y4, rfl, m, _⟩
    exact Evl.sq_of (m _ _ (fun z => by rw [z, e2 _ _ f1] at f2; rw [z, f1] at n2; cases n2) f2)
  · rintro i x σ' H' hx ⟨y3, y4, rfl, m, g⟩
    have hi : i < k := by
      have := (List.getElem?_eq_some_iff.mp hx).1
      rw [hxl] at this
      exact this
    have hil : i < (KM.levs f k r).length := by rw [KM.levs_len]; omega
    obtain ⟨p, hp1, hp2⟩ := hlv i _ (List.getElem?_eq_getElem hil)
    generalize hs : (KM.levs f k r)[i] = s at hp2
    have hs2 : (KM.levs f k r)[i]? = some s := by rw [List.getElem?_eq_getElem hil, hs]
    have hsl := levs_at_len k r i s hk hs2
    have ex : x = .ref p := by
      rw [List.getElem?_take_of_lt hi, List.getElem?_map, hp1] at hx
      exact (Option.some.inj hx).symm
    subst ex
    have hnp : p ≠ pp := ne_of_none hp2 n1
    have hp3 : H' p = some (.lst (iv s)) := m _ _ hnp (e2 _ _ (e1 _ _ hp2))
    have hnb := nb_lt hi hpl
    rw [← hsl] at hnb
    have hpath := pathM_eq f k r pl i s hs2 hi
    have htk : iv ((KM.pathM f k r pl).take (i + 1)) = iv ((KM.pathM f k r pl).take i) ++ [.int ((s[KM.nb (pl / 2 ^ i)]?).getD 0)] := by
      rw [List.take_add_one, hpath]
      unfold iv
      rw [List.map_append]
      rfl
    have hz : ((pl / 2 ^ i : Nat) : Int) / 2 = ((pl / 2 ^ (i + 1) : Nat) : Int) := int_half
    show Kit.Sm _ _ _ _ _ _ _
    have hlen : (iv ((KM.pathM f k r pl).take i)).length < 100000 := by
      rw [iv_len, List.length_take]
      omega
    walk_at "wp"
    all_goals rename_i hc
    · refine Kit.w_ixL (Evl.sq_of hp3) (iv_at' (KM.nb (pl / 2 ^ i)) (nb_even hc) hnb) ?_
      walk_at "wp"
      refine Kit.w_app g hlen fun H3 m3 f3 => ?_
      walk_at "wp"
      exact ⟨_, _, by rw [hz] <;> rfl, m.trans m3, by rw [f3, htk]⟩
    · refine Kit.w_ixL (Evl.sq_of hp3) (iv_at' (KM.nb (pl / 2 ^ i)) (nb_odd hc) hnb) ?_
      walk_at "wp"
      refine Kit.w_app g hlen fun H3 m3 f3 => ?_
      walk_at "wp"
      exact ⟨_, _, by rw [hz] <;> rfl, m.trans m3, by rw [f3, htk]⟩
  · rintro σ' H' ⟨y3, y4, rfl, m, g⟩
    rw [hxl, List.take_of_length_le (by rw [KM.path_len]; exact Nat.le_refl k)] at g
    walk_at "wp"
    rename_i p H3 n3 e3 f3
    have e : Evl.Ex H H' := Kit.ex_but m n1 (e1.trans e2)
    exact q p H3 (Evl.fresh_back e n3) (e.trans e3) f3
theorem use_path_in {K : PySem.W.Frag} {l : Addr} {f : Int → Int → Int} {r : List Int} {k : Nat} (pl : Nat) {z : Int} {H0 H : Hp} {Q : VK} {E : XK} (hl : LevAt H0 H l (KM.levs f k r)) (hk : r.length = 2 ^ k) (h8 : k ≤ 8) (hp : pl < 2 ^ k) (ez : z = (pl : Int))
    (q : ∀ p H', H p = none → Evl.Ex H H' → H' p = some (.tup (iv (KM.pathM f k r pl))) → Q (.ref p) H') : sp_path_in K [.ref l, .int z] H Q E := by
  obtain ⟨ps, a, b, c⟩ := hl.get
  subst ez
  exact ⟨l, ps, f, r, k, pl, rfl, a, by rw [b, KM.levs_len], c, hk, h8, hp, q⟩

/-! ### an attribute as one of several targets -/
def gFldT (K : PySem.W.Frag) (to : TE) (f : Str) : TG := fun v σ H Q => to σ H fun x H1 => Kit.PutOf K f v x H1 fun H2 => Q σ H2
theorem kgAttr (K : PySem.W.Frag) {X : Cx} {o : Expr} {f : Str} {pos : Pos} {to : TE} (ho : PE X o to) (h : X.K = K := by rfl) : PG X (.Attribute o f pos) (gFldT K to f) := by
  subst h
  refine ⟨fun pins s σ H v u Q I r h => ?_⟩
  refine PySem.W.kas_attr (thn (ho.run pins s σ H _ I h) fun ov s2 ⟨x, H2, I2, rx, a, C, dx, fs, ex, ea, c, n, l, q2⟩ => ?_)
  subst ex
  obtain rfl : ov = Value.ref a := rx
  exact setattr_ok I2 ea c n l r fun s3 I3 => ⟨σ, _, I3, q2⟩
theorem w_gfldT {K : PySem.W.Frag} {to : TE} {f : Str} {v : V} {σ : L2.St} {H : Hp} {Q : L2.St → Hp → Prop} (h : to σ H fun x H1 => Kit.PutOf K f v x H1 fun H2 => Q σ H2) : gFldT K to f v σ H Q := h
local macro_rules | `(tactic| walk_at "wp1") => `(tactic| with_reducible refine w_gfldT ?_)

/-! ### all but some objects as they were -/
def ExBy (F : List Addr) (H H' : Hp) : Prop := ∀ b o, b ∉ F → H b = some o → H' b = some o
theorem ExBy.refl (F : List Addr) (H : Hp) : ExBy F H H := fun _ _ _ h => h
theorem ExBy.of {F : List Addr} {H H' : Hp} (e : Evl.Ex H H') : ExBy F H H' := fun b o _ h => e b o h
theorem ExBy.trans {F : List Addr} {H H1 H2 : Hp} (a : ExBy F H H1) (b : ExBy F H1 H2) : ExBy F H H2 := fun c o n h => b c o n (a c o n h)
theorem ExBy.snoc {F : List Addr} {H H1 H2 : Hp} (b : ExBy F H1 H2) (a : ExBy F H H1) : ExBy F H H2 := a.trans b
theorem ExBy.snocE {F : List Addr} {H H1 H2 : Hp} (b : Evl.Ex H1 H2) (a : ExBy F H H1) : ExBy F H H2 := a.trans (.of b)
theorem ExBy.snocB {F : List Addr} {p : Addr} {H H1 H2 : Hp} (b : Kit.ExBut p H1 H2) (hp : p ∈ F) (a : ExBy F H H1) : ExBy F H H2 := a.trans fun c o n h => b c o (fun z => n (z ▸ hp)) h
theorem ExBy.mono {F G : List Addr} {H H' : Hp} (s : ∀ x ∈ F, x ∈ G) (a : ExBy F H H') : ExBy G H H' := fun b o n h => a b o (fun z => n (s b z)) h
theorem ExBy.ex {F : List Addr} {H0 H H' : Hp} (m : ExBy F H H') (h : ∀ x ∈ F, H0 x = none) (e : Evl.Ex H0 H) : Evl.Ex H0 H' := fun b o hb => m b o (fun z => by rw [h b z] at hb; cases hb) (e b o hb)
theorem ExBy.tup {K : PySem.W.Frag} {F : List Addr} {H H' : Hp} {a : Addr} {xs : List V} (m : ExBy F H H') (hF : ∀ x ∈ F, (∃ ys, H x = some (.lst ys)) ∨ ∃ C dx fs, H x = some (.ins C dx fs)) (h : SqT K H a xs) : SqT K H' a xs := by
  rcases h with (h | ⟨z, h⟩) | h
  · refine .inl (.inl (m _ _ (fun hz => ?_) h))
    rcases hF _ hz with ⟨ys, e⟩ | ⟨C, dx, fs, e⟩ <;> · rw [h] at e; cases e
  · refine .inl (.inr ⟨z, m _ _ (fun hz => ?_) h⟩)
    rcases hF _ hz with ⟨ys, e⟩ | ⟨C, dx, fs, e⟩ <;> · rw [h] at e; cases e
  · exact .inr h
theorem ExBy.len1 {F : List Addr} {H H' : Hp} {p : Addr} (h : Kit.ExBut p H H') (hp : p ∈ F) : ExBy F H H' := fun c o n e => h c o (fun z => n (z ▸ hp)) e
local macro_rules | `(tactic| walk_at "by") => `(tactic| first | with_reducible assumption | with_reducible exact ExBy.refl _ _ | exact ExBy.snoc (by with_reducible assumption) (by walk_at "by") | exact ExBy.snocE (by with_reducible assumption) (by walk_at "by") | exact ExBy.snocB (by with_reducible assumption) (by first | assumption | simp; done | fail) (by walk_at "by") | fail)

/-! ### the memory, digests with a book -/
theorem w_rep {l : Addr} {xs : List V} {k : Int} {H : Hp} {Q : VK} (h : H l = some (.lst xs)) (h0 : 0 ≤ k) (h1 : k ≤ 1000) (hx : xs.length ≤ 10) (q : ∀ p H2, H p = none → Evl.Ex H H2 → H2 p = some (.lst (List.replicate k.toNat xs).flatten) → Q (.ref p) H2) : rRep (.ref l) (.int k) H Q :=
  ⟨l, k, xs, rfl, rfl, h, by omega, by omega, Nat.le_of_lt (Evl.sz_lt (by
    have a : k.toNat ≤ 1000 := by omega
    have := Nat.mul_le_mul hx a
    omega)), fun p hp => q p _ hp (Evl.Ex.new hp) upd_same⟩
local macro_rules | `(tactic| walk_at "wp1") => `(tactic| ((with_reducible show rRep _ _ _ _); refine w_rep (by walk_at "hp") (by omega) (by omega) (by decide) ?_; intro _ _ _ _ _))
theorem rep_flat (n : Nat) : (List.replicate n [V.int 0]).flatten = (List.replicate n (0 : Int)).map V.int := by
  induction n with
  | zero => rfl
  | succ n ih => rw [List.replicate_succ, List.flatten_cons, ih]; rfl
/-- the words of a memory: the given ones, then zeros -/
def padW (ws : List Int) : List Int := ws ++ List.replicate (256 - ws.length) 0
theorem padW_len {ws : List Int} (h : ws.length ≤ 256) : (padW ws).length = 256 := by unfold padW; rw [List.length_append, List.length_replicate]; omega
theorem padW_whole {ws : List Int} (h : ws.length = 256) : padW ws = ws := by unfold padW; rw [h]; simp
theorem cut256 {ws : List Int} (h : ws.length ≤ 256) : cutV (iv ws) none (some 256) = iv ws := by
  unfold cutV
  rw [HT.sIx_none]
  have e : HT.sIx (iv ws).length (iv ws).length (some 256) = ws.length := by
    rw [iv_len]
    unfold HT.sIx
    simp
    omega
  rw [e]
  simp only [Int.toNat_zero, List.drop_zero, Nat.sub_zero, List.drop]
  exact List.take_of_length_le (by rw [iv_len]; exact Nat.le_refl _)
theorem ins_ne {H : Hp} {a b C C' dx dx' : Addr} {fs fs' : List (Str × V)} (h1 : H a = some (.ins C dx fs)) (h2 : H b = some (.ins C' dx' fs')) (hl : fs.length ≠ fs'.length) : a ≠ b := by
  rintro rfl
  rw [h1] at h2
  injection h2 with h2
  injection h2 with _ _ h2
  exact hl (by rw [h2])
theorem tup_ins {K : PySem.W.Frag} {H H' : Hp} {p a C dx : Addr} {fs : List (Str × V)} {xs : List V} (m : Kit.ExBut p H H') (hp : H p = some (.ins C dx fs)) (h : SqT K H a xs) : SqT K H' a xs := by
  rcases h with (h | ⟨z, h⟩) | h
  · exact .inl (.inl (m _ _ (by rintro rfl; rw [hp] at h; cases h) h))
  · exact .inl (.inr ⟨z, m _ _ (by rintro rfl; rw [hp] at h; cases h) h⟩)
  · exact .inr h
def h0 : Hp := fun _ => none
structure MemAt (C : Addr) (H : Hp) (p dg wa la : Addr) (ps : List Addr) (m : Int) (ws : List Int) : Prop where
  at_ : ∃ dx, H p = some (.ins C dx (fl_Memory (.ref dg) (.ref wa) (.ref la)))
  wds : H wa = some (.lst (iv ws))
  len : ws.length = 256
  lvl : H la = some (.lst (ps.map V.ref))
  rows : RowsAt h0 H ps (KM.levs (foldI m) 8 (ws.map (leafI m)))
  nwp : wa ∉ ps
  nlp : la ∉ ps
  nwl : wa ≠ la
theorem MemAt.ex {C p dg wa la : Addr} {ps : List Addr} {m : Int} {ws : List Int} {H H' : Hp} (e : Evl.Ex H H') (h : MemAt C H p dg wa la ps m ws) : MemAt C H' p dg wa la ps m ws :=
  ⟨h.at_.imp fun _ a => e _ _ a, e _ _ h.wds, h.len, e _ _ h.lvl, h.rows.ex e, h.nwp, h.nlp, h.nwl⟩
theorem RowsAt.exBy {F : List Addr} {H0 H H' : Hp} (e : ExBy F H H') : ∀ {ps : List Addr} {rs : List (List Int)}, (∀ x ∈ ps, x ∉ F) → RowsAt H0 H ps rs → RowsAt H0 H' ps rs
  | [], [], _, _ => trivial
  | p :: ps, _ :: _, n, ⟨a, b, c, d⟩ => ⟨a, e _ _ (n p List.mem_cons_self) b, c, RowsAt.exBy e (fun x z => n x (List.mem_cons_of_mem _ z)) d⟩
/-- kept by what changes none of its objects -/
theorem MemAt.by {F : List Addr} {C p dg wa la : Addr} {ps : List Addr} {m : Int} {ws : List Int} {H H' : Hp} (e : ExBy F H H') (h : MemAt C H p dg wa la ps m ws) (n : ∀ x ∈ p :: wa :: la :: ps, x ∉ F) : MemAt C H' p dg wa la ps m ws :=
  ⟨h.at_.imp fun _ a => e _ _ (n p (by simp)) a, e _ _ (n wa (by simp)) h.wds, h.len, e _ _ (n la (by simp)) h.lvl, h.rows.exBy e (fun x z => n x (by simp [z])), h.nwp, h.nlp, h.nwl⟩
theorem RowsAt.h0 {H0 H : Hp} : ∀ {ps : List Addr} {rs : List (List Int)}, RowsAt H0 H ps rs → RowsAt My.h0 H ps rs
  | [], [], _ => trivial
  | _ :: _, _ :: _, ⟨_, b, c, d⟩ => ⟨rfl, b, c, RowsAt.h0 d⟩
theorem RowsAt.new {H0 H : Hp} : ∀ {ps : List Addr} {rs : List (List Int)}, RowsAt H0 H ps rs → ∀ x ∈ ps, H0 x = none
  | [], [], _, x, h => by cases h
  | p :: ps, _ :: _, ⟨a, _, _, d⟩, x, h => by
    rcases List.mem_cons.mp h with rfl | h
    · exact a
    · exact RowsAt.new d x h
section
variable {C p dg wa la : Addr} {ps : List Addr} {m : Int} {ws : List Int} {H : Hp} {Q : VK} {R : Prop}
theorem MemAt.ins (h : MemAt C H p dg wa la ps m ws) {x : Str} (l : (fl_Memory (.ref dg) (.ref wa) (.ref la)).lookup x = none) (r : R) : Kit.InsOf C x (.ref p) H R := let ⟨_, a⟩ := h.at_; Kit.w_ins a l r
theorem MemAt.mem_lst (h : MemAt C H p dg wa la ps m ws) : ∀ x ∈ wa :: ps, ∃ ys, H x = some (.lst ys) := fun x hx => by
  rcases List.mem_cons.mp hx with rfl | hx
  · exact ⟨_, h.wds⟩
  · exact h.rows.mem hx
theorem lev_len {ws : List Int} (f : Int → Int → Int) : (KM.levs f 8 ws).length = 9 := KM.levs_len 8 ws
theorem MemAt.plen (h : MemAt C H p dg wa la ps m ws) : ps.length = 9 := by rw [h.rows.len]; exact lev_len _
end
def KeepF (pb : Addr) (F : List Addr) (H H' : Hp) : Prop := (∀ b o, b ≠ pb → b ∉ F → H b = some o → Kit.mutE o = false → H' b = some o) ∧ ∀ b, H' b = none → H b = none
theorem KeepF.of {pb : Addr} {F : List Addr} {H H' : Hp} (k : Kit.KeepE pb H H') : KeepF pb F H H' := ⟨fun b o n _ h m => k.1 b o n h m, k.2⟩
theorem KeepF.one {pb x : Addr} {F : List Addr} {H H' : Hp} {o : HO} (e : Kit.ExBut x H H') (hx : x ∈ F) (h : H' x = some o) : KeepF pb F H H' := ⟨fun b o _ n hb _ => e b o (fun z => n (z ▸ hx)) hb, Kit.back_but e h⟩
theorem KeepF.trans {pb : Addr} {F : List Addr} {H H1 H2 : Hp} (a : KeepF pb F H H1) (b : KeepF pb F H1 H2) : KeepF pb F H H2 := ⟨fun x o n m h z => b.1 x o n m (a.1 x o n m h z) z, fun x h => a.2 x (b.2 x h)⟩
theorem KeepF.mono {pb : Addr} {F G : List Addr} {H H' : Hp} (k : KeepF pb F H H') (h : ∀ x ∈ F, x ∈ G) : KeepF pb G H H' := ⟨fun b o n m => k.1 b o n (fun z => m (h b z)), k.2⟩
theorem BookAt.butI {P : Program} {w : World} {C p r : Addr} {H H' : Hp} {TT : List Kit.BK} {F : List (Kit.BK × Kit.TK)} {c : Bool} {C2 dx2 : Addr} {fs : List (Str × V)} (b : BookAt P w C H p TT F c) (hr : H r = some (.ins C2 dx2 fs)) (n : r ≠ p) (m : Kit.ExBut r H H') : BookAt P w C H' p TT F c := by
  obtain ⟨dx, d1, d2, kv, h1, h2, h3, h4, h5⟩ := b
  have tp : ∀ c zs, H c = some (.tup zs) → H' c = some (.tup zs) := fun c zs h => m c _ (by rintro rfl; rw [hr] at h; cases h) h
  refine ⟨dx, d1, d2, kv, m _ _ n.symm h1, h2.mono (fun o h => m _ _ ?_ h) tp, h3.mono (fun o h => m _ _ ?_ h) tp, h4, h5.mono tp⟩
  · rintro rfl
    obtain ⟨o, z1, z2⟩ := Kit.bk_is h2
    rw [hr] at z1; cases z1; cases z2
  · rintro rfl
    obtain ⟨o, z1, z2⟩ := Kit.bk_is h3
    rw [hr] at z1; cases z1; cases z2
theorem BkG.butI {P : Program} {w : World} {CB pb r C2 dx2 : Addr} {m : Int} {l : List Tx} {H H' : Hp} {fs : List (Str × V)} (b : BkG P w CB H pb m l) (hr : H r = some (.ins C2 dx2 fs)) (n : r ≠ pb) (e : Kit.ExBut r H H') : BkG P w CB H' pb m l := let ⟨TT, F, c, h, k⟩ := b.ex; ⟨⟨TT, F, c, h.butI hr n e, k⟩⟩
theorem DigB.butI {C H H' p pb m r} (d : DigB C H p pb m) (e : Kit.ExBut r H H') (n : p ≠ r) : DigB C H' p pb m := let ⟨⟨dx, b, h⟩, a, c, k⟩ := d; ⟨⟨dx, b, e p _ n h⟩, a, c, k⟩
theorem range_leaf {m : Int} {ws : List Int} : (List.range ws.length).map (fun i : Nat => V.int (leafI m ((ws[i]?).getD 0))) = iv (ws.map (leafI m)) := by
  apply List.ext_getElem?
  intro i
  unfold iv
  by_cases hi : i < ws.length
  · rw [List.getElem?_map, List.getElem?_range hi, List.getElem?_map, List.getElem?_map]
    show some (V.int (leafI m ((ws[i]?).getD 0))) = _
    rw [List.getElem?_eq_getElem hi]
    rfl
  · rw [List.getElem?_eq_none (by rw [List.length_map, List.length_range]; omega), List.getElem?_eq_none (by rw [List.length_map, List.length_map]; omega)]
def memX (m : Int) (ws : List Int) : List Tx := ws.map Tx.lf ++ treeX (foldI m) 8 (ws.map (leafI m))
def sp_Memory_init (P : Program) (w : World) (K : PySem.W.Frag) (CM CD CB : Addr) : Sp := fun vs H Q _ => ∃ (p dx dg pb a : Addr) (m : Int) (ws : List Int) (l : List Tx), vs = [.ref p, .ref dg, .ref a] ∧ H p = some (.ins CM dx []) ∧ p ≠ pb ∧ DigB CD H dg pb m ∧ BkG P w CB H pb m l ∧ l.length ≤ 50000 ∧ SqT K H a (iv ws) ∧ ws.length ≤ 256 ∧
  ∀ H' wa la ps l', KeepF pb [p] H H' → MemAt CM H' p dg wa la ps m (padW ws) → (∀ x ∈ wa :: la :: ps, H x = none) → BkG P w CB H' pb m l' → Ext l l' (memX m (padW ws)) 512 → Q .non H'
theorem ok_Memory___init (T : Txt K mg) : FnOk P w K mg base CX0 5 T.f_Memory___init.f T.f_Memory___init.fd ["self", "digests", "words"] (sp_Memory_init P w K T.c_Memory.C T.c_Digests.C T.c_Book.C) := by
  have G_Digests_leaf := ok_Digests_leaf (P := P) (w := w) (base := base) T
  have G_levels_of := ok_levels_of (P := P) (w := w) (base := base) T
  refine T.f_Memory___init.F.ok sc_Memory___init (fun vs H Q E h => ?_) (fun cdv A outer s H vs Q E hr h => ?_)
  · obtain ⟨p, dx, dg, pb, a, m, ws, l0, rfl, hp, hpb, hd, hbk, hl0, ha, hl, q⟩ := h
    rfl
  obtain ⟨p, dx, dg, pb, a, m, ws, l0, rfl, hp, hpb, hd, hbk, hl0, ha, hl, q⟩ := h
  have nd := sc_Memory___init.nd
  have hr3 : Room 3 _ := hr.mono (by decide)
  have hr4 : Room 4 _ := hr.mono (by decide)
  refine Kit.ok_body (σ := [some _, some _, some _, none]) ((pss_cons (Kit.kSet K (pv 0) (pv 1) rfl)
    (pss_cons (Kit.kSet K (pv 0) (pe_op op_cat (pe_callTy (Kit.kList K) (by rfl) T.z_list (by decide +kernel) (pa_cons (pe_slice (Kit.kSlT K) (pv 2) po_none (po_some (pe_glob (v := .int 256) rfl T.g_PLACES ⟨_, rfl⟩))) pa_nil)) (pe_op op_rep (pe_lst (pa_cons pe_int pa_nil)) (pe_op op_sub (pe_glob (v := .int 256) rfl T.g_PLACES ⟨_, rfl⟩) (pe_callB (Kit.kLen K) (by rfl) T.z_len (by decide +kernel) (pa_cons (pv 2) pa_nil))))) rfl)
    (pss_one (Kit.kSet K (pv 0) (pe_call G_levels_of hr4 (by rfl) T.f_levels_of.g T.f_levels_of.F.kp T.f_levels_of.b .nil pass0 (pa_cons (pv 1) (pa_cons (pe_lc (own := [("word", 3)]) (g := gName 3) (tt := tYes) (by rfl) nd (Kit.kpList K (Kit.kFld K (pv 0) rfl)) (blkOk_by (own := [("word", 3)]) (N := N_Memory___init) (sc := defScope s_Memory___init) (by decide +kernel)) (fun _ _ _ _ _ => pg_name (i := 3) nd rfl (Or.inl rfl)) (fun _ _ _ _ _ => pts_nil) (fun _ _ _ _ _ => (pe_meth (pv 1) T.c_Digests.cl T.m_Digests_leaf G_Digests_leaf hr3 T.f_Digests_leaf.b .nil pass0 (pa_cons (pv 3) pa_nil)))) pa_nil))) rfl))))) rfl ?_
  try dsimp only [L2.cxOf, L2.Cx.nox]
  have hdp : dg ≠ p := by
    obtain ⟨dx2, b, hd2⟩ := hd.at_
    exact ins_ne hd2 hp (by show 3 ≠ 0; decide)
  have hl2 : (iv ws).length ≤ 256 := by rw [iv_len]; exact hl
  walk_at "wp"
  rename_i H1 m1 f1
  refine Kit.w_slT (tup_ins m1 hp ha) fun a2 H2 e2 h2 => ?_
  rw [cut256 hl] at h2
  walk_at "wp"
  refine Kit.w_len (.inr (Evl.ex_t (by walk_at "ex") (tup_ins m1 hp ha))) ?_
  walk_at "wp"
  rename_i l1 H3 n3 e3 f3 l2 H4 n4 e4 f4 l3 H5 n5 e5 f5 wa H6 n6 e6 f6 H7 m7 f7
  have hwa : iv ws ++ (List.replicate (256 - ((iv ws).length : Int)).toNat [V.int 0]).flatten = iv (padW ws) := by
    rw [rep_flat]
    unfold padW iv
    rw [List.map_append, List.length_map, show ((256 : Int) - (ws.length : Int)).toNat = 256 - ws.length by omega]
  rw [hwa] at f6
  have hwp : wa ≠ p := ne_of_none (Kit.ex_get e5 (Kit.ex_get e4 (Kit.ex_get e3 (Kit.ex_get e2 f1)))) n6 |>.symm
  have f6' : H7 wa = some (.lst (iv (padW ws))) := m7 _ _ hwp f6
  have hpl := padW_len hl
  have M7 : Kit.ExBut p H H7 := by walk_at "but"
  have hd7 : DigB T.c_Digests.C H7 dg pb m := hd.butI M7 hdp
  have hb7 : BkG P w T.c_Book.C H7 pb m l0 := hbk.butI hp hpb M7
  generalize hPW : padW ws = W at *
  refine Kit.w_rd f7 T.c_Memory.cl T.n_Memory_words rfl ?_
  refine ⟨wa, rfl, ⟨_, Evl.sq_of f6'⟩, ?_⟩
  refine l_keepE Kit.walks_list (by rw [iv_len, hpl]; decide) (fun _ => rfl) (fun i H' => DigB T.c_Digests.C H' dg pb m ∧ SqL K H' wa (iv W) ∧ ∃ l2, BkG P w T.c_Book.C H' pb m l2 ∧ Ext l0 l2 ((W.take i).map Tx.lf) i)
    (fun i => .int (leafI m ((W[i]?).getD 0))) (fun i H' h => h.2.1) (fun i H' ⟨_, _, l2, b2, _⟩ => b2.pbI) (fun H4 e4 => ⟨hd7.keep (.of e4), Evl.sq_of (e4 _ _ f6'), l0, hb7.exE e4, Ext.refl _⟩)
    (fun i D Ha Hb us hD hDa mm kk ⟨d2, s2, l2, b2, h1⟩ => ⟨d2.but mm hDa, sq_but mm (ne_of_none f6' hD) s2, l2, b2.but mm hDa, h1⟩) ?_ ?_
  · rintro i H8 hi k8 ⟨d8, s8, l2, b8, x8⟩ R rr
    rw [iv_len] at hi
    have hy : (iv W)[i]? = some (.int W[i]) := by unfold iv; rw [List.getElem?_map, List.getElem?_eq_getElem hi]; rfl
    rw [List.getElem?_eq_getElem hi] at rr
    show _
    rw [hy]
    walk_at "wp"
    refine use_leafG d8 b8 (by have := x8.len; omega) fun H9 k9 b9 => ?_
    refine rr H9 k9 ⟨d8.keep k9, keep_sqL b8 k9 s8, _, b9, (x8.trans (Ext.add _ _)).of (fun t => ?_) (Nat.le_refl _)⟩
    rw [List.take_add_one, List.getElem?_eq_getElem hi, List.map_append]
    exact Iff.rfl
  · rintro c H8 n8 k8 f8 ⟨d8, s8, l2, b8, x8⟩
    rw [iv_len] at f8 x8
    rw [range_leaf] at f8
    rw [List.take_length, hpl] at x8
    have f8p := keep_ins hb7 k8 f7 hpb
    walk_at "wp"
    refine use_levels_of (k := 8) d8 b8 (.inl (Evl.sq_of f8)) (fun x hx => by
      obtain ⟨y, _, rfl⟩ := List.mem_map.mp hx
      exact leaf_dg hd.pos) (by rw [List.length_map, hpl]) (by decide) (by have := x8.len; omega) fun la H9 l9 k9 lev b9 x9 => ?_
    obtain ⟨ps, g1, g2, g3, g4⟩ := lev.ex
    have f9p := keep_ins b8 k9 f8p hpb
    walk_at "wp"
    rename_i H10 m10 f10
    have K8 : KeepF pb [p] H H8 := (KeepF.one M7 (by simp) f7).trans (.of k8)
    have K10 : KeepF pb [p] H H10 := (K8.trans (.of k9)).trans (KeepF.one m10 (by simp) f10)
    have hlp : la ≠ p := fun z => by rw [z, f8p] at g4; cases g4
    have f8w : H8 wa = some (.lst (iv W)) := keep_lst hb7 k8 f6'
    have f9w : H9 wa = some (.lst (iv W)) := keep_lst b8 k9 f8w
    have hpp : p ∉ ps := fun z => by
      have h1 := g2.new p z
      rw [f8p] at h1
      cases h1
    have hwn : wa ∉ ps := fun z => by
      have h1 := g2.new wa z
      rw [f8w] at h1
      cases h1
    refine q H10 wa la ps l9 K10 ⟨⟨dx, f10⟩, ?_, hpl, ?_, ?_, hwn, g3, ?_⟩ ?_ (b9.butI f9p hpb m10) ((x8.trans x9).of (fun t => Iff.rfl) (by decide))
    · exact m10 _ _ hwp f9w
    · exact m10 _ _ hlp g1
    · exact (g2.h0).but m10 hpp
    · rintro rfl
      rw [g4] at f8w
      cases f8w
    · intro x hx
      rcases List.mem_cons.mp hx with rfl | hx
      · refine (KeepF.one (pb := pb) (F := [p]) (show Kit.ExBut p H H5 from by walk_at "but") (by simp) (Kit.ex_get e5 (Kit.ex_get e4 (Kit.ex_get e3 (Kit.ex_get e2 f1))))).2 _ n6
      · rcases List.mem_cons.mp hx with rfl | hx
        · exact K8.2 _ g4
        · exact K8.2 _ (g2.new x hx)

/-! ### a memory asked, a memory changed -/
theorem RowsAt.set {H0 H H' : Hp} {q : Addr} {r : List Int} (m : Kit.ExBut q H H') (h : H' q = some (.lst (iv r))) : ∀ {ps : List Addr} {rs : List (List Int)} {i : Nat}, RowsAt H0 H ps rs → ps[i]? = some q → RowsAt H0 H' ps (rs.set i r)
  | [], [], i, _, hi => by simp at hi
  | p :: ps, s :: rs, 0, ⟨a, b, c, d⟩, hi => by
    have e : p = q := by simpa using hi
    subst e
    exact ⟨a, h, c, d.but m c⟩
  | p :: ps, s :: rs, i + 1, ⟨a, b, c, d⟩, hi => by
    have hi' : ps[i]? = some q := by simpa using hi
    have hne : p ≠ q := fun z => c (z ▸ List.mem_of_getElem? hi')
    exact ⟨a, m _ _ hne b, c, RowsAt.set m h d hi'⟩
theorem pairs_set {f : Int → Int → Int} {r : List Int} {n j : Nat} {v : Int} (hr : r.length = 2 * n) (hj : j < 2 * n) : ∃ w, KM.pairs f (r.set j v) = (KM.pairs f r).set (j / 2) w := by
  refine ⟨f ((((r.set j v)[2 * (j / 2)]?).getD 0)) (((r.set j v)[2 * (j / 2) + 1]?).getD 0), ?_⟩
  have hl : (r.set j v).length = 2 * n := by rw [List.length_set]; exact hr
  rw [pairs_at _ hl, pairs_at _ hr]
  apply List.ext_getElem?
  intro i
  rw [List.getElem?_set]
  by_cases hi : i < n
  · by_cases e : j / 2 = i
    · rw [if_pos e, if_pos (by rw [List.length_map, List.length_range]; omega), List.getElem?_map, List.getElem?_range hi, ← e]
      rfl
    · rw [if_neg e, List.getElem?_map, List.getElem?_range hi, List.getElem?_map, List.getElem?_range hi]
      show some (f (((r.set j v)[2 * i]?).getD 0) (((r.set j v)[2 * i + 1]?).getD 0)) = some (f ((r[2 * i]?).getD 0) ((r[2 * i + 1]?).getD 0))
      rw [List.getElem?_set_ne (show j ≠ 2 * i by omega), List.getElem?_set_ne (show j ≠ 2 * i + 1 by omega)]
  · have e : ¬ j / 2 = i := by omega
    rw [if_neg e, List.getElem?_eq_none (by rw [List.length_map, List.length_range]; omega), List.getElem?_eq_none (by rw [List.length_map, List.length_range]; omega)]
theorem levs_set {f : Int → Int → Int} : ∀ (k : Nat) (r : List Int) (j : Nat) (v : Int) (i : Nat), r.length = 2 ^ k → j < 2 ^ k → i ≤ k → ∃ t w, (KM.levs f k r)[i]? = some t ∧ (KM.levs f k (r.set j v))[i]? = some (t.set (j / 2 ^ i) w)
  | k, r, j, v, 0, hr, hj, _ => by
    refine ⟨r, v, ?_, ?_⟩
    · cases k <;> rfl
    · rw [Nat.pow_zero, Nat.div_one]
      cases k <;> rfl
  | 0, r, j, v, i + 1, _, _, hi => by omega
  | k + 1, r, j, v, i + 1, hr, hj, hi => by
    rw [KM.two_pow] at hr hj
    obtain ⟨w, hw⟩ := pairs_set (f := f) (v := v) hr hj
    obtain ⟨t, u, h1, h2⟩ := levs_set k (KM.pairs f r) (j / 2) w i (KM.pairs_len r hr) (by omega) (by omega)
    refine ⟨t, u, h1, ?_⟩
    show (KM.levs f k (KM.pairs f (r.set j v)))[i]? = _
    rw [hw, h2, Nat.div_div_eq_div_mul, ← KM.two_pow]
theorem levs_succ {f : Int → Int → Int} : ∀ (k : Nat) (r : List Int) (i : Nat) (s : List Int), i < k → (KM.levs f k r)[i]? = some s → (KM.levs f k r)[i + 1]? = some (KM.pairs f s)
  | 0, _, _, _, h, _ => by omega
  | k + 1, r, 0, s, _, h => by
    have e : r = s := by simpa [KM.levs] using h
    subst e
    show (KM.levs f k (KM.pairs f r))[0]? = _
    cases k <;> rfl
  | k + 1, r, i + 1, s, hi, h => levs_succ k (KM.pairs f r) i s (by omega) h
theorem levs_chg {f : Int → Int → Int} {k : Nat} {r : List Int} {j i : Nat} {v : Int} {s : List Int} (hr : r.length = 2 ^ k) (hj : j < 2 ^ k) (hi : i < k) (hs : (KM.levs f k (r.set j v))[i]? = some s) :
    2 * (j / 2 ^ (i + 1)) + 1 < s.length ∧ ∃ t, (KM.levs f k r)[i + 1]? = some t ∧ j / 2 ^ (i + 1) < t.length ∧ (KM.levs f k (r.set j v))[i + 1]? = some (t.set (j / 2 ^ (i + 1)) (f ((s[2 * (j / 2 ^ (i + 1))]?).getD 0) ((s[2 * (j / 2 ^ (i + 1)) + 1]?).getD 0))) := by
  obtain ⟨t, w, h1, h2⟩ := levs_set (f := f) k r j v (i + 1) hr hj (by omega)
  have h3 := levs_succ k _ i s hi hs
  have hsl := levs_at_len k (r.set j v) i s (by rw [List.length_set]; exact hr) hs
  have htl := levs_at_len k r (i + 1) t hr h1
  have hp : 2 ^ (k - i) = 2 * 2 ^ (k - (i + 1)) := by rw [← KM.two_pow]; congr 1; omega
  have hq : j / 2 ^ (i + 1) < 2 ^ (k - (i + 1)) := by
    rw [Nat.div_lt_iff_lt_mul (Nat.pow_pos (by decide)), ← Nat.pow_add, Nat.sub_add_cancel hi]
    exact hj
  generalize j / 2 ^ (i + 1) = a at *
  refine ⟨by rw [hsl, hp]; omega, t, h1, by rw [htl]; exact hq, ?_⟩
  rw [h2]
  rw [h2] at h3
  have e : t.set a w = KM.pairs f s := Option.some.inj h3
  have hx : (KM.pairs f s)[a]? = some w := by rw [← e, List.getElem?_set_self (by rw [htl]; exact hq)]
  have h4 : s[2 * a]? = some ((s[2 * a]?).getD 0) := by rw [List.getElem?_eq_getElem (by rw [hsl, hp]; omega)]; rfl
  have h5 : s[2 * a + 1]? = some ((s[2 * a + 1]?).getD 0) := by rw [List.getElem?_eq_getElem (by rw [hsl, hp]; omega)]; rfl
  rw [KM.pairs_get s h4 h5] at hx
  rw [Option.some.inj hx]
theorem levs_dg {m : Int} (hm : 0 < m) : ∀ (k : Nat) (r : List Int), AllDg m r → ∀ s ∈ KM.levs (foldI m) k r, AllDg m s
  | 0, r, h, s, hs => by
    have : s = r := by simpa [KM.levs] using hs
    rw [this]; exact h
  | k + 1, r, h, s, hs => by
    rcases List.mem_cons.mp hs with rfl | hs
    · exact h
    · exact levs_dg hm k _ (pairs_dg hm r) s hs
theorem leaves_dg {m : Int} (hm : 0 < m) (ws : List Int) : AllDg m (ws.map (leafI m)) := fun x hx => by
  obtain ⟨y, _, rfl⟩ := List.mem_map.mp hx
  exact leaf_dg hm
section
variable {C p dg wa la : Addr} {ps : List Addr} {m : Int} {ws : List Int} {H : Hp} {Q : VK}
theorem MemAt.row (h : MemAt C H p dg wa la ps m ws) {i : Nat} {s : List Int} (hs : (KM.levs (foldI m) 8 (ws.map (leafI m)))[i]? = some s) : ∃ q, ps[i]? = some q ∧ H q = some (.lst (iv s)) :=
  let ⟨q, a, _, b⟩ := h.rows.get hs; ⟨q, a, b⟩
end
def memRoot (m : Int) (ws : List Int) : Int := KM.rootM (foldI m) 8 (ws.map (leafI m))
def memPath (m : Int) (ws : List Int) (k : Nat) : List Int := KM.pathM (foldI m) 8 (ws.map (leafI m)) k
def wordAt (ws : List Int) (k : Int) : Int := (ws[(k % 256).toNat]?).getD 0
theorem nat256 (k : Int) : ∃ j : Nat, k % 256 = (j : Int) ∧ j < 256 ∧ (k % 256).toNat = j := by
  have a := Int.emod_nonneg k (show (256 : Int) ≠ 0 by decide)
  have b := Int.emod_lt_of_pos k (show (0 : Int) < 256 by decide)
  exact ⟨(k % 256).toNat, by omega, by omega, rfl⟩
def sp_Memory_word (C : Addr) : Sp := fun vs H Q _ => ∃ (p dg wa la : Addr) (ps : List Addr) (m : Int) (ws : List Int) (k : Int), vs = [.ref p, .int k] ∧ MemAt C H p dg wa la ps m ws ∧ Q (.int (wordAt ws k)) H
theorem ok_Memory_word (T : Txt K mg) : FnOk P w K mg base CX0 1 T.f_Memory_word.f T.f_Memory_word.fd ["self", "place"] (sp_Memory_word T.c_Memory.C) := by
  refine T.f_Memory_word.F.ok sc_Memory_word (fun vs H Q E h => ?_) (fun cdv A outer s H vs Q E hr h => ?_)
  · obtain ⟨p, dg, wa, la, ps, m, ws, k, rfl, hm, q⟩ := h
    rfl
  obtain ⟨p, dg, wa, la, ps, m, ws, k, rfl, hm, q⟩ := h
  have nd := sc_Memory_word.nd
  refine Kit.ok_body (σ := [some _, some _]) ((pss_one (ps_ret (pe_ix (Kit.ixL K) (Kit.kFld K (pv 0) rfl) (pe_op op_mod (pv 1) (pe_glob (v := .int 256) rfl T.g_PLACES ⟨_, rfl⟩)) (fun _ _ => rfl))))) rfl ?_
  obtain ⟨dx, hp⟩ := hm.at_
  obtain ⟨j, h1, h2, h3⟩ := nat256 k
  unfold wordAt at q
  walk_at "wp"
  refine Kit.w_ixL (Evl.sq_of hm.wds) (iv_at' j h1 (by rw [hm.len]; exact h2)) ?_
  rw [← h3]
  exact q
def sp_Memory_words (C : Addr) : Sp := fun vs H Q _ => ∃ (p dg wa la : Addr) (ps : List Addr) (m : Int) (ws : List Int), vs = [.ref p] ∧ MemAt C H p dg wa la ps m ws ∧ ∀ t H', H t = none → Evl.Ex H H' → H' t = some (.tup (iv ws)) → Q (.ref t) H'
theorem ok_Memory_words (T : Txt K mg) : FnOk P w K mg base CX0 1 T.f_Memory_words.f T.f_Memory_words.fd ["self"] (sp_Memory_words T.c_Memory.C) := by
  refine T.f_Memory_words.F.ok sc_Memory_words (fun vs H Q E h => ?_) (fun cdv A outer s H vs Q E hr h => ?_)
  · obtain ⟨p, dg, wa, la, ps, m, ws, rfl, hm, q⟩ := h
    rfl
  obtain ⟨p, dg, wa, la, ps, m, ws, rfl, hm, q⟩ := h
  have nd := sc_Memory_words.nd
  refine Kit.ok_body (σ := [some _]) ((pss_one (ps_ret (pe_callTy (Kit.kTuple K) (by rfl) T.z_tuple (by decide +kernel) (pa_cons (Kit.kFld K (pv 0) rfl) pa_nil))))) rfl ?_
  obtain ⟨dx, hp⟩ := hm.at_
  walk_at "wp"
  refine Kit.w_tuple (Evl.sq_of hm.wds) fun t H' n e f => ?_
  exact q t H' n e f
def sp_Memory_root (C : Addr) : Sp := fun vs H Q _ => ∃ (p dg wa la : Addr) (ps : List Addr) (m : Int) (ws : List Int), vs = [.ref p] ∧ MemAt C H p dg wa la ps m ws ∧ Q (.int (memRoot m ws)) H
theorem ok_Memory_root (T : Txt K mg) : FnOk P w K mg base CX0 1 T.f_Memory_root.f T.f_Memory_root.fd ["self"] (sp_Memory_root T.c_Memory.C) := by
  refine T.f_Memory_root.F.ok sc_Memory_root (fun vs H Q E h => ?_) (fun cdv A outer s H vs Q E hr h => ?_)
  · obtain ⟨p, dg, wa, la, ps, m, ws, rfl, hm, q⟩ := h
    rfl
  obtain ⟨p, dg, wa, la, ps, m, ws, rfl, hm, q⟩ := h
  have nd := sc_Memory_root.nd
  refine Kit.ok_body (σ := [some _]) ((pss_one (ps_ret (pe_ix (Kit.ixL K) (pe_ix (Kit.ixL K) (Kit.kFld K (pv 0) rfl) (pe_un un_neg pe_int) (fun _ _ => rfl)) pe_int (fun _ _ => rfl))))) rfl ?_
  obtain ⟨dx, hp⟩ := hm.at_
  obtain ⟨c, h1, h2⟩ := hm.row (levs_last 8 (ws.map (leafI m)) (by rw [List.length_map, hm.len]))
  walk_at "wp"
  refine Kit.w_ixL (Evl.sq_of hm.lvl) (ref_last hm.plen h1) ?_
  walk_at "wp"
  exact q
def sp_Memory_path (C : Addr) : Sp := fun vs H Q _ => ∃ (p dg wa la : Addr) (ps : List Addr) (m : Int) (ws : List Int) (k : Int), vs = [.ref p, .int k] ∧ MemAt C H p dg wa la ps m ws ∧ ∀ t H', H t = none → Evl.Ex H H' → H' t = some (.tup (iv (memPath m ws (k % 256).toNat))) → Q (.ref t) H'
theorem ok_Memory_path (T : Txt K mg) : FnOk P w K mg base CX0 2 T.f_Memory_path.f T.f_Memory_path.fd ["self", "place"] (sp_Memory_path T.c_Memory.C) := by
  have G_path_in := ok_path_in (P := P) (w := w) (base := base) T
  refine T.f_Memory_path.F.ok sc_Memory_path (fun vs H Q E h => ?_) (fun cdv A outer s H vs Q E hr h => ?_)
  · obtain ⟨p, dg, wa, la, ps, m, ws, k, rfl, hm, q⟩ := h
    rfl
  obtain ⟨p, dg, wa, la, ps, m, ws, k, rfl, hm, q⟩ := h
  have nd := sc_Memory_path.nd
  have hr1 : Room 1 _ := hr.mono (by decide)
  refine Kit.ok_body (σ := [some _, some _]) ((pss_one (ps_ret (pe_call G_path_in hr1 (by rfl) T.f_path_in.g T.f_path_in.F.kp T.f_path_in.b .nil pass0 (pa_cons (Kit.kFld K (pv 0) rfl) (pa_cons (pe_op op_mod (pv 1) (pe_glob (v := .int 256) rfl T.g_PLACES ⟨_, rfl⟩)) pa_nil)))))) rfl ?_
  obtain ⟨dx, hp⟩ := hm.at_
  obtain ⟨j, h1, h2, h3⟩ := nat256 k
  rw [h3] at q
  walk_at "wp"
  rw [h1]
  exact ⟨la, ps, foldI m, ws.map (leafI m), 8, j, rfl, hm.lvl, hm.plen, fun i s hs => hm.row hs, by rw [List.length_map, hm.len], by decide, h2, q⟩
/-- the texts of a change -/
def chgG (B : List (List Int)) (j i : Nat) : Tx := .fd (((((B[i]?).getD [])[2 * (j / 2 ^ (i + 1))]?).getD 0)) (((((B[i]?).getD [])[2 * (j / 2 ^ (i + 1)) + 1]?).getD 0))
def chgX (m : Int) (ws : List Int) (j : Nat) (v : Int) : List Tx := .lf v :: (List.range 8).map (chgG (KM.levs (foldI m) 8 (ws.map (leafI m))) j)
def sp_Memory_change (P : Program) (w : World) (C CD CB : Addr) : Sp := fun vs H Q _ => ∃ (p dg pb wa la : Addr) (ps : List Addr) (m : Int) (ws : List Int) (k v : Int) (l : List Tx), vs = [.ref p, .int k, .int v] ∧ MemAt C H p dg wa la ps m ws ∧ p ≠ pb ∧ DigB CD H dg pb m ∧ BkG P w CB H pb m l ∧ l.length ≤ 90000 ∧
  ∀ H' l', KeepF pb (wa :: ps) H H' → MemAt C H' p dg wa la ps m (ws.set (k % 256).toNat v) → BkG P w CB H' pb m l' → Ext l l' (chgX m (ws.set (k % 256).toNat v) (k % 256).toNat v) 9 → Q .non H'
theorem ok_Memory_change (T : Txt K mg) : FnOk P w K mg base CX0 4 T.f_Memory_change.f T.f_Memory_change.fd ["self", "place", "word"] (sp_Memory_change P w T.c_Memory.C T.c_Digests.C T.c_Book.C) := by
  have G_Digests_fold := ok_Digests_fold (P := P) (w := w) (base := base) T
  have G_Digests_leaf := ok_Digests_leaf (P := P) (w := w) (base := base) T
  refine T.f_Memory_change.F.ok sc_Memory_change (fun vs H Q E h => ?_) (fun cdv A outer s H vs Q E hr h => ?_)
  · obtain ⟨p, dg, pb, wa, la, ps, m, ws, k, v, l0, rfl, hm, hpb, hd, hbk, hl0, q⟩ := h
    rfl
  obtain ⟨p, dg, pb, wa, la, ps, m, ws, k, v, l0, rfl, hm, hpb, hd, hbk, hl0, q⟩ := h
  have nd := sc_Memory_change.nd
  have hr3 : Room 3 _ := hr.mono (by decide)
  refine Kit.ok_body (σ := [some _, some _, some _, none, none, none]) ((pss_cons (ps_set (i := 3) nd rfl (Or.inl rfl) (pe_op op_mod (pv 1) (pe_glob (v := .int 256) rfl T.g_PLACES ⟨_, rfl⟩)))
    (pss_cons (ps_asg (pv 2) (pg_sub (Kit.kFld K (pv 0) rfl) (pv 3) set_list))
    (pss_cons (ps_asg (pe_meth (Kit.kFld K (pv 0) rfl) T.c_Digests.cl T.m_Digests_leaf G_Digests_leaf hr3 T.f_Digests_leaf.b .nil pass0 (pa_cons (pv 2) pa_nil)) (pg_sub (pe_ix (Kit.ixL K) (Kit.kFld K (pv 0) rfl) pe_int (fun _ _ => rfl)) (pv 3) set_list))
    (pss_one (ps_for PassesOwn.never rfl (pi_range2 (by rfl) T.z_range (pa_cons pe_int (pa_cons (pe_callB (Kit.kLen K) (by rfl) T.z_len (by decide +kernel) (pa_cons (Kit.kFld K (pv 0) rfl) pa_nil)) pa_nil))) (pg_name (i := 4) nd rfl (Or.inl rfl))
    (pss_cons (ps_set (i := 3) nd rfl (Or.inl rfl) (pe_op op_fdiv (pv 3) pe_int))
    (pss_cons (ps_set (i := 5) nd rfl (Or.inl rfl) (pe_ix (Kit.ixL K) (Kit.kFld K (pv 0) rfl) (pe_op op_sub (pv 4) pe_int) (fun _ _ => rfl)))
    (pss_one (ps_asg (pe_meth (Kit.kFld K (pv 0) rfl) T.c_Digests.cl T.m_Digests_fold G_Digests_fold hr3 T.f_Digests_fold.b .nil pass0 (pa_cons (pe_ix (Kit.ixL K) (pv 5) (pe_op op_mul pe_int (pv 3)) (fun _ _ => rfl)) (pa_cons (pe_ix (Kit.ixL K) (pv 5) (pe_op op_add (pe_op op_mul pe_int (pv 3)) pe_int) (fun _ _ => rfl)) pa_nil))) (pg_sub (pe_ix (Kit.ixL K) (Kit.kFld K (pv 0) rfl) (pv 4) (fun _ _ => rfl)) (pv 3) set_list))))))))))) rfl ?_
  try dsimp only [L2.cxOf, L2.Cx.nox]
  obtain ⟨dx, hp⟩ := hm.at_
  obtain ⟨j, h1, h2, h3⟩ := nat256 k
  rw [h3] at q
  walk_at "wp"
  rw [h1]
  have hF := hm.mem_lst
  have hpF : p ∉ wa :: ps := fun z => by obtain ⟨ys, hy⟩ := hF p z; rw [hp] at hy; cases hy
  have hlF : la ∉ wa :: ps := fun z => (List.mem_cons.mp z).elim (fun z => hm.nwl z.symm) hm.nlp
  obtain ⟨pC, pdx, pfs, hpbI⟩ := hbk.pbI
  have hlN : la ≠ pb := by rintro rfl; rw [hm.lvl] at hpbI; cases hpbI
  have hpK : ∀ {Y : Hp}, KeepF pb (wa :: ps) H Y → Y p = some (.ins T.c_Memory.C dx (fl_Memory (.ref dg) (.ref wa) (.ref la))) := fun k => k.1 p _ hpb hpF hp rfl
  have hlK : ∀ {Y : Hp}, KeepF pb (wa :: ps) H Y → Y la = some (.lst (ps.map V.ref)) := fun k => k.1 la _ hlN hlF hm.lvl rfl
  have hL : (ws.map (leafI m)).length = 2 ^ 8 := by rw [List.length_map, hm.len]
  have hset : (ws.map (leafI m)).set j (leafI m v) = (ws.set j v).map (leafI m) := (List.map_set).symm
  refine Kit.w_setL hm.wds (Evl.ixN_nat (by rw [iv_len, hm.len]; exact h2)) (ys := iv (ws.set j v)) (by unfold iv; rw [List.map_set]) fun H1 m1 f1 => ?_
  have b1 : KeepF pb (wa :: ps) H H1 := KeepF.one m1 (by simp) f1
  have hp1 := hpK b1
  have hd1 : DigB T.c_Digests.C H1 dg pb m := hd.but m1 hm.wds
  have hb1 : BkG P w T.c_Book.C H1 pb m l0 := hbk.but m1 hm.wds
  walk_at "wp"
  refine use_leafG hd1 hb1 (by omega) fun H2 k2 bk2 => ?_
  obtain ⟨q0, hq0, hq1⟩ := hm.row (i := 0) (s := ws.map (leafI m)) rfl
  have hq0w : q0 ≠ wa := fun z => hm.nwp (z ▸ List.mem_of_getElem? hq0)
  have hq0F : q0 ∈ wa :: ps := List.mem_cons_of_mem _ (List.mem_of_getElem? hq0)
  have hq2 : H2 q0 = some (.lst (iv (ws.map (leafI m)))) := keep_lst hb1 k2 (m1 _ _ hq0w hq1)
  have B2 : KeepF pb (wa :: ps) H H2 := b1.trans (.of k2)
  have hl2 := hlK B2
  have hp2 := hpK B2
  walk_at "wp"
  refine Kit.w_ixL (Evl.sq_of hl2) (ref_at (k := 0) hq0) ?_
  walk_at "wp"
  refine Kit.w_setL hq2 (Evl.ixN_nat (by rw [iv_len, hL]; exact h2)) (ys := iv ((ws.set j v).map (leafI m))) (by rw [← hset]; unfold iv; rw [List.map_set]) fun H3 m3 f3 => ?_
  have B3 : KeepF pb (wa :: ps) H H3 := B2.trans (KeepF.one m3 hq0F f3)
  have r3 : RowsAt h0 H3 ps ((KM.levs (foldI m) 8 (ws.map (leafI m))).set 0 ((ws.set j v).map (leafI m))) := RowsAt.set m3 f3 (RowsAt.keep hb1 k2 (hm.rows.but m1 hm.nwp)) hq0
  have w3 : H3 wa = some (.lst (iv (ws.set j v))) := m3 _ _ hq0w.symm (keep_lst hb1 k2 f1)
  have bk3 := bk2.but m3 hq2
  have hd3 := (hd1.keep k2).but m3 hq2
  have hl3 := hlK B3
  have hp3 := hpK B3
  have hl9 : (ps.map V.ref).length = 9 := by rw [List.length_map]; exact hm.plen
  walk_at "wp"
  rw [hl9]
  have hchg : chgX m (ws.set j v) j v = .lf v :: (List.range 8).map (chgG (KM.levs (foldI m) 8 ((ws.set j v).map (leafI m))) j) := rfl
  rw [hchg] at q
  generalize hA : KM.levs (foldI m) 8 (ws.map (leafI m)) = A at *
  generalize hB : KM.levs (foldI m) 8 ((ws.set j v).map (leafI m)) = B at *
  have hAl : A.length = 9 := by rw [← hA]; exact lev_len _
  have hBl : B.length = 9 := by rw [← hB]; exact lev_len _
  have hB0 : B[0]? = some ((ws.set j v).map (leafI m)) := by rw [← hB]; rfl
  refine Kit.f_rng2 (lo := 1) (n := 9) (by decide) (fun i σ' H' => ∃ y4 y5 rs l2, σ' = [some (.ref p), some (.int k), some (.int v), some (.int ((j / 2 ^ i : Nat) : Int)), y4, y5] ∧ KeepF pb (wa :: ps) H H' ∧ DigB T.c_Digests.C H' dg pb m ∧ BkG P w T.c_Book.C H' pb m l2 ∧ Ext (addX l0 (.lf v)) l2 (((List.range 8).map (chgG B j)).take i) i ∧ H' wa = some (.lst (iv (ws.set j v))) ∧ RowsAt h0 H' ps rs ∧ rs.length = 9 ∧ (∀ h, h ≤ i → rs[h]? = B[h]?) ∧ (∀ h, i < h → rs[h]? = A[h]?))
    ⟨_, _, _, _, by rw [Nat.pow_zero, Nat.div_one], B3, hd3, bk3, Ext.refl _, w3, r3, by rw [List.length_set]; exact hAl, fun h hh => ?_, fun h hh => ?_⟩ ?_ ?_
  · rw [Nat.le_zero.mp hh, List.getElem?_set_self (by rw [hAl]; decide), hB0]
  · rw [List.getElem?_set_ne (by omega)]
  · rintro i σ' H4 hi ⟨y4, y5, rs, l2, rfl, b4, hd4, bk4, x4, w4, r4, hrl, hlo, hhi⟩
    have hi8 : i < 8 := by omega
    have hp4 := hpK b4
    have hl4 := hlK b4
    have hBi : B[i]? = some B[i] := List.getElem?_eq_getElem (by omega)
    generalize hs : B[i] = s at hBi
    have hBi2 : (KM.levs (foldI m) 8 ((ws.map (leafI m)).set j (leafI m v)))[i]? = some s := by rw [hset, hB]; exact hBi
    obtain ⟨hs1, t, ht1, ht2, ht3⟩ := levs_chg (f := foldI m) hL h2 hi8 hBi2
    rw [hset, hB] at ht3
    rw [hA] at ht1
    obtain ⟨qb, hb1, _, hb2⟩ := r4.get (i := i) (r := s) (by rw [hlo i (Nat.le_refl i)]; exact hBi)
    obtain ⟨qc, hc1, _, hc2⟩ := r4.get (i := i + 1) (r := t) (by rw [hhi (i + 1) (Nat.lt_succ_self i)]; exact ht1)
    have hsd : AllDg m s := levs_dg hd.pos 8 _ (leaves_dg hd.pos (ws.set j v)) s (by rw [hB]; exact List.mem_of_getElem? hBi)
    have hz : ((j / 2 ^ i : Nat) : Int) / 2 = ((j / 2 ^ (i + 1) : Nat) : Int) := int_half
    have hg : chgG B j i = .fd ((s[2 * (j / 2 ^ (i + 1))]?).getD 0) ((s[2 * (j / 2 ^ (i + 1)) + 1]?).getD 0) := by unfold chgG; rw [hBi]; rfl
    have htk : ((List.range 8).map (chgG B j)).take (i + 1) = ((List.range 8).map (chgG B j)).take i ++ [chgG B j i] := by
      rw [List.take_add_one, List.getElem?_map, List.getElem?_range hi8]
      rfl
    have hxl := x4.len
    have hal := (Ext.add l0 (.lf v)).len
    show Kit.Sm _ _ _ _ _ _ _
    walk_at "wp"
    refine Kit.w_ixL (Evl.sq_of hl4) (by rw [show (1 : Int) + (i : Int) - 1 = (i : Int) by omega]; exact ref_at hb1) ?_
    walk_at "wp"
    rw [hz]
    generalize j / 2 ^ (i + 1) = a at *
    refine Kit.w_ixL (Evl.sq_of hb2) (iv_at' (2 * a) (by omega) (by omega)) ?_
    walk_at "wp"
    refine Kit.w_ixL (Evl.sq_of hb2) (iv_at' (2 * a + 1) (by omega) (by omega)) ?_
    walk_at "wp"
    refine use_foldG hd4 bk4 (hsd.at (by omega)) (hsd.at (by omega)) (by omega) fun H5 k5 bk5 => ?_
    have b5 := b4.trans (.of k5)
    have hp5 := hpK b5
    have hc5 := keep_lst bk4 k5 hc2
    walk_at "wp"
    refine Kit.w_ixL (Evl.sq_of (hlK b5)) (by rw [show (1 : Int) + (i : Int) = ((i + 1 : Nat) : Int) by omega]; exact ref_at hc1) ?_
    walk_at "wp"
    refine Kit.w_setL hc5 (Evl.ixN_nat (by rw [iv_len]; exact ht2)) (ys := iv (t.set a (foldI m ((s[2 * a]?).getD 0) ((s[2 * a + 1]?).getD 0)))) (by unfold iv; rw [List.map_set]) fun H6 m6 f6 => ?_
    have hcF : qc ∈ wa :: ps := List.mem_cons_of_mem _ (List.mem_of_getElem? hc1)
    have hcw : wa ≠ qc := fun z => hm.nwp (z ▸ List.mem_of_getElem? hc1)
    refine ⟨_, _, rs.set (i + 1) (t.set a (foldI m ((s[2 * a]?).getD 0) ((s[2 * a + 1]?).getD 0))), _, rfl, b5.trans (KeepF.one m6 hcF f6), (hd4.keep k5).but m6 hc5, bk5.but m6 hc5, ?_, m6 _ _ hcw (keep_lst bk4 k5 w4), RowsAt.set m6 f6 (RowsAt.keep bk4 k5 r4) hc1, by rw [List.length_set]; exact hrl, fun h hh => ?_, fun h hh => ?_⟩
    · rw [htk, hg]
      exact x4.trans (Ext.add _ _)
    · by_cases he : h = i + 1
      · rw [he, List.getElem?_set_self (by omega), ht3]
      · rw [List.getElem?_set_ne (by omega)]
        exact hlo h (by omega)
    · rw [List.getElem?_set_ne (by omega)]
      exact hhi h (by omega)
  · rintro σ' H4 ⟨y4, y5, rs, l2, rfl, b4, hd4, bk4, x4, w4, r4, hrl, hlo, hhi⟩
    have hrs : rs = B := by
      apply List.ext_getElem?
      intro h
      by_cases hh : h ≤ 8
      · exact hlo h hh
      · rw [List.getElem?_eq_none (by omega), List.getElem?_eq_none (by omega)]
    subst hrs
    walk_at "wp"
    exact q H4 l2 b4 ⟨⟨dx, hpK b4⟩, w4, by rw [List.length_set]; exact hm.len, hlK b4, by rw [hB]; exact r4, hm.nwp, hm.nlp, hm.nwl⟩ bk4 (((Ext.add l0 (.lf v)).trans x4).of (fun t => Iff.rfl) (by decide))

/-! ### draws out of a bag of five: any value in its bounds -/
def Bag5 (H : Hp) (p : Addr) : Prop := ∃ (rest seed place : Int) (c : Addr) (cells : List Int), H p = some (.lst [.int rest, .int seed, .int place, .int 0, .ref c]) ∧ H c = some (.lst (cells.map V.int)) ∧ 0 ≤ place ∧ c ≠ p
theorem Bag5.ex {p : Addr} {H H' : Hp} (e : Evl.Ex H H') (b : Bag5 H p) : Bag5 H' p := let ⟨r, s, k, c, cs, h1, h2, h3, h4⟩ := b; ⟨r, s, k, c, cs, e _ _ h1, e _ _ h2, h3, h4⟩
theorem Bag5.is {p : Addr} {H : Hp} (b : Bag5 H p) : ∃ o, H p = some o := let ⟨_, _, _, _, _, h, _⟩ := b; ⟨_, h⟩
def sp_law_bag (K : PySem.W.Frag) : Sp := fun vs H Q _ => ∃ (a : Addr) (ns : List Int), vs = [.ref a] ∧ SqL K H a (ns.map V.int) ∧ ∀ p H', H p = none → Evl.Ex H H' → Bag5 H' p → Q (.ref p) H'
theorem ok_law_bag (T : Txt K mg) : FnOk P w K mg base CX0 1 T.f_law_bag.f T.f_law_bag.fd ["script"] (sp_law_bag K) := by
  refine T.f_law_bag.F.ok sc_law_bag (fun vs H Q E h => ?_) (fun cdv A outer s H vs Q E hr h => ?_)
  · obtain ⟨a, ns, rfl, hS, q⟩ := h
    rfl
  obtain ⟨a, ns, rfl, hS, q⟩ := h
  have nd := sc_law_bag.nd
  refine Kit.ok_body (σ := [some _]) ((pss_one (ps_ret (pe_lst (pa_cons pe_int (pa_cons pe_int (pa_cons pe_int (pa_cons pe_int (pa_cons (pe_callTy (Kit.kList K) (by rfl) T.z_list (by decide +kernel) (pa_cons (pv 0) pa_nil)) pa_nil))))))))) rfl ?_
  walk_at "wp"
  rename_i c H1 n1 e1 f1 p H2 n2 e2 f2
  exact q p H2 (Evl.fresh_back e1 n2) (e1.trans e2) ⟨0, 7, 0, c, ns, f2, e2 _ _ f1, Int.le_refl 0, ne_of_none f1 n2⟩
def sp_law_draw : Sp := fun vs H Q _ => ∃ (p : Addr) (m : Int), vs = [.ref p, .int m] ∧ Bag5 H p ∧ 0 < m ∧ m < 2 ^ 250 ∧ ∀ v H', 0 ≤ v → v < m → Kit.ExBut p H H' → Bag5 H' p → Q (.int v) H'
theorem use_draw {p : Addr} {m : Int} {H : Hp} {Q : VK} {E : XK} (b : Bag5 H p) (h0 : 0 < m) (h1 : m < 2 ^ 250) (k : ∀ v H', 0 ≤ v → v < m → Kit.ExBut p H H' → Bag5 H' p → Q (.int v) H') : sp_law_draw [.ref p, .int m] H Q E := ⟨p, m, rfl, b, h0, h1, k⟩
theorem big_nat : (0 : Int) ≤ 10 ^ (18 : Int).toNat := by decide
theorem ok_law_draw (T : Txt K mg) : FnOk P w K mg base CX0 1 T.f_law_draw.f T.f_law_draw.fd ["bag", "many"] (sp_law_draw) := by
  refine T.f_law_draw.F.ok sc_law_draw (fun vs H Q E h => ?_) (fun cdv A outer s H vs Q E hr h => ?_)
  · obtain ⟨p, m, rfl, ⟨r, s, k, c, cs, hp, hc, hk, hcp⟩, hm0, hm1, q⟩ := h
    rfl
  obtain ⟨p, m, rfl, ⟨r, s, k, c, cs, hp, hc, hk, hcp⟩, hm0, hm1, q⟩ := h
  have nd := sc_law_draw.nd
  refine Kit.ok_body (σ := [some _, some _, none, none, none, none]) ((pss_cons (ps_if (pt_cmpR op_eq (pe_ix (Kit.ixL K) (pv 0) pe_int (fun _ _ => rfl)) pe_int (nomark _))
    (pss_cons (ps_set (i := 2) nd rfl (Or.inl rfl) (pe_callTy Kit.k_int (by rfl) T.z_int (by decide +kernel) (pa_cons (pe_ix (Kit.ixL K) (pv 0) pe_int (fun _ _ => rfl)) pa_nil)))
    (pss_cons (ps_set (i := 3) nd rfl (Or.inl rfl) (pe_ix (Kit.ixL K) (pv 0) pe_int (fun _ _ => rfl)))
    (pss_cons (ps_if (pt_cmpR op_lt (pe_ix (Kit.ixL K) (pv 0) pe_int (fun _ _ => rfl)) (pe_callB (Kit.kLen K) (by rfl) T.z_len (by decide +kernel) (pa_cons (pv 3) pa_nil)) (nomark _))
    (pss_one (ps_set (i := 2) nd rfl (Or.inl rfl) (pe_callTy Kit.k_int (by rfl) T.z_int (by decide +kernel) (pa_cons (pe_ix (Kit.ixL K) (pv 3) (pe_ix (Kit.ixL K) (pv 0) pe_int (fun _ _ => rfl)) (fun _ _ => rfl)) pa_nil))))
    pss_nil)
    (pss_cons (ps_asg (pe_op op_add (pe_ix (Kit.ixL K) (pv 0) pe_int (fun _ _ => rfl)) pe_int) (pg_sub (pv 0) pe_int set_list))
    (pss_cons (ps_set (i := 4) nd rfl (Or.inl rfl) (pe_op op_mod (pe_callTy Kit.k_int (by rfl) T.z_int (by decide +kernel) (pa_cons (pe_op op_add (pe_op op_add (pe_op op_add (pe_op op_mul (pe_ix (Kit.ixL K) (pv 0) pe_int (fun _ _ => rfl)) pe_int) (pe_op op_mul (pv 2) pe_int)) (pe_op op_mul (pe_ix (Kit.ixL K) (pv 0) pe_int (fun _ _ => rfl)) pe_int)) pe_int) pa_nil)) pe_int))
    (pss_cons (ps_asg (pe_op op_add (pe_op op_mul (pv 4) pe_int) (pe_op op_mod (pe_callTy Kit.k_int (by rfl) T.z_int (by decide +kernel) (pa_cons (pe_op op_add (pe_op op_mul (pv 4) (pv 4)) (pv 2)) pa_nil)) pe_int)) (pg_sub (pv 0) pe_int set_list))
    (pss_cons (ps_if (pt_cmpR op_ge (pv 2) (pe_op op_pow pe_int pe_int) (nomark _))
    (pss_one (ps_asg (pv 2) (pg_sub (pv 0) pe_int set_list)))
    pss_nil)
    (pss_one (ps_asg (pv 4) (pg_sub (pv 0) pe_int set_list))))))))))
    pss_nil)
    (pss_cons (ps_set (i := 5) nd rfl (Or.inl rfl) (pe_ix (Kit.ixL K) (pv 0) pe_int (fun _ _ => rfl)))
    (pss_cons (ps_asg (pe_op op_fdivW (pv 5) (pv 1)) (pg_sub (pv 0) pe_int set_list))
    (pss_one (ps_ret (pe_op op_mod (pe_callTy Kit.k_int (by rfl) T.z_int (by decide +kernel) (pa_cons (pv 5) pa_nil)) (pv 1)))))))) rfl ?_
  walk_at "wp"
  · rename_i hlt
    obtain ⟨c0, hc0⟩ := Kit.int_at hk hlt
    refine Kit.w_ixL (Evl.sq_of hc) hc0 ?_
    walk_at "wp"
    all_goals exact q _ _ (Int.emod_nonneg _ (by omega)) (Int.emod_lt_of_pos _ hm0) (by walk_at "but") ⟨_, _, _, c, cs, (by assumption), Kit.but_get (by walk_at "but") hcp hc, (by omega), hcp⟩
  all_goals exact q _ _ (Int.emod_nonneg _ (by omega)) (Int.emod_lt_of_pos _ hm0) (by walk_at "but") ⟨_, _, _, c, cs, (by assumption), Kit.but_get (by walk_at "but") hcp hc, (by omega), hcp⟩
local macro_rules | `(tactic| walk_at "bag") => `(tactic| first | with_reducible assumption | exact Bag5.ex (by with_reducible assumption) (by walk_at "bag") | fail)
local macro_rules | `(tactic| walk_at "wp1") => `(tactic| ((with_reducible show sp_law_draw _ _ _ _); refine use_draw (by walk_at "bag") (by first | decide | omega) (by first | decide | omega) ?_; intro _ _ _ _ _ _))
def IsW (v : Int) : Prop := 0 ≤ v ∧ v < 65536
theorem Bag5.ne {p a : Addr} {H : Hp} (b : Bag5 H p) (h : H a = none) : a ≠ p := by
  obtain ⟨o, ho⟩ := b.is
  exact (ne_of_none ho h).symm
theorem pick_of {P : Int → Prop} {xs : List Int} (h : ∀ x ∈ xs, P x) {i : Int} (h0 : 0 ≤ i) (h1 : i < (xs.length : Int)) : ∃ x, atI (xs.map V.int) i = some (.int x) ∧ P x := by
  obtain ⟨j, rfl⟩ := Int.eq_ofNat_of_zero_le h0
  have hj : j < xs.length := by omega
  refine ⟨xs[j], L2.atI_nat (j := j) ?_, h _ (List.getElem_mem hj)⟩
  rw [List.getElem?_map, List.getElem?_eq_getElem hj]
  rfl
def sp_law_word : Sp := fun vs H Q _ => ∃ (p : Addr), vs = [.ref p] ∧ Bag5 H p ∧ ∀ v H', IsW v → Kit.ExBut p H H' → Bag5 H' p → Q (.int v) H'
theorem use_word {p : Addr} {H : Hp} {Q : VK} {E : XK} (b : Bag5 H p) (k : ∀ v H', IsW v → Kit.ExBut p H H' → Bag5 H' p → Q (.int v) H') : sp_law_word [.ref p] H Q E := ⟨p, rfl, b, k⟩
theorem ok_law_word (T : Txt K mg) : FnOk P w K mg base CX0 2 T.f_law_word.f T.f_law_word.fd ["bag"] (sp_law_word) := by
  have G_law_draw := ok_law_draw (P := P) (w := w) (base := base) T
  refine T.f_law_word.F.ok sc_law_word (fun vs H Q E h => ?_) (fun cdv A outer s H vs Q E hr h => ?_)
  · obtain ⟨p, rfl, hb, q⟩ := h
    rfl
  obtain ⟨p, rfl, hb, q⟩ := h
  have nd := sc_law_word.nd
  have hr1 : Room 1 _ := hr.mono (by decide)
  refine Kit.ok_body (σ := [some _, none]) ((pss_cons (ps_set (i := 1) nd rfl (Or.inl rfl) (pe_call G_law_draw hr1 (by rfl) T.f_law_draw.g T.f_law_draw.F.kp T.f_law_draw.b .nil pass0 (pa_cons (pv 0) (pa_cons pe_int pa_nil))))
    (pss_cons (ps_if (pt_cmpR op_lt (pv 1) pe_int (nomark _))
    (pss_one (ps_ret (pe_op op_add (pe_op op_mul pe_int (pe_call G_law_draw hr1 (by rfl) T.f_law_draw.g T.f_law_draw.F.kp T.f_law_draw.b .nil pass0 (pa_cons (pv 0) (pa_cons pe_int pa_nil)))) (pe_ix (Kit.ixL K) (pe_lst (pa_cons (pe_call G_law_draw hr1 (by rfl) T.f_law_draw.g T.f_law_draw.F.kp T.f_law_draw.b .nil pass0 (pa_cons (pv 0) (pa_cons pe_int pa_nil))) (pa_cons (pe_call G_law_draw hr1 (by rfl) T.f_law_draw.g T.f_law_draw.F.kp T.f_law_draw.b .nil pass0 (pa_cons (pv 0) (pa_cons pe_int pa_nil))) (pa_cons (pe_call G_law_draw hr1 (by rfl) T.f_law_draw.g T.f_law_draw.F.kp T.f_law_draw.b .nil pass0 (pa_cons (pv 0) (pa_cons pe_int pa_nil))) pa_nil)))) (pe_call G_law_draw hr1 (by rfl) T.f_law_draw.g T.f_law_draw.F.kp T.f_law_draw.b .nil pass0 (pa_cons (pv 0) (pa_cons pe_int pa_nil))) (fun _ _ => rfl)))))
    pss_nil)
    (pss_one (ps_ret (pe_ix (Kit.ixL K) (pe_lst (pa_cons pe_int (pa_cons pe_int (pa_cons pe_int (pa_cons pe_int (pa_cons (pe_call G_law_draw hr1 (by rfl) T.f_law_draw.g T.f_law_draw.F.kp T.f_law_draw.b .nil pass0 (pa_cons (pv 0) (pa_cons pe_int pa_nil))) pa_nil)))))) (pe_call G_law_draw hr1 (by rfl) T.f_law_draw.g T.f_law_draw.F.kp T.f_law_draw.b .nil pass0 (pa_cons (pv 0) (pa_cons pe_int pa_nil))) (fun _ _ => rfl))))))) rfl ?_
  walk_at "wp"
  · rename_i _ _ _ _ _ _ _ w1 _ wa wb _ _ x3 _ xa xb _ _ x2 _ ya yb _ _ x1 _ za zb _ bb pl Hl nl el fl i _ i0 i1 mi bi
    obtain ⟨z, hz, z0, z1⟩ := pick_of (P := fun x => 0 ≤ x ∧ x < 1024) (xs := [x3, x2, x1]) (by intro x hx; simp only [List.mem_cons, List.not_mem_nil, or_false] at hx; rcases hx with rfl | rfl | rfl <;> omega) i0 i1
    refine Kit.w_ixL (xs := [x3, x2, x1].map V.int) (Evl.sq_of (mi _ _ (bb.ne nl) fl)) hz ?_
    walk_at "wp"
    exact q _ _ ⟨by omega, by omega⟩ (by walk_at "but") bi
  · rename_i _ _ _ _ _ _ _ w1 _ wa wb _ bb pl Hl nl el fl i _ i0 i1 mi bi
    obtain ⟨z, hz, z0, z1⟩ := pick_of (P := fun x => 0 ≤ x ∧ x < 65536) (xs := [0, 1, 15, 65535, w1]) (by intro x hx; simp only [List.mem_cons, List.not_mem_nil, or_false] at hx; rcases hx with rfl | rfl | rfl | rfl | rfl <;> omega) i0 i1
    refine Kit.w_ixL (xs := [0, 1, 15, 65535, w1].map V.int) (Evl.sq_of (mi _ _ (bb.ne nl) fl)) hz ?_
    exact q _ _ ⟨z0, z1⟩ (by walk_at "but") bi
local macro_rules | `(tactic| walk_at "wp1") => `(tactic| ((with_reducible show sp_law_word _ _ _ _); refine use_word (by walk_at "bag") ?_; intro _ _ _ _ _))

theorem w_pick {K : PySem.W.Frag} {a : Addr} (xs : List Int) {ys : List V} {i : Int} {H : Hp} {Q : VK} (h : H a = some (.lst ys)) (e : ys = xs.map V.int) (h0 : 0 ≤ i) (h1 : i < (xs.length : Int)) (q : ∀ x, x ∈ xs → Q (.int x) H) : rIxL K (.ref a) (.int i) H Q := by
  subst e
  obtain ⟨x, hx, hm⟩ := pick_of (P := fun x => x ∈ xs) (fun x h => h) h0 h1
  exact Kit.w_ixL (Evl.sq_of h) hx (q x hm)
theorem bag_ne2 {p a : Addr} {H : Hp} (h : H a = none) (b : Bag5 H p) : a ≠ p := b.ne h
local macro_rules | `(tactic| walk_at "hpB") => `(tactic| first | assumption | exact Kit.ex_get (by with_reducible assumption) (by walk_at "hpB") | exact Kit.but_get (by with_reducible assumption) (bag_ne2 (by with_reducible assumption) (by walk_at "bag")) (by walk_at "hpB") | fail)
structure StartOk (m pc acc x mark out count : Int) : Prop where
  pc : 0 ≤ pc ∧ pc < 256
  acc : IsW acc
  x : IsW x
  mark : 0 ≤ mark ∧ mark < 7
  out : Dg m out
  count : 0 ≤ count ∧ count ≤ 16
theorem start_pc {a b x : Int} (ha : 0 ≤ a ∧ a < 16) (hb : 0 ≤ b ∧ b < 256) (h : x ∈ [0, 255, a, b]) : 0 ≤ x ∧ x < 256 := by
  simp only [List.mem_cons, List.not_mem_nil, or_false] at h
  rcases h with rfl | rfl | rfl | rfl <;> omega
theorem start_w {a x : Int} (ha : 0 ≤ a ∧ a < 65536) (h : x ∈ [0, 1, 3, 255, 256, 65535, a]) : IsW x := by
  simp only [List.mem_cons, List.not_mem_nil, or_false] at h
  rcases h with rfl | rfl | rfl | rfl | rfl | rfl | rfl <;> exact ⟨by omega, by omega⟩
theorem start_mark {a x : Int} (ha : 0 ≤ a ∧ a < 7) (h : x ∈ [0, 0, 0, 0, 0, 0, 0, a]) : 0 ≤ x ∧ x < 7 := by
  simp only [List.mem_cons, List.not_mem_nil, or_false] at h
  rcases h with rfl | rfl | rfl | rfl | rfl | rfl | rfl | rfl <;> omega
theorem start_out {m a x : Int} (hm : 100 < m) (ha : 0 ≤ a ∧ a < m) (h : x ∈ [7, m - 1, a]) : Dg m x := by
  simp only [List.mem_cons, List.not_mem_nil, or_false] at h
  rcases h with rfl | rfl | rfl <;> exact ⟨by omega, by omega⟩
theorem start_count {a x : Int} (ha : 0 ≤ a ∧ a < 17) (h : x ∈ [0, 15, 16, a]) : 0 ≤ x ∧ x ≤ 16 := by
  simp only [List.mem_cons, List.not_mem_nil, or_false] at h
  rcases h with rfl | rfl | rfl | rfl <;> omega
def sp_law_start : Sp := fun vs H Q _ => ∃ (p : Addr) (m : Int), vs = [.ref p, .int m] ∧ Bag5 H p ∧ 100 < m ∧ m < 2 ^ 62 ∧ ∀ t pc acc x mark out count H', StartOk m pc acc x mark out count → H t = none → Kit.ExBut p H H' → Bag5 H' p → H' t = some (.tup [.int pc, .int acc, .int x, .int mark, .int out, .int count]) → Q (.ref t) H'
theorem ok_law_start (T : Txt K mg) : FnOk P w K mg base CX0 2 T.f_law_start.f T.f_law_start.fd ["bag", "m"] (sp_law_start) := by
  have G_law_draw := ok_law_draw (P := P) (w := w) (base := base) T
  refine T.f_law_start.F.ok sc_law_start (fun vs H Q E h => ?_) (fun cdv A outer s H vs Q E hr h => ?_)
  · obtain ⟨p, m, rfl, hb, m0, m1, q⟩ := h
    rfl
  obtain ⟨p, m, rfl, hb, m0, m1, q⟩ := h
  have nd := sc_law_start.nd
  have hr1 : Room 1 _ := hr.mono (by decide)
  refine Kit.ok_body (σ := [some _, some _, none, none, none, none, none]) ((pss_cons (ps_set (i := 2) nd rfl (Or.inl rfl) (pe_lst (pa_cons pe_int (pa_cons pe_int (pa_cons pe_int (pa_cons pe_int (pa_cons pe_int (pa_cons pe_int (pa_cons (pe_call G_law_draw hr1 (by rfl) T.f_law_draw.g T.f_law_draw.F.kp T.f_law_draw.b .nil pass0 (pa_cons (pv 0) (pa_cons pe_int pa_nil))) pa_nil)))))))))
    (pss_cons (ps_set (i := 3) nd rfl (Or.inl rfl) (pe_ix (Kit.ixL K) (pe_lst (pa_cons pe_int (pa_cons pe_int (pa_cons (pe_call G_law_draw hr1 (by rfl) T.f_law_draw.g T.f_law_draw.F.kp T.f_law_draw.b .nil pass0 (pa_cons (pv 0) (pa_cons pe_int pa_nil))) (pa_cons (pe_call G_law_draw hr1 (by rfl) T.f_law_draw.g T.f_law_draw.F.kp T.f_law_draw.b .nil pass0 (pa_cons (pv 0) (pa_cons pe_int pa_nil))) pa_nil))))) (pe_call G_law_draw hr1 (by rfl) T.f_law_draw.g T.f_law_draw.F.kp T.f_law_draw.b .nil pass0 (pa_cons (pv 0) (pa_cons pe_int pa_nil))) (fun _ _ => rfl)))
    (pss_cons (ps_set (i := 4) nd rfl (Or.inl rfl) (pe_ix (Kit.ixL K) (pe_lst (pa_cons pe_int (pa_cons pe_int (pa_cons pe_int (pa_cons (pe_call G_law_draw hr1 (by rfl) T.f_law_draw.g T.f_law_draw.F.kp T.f_law_draw.b .nil pass0 (pa_cons (pv 0) (pa_cons pe_int pa_nil))) pa_nil))))) (pe_call G_law_draw hr1 (by rfl) T.f_law_draw.g T.f_law_draw.F.kp T.f_law_draw.b .nil pass0 (pa_cons (pv 0) (pa_cons pe_int pa_nil))) (fun _ _ => rfl)))
    (pss_cons (ps_set (i := 5) nd rfl (Or.inl rfl) (pe_ix (Kit.ixL K) (pe_lst (pa_cons pe_int (pa_cons (pe_op op_sub (pv 1) pe_int) (pa_cons (pe_call G_law_draw hr1 (by rfl) T.f_law_draw.g T.f_law_draw.F.kp T.f_law_draw.b .nil pass0 (pa_cons (pv 0) (pa_cons (pv 1) pa_nil))) pa_nil)))) (pe_call G_law_draw hr1 (by rfl) T.f_law_draw.g T.f_law_draw.F.kp T.f_law_draw.b .nil pass0 (pa_cons (pv 0) (pa_cons pe_int pa_nil))) (fun _ _ => rfl)))
    (pss_cons (ps_set (i := 6) nd rfl (Or.inl rfl) (pe_ix (Kit.ixL K) (pe_lst (pa_cons pe_int (pa_cons pe_int (pa_cons pe_int (pa_cons pe_int (pa_cons pe_int (pa_cons pe_int (pa_cons pe_int (pa_cons (pe_call G_law_draw hr1 (by rfl) T.f_law_draw.g T.f_law_draw.F.kp T.f_law_draw.b .nil pass0 (pa_cons (pv 0) (pa_cons pe_int pa_nil))) pa_nil))))))))) (pe_call G_law_draw hr1 (by rfl) T.f_law_draw.g T.f_law_draw.F.kp T.f_law_draw.b .nil pass0 (pa_cons (pv 0) (pa_cons pe_int pa_nil))) (fun _ _ => rfl)))
    (pss_one (ps_ret (pe_tup (pa_cons (pv 3) (pa_cons (pe_ix (Kit.ixL K) (pv 2) (pe_call G_law_draw hr1 (by rfl) T.f_law_draw.g T.f_law_draw.F.kp T.f_law_draw.b .nil pass0 (pa_cons (pv 0) (pa_cons pe_int pa_nil))) (fun _ _ => rfl)) (pa_cons (pe_ix (Kit.ixL K) (pv 2) (pe_call G_law_draw hr1 (by rfl) T.f_law_draw.g T.f_law_draw.F.kp T.f_law_draw.b .nil pass0 (pa_cons (pv 0) (pa_cons pe_int pa_nil))) (fun _ _ => rfl)) (pa_cons (pv 6) (pa_cons (pv 5) (pa_cons (pv 4) pa_nil))))))))))))))) rfl ?_
  walk_at "wp"
  rename_i w1 Ha wa wb ba bb1 ps H1 n1 e1 f1 w2 _ _ _ _ bb2 w3 _ _ _ _ bb3 pp H2 n2 e2 f2 i1 H3 i0 i3 m3 b3
  refine w_pick [0, 255, w2, w3] (by walk_at "hpB") rfl i0 i3 fun pc hpc => ?_
  walk_at "wp"
  rename_i w4 _ _ _ _ bb4 pc2 H4 n4 e4 f4 i5 H5 i6 i7 m5 b5
  refine w_pick [0, 15, 16, w4] (by walk_at "hpB") rfl i6 i7 fun count hcount => ?_
  walk_at "wp"
  rename_i w5 _ _ _ _ bb5 po H6 n6 e6 f6 j1 H7 j2 j3 m7 b7
  refine w_pick [7, m - 1, w5] (by walk_at "hpB") rfl j2 j3 fun out hout => ?_
  walk_at "wp"
  rename_i w6 _ _ _ _ bb6 pm H8 n8 e8 f8 j4 H9 j5 j6 m9 b9
  refine w_pick [0, 0, 0, 0, 0, 0, 0, w6] (by walk_at "hpB") rfl j5 j6 fun mark hmark => ?_
  walk_at "wp"
  rename_i j7 H10 j8 j9 m10 b10
  refine w_pick [0, 1, 3, 255, 256, 65535, w1] (by walk_at "hpB") rfl j8 j9 fun acc hacc => ?_
  walk_at "wp"
  rename_i k7 H11 k8 k9 m11 b11
  refine w_pick [0, 1, 3, 255, 256, 65535, w1] (by walk_at "hpB") rfl k8 k9 fun x hx => ?_
  walk_at "wp"
  rename_i t H12 n12 e12 f12
  have w1ok : 0 ≤ w1 ∧ w1 < 65536 := ⟨by assumption, by assumption⟩
  have w5ok : 0 ≤ w5 ∧ w5 < m := ⟨by assumption, by assumption⟩
  have w2ok : 0 ≤ w2 ∧ w2 < 16 := ⟨by assumption, by assumption⟩
  have w3ok : 0 ≤ w3 ∧ w3 < 256 := ⟨by assumption, by assumption⟩
  have w4ok : 0 ≤ w4 ∧ w4 < 17 := ⟨by assumption, by assumption⟩
  have w6ok : 0 ≤ w6 ∧ w6 < 7 := ⟨by assumption, by assumption⟩
  exact q t pc acc x mark out count H12 ⟨start_pc w2ok w3ok hpc, start_w w1ok hacc, start_w w1ok hx, start_mark w6ok hmark, start_out m0 w5ok hout, start_count w4ok hcount⟩ (by
    cases hz : H t with
    | none => rfl
    | some o =>
      have hz2 := (show Kit.ExBut p H H11 from by walk_at "but") t o (by rintro rfl; obtain ⟨o2, ho2⟩ := b11.is; rw [n12] at ho2; cases ho2) hz
      rw [n12] at hz2
      cases hz2) (by walk_at "but") (by walk_at "bag") f12

/-! ### a machine's step, in numbers -/
structure MSt where
  (pc acc x mark out count : Int)
  mem : List Int
  told : List Int
def MSt.at (s : MSt) (k : Int) : Int := (s.mem[k.toNat]?).getD 0
theorem tup_stay {H H' : Hp} {q a : Addr} {xs : List V} {o : HO} (m : Kit.ExBut q H H') (hq : H q = some o) (h1 : ∀ ys, o ≠ .tup ys) (h2 : ∀ z u, o ≠ .frz z u) (h : SqT K H a xs) : SqT K H' a xs := by
  rcases h with (h | ⟨z, h⟩) | h
  · exact .inl (.inl (m _ _ (by rintro rfl; rw [hq] at h; exact h1 _ (Option.some.inj h)) h))
  · exact .inl (.inr ⟨z, m _ _ (by rintro rfl; rw [hq] at h; exact h2 _ _ (Option.some.inj h)) h⟩)
  · exact .inr h
theorem mod256 (k : Int) : 0 ≤ k % 256 ∧ k % 256 < 256 := ⟨Int.emod_nonneg _ (by decide), Int.emod_lt_of_pos _ (by decide)⟩
def otherM (n a x : Int) : Int := if n = 5 ∨ n = 6 then (a + x) % 256 else a % 256
theorem other_in (n a x : Int) : 0 ≤ otherM n a x ∧ otherM n a x < 256 := by unfold otherM; split <;> exact mod256 _
def dataL (n a x : Int) : Option (Int × Bool) := if n = 4 ∨ n = 6 ∨ n = 26 then some (otherM n a x, true) else if (n = 3 ∨ n = 5 ∨ n = 8 ∨ n = 10 ∨ n = 27) ∨ (12 ≤ n ∧ n ≤ 22) then some (otherM n a x, false) else none
def MSt.moveM (m : Int) (s : MSt) (n a : Int) : MSt × Int :=
  if n = 23 ∨ (n = 24 ∧ s.acc = 0) ∨ (n = 25 ∧ ¬ s.acc = 0) then (s, a % 256)
  else if n = 26 then ({ s with mem := s.mem.set (otherM n a s.x).toNat ((s.pc + 1) % 256) }, (otherM n a s.x + 1) % 256)
  else if n = 27 then (s, s.at (otherM n a s.x) % 256)
  else if n = 28 ∧ s.count = 16 then ({ s with mark := 5 }, s.pc)
  else if n = 28 then ({ s with out := foldI m s.out (leafI m s.acc), count := s.count + 1, told := s.told ++ [s.acc] }, (s.pc + 1) % 256)
  else (s, (s.pc + 1) % 256)
def intOf : V → Int
  | .int i => i
  | _ => 0
def accL (n a acc d : Int) : Int := if 12 ≤ n ∧ n ≤ 22 then intOf (opV (sgOf (nm n)) acc d) else if n = 2 then a else if n = 3 ∨ n = 5 then d else if n = 11 then (if acc = 0 then 1 else 0) else acc
def xL (n acc x d : Int) : Int := if n = 7 then acc else if n = 8 then d else x
def haltL (n a acc x d : Int) : Int := if n = 0 ∨ 28 < n then 6 else if n = 1 then 1 else if n = 9 ∧ a ≤ x then 3 else if n = 10 ∧ d ≤ x then 4 else if (12 ≤ n ∧ n ≤ 22) ∧ opV (sgOf (nm n)) acc d = .non then 2 else 0
def MSt.workS (s : MSt) (n a : Int) : MSt := { s with acc := accL n a s.acc (s.at (otherM n a s.x)), x := xL n s.acc s.x (s.at (otherM n a s.x)), mem := if n = 4 ∨ n = 6 then s.mem.set (otherM n a s.x).toNat s.acc else s.mem }
def MSt.workM (m : Int) (s : MSt) (n a : Int) : MSt × Int :=
  if haltL n a s.acc s.x (s.at (otherM n a s.x)) = 0 then (s.workS n a).moveM m n a
  else ({ s with mark := haltL n a s.acc s.x (s.at (otherM n a s.x)) }, s.pc)
theorem op5 {g : Sg} {a b : Int} (h : g.isCmp = true) : opV g a b = .int (if cmpB g a b = true then 1 else 0) := by
  rw [opV_cmp h]
  split <;> rfl
theorem div_small {a b : Int} (ha : 0 ≤ a) (h : a < 65536) (hb : 0 < b) : 0 ≤ a / b ∧ a / b < 65536 := by
  refine ⟨Int.ediv_nonneg ha (by omega), ?_⟩
  have h1 : a / b ≤ a := Int.ediv_le_self _ ha
  omega

structure DigN (C : Addr) (H : Hp) (d : Addr) (m : Int) : Prop where
  at_ : ∃ dx b, H d = some (.ins C dx (fl_Digests b .non (.int m)))
  pos : 0 < m
  lt : m < 2 ^ 62
theorem DigN.ex {C d : Addr} {H H' : Hp} {m : Int} (e : Evl.Ex H H') (h : DigN C H d m) : DigN C H' d m := let ⟨⟨dx, b, h⟩, p, l⟩ := h; ⟨⟨dx, b, e _ _ h⟩, p, l⟩
theorem DigN.but {C d p : Addr} {H H' : Hp} {m : Int} (e : Kit.ExBut p H H') (n : d ≠ p) (h : DigN C H d m) : DigN C H' d m := let ⟨⟨dx, b, h⟩, p, l⟩ := h; ⟨⟨dx, b, e _ _ n h⟩, p, l⟩

/-! ### both readings of a step agree -/
def regsL (s : MSt) (r : Int) : List V := [.int r, .int s.acc, .int s.x, .int s.mark, .int s.out, .int s.count]
def writL (s' : MSt) : Option (Int × Bool) → V
  | some (p, true) => .int (s'.at p)
  | _ => .non
theorem nm_of_gt {n : Int} (h : 28 < n) : nm n = "bad" := nm_bad (by omega)
theorem at_set {s : MSt} {p v : Int} (hl : s.mem.length = 256) (h0 : 0 ≤ p) (h1 : p < 256) : MSt.at { s with mem := s.mem.set p.toNat v } p = v := by
  show ((s.mem.set p.toNat v)[p.toNat]?).getD 0 = v
  rw [List.getElem?_set_self (by omega)]
  rfl
theorem data_math {n a word x : Int} (h0 : 0 ≤ n) (ha : word % 256 = a % 256) : dataM (nm n) word x = dataL n a x := by
  have e : ∀ k : Int, otherM k a x = if k = 5 ∨ k = 6 then (a + x) % 256 else a % 256 := fun k => rfl
  have hx : (word % 256 + x) % 256 = (a + x) % 256 := by omega
  by_cases hb : 28 < n
  · rw [nm_of_gt hb, show dataL n a x = none from by unfold dataL; rw [if_neg (by omega), if_neg (by omega)]]
    rfl
  · have hc : n = 0 ∨ n = 1 ∨ n = 2 ∨ n = 3 ∨ n = 4 ∨ n = 5 ∨ n = 6 ∨ n = 7 ∨ n = 8 ∨ n = 9 ∨ n = 10 ∨ n = 11 ∨ n = 12 ∨ n = 13 ∨ n = 14 ∨ n = 15 ∨ n = 16 ∨ n = 17 ∨ n = 18 ∨ n = 19 ∨ n = 20 ∨ n = 21 ∨ n = 22 ∨ n = 23 ∨ n = 24 ∨ n = 25 ∨ n = 26 ∨ n = 27 ∨ n = 28 := by omega
    unfold dataM dataL
    rw [hx, ha, e]
    rcases hc with rfl | rfl | rfl | rfl | rfl | rfl | rfl | rfl | rfl | rfl | rfl | rfl | rfl | rfl | rfl | rfl | rfl | rfl | rfl | rfl | rfl | rfl | rfl | rfl | rfl | rfl | rfl | rfl | rfl
    all_goals rfl
theorem step_sg {m word d : Int} {pc acc x out count : Int} {mem told : List Int} (n : Int) (h0 : 12 ≤ n) (h1 : n ≤ 22) (hd : d = MSt.at ⟨pc, acc, x, 0, out, count, mem, told⟩ (otherM n (word % 1024) x))
    (hs : nm n ∈ sgs ∧ ¬ nm n = "bad" ∧ ¬ nm n = "halt" ∧ ¬ nm n = "bound" ∧ ¬ nm n = "within" ∧ ¬ nm n = "tell" ∧ ¬ nm n = "lit" ∧ ¬ nm n ∈ (["load", "loadx"] : List Str) ∧ ¬ nm n = "not" ∧ xM (nm n) acc x (.int d) = .int x ∧ chM (nm n) pc acc = .non ∧ pcM (nm n) pc acc word d = (pc + 1) % 256) :
    doneM m (nm n) pc acc x 0 out count word d (.int d) = (regsL (MSt.workM m ⟨pc, acc, x, 0, out, count, mem, told⟩ n (word % 1024)).1 (MSt.workM m ⟨pc, acc, x, 0, out, count, mem, told⟩ n (word % 1024)).2, writL (MSt.workM m ⟨pc, acc, x, 0, out, count, mem, told⟩ n (word % 1024)).1 (dataL n (word % 1024) x)) := by
  obtain ⟨s1, s2, s3, s4, s5, s6, s7, s8, s9, sx, sc, sp⟩ := hs
  have hdl : dataL n (word % 1024) x = some (otherM n (word % 1024) x, false) := by unfold dataL; rw [if_neg (by omega), if_pos (by omega)]
  have hL : ∀ d, haltL n (word % 1024) acc x d = if (12 ≤ n ∧ n ≤ 22) ∧ opV (sgOf (nm n)) acc d = .non then 2 else 0 := fun d => by
    unfold haltL
    rw [if_neg (by omega), if_neg (by omega), if_neg (by omega), if_neg (by omega)]
  have hN : haltN (nm n) word acc x count d = if nm n ∈ sgs ∧ opV (sgOf (nm n)) acc d = .non then 2 else if nm n = "tell" ∧ count = 16 then 5 else 0 := by
    unfold haltN
    rw [if_neg s2, if_neg s3, if_neg (fun z => s4 z.1), if_neg (fun z => s5 z.1)]
  rcases opV_cases (sgOf (nm n)) acc d with h | ⟨z, h⟩
  · have hN' : haltN (nm n) word acc x count d = 2 := by rw [hN, h, if_pos ⟨s1, rfl⟩]
    have hL' : haltL n (word % 1024) acc x d = 2 := by rw [hL, h, if_pos ⟨⟨h0, h1⟩, rfl⟩]
    unfold doneM MSt.workM
    dsimp only
    rw [← hd, hL', hN', hdl]
    rfl
  · have hne : ¬ V.int z = V.non := fun y => nomatch y
    have hN' : haltN (nm n) word acc x count d = 0 := by rw [hN, h, if_neg (fun y => hne y.2), if_neg (fun y => s6 y.1)]
    have hL' : haltL n (word % 1024) acc x d = 0 := by rw [hL, h, if_neg (fun y => hne y.2)]
    have ea : accM (nm n) acc word d (.int d) = .int z := by
      unfold accM
      rw [if_neg s7, if_neg s8, if_neg s9, if_pos s1, h]
    have el : accL n (word % 1024) acc d = z := by
      unfold accL
      rw [if_pos ⟨h0, h1⟩, h]
      rfl
    have ex : xL n acc x d = x := by unfold xL; rw [if_neg (by omega), if_neg (by omega)]
    have ew : MSt.workS ⟨pc, acc, x, 0, out, count, mem, told⟩ n (word % 1024) = ⟨pc, z, x, 0, out, count, mem, told⟩ := by
      unfold MSt.workS
      dsimp only
      rw [← hd, el, ex, if_neg (by omega)]
    have em : MSt.moveM m ⟨pc, z, x, 0, out, count, mem, told⟩ n (word % 1024) = (⟨pc, z, x, 0, out, count, mem, told⟩, (pc + 1) % 256) := by
      unfold MSt.moveM
      rw [if_neg (by omega), if_neg (by omega), if_neg (by omega), if_neg (by omega), if_neg (by omega)]
    unfold doneM MSt.workM
    dsimp only
    rw [← hd, hL', hN', hdl, if_neg s6, if_neg s6, sx, sc, sp, ea, ew, em]
    rfl
theorem step_math {m n word d : Int} {s : MSt} {dv : V} (h0 : 0 ≤ n) (hl : s.mem.length = 256) (hd : d = s.at (otherM n (word % 1024) s.x)) (hdv : dataL n (word % 1024) s.x ≠ none → dv = .int d) (hm : s.mark = 0) :
    doneM m (nm n) s.pc s.acc s.x s.mark s.out s.count word d dv = (regsL (s.workM m n (word % 1024)).1 (s.workM m n (word % 1024)).2, writL (s.workM m n (word % 1024)).1 (dataL n (word % 1024) s.x)) := by
  have hwb : word % 256 = (word % 1024) % 256 := by omega
  have hO := other_in n (word % 1024) s.x
  have hpc : ∀ sn pc acc d, pcM sn pc acc word d = pcM sn pc acc (word % 1024) d := fun sn pc acc d => by unfold pcM; rw [hwb]
  obtain ⟨pc, acc, x, mark, out, count, mem, told⟩ := s
  have hm : mark = 0 := hm
  subst hm
  dsimp only at hO hdv hd ⊢
  have no1 : ∀ {a b : Str} {p : Prop}, decide (a = b) = false → ¬ (a = b ∧ p) := fun h z => absurd z.1 (of_decide_eq_false h)
  have no2 : ∀ {a b : Int} {p : Prop}, decide (a = b) = false → ¬ (a = b ∧ p) := fun h z => absurd z.1 (of_decide_eq_false h)
  by_cases hb : 28 < n
  · rw [nm_of_gt hb]
    have e1 : ∀ d, haltL n (word % 1024) acc x d = 6 := fun d => if_pos (.inr hb)
    have e2 : dataL n (word % 1024) x = none := by unfold dataL; rw [if_neg (by omega), if_neg (by omega)]
    unfold MSt.workM
    rw [e1, e2, if_neg (by decide)]
    rfl
  · have hc : n = 0 ∨ n = 1 ∨ n = 2 ∨ n = 3 ∨ n = 4 ∨ n = 5 ∨ n = 6 ∨ n = 7 ∨ n = 8 ∨ n = 9 ∨ n = 10 ∨ n = 11 ∨ n = 12 ∨ n = 13 ∨ n = 14 ∨ n = 15 ∨ n = 16 ∨ n = 17 ∨ n = 18 ∨ n = 19 ∨ n = 20 ∨ n = 21 ∨ n = 22 ∨ n = 23 ∨ n = 24 ∨ n = 25 ∨ n = 26 ∨ n = 27 ∨ n = 28 := by omega
    rcases hc with rfl | rfl | rfl | rfl | rfl | rfl | rfl | rfl | rfl | rfl | rfl | rfl | rfl | rfl | rfl | rfl | rfl | rfl | rfl | rfl | rfl | rfl | rfl | rfl | rfl | rfl | rfl | rfl | rfl
    all_goals try rw [hdv (by intro z; exact absurd z (Option.some_ne_none _))]
    all_goals try (exact step_sg _ (by decide) (by decide) hd ⟨by decide +kernel, by decide +kernel, by decide +kernel, by decide +kernel, by decide +kernel, by decide +kernel, by decide +kernel, by decide +kernel, by decide +kernel, rfl, rfl, rfl⟩)
    all_goals subst hd
    all_goals try rfl
    all_goals unfold doneM
    all_goals try rw [hpc]
    all_goals try rfl
    · show _ = (regsL _ _, V.int (MSt.at ⟨pc, acc, x, 0, out, count, mem.set (otherM 4 (word % 1024) x).toNat acc, told⟩ (otherM 4 (word % 1024) x)))
      rw [at_set (s := ⟨pc, acc, x, 0, out, count, mem, told⟩) hl hO.1 hO.2]
      rfl
    · show _ = (regsL _ _, V.int (MSt.at ⟨pc, acc, x, 0, out, count, mem.set (otherM 6 (word % 1024) x).toNat acc, told⟩ (otherM 6 (word % 1024) x)))
      rw [at_set (s := ⟨pc, acc, x, 0, out, count, mem, told⟩) hl hO.1 hO.2]
      rfl
    · generalize hd : MSt.at _ _ = d
      by_cases h : word % 1024 ≤ x
      · rw [show haltN (nm 9) word acc x count d = 3 from by unfold haltN; rw [if_neg (by decide +kernel), if_neg (by decide +kernel), if_pos ⟨rfl, h⟩]]
        have e' : ∀ d, haltL 9 (word % 1024) acc x d = 3 := fun d => by unfold haltL; rw [if_neg (by decide), if_neg (by decide), if_pos ⟨rfl, h⟩]
        unfold MSt.workM
        dsimp only
        rw [e']
        rfl
      · rw [show haltN (nm 9) word acc x count d = 0 from by unfold haltN; rw [if_neg (by decide +kernel), if_neg (by decide +kernel), if_neg (fun z => h z.2)]; rfl]
        have e' : ∀ d, haltL 9 (word % 1024) acc x d = 0 := fun d => by unfold haltL; rw [if_neg (by decide), if_neg (by decide), if_neg (fun z => h z.2)]; rfl
        unfold MSt.workM
        dsimp only
        rw [e']
        rfl
    · generalize hd : MSt.at _ _ = d
      by_cases h : d ≤ x
      · rw [show haltN (nm 10) word acc x count d = 4 from by unfold haltN; rw [if_neg (by decide +kernel), if_neg (by decide +kernel), if_neg (no1 (by decide +kernel)), if_pos ⟨rfl, h⟩]]
        have e' : haltL 10 (word % 1024) acc x d = 4 := by unfold haltL; rw [if_neg (by decide), if_neg (by decide), if_neg (no2 (by decide)), if_pos ⟨rfl, h⟩]
        unfold MSt.workM
        dsimp only
        rw [hd, e']
        rfl
      · rw [show haltN (nm 10) word acc x count d = 0 from by unfold haltN; rw [if_neg (by decide +kernel), if_neg (by decide +kernel), if_neg (no1 (by decide +kernel)), if_neg (fun z => h z.2)]; rfl]
        have e' : haltL 10 (word % 1024) acc x d = 0 := by unfold haltL; rw [if_neg (by decide), if_neg (by decide), if_neg (no2 (by decide)), if_neg (fun z => h z.2)]; rfl
        unfold MSt.workM
        dsimp only
        rw [hd, e']
        rfl
    · have ea : ∀ d dv, accM (nm 11) acc word d dv = .int (if acc = 0 then 1 else 0) := fun d dv => by
        show (if acc = 0 then V.int 1 else V.int 0) = _
        split <;> rfl
      rw [ea]
      rfl
    · by_cases h : acc = 0
      · subst h; rfl
      · have e1 : pcM (nm 24) pc acc (word % 1024) (MSt.at ⟨pc, acc, x, 0, out, count, mem, told⟩ (otherM 24 (word % 1024) x)) = (pc + 1) % 256 := by
          unfold pcM
          rw [if_neg (by rintro (z | z | z); exact absurd z (by decide +kernel); exact h z.2; exact absurd z.1 (by decide +kernel))]
          rfl
        have e2 : ∀ s' : MSt, s'.acc = acc → s'.pc = pc → MSt.moveM m s' 24 (word % 1024) = (s', (pc + 1) % 256) := fun s' z1 z2 => by
          unfold MSt.moveM
          rw [z1, z2, if_neg (by omega)]
          rfl
        have e3 : MSt.workM m ⟨pc, acc, x, 0, out, count, mem, told⟩ 24 (word % 1024) = (⟨pc, acc, x, 0, out, count, mem, told⟩, (pc + 1) % 256) := e2 _ rfl rfl
        rw [e1, e3]
        rfl
    · by_cases h : acc = 0
      · subst h; rfl
      · have e1 : pcM (nm 25) pc acc (word % 1024) (MSt.at ⟨pc, acc, x, 0, out, count, mem, told⟩ (otherM 25 (word % 1024) x)) = (word % 1024) % 256 := by
          unfold pcM
          rw [if_pos (.inr (.inr ⟨rfl, h⟩))]
        have e2 : ∀ s' : MSt, s'.acc = acc → MSt.moveM m s' 25 (word % 1024) = (s', (word % 1024) % 256) := fun s' z1 => by
          unfold MSt.moveM
          rw [z1, if_pos (by omega)]
        have e3 : MSt.workM m ⟨pc, acc, x, 0, out, count, mem, told⟩ 25 (word % 1024) = (⟨pc, acc, x, 0, out, count, mem, told⟩, (word % 1024) % 256) := e2 _ rfl
        rw [e1, e3]
        rfl
    · show _ = (regsL _ _, V.int (MSt.at ⟨pc, acc, x, 0, out, count, mem.set (otherM 26 (word % 1024) x).toNat ((pc + 1) % 256), told⟩ (otherM 26 (word % 1024) x)))
      rw [at_set (s := ⟨pc, acc, x, 0, out, count, mem, told⟩) hl hO.1 hO.2]
      rfl
    · by_cases h : count = 16
      · subst h; rfl
      · have e1 : ∀ d, haltN (nm 28) word acc x count d = 0 := fun d => by
          unfold haltN
          rw [if_neg (by decide +kernel), if_neg (by decide +kernel), if_neg (no1 (by decide +kernel)), if_neg (no1 (by decide +kernel)), if_neg (fun z => absurd z.1 (by decide +kernel)), if_neg (fun z => h z.2)]
        have e3 : MSt.workM m ⟨pc, acc, x, 0, out, count, mem, told⟩ 28 (word % 1024) = (⟨pc, acc, x, 0, foldI m out (leafI m acc), count + 1, mem, told ++ [acc]⟩, (pc + 1) % 256) := by
          show MSt.moveM m ⟨pc, acc, x, 0, out, count, mem, told⟩ 28 (word % 1024) = _
          unfold MSt.moveM
          rw [if_neg (by omega), if_neg (by omega), if_neg (by omega), if_neg (fun z => h z.2), if_pos rfl]
        rw [e1, e3]
        rfl
def sp_law_right (C : Addr) : Sp := fun vs H Q _ => ∃ (p g : Addr) (m : Int), vs = [.ref p, .ref g, .int m] ∧ Bag5 H p ∧ DigN C H g m ∧ 100 < m ∧ m < 2 ^ 62 ∧ ∀ H', Kit.ExBut p H H' → Bag5 H' p → Q (.bl true) H'

/-! ### states of a machine: what a step keeps -/
structure SOk (m : Int) (s : MSt) : Prop where
  pc : 0 ≤ s.pc ∧ s.pc < 256
  acc : IsW s.acc
  x : IsW s.x
  mark : 0 ≤ s.mark ∧ s.mark < 7
  out : Dg m s.out
  count : 0 ≤ s.count ∧ s.count ≤ 16
  told : (s.told.length : Int) ≤ s.count
  len : s.mem.length = 256
  mem : ∀ w ∈ s.mem, IsW w
theorem SOk.at {m : Int} {s : MSt} (h : SOk m s) (k : Int) : IsW (s.at k) := by
  unfold MSt.at
  cases e : s.mem[k.toNat]? with
  | none => exact ⟨by decide, by decide⟩
  | some w => exact h.mem w (List.mem_of_getElem? e)
def MSt.setPc (s : MSt) (r : Int) : MSt := ⟨r, s.acc, s.x, s.mark, s.out, s.count, s.mem, s.told⟩
def MSt.stepM (m : Int) (s : MSt) : MSt :=
  if s.mark = 0 then (s.workM m (s.at s.pc / 1024) (s.at s.pc % 1024)).1.setPc (s.workM m (s.at s.pc / 1024) (s.at s.pc % 1024)).2 else s
theorem opV_in {g : Sg} {a b z : Int} (ha : IsW a) (hb : IsW b) (h : opV g a b = .int z) : IsW z := by
  by_cases hg : g.isCmp = true
  · rw [op5 hg] at h
    injection h with h
    split at h <;> exact ⟨by omega, by omega⟩
  · obtain ⟨a0, a1⟩ := ha
    obtain ⟨b0, b1⟩ := hb
    have h65 : ∀ k : Int, IsW (k % 65536) := fun k => ⟨Int.emod_nonneg _ (by decide), Int.emod_lt_of_pos _ (by decide)⟩
    cases g
    all_goals first | (exact absurd rfl hg) | skip
    · cases h; exact h65 _
    · cases h; exact h65 _
    · cases h; exact h65 _
    · by_cases hb : b = 0
      · rw [show opV .div a b = .non from if_pos hb] at h; cases h
      · rw [show opV .div a b = .int (a / b) from if_neg hb] at h
        cases h
        exact div_small a0 a1 (by omega)
    · by_cases hb : b = 0
      · rw [show opV .mod a b = .non from if_pos hb] at h; cases h
      · rw [show opV .mod a b = .int (a % b) from if_neg hb] at h
        cases h
        exact ⟨Int.emod_nonneg _ hb, by have := Int.emod_lt_of_pos a (show 0 < b by omega); omega⟩
theorem accL_in {n a acc d : Int} (h0 : 0 ≤ a) (h1 : a < 1024) (hA : IsW acc) (hd : IsW d) : IsW (accL n a acc d) := by
  unfold accL
  split
  · rcases opV_cases (sgOf (nm n)) acc d with h | ⟨z, h⟩
    · rw [h]; exact ⟨by decide, by decide⟩
    · rw [h]; exact opV_in hA hd h
  · split
    · exact ⟨h0, by omega⟩
    · split
      · exact hd
      · split
        · split <;> exact ⟨by decide, by decide⟩
        · exact hA
theorem xL_in {n acc x d : Int} (hA : IsW acc) (hx : IsW x) (hd : IsW d) : IsW (xL n acc x d) := by
  unfold xL
  split
  · exact hA
  · split
    · exact hd
    · exact hx
theorem haltL_in (n a acc x d : Int) : 0 ≤ haltL n a acc x d ∧ haltL n a acc x d < 7 := by
  unfold haltL
  repeat' split
  all_goals decide
theorem mem_set_in {ws : List Int} {k : Nat} {v : Int} (h : ∀ w ∈ ws, IsW w) (hv : IsW v) : ∀ w ∈ ws.set k v, IsW w := fun w hw => by
  rcases List.mem_or_eq_of_mem_set hw with h1 | h1
  · exact h w h1
  · rw [h1]; exact hv
theorem w256 {k : Int} (h : 0 ≤ k ∧ k < 256) : IsW k := ⟨h.1, by omega⟩
/-- what a step that goes on does: the tables' last part -/
theorem move_ok {m : Int} (hm : 100 < m) {s : MSt} {n a : Int} (h : SOk m s) : SOk m (s.moveM m n a).1 ∧ (0 ≤ (s.moveM m n a).2 ∧ (s.moveM m n a).2 < 256) := by
  unfold MSt.moveM
  split
  · exact ⟨h, mod256 _⟩
  · split
    · exact ⟨⟨h.pc, h.acc, h.x, h.mark, h.out, h.count, h.told, by show (s.mem.set _ _).length = 256; rw [List.length_set]; exact h.len, mem_set_in h.mem (w256 (mod256 _))⟩, mod256 _⟩
    · split
      · exact ⟨h, mod256 _⟩
      · split
        · exact ⟨⟨h.pc, h.acc, h.x, (show (0 : Int) ≤ 5 ∧ (5 : Int) < 7 from by decide), h.out, h.count, h.told, h.len, h.mem⟩, h.pc⟩
        · split
          · rename_i h1 h2
            have hc := h.count
            have hne : s.count ≠ 16 := fun z => h1 ⟨h2, z⟩
            refine ⟨⟨h.pc, h.acc, h.x, h.mark, fold_dg (by omega), ?_, ?_, h.len, h.mem⟩, mod256 _⟩
            · show 0 ≤ s.count + 1 ∧ s.count + 1 ≤ 16
              omega
            · show ((s.told ++ [s.acc]).length : Int) ≤ s.count + 1
              have := h.told
              rw [List.length_append]
              show ((s.told.length + 1 : Nat) : Int) ≤ s.count + 1
              omega
          · exact ⟨h, mod256 _⟩
theorem workS_ok {m : Int} {s : MSt} {n a : Int} (h0 : 0 ≤ a) (h1 : a < 1024) (h : SOk m s) : SOk m (s.workS n a) := by
  refine ⟨h.pc, accL_in h0 h1 h.acc (h.at _), xL_in h.acc h.x (h.at _), h.mark, h.out, h.count, h.told, ?_, ?_⟩
  · show (if n = 4 ∨ n = 6 then s.mem.set (otherM n a s.x).toNat s.acc else s.mem).length = 256
    split
    · rw [List.length_set]; exact h.len
    · exact h.len
  · show ∀ w ∈ (if n = 4 ∨ n = 6 then s.mem.set (otherM n a s.x).toNat s.acc else s.mem), IsW w
    split
    · exact mem_set_in h.mem h.acc
    · exact h.mem
theorem work_ok {m : Int} (hm : 100 < m) {s : MSt} {n a : Int} (h0 : 0 ≤ a) (h1 : a < 1024) (h : SOk m s) : SOk m (s.workM m n a).1 ∧ (0 ≤ (s.workM m n a).2 ∧ (s.workM m n a).2 < 256) := by
  unfold MSt.workM
  split
  · exact move_ok hm (workS_ok h0 h1 h)
  · exact ⟨⟨h.pc, h.acc, h.x, haltL_in _ _ _ _ _, h.out, h.count, h.told, h.len, h.mem⟩, h.pc⟩
theorem SOk.step {m : Int} (hm : 100 < m) {s : MSt} (h : SOk m s) : SOk m (s.stepM m) := by
  unfold MSt.stepM
  split
  · obtain ⟨o, p⟩ := work_ok (n := s.at s.pc / 1024) (a := s.at s.pc % 1024) hm (Int.emod_nonneg _ (by decide)) (Int.emod_lt_of_pos _ (by decide)) h
    exact ⟨p, o.acc, o.x, o.mark, o.out, o.count, o.told, o.len, o.mem⟩
  · exact h
/-- what is told, and what is written -/
theorem move_told (m n a : Int) (s : MSt) : ((s.moveM m n a).1.count = s.count ∧ (s.moveM m n a).1.told = s.told) ∨ ((s.moveM m n a).1.count = s.count + 1 ∧ (s.moveM m n a).1.told = s.told ++ [s.acc] ∧ n = 28) := by
  unfold MSt.moveM
  split
  · exact .inl ⟨rfl, rfl⟩
  · split
    · exact .inl ⟨rfl, rfl⟩
    · split
      · exact .inl ⟨rfl, rfl⟩
      · split
        · exact .inl ⟨rfl, rfl⟩
        · split
          · exact .inr ⟨rfl, rfl, by assumption⟩
          · exact .inl ⟨rfl, rfl⟩
theorem accL_28 (a acc d : Int) : accL 28 a acc d = acc := by
  unfold accL
  rw [if_neg (by omega), if_neg (by omega), if_neg (by omega), if_neg (by omega)]
theorem work_told (m n a : Int) (s : MSt) : ((s.workM m n a).1.count = s.count ∧ (s.workM m n a).1.told = s.told) ∨ ((s.workM m n a).1.count = s.count + 1 ∧ (s.workM m n a).1.told = s.told ++ [s.acc]) := by
  unfold MSt.workM
  split
  · rcases move_told m n a (s.workS n a) with h | ⟨h1, h2, h3⟩
    · exact .inl h
    · refine .inr ⟨h1, ?_⟩
      rw [h2]
      subst h3
      show s.told ++ [accL 28 a s.acc (s.at (otherM 28 a s.x))] = _
      rw [accL_28]
  · exact .inl ⟨rfl, rfl⟩
theorem halt_wr {n a acc x d : Int} (h : n = 4 ∨ n = 6 ∨ n = 26) : haltL n a acc x d = 0 := by
  unfold haltL
  rw [if_neg (by omega), if_neg (by omega), if_neg (by omega), if_neg (by omega), if_neg (by omega)]
theorem work_mem {m n a : Int} {s : MSt} (hl : s.mem.length = 256) : (∃ k, dataL n a s.x = some (k, true) ∧ 0 ≤ k ∧ k < 256 ∧ (s.workM m n a).1.mem = s.mem.set k.toNat ((s.workM m n a).1.at k)) ∨ ((∀ k, dataL n a s.x ≠ some (k, true)) ∧ (s.workM m n a).1.mem = s.mem) := by
  have hO := other_in n a s.x
  by_cases hw : n = 4 ∨ n = 6 ∨ n = 26
  · refine .inl ⟨otherM n a s.x, if_pos hw, hO.1, hO.2, ?_⟩
    have e : ∃ v, (s.workM m n a).1.mem = s.mem.set (otherM n a s.x).toNat v := by
      unfold MSt.workM
      rw [if_pos (halt_wr hw)]
      rcases hw with rfl | rfl | rfl
      · exact ⟨s.acc, rfl⟩
      · exact ⟨s.acc, rfl⟩
      · exact ⟨(s.pc + 1) % 256, rfl⟩
    obtain ⟨v, hv⟩ := e
    have hat : (s.workM m n a).1.at (otherM n a s.x) = v := by
      unfold MSt.at
      rw [hv, List.getElem?_set_self (by omega)]
      rfl
    rw [hv, hat]
  · refine .inr ⟨fun k h => ?_, ?_⟩
    · unfold dataL at h
      rw [if_neg hw] at h
      split at h
      · injection h with h; injection h with _ h; cases h
      · cases h
    · unfold MSt.workM
      split
      · have e : (s.workS n a).mem = s.mem := if_neg (by omega)
        rw [← e]
        unfold MSt.moveM
        split
        · rfl
        · rw [if_neg (by omega)]
          split
          · rfl
          · split
            · rfl
            · split <;> rfl
      · rfl

/-! ### a machine (digests without a book): its state, and the objects that are its own -/
def KindF (F : List Addr) (H : Hp) : Prop := ∀ x ∈ F, (∃ ys, H x = some (.lst ys)) ∨ ∃ C dx fs, H x = some (.ins C dx fs)
theorem KindF.ex {F : List Addr} {H H' : Hp} (e : Evl.Ex H H') (h : KindF F H) : KindF F H' := fun x hx => (h x hx).imp (fun ⟨ys, a⟩ => ⟨ys, e _ _ a⟩) fun ⟨C, dx, fs, a⟩ => ⟨C, dx, fs, e _ _ a⟩
structure MacP (K : PySem.W.Frag) (C CM : Addr) (H : Hp) (p dx r mp ta wa la : Addr) (ps : List Addr) (dg : Addr) (m : Int) (s : MSt) : Prop where
  at_ : H p = some (.ins C dx (fl_Machine (.ref dg) (.ref r) (.ref mp) (.ref ta)))
  regs : SqT K H r (regsV s.pc s.acc s.x s.mark s.out s.count)
  mem : MemAt CM H mp dg wa la ps m s.mem
  told : H ta = some (.lst (iv s.told))
  nt : ta ∉ wa :: la :: ps
  np : p ≠ mp
def ownF (p mp ta wa la : Addr) (ps : List Addr) : List Addr := p :: mp :: ta :: la :: wa :: ps
structure MacAt (K : PySem.W.Frag) (C CM : Addr) (H : Hp) (p : Addr) (F : List Addr) (dg : Addr) (m : Int) (s : MSt) : Prop where
  ex : ∃ dx r mp ta wa la ps, MacP K C CM H p dx r mp ta wa la ps dg m s ∧ F = ownF p mp ta wa la ps
theorem MacP.ex {K : PySem.W.Frag} {C CM : Addr} {H H' : Hp} {p dx r mp ta wa la : Addr} {ps : List Addr} {dg : Addr} {m : Int} {s : MSt} (e : Evl.Ex H H') (h : MacP K C CM H p dx r mp ta wa la ps dg m s) : MacP K C CM H' p dx r mp ta wa la ps dg m s :=
  ⟨e _ _ h.at_, Evl.ex_t e h.regs, h.mem.ex e, e _ _ h.told, h.nt, h.np⟩
theorem MacAt.exE {K : PySem.W.Frag} {C CM : Addr} {H H' : Hp} {p : Addr} {F : List Addr} {dg : Addr} {m : Int} {s : MSt} (e : Evl.Ex H H') (h : MacAt K C CM H p F dg m s) : MacAt K C CM H' p F dg m s :=
  let ⟨dx, r, mp, ta, wa, la, ps, a, b⟩ := h.ex; ⟨dx, r, mp, ta, wa, la, ps, a.ex e, b⟩
theorem MacP.kind {K : PySem.W.Frag} {C CM : Addr} {H : Hp} {p dx r mp ta wa la : Addr} {ps : List Addr} {dg : Addr} {m : Int} {s : MSt} (h : MacP K C CM H p dx r mp ta wa la ps dg m s) : KindF (ownF p mp ta wa la ps) H := fun x hx => by
  rcases List.mem_cons.mp hx with rfl | hx
  · exact .inr ⟨_, _, _, h.at_⟩
  · rcases List.mem_cons.mp hx with rfl | hx
    · obtain ⟨d, a⟩ := h.mem.at_
      exact .inr ⟨_, _, _, a⟩
    · rcases List.mem_cons.mp hx with rfl | hx
      · exact .inl ⟨_, h.told⟩
      · rcases List.mem_cons.mp hx with rfl | hx
        · exact .inl ⟨_, h.mem.lvl⟩
        · exact .inl (h.mem.mem_lst x hx)
theorem MacAt.kind {K : PySem.W.Frag} {C CM : Addr} {H : Hp} {p : Addr} {F : List Addr} {dg : Addr} {m : Int} {s : MSt} (h : MacAt K C CM H p F dg m s) : KindF F H := by
  obtain ⟨dx, r, mp, ta, wa, la, ps, a, rfl⟩ := h.ex
  exact a.kind
/-- kept by what changes none of its own -/
theorem MacAt.by {K : PySem.W.Frag} {C CM : Addr} {H H' : Hp} {p : Addr} {F G : List Addr} {dg : Addr} {m : Int} {s : MSt} (h : MacAt K C CM H p F dg m s) (e : ExBy G H H') (k : KindF G H) (n : ∀ x ∈ F, x ∉ G) : MacAt K C CM H' p F dg m s := by
  obtain ⟨dx, r, mp, ta, wa, la, ps, a, rfl⟩ := h.ex
  refine ⟨dx, r, mp, ta, wa, la, ps, ⟨e _ _ (n p (by simp [ownF])) a.at_, e.tup k a.regs, a.mem.by e (fun x hx => n x ?_), e _ _ (n ta (by simp [ownF])) a.told, a.nt, a.np⟩, rfl⟩
  simp only [ownF, List.mem_cons] at hx ⊢
  rcases hx with rfl | rfl | rfl | hx
  · exact .inr (.inl rfl)
  · exact .inr (.inr (.inr (.inr (.inl rfl))))
  · exact .inr (.inr (.inr (.inl rfl)))
  · exact .inr (.inr (.inr (.inr (.inr hx))))
/-- digests with a book are no machine's own -/
theorem MacAt.digB {K : PySem.W.Frag} {C CM CD : Addr} {H : Hp} {p : Addr} {F : List Addr} {dg pb : Addr} {m : Int} {s : MSt} (h : MacAt K C CM H p F dg m s) (d : DigB CD H dg pb m) : dg ∉ F := by
  obtain ⟨dx, r, mp, ta, wa, la, ps, a, rfl⟩ := h.ex
  obtain ⟨⟨dx2, b, hd⟩, _, _⟩ := d
  obtain ⟨dx3, hm⟩ := a.mem.at_
  intro z
  simp only [ownF, List.mem_cons] at z
  rcases z with rfl | rfl | rfl | rfl | z
  · exact ins_ne hd a.at_ (by show 3 ≠ 4; decide) rfl
  · rw [hd] at hm
    injection hm with hm
    injection hm with _ _ hm
    have hm : (some ("_bits" : Str)) = some "_digests" := congrArg (fun l => l.head?.map Prod.fst) hm
    exact absurd hm (by decide +kernel)
  · rw [a.told] at hd; cases hd
  · rw [a.mem.lvl] at hd; cases hd
  · obtain ⟨ys, hy⟩ := a.mem.mem_lst dg (List.mem_cons.mpr z); rw [hy] at hd; cases hd
theorem BkG.book {P : Program} {w : World} {CB pb : Addr} {m : Int} {l : List Tx} {H : Hp} (b : BkG P w CB H pb m l) : ∃ dx x y z, H pb = some (.ins CB dx (fl_Book x y z)) := let ⟨_, _, _, ⟨_, _, _, _, h, _⟩, _⟩ := b.ex; ⟨_, _, _, _, h⟩
/-- nor is the book -/
theorem MacAt.bk {P : Program} {w : World} {K : PySem.W.Frag} {C CM CB : Addr} {H : Hp} {p : Addr} {F : List Addr} {dg pb : Addr} {m m2 : Int} {l : List Tx} {s : MSt} (h : MacAt K C CM H p F dg m s) (d : BkG P w CB H pb m2 l) : pb ∉ F := by
  obtain ⟨dx, r, mp, ta, wa, la, ps, a, rfl⟩ := h.ex
  obtain ⟨dx2, x, y, z, hd⟩ := d.book
  obtain ⟨dx3, hm⟩ := a.mem.at_
  intro z
  simp only [ownF, List.mem_cons] at z
  rcases z with rfl | rfl | rfl | rfl | z
  · exact ins_ne hd a.at_ (by show 3 ≠ 4; decide) rfl
  · rw [hd] at hm
    injection hm with hm
    injection hm with _ _ hm
    have hm : (some ("_texts" : Str)) = some "_digests" := congrArg (fun l => l.head?.map Prod.fst) hm
    exact absurd hm (by decide +kernel)
  · rw [a.told] at hd; cases hd
  · rw [a.mem.lvl] at hd; cases hd
  · obtain ⟨ys, hy⟩ := a.mem.mem_lst pb (List.mem_cons.mpr z); rw [hy] at hd; cases hd
theorem RowsAt.keepF {pb : Addr} {F : List Addr} {H0 H H' : Hp} (e : KeepF pb F H H') : ∀ {ps : List Addr} {rs : List (List Int)}, (∀ x ∈ ps, x ∉ F ∧ x ≠ pb) → RowsAt H0 H ps rs → RowsAt H0 H' ps rs
  | [], [], _, _ => trivial
  | p :: ps, _ :: _, n, ⟨a, b, c, d⟩ => ⟨a, e.1 _ _ (n p List.mem_cons_self).2 (n p List.mem_cons_self).1 b rfl, c, RowsAt.keepF e (fun x z => n x (List.mem_cons_of_mem _ z)) d⟩
theorem MemAt.keepF {pb : Addr} {F : List Addr} {C p dg wa la : Addr} {ps : List Addr} {m : Int} {ws : List Int} {H H' : Hp} (e : KeepF pb F H H') (h : MemAt C H p dg wa la ps m ws) (n : ∀ x ∈ p :: wa :: la :: ps, x ∉ F ∧ x ≠ pb) : MemAt C H' p dg wa la ps m ws :=
  ⟨h.at_.imp fun _ a => e.1 _ _ (n p (by simp)).2 (n p (by simp)).1 a rfl, e.1 _ _ (n wa (by simp)).2 (n wa (by simp)).1 h.wds rfl, h.len, e.1 _ _ (n la (by simp)).2 (n la (by simp)).1 h.lvl rfl, h.rows.keepF e (fun x z => n x (by simp [z])), h.nwp, h.nlp, h.nwl⟩
theorem KeepF.sqT {P : Program} {w : World} {K : PySem.W.Frag} {CB pb : Addr} {m : Int} {l : List Tx} {F : List Addr} {H H' : Hp} (k : KeepF pb F H H') (hb : BkG P w CB H pb m l) (kf : KindF F H) {a : Addr} {xs : List V} (h : SqT K H a xs) : SqT K H' a xs := by
  obtain ⟨_, _, _, z⟩ := hb.pbI
  have nn : ∀ o : HO, (∀ ys, o ≠ .lst ys) → (∀ C dx fs, o ≠ .ins C dx fs) → H a = some o → a ≠ pb ∧ a ∉ F := fun o h1 h2 e => ⟨by rintro rfl; rw [z] at e; exact h2 _ _ _ (Option.some.inj e).symm, fun hx => by
    rcases kf a hx with ⟨ys, q⟩ | ⟨C, dx, fs, q⟩
    · rw [e] at q; exact h1 _ (Option.some.inj q)
    · rw [e] at q; exact h2 _ _ _ (Option.some.inj q)⟩
  rcases h with (h | ⟨o, h⟩) | h
  · have := nn _ (fun _ z => by cases z) (fun _ _ _ z => by cases z) h
    exact .inl (.inl (k.1 a _ this.1 this.2 h rfl))
  · have := nn _ (fun _ z => by cases z) (fun _ _ _ z => by cases z) h
    exact .inl (.inr ⟨o, k.1 a _ this.1 this.2 h rfl⟩)
  · exact .inr h
theorem MacAt.keepF {P : Program} {w : World} {K : PySem.W.Frag} {C CM CB : Addr} {H H' : Hp} {p : Addr} {F G : List Addr} {dg pb : Addr} {m m2 : Int} {l : List Tx} {s : MSt} (h : MacAt K C CM H p F dg m s) (hb : BkG P w CB H pb m2 l) (e : KeepF pb G H H') (k : KindF G H) (n : ∀ x ∈ F, x ∉ G) : MacAt K C CM H' p F dg m s := by
  have hpb := h.bk hb
  obtain ⟨dx, r, mp, ta, wa, la, ps, a, rfl⟩ := h.ex
  have nn : ∀ x ∈ ownF p mp ta wa la ps, x ∉ G ∧ x ≠ pb := fun x hx => ⟨n x hx, fun z => hpb (z ▸ hx)⟩
  refine ⟨dx, r, mp, ta, wa, la, ps, ⟨e.1 _ _ (nn p (by simp [ownF])).2 (nn p (by simp [ownF])).1 a.at_ rfl, e.sqT hb k a.regs, a.mem.keepF e (fun x hx => nn x ?_), e.1 _ _ (nn ta (by simp [ownF])).2 (nn ta (by simp [ownF])).1 a.told rfl, a.nt, a.np⟩, rfl⟩
  simp only [ownF, List.mem_cons] at hx ⊢
  rcases hx with rfl | rfl | rfl | hx
  · exact .inr (.inl rfl)
  · exact .inr (.inr (.inr (.inr (.inl rfl))))
  · exact .inr (.inr (.inr (.inl rfl)))
  · exact .inr (.inr (.inr (.inr (.inr hx))))
theorem kindNil (H : Hp) : KindF [] H := fun _ h => nomatch h
theorem MacAt.keep {P : Program} {w : World} {K : PySem.W.Frag} {C CM CB : Addr} {H H' : Hp} {p : Addr} {F : List Addr} {dg pb : Addr} {m m2 : Int} {l : List Tx} {s : MSt} (h : MacAt K C CM H p F dg m s) (hb : BkG P w CB H pb m2 l) (e : Kit.KeepE pb H H') : MacAt K C CM H' p F dg m s := h.keepF hb (KeepF.of (F := []) e) (kindNil H) (fun _ _ z => nomatch z)
theorem KeepF.new {pb : Addr} {F : List Addr} {H H1 H2 : Hp} (k : Kit.KeepE pb H H1) (e : KeepF pb F H1 H2) (n : ∀ x ∈ F, H x = none) : Kit.KeepE pb H H2 :=
  ⟨fun b o hb h z => e.1 b o hb (fun hx => by rw [n b hx] at h; cases h) (k.1 b o hb h z) z, fun b h => k.2 b (e.2 b h)⟩
theorem use_Memory {P : Program} {w : World} {K : PySem.W.Frag} {CM CD CB dg pb a : Addr} {m : Int} {ws : List Int} {l : List Tx} {H : Hp} {Q : VK} {E : XK} (hd : DigB CD H dg pb m) (hb : BkG P w CB H pb m l) (hl0 : l.length ≤ 50000) (ha : SqT K H a (iv ws)) (hl : ws.length ≤ 256)
    (k : ∀ mp wa la ps H' l', (∀ x ∈ mp :: wa :: la :: ps, H x = none) → Kit.KeepE pb H H' → MemAt CM H' mp dg wa la ps m (padW ws) → BkG P w CB H' pb m l' → Ext l l' (memX m (padW ws)) 512 → Q (.ref mp) H') : Kit.MakeOf CM (sp_Memory_init P w K CM CD CB) E [.ref dg, .ref a] H Q := by
  refine Kit.w_made fun x dx H2 hx e h => ?_
  have hxp : x ≠ pb := by
    obtain ⟨_, _, _, z⟩ := hb.pbI
    rintro rfl
    rw [hx] at z; cases z
  have kE : Kit.KeepE pb H H2 := .of e
  refine ⟨x, dx, dg, pb, a, m, ws, l, rfl, h, hxp, hd.keep kE, hb.exE e, hl0, Evl.ex_t e ha, hl, fun H3 wa la ps l3 m3 hm hn b3 x3 => ⟨rfl, k x wa la ps H3 l3 (fun y hy => ?_) (KeepF.new kE m3 fun y hy => by rw [List.mem_singleton.mp hy]; exact hx) hm b3 x3⟩⟩
  rcases List.mem_cons.mp hy with rfl | hy
  · exact hx
  · exact kE.2 y (hn y hy)
local macro_rules | `(tactic| walk_at "sqT") => `(tactic| first | with_reducible assumption | exact Evl.st_of (by with_reducible assumption) | exact Evl.ex_t (by with_reducible assumption) (by walk_at "sqT") | exact tup_ins (by with_reducible assumption) (by with_reducible assumption) (by walk_at "sqT") | fail)
def MakeM (C : Addr) (sp : Sp) (E : XK) (vs : List V) (H : Hp) (Q : VK) : Prop := Kit.MakeOf C sp E vs H Q
theorem mk_stop {C : Addr} {sp : Sp} {E : XK} {vs : List V} {H : Hp} {Q : VK} (h : MakeM C sp E vs H Q) : Kit.MakeOf C sp E vs H Q := h
local macro_rules | `(tactic| walk_at "wp1") => `(tactic| ((with_reducible show Kit.MakeOf _ (sp_Memory_init _ _ _ _ _ _) _ _ _ _); refine mk_stop ?_))
def sp_Machine_init (P : Program) (w : World) (K : PySem.W.Frag) (C CM CD CB : Addr) : Sp := fun vs H Q _ => ∃ (p dx dg pb r a : Addr) (m pc acc x mark out count : Int) (ws : List Int) (l : List Tx), vs = [.ref p, .ref dg, .ref r, .ref a] ∧ H p = some (.ins C dx []) ∧ p ≠ pb ∧ DigB CD H dg pb m ∧ BkG P w CB H pb m l ∧ l.length ≤ 50000 ∧ SqT K H r (regsV pc acc x mark out count) ∧ SqT K H a (iv ws) ∧ ws.length ≤ 256 ∧
  ∀ H' F l', KeepF pb [p] H H' → MacAt K C CM H' p F dg m ⟨pc, acc, x, mark, out, count, padW ws, []⟩ → (∀ x ∈ F, x ≠ p → H x = none) → p ∈ F → BkG P w CB H' pb m l' → Ext l l' (memX m (padW ws)) 512 → Q .non H'
theorem ok_Machine___init (T : Txt K mg) : FnOk P w K mg base CX0 7 T.f_Machine___init.f T.f_Machine___init.fd ["self", "digests", "registers", "words"] (sp_Machine_init P w K T.c_Machine.C T.c_Memory.C T.c_Digests.C T.c_Book.C) := by
  have G_Memory___init := ok_Memory___init (P := P) (w := w) (base := base) T
  refine T.f_Machine___init.F.ok sc_Machine___init (fun vs H Q E h => ?_) (fun cdv A outer s H vs Q E hr h => ?_)
  · obtain ⟨p, dx, dg, pb, r, a, m, pc, acc, x, mark, out, count, ws, l, rfl, hp, hpb, hd, hb, hl0, hrg, ha, hl, q⟩ := h
    rfl
  obtain ⟨p, dx, dg, pb, r, a, m, pc, acc, x, mark, out, count, ws, l, rfl, hp, hpb, hd, hb, hl0, hrg, ha, hl, q⟩ := h
  have nd := sc_Machine___init.nd
  have hr5 : Room 5 _ := hr.mono (by decide)
  have hr6 : Room 6 _ := hr.mono (by decide)
  refine Kit.ok_body (σ := [some _, some _, some _, some _]) ((pss_cons (Kit.kSet K (pv 0) (pv 1) rfl)
    (pss_cons (Kit.kSet K (pv 0) (pv 2) rfl)
    (pss_cons (Kit.kSet K (pv 0) (pe_make T.c_Memory.M G_Memory___init hr6 (by rfl) T.c_Memory.g T.f_Memory___init.b .nil pass0 (pa_cons (pv 1) (pa_cons (pv 3) pa_nil))) rfl)
    (pss_one (Kit.kSet K (pv 0) (pe_lst pa_nil) rfl)))))) rfl ?_
  have hdp : dg ≠ p := by
    obtain ⟨dx2, b, hd2⟩ := hd.at_
    exact ins_ne hd2 hp (by show 3 ≠ 0; decide)
  walk_at "wp"
  rename_i H1 m1 f1 H2 m2 f2
  have M2 : Kit.ExBut p H H2 := m1.trans m2
  have K2 : KeepF pb [p] H H2 := KeepF.one M2 (by simp) f2
  have hd2 := hd.butI M2 hdp
  have hb2 := hb.butI hp hpb M2
  have ha2 := tup_ins M2 hp ha
  have hr2 := tup_ins M2 hp hrg
  show Kit.MakeOf _ _ _ _ _ _
  refine use_Memory hd2 hb2 hl0 ha2 hl fun mp wa la ps H3 l3 hn k3 hm b3 x3 => ?_
  have f3 := keep_ins hb2 k3 f2 hpb
  have hr3 := keep_sqT hb2 k3 hr2
  walk_at "wp"
  rename_i H4 m4 f4 ta H5 n5 e5 f5 H6 m6 f6
  have ht : ta ≠ p := (ne_of_none f4 n5).symm
  have hnp : ∀ y ∈ mp :: wa :: la :: ps, y ≠ p := fun y hy z => by have := hn y hy; rw [z, f2] at this; cases this
  have hm4 : MemAt T.c_Memory.C H4 mp dg wa la ps m (padW ws) := hm.by (F := [p]) (ExBy.len1 m4 (by simp)) (fun y hy z => hnp y hy (List.mem_singleton.mp z))
  have hm5 := hm4.ex e5
  have hm6 : MemAt T.c_Memory.C H6 mp dg wa la ps m (padW ws) := hm5.by (F := [p]) (ExBy.len1 m6 (by simp)) (fun y hy z => hnp y hy (List.mem_singleton.mp z))
  have hta : ta ∉ wa :: la :: ps := fun z => by
    have hz : ∃ o, H4 ta = some o := by
      rcases List.mem_cons.mp z with rfl | z
      · exact ⟨_, hm4.wds⟩
      · rcases List.mem_cons.mp z with rfl | z
        · exact ⟨_, hm4.lvl⟩
        · obtain ⟨ys, hy⟩ := hm4.rows.mem z; exact ⟨_, hy⟩
    obtain ⟨o, ho⟩ := hz
    rw [n5] at ho
    cases ho
  have K4 : KeepF pb [p] H H4 := (K2.trans (.of k3)).trans (KeepF.one m4 (by simp) f4)
  have K6 : KeepF pb [p] H H6 := (K4.trans (.of (.of e5))).trans (KeepF.one m6 (by simp) f6)
  have b4 := b3.butI f3 hpb m4
  have b6 := (b4.exE e5).butI (e5 _ _ f4) hpb m6
  have r6 : SqT K H6 r (regsV pc acc x mark out count) := tup_ins m6 (e5 _ _ f4) (Evl.ex_t e5 (tup_ins m4 f3 hr3))
  refine q H6 (ownF p mp ta wa la ps) l3 K6 ⟨dx, r, mp, ta, wa, la, ps, ⟨f6, r6, hm6, m6 _ _ ht f5, hta, (hnp mp (by simp)).symm⟩, rfl⟩ (fun y hy hyp => ?_) (by simp [ownF]) b6 x3
  simp only [ownF, List.mem_cons] at hy
  rcases hy with rfl | rfl | rfl | rfl | rfl | hy
  · exact absurd rfl hyp
  · exact K2.2 _ (hn _ (by simp))
  · exact K4.2 _ n5
  · exact K2.2 _ (hn _ (by simp))
  · exact K2.2 _ (hn _ (by simp))
  · exact K2.2 _ (hn _ (by simp [hy]))
theorem use_Machine {P : Program} {w : World} {K : PySem.W.Frag} {C CM CD CB dg pb r a : Addr} {m pc acc x mark out count : Int} {ws : List Int} {l : List Tx} {H : Hp} {Q : VK} {E : XK} (hd : DigB CD H dg pb m) (hb : BkG P w CB H pb m l) (hl0 : l.length ≤ 50000) (hr : SqT K H r (regsV pc acc x mark out count)) (ha : SqT K H a (iv ws)) (hl : ws.length ≤ 256)
    (k : ∀ p F H' l', (∀ y ∈ F, H y = none) → Kit.KeepE pb H H' → MacAt K C CM H' p F dg m ⟨pc, acc, x, mark, out, count, padW ws, []⟩ → BkG P w CB H' pb m l' → Ext l l' (memX m (padW ws)) 512 → Q (.ref p) H') : Kit.MakeOf C (sp_Machine_init P w K C CM CD CB) E [.ref dg, .ref r, .ref a] H Q := by
  refine Kit.w_made fun p dx H2 hx e h => ?_
  have hxp : p ≠ pb := by
    obtain ⟨_, _, _, z⟩ := hb.pbI
    rintro rfl
    rw [hx] at z; cases z
  have kE : Kit.KeepE pb H H2 := .of e
  refine ⟨p, dx, dg, pb, r, a, m, pc, acc, x, mark, out, count, ws, l, rfl, h, hxp, hd.keep kE, hb.exE e, hl0, Evl.ex_t e hr, Evl.ex_t e ha, hl, fun H3 F l3 m3 hm hn hp b3 x3 => ⟨rfl, k p F H3 l3 (fun y hy => ?_) (KeepF.new kE m3 fun y hy => by rw [List.mem_singleton.mp hy]; exact hx) hm b3 x3⟩⟩
  by_cases hyp : y = p
  · rw [hyp]; exact hx
  · exact kE.2 y (hn y hy hyp)
local macro_rules | `(tactic| walk_at "wp1") => `(tactic| ((with_reducible show Kit.MakeOf _ (sp_Machine_init _ _ _ _ _ _ _) _ _ _ _); refine mk_stop ?_))

/-! ### a machine asked -/
section
variable {K : PySem.W.Frag} {C CM dg p : Addr} {F : List Addr} {m : Int} {s : MSt} {H : Hp} {R : Prop}
theorem MacAt.ins (h : MacAt K C CM H p F dg m s) {x : Str} (l : ∀ a b c d, (fl_Machine a b c d).lookup x = none) (r : R) : Kit.InsOf C x (.ref p) H R := let ⟨_, _, _, _, _, _, _, a, _⟩ := h.ex; Kit.w_ins a.at_ (l _ _ _ _) r
end
local macro_rules | `(tactic| walk_at "mac") => `(tactic| first | with_reducible assumption | exact MacAt.exE (by with_reducible assumption) (by walk_at "mac") | fail)
local macro_rules | `(tactic| walk_at "wp1") => `(tactic| ((with_reducible show Kit.InsOf _ _ _ _ _); refine MacAt.ins (by walk_at "mac") (fun _ _ _ _ => rfl) ?_))
def sp_Machine_registers (K : PySem.W.Frag) (C CM : Addr) : Sp := fun vs H Q _ => ∃ (p : Addr) (F : List Addr) (dg : Addr) (m : Int) (s : MSt), vs = [.ref p] ∧ MacAt K C CM H p F dg m s ∧ ∀ r, SqT K H r (regsV s.pc s.acc s.x s.mark s.out s.count) → Q (.ref r) H
theorem ok_Machine_registers (T : Txt K mg) : FnOk P w K mg base CX0 1 T.f_Machine_registers.f T.f_Machine_registers.fd ["self"] (sp_Machine_registers K T.c_Machine.C T.c_Memory.C) := by
  refine T.f_Machine_registers.F.ok sc_Machine_registers (fun vs H Q E h => ?_) (fun cdv A outer s H vs Q E hr h => ?_)
  · obtain ⟨p, F, dg, m, s, rfl, hm, q⟩ := h
    rfl
  obtain ⟨p, F, dg, m, s, rfl, hm, q⟩ := h
  have nd := sc_Machine_registers.nd
  refine Kit.ok_body (σ := [some _]) ((pss_one (ps_ret (Kit.kFld K (pv 0) rfl)))) rfl ?_
  obtain ⟨dx, r, mp, ta, wa, la, ps, a, rfl⟩ := hm.ex
  have hp := a.at_
  walk_at "wp"
  exact q r a.regs
def sp_Machine_words (K : PySem.W.Frag) (C CM : Addr) : Sp := fun vs H Q _ => ∃ (p : Addr) (F : List Addr) (dg : Addr) (m : Int) (s : MSt), vs = [.ref p] ∧ MacAt K C CM H p F dg m s ∧ ∀ t H', H t = none → Evl.Ex H H' → H' t = some (.tup (iv s.mem)) → Q (.ref t) H'
theorem ok_Machine_words (T : Txt K mg) : FnOk P w K mg base CX0 2 T.f_Machine_words.f T.f_Machine_words.fd ["self"] (sp_Machine_words K T.c_Machine.C T.c_Memory.C) := by
  have G_Memory_words := ok_Memory_words (P := P) (w := w) (base := base) T
  refine T.f_Machine_words.F.ok sc_Machine_words (fun vs H Q E h => ?_) (fun cdv A outer s H vs Q E hr h => ?_)
  · obtain ⟨p, F, dg, m, s, rfl, hm, q⟩ := h
    rfl
  obtain ⟨p, F, dg, m, s, rfl, hm, q⟩ := h
  have nd := sc_Machine_words.nd
  have hr1 : Room 1 _ := hr.mono (by decide)
  refine Kit.ok_body (σ := [some _]) ((pss_one (ps_ret (pe_meth0 (Kit.kFld K (pv 0) rfl) T.c_Memory.cl T.m_Memory_words G_Memory_words hr1 T.f_Memory_words.b .nil pass0)))) rfl ?_
  try dsimp only [L2.cxOf, L2.Cx.nox]
  obtain ⟨dx, r, mp, ta, wa, la, ps, a, rfl⟩ := hm.ex
  have hp := a.at_
  obtain ⟨dm, hmp⟩ := a.mem.at_
  walk_at "wp"
  exact ⟨mp, dg, wa, la, ps, m, s.mem, rfl, a.mem, q⟩
def sp_Machine_word (K : PySem.W.Frag) (C CM : Addr) : Sp := fun vs H Q _ => ∃ (p : Addr) (F : List Addr) (dg : Addr) (m : Int) (s : MSt) (k : Int), vs = [.ref p, .int k] ∧ MacAt K C CM H p F dg m s ∧ Q (.int (wordAt s.mem k)) H
theorem ok_Machine_word (T : Txt K mg) : FnOk P w K mg base CX0 2 T.f_Machine_word.f T.f_Machine_word.fd ["self", "place"] (sp_Machine_word K T.c_Machine.C T.c_Memory.C) := by
  have G_Memory_word := ok_Memory_word (P := P) (w := w) (base := base) T
  refine T.f_Machine_word.F.ok sc_Machine_word (fun vs H Q E h => ?_) (fun cdv A outer s H vs Q E hr h => ?_)
  · obtain ⟨p, F, dg, m, s, k, rfl, hm, q⟩ := h
    rfl
  obtain ⟨p, F, dg, m, s, k, rfl, hm, q⟩ := h
  have nd := sc_Machine_word.nd
  have hr1 : Room 1 _ := hr.mono (by decide)
  refine Kit.ok_body (σ := [some _, some _]) ((pss_one (ps_ret (pe_meth (Kit.kFld K (pv 0) rfl) T.c_Memory.cl T.m_Memory_word G_Memory_word hr1 T.f_Memory_word.b .nil pass0 (pa_cons (pv 1) pa_nil))))) rfl ?_
  try dsimp only [L2.cxOf, L2.Cx.nox]
  obtain ⟨dx, r, mp, ta, wa, la, ps, a, rfl⟩ := hm.ex
  have hp := a.at_
  obtain ⟨dm, hmp⟩ := a.mem.at_
  walk_at "wp"
  exact ⟨mp, dg, wa, la, ps, m, s.mem, k, rfl, a.mem, q⟩
def sp_Machine_path (K : PySem.W.Frag) (C CM : Addr) : Sp := fun vs H Q _ => ∃ (p : Addr) (F : List Addr) (dg : Addr) (m : Int) (s : MSt) (k : Int), vs = [.ref p, .int k] ∧ MacAt K C CM H p F dg m s ∧ ∀ t H', H t = none → Evl.Ex H H' → H' t = some (.tup (iv (memPath m s.mem (k % 256).toNat))) → Q (.ref t) H'
theorem ok_Machine_path (T : Txt K mg) : FnOk P w K mg base CX0 3 T.f_Machine_path.f T.f_Machine_path.fd ["self", "place"] (sp_Machine_path K T.c_Machine.C T.c_Memory.C) := by
  have G_Memory_path := ok_Memory_path (P := P) (w := w) (base := base) T
  refine T.f_Machine_path.F.ok sc_Machine_path (fun vs H Q E h => ?_) (fun cdv A outer s H vs Q E hr h => ?_)
  · obtain ⟨p, F, dg, m, s, k, rfl, hm, q⟩ := h
    rfl
  obtain ⟨p, F, dg, m, s, k, rfl, hm, q⟩ := h
  have nd := sc_Machine_path.nd
  have hr2 : Room 2 _ := hr.mono (by decide)
  refine Kit.ok_body (σ := [some _, some _]) ((pss_one (ps_ret (pe_meth (Kit.kFld K (pv 0) rfl) T.c_Memory.cl T.m_Memory_path G_Memory_path hr2 T.f_Memory_path.b .nil pass0 (pa_cons (pv 1) pa_nil))))) rfl ?_
  try dsimp only [L2.cxOf, L2.Cx.nox]
  obtain ⟨dx, r, mp, ta, wa, la, ps, a, rfl⟩ := hm.ex
  have hp := a.at_
  obtain ⟨dm, hmp⟩ := a.mem.at_
  walk_at "wp"
  exact ⟨mp, dg, wa, la, ps, m, s.mem, k, rfl, a.mem, q⟩
def sp_Machine_root (K : PySem.W.Frag) (C CM : Addr) : Sp := fun vs H Q _ => ∃ (p : Addr) (F : List Addr) (dg : Addr) (m : Int) (s : MSt), vs = [.ref p] ∧ MacAt K C CM H p F dg m s ∧ Q (.int (memRoot m s.mem)) H
theorem ok_Machine_root (T : Txt K mg) : FnOk P w K mg base CX0 2 T.f_Machine_root.f T.f_Machine_root.fd ["self"] (sp_Machine_root K T.c_Machine.C T.c_Memory.C) := by
  have G_Memory_root := ok_Memory_root (P := P) (w := w) (base := base) T
  refine T.f_Machine_root.F.ok sc_Machine_root (fun vs H Q E h => ?_) (fun cdv A outer s H vs Q E hr h => ?_)
  · obtain ⟨p, F, dg, m, s, rfl, hm, q⟩ := h
    rfl
  obtain ⟨p, F, dg, m, s, rfl, hm, q⟩ := h
  have nd := sc_Machine_root.nd
  have hr1 : Room 1 _ := hr.mono (by decide)
  refine Kit.ok_body (σ := [some _]) ((pss_one (ps_ret (pe_meth0 (Kit.kFld K (pv 0) rfl) T.c_Memory.cl T.m_Memory_root G_Memory_root hr1 T.f_Memory_root.b .nil pass0)))) rfl ?_
  try dsimp only [L2.cxOf, L2.Cx.nox]
  obtain ⟨dx, r, mp, ta, wa, la, ps, a, rfl⟩ := hm.ex
  have hp := a.at_
  obtain ⟨dm, hmp⟩ := a.mem.at_
  walk_at "wp"
  exact ⟨mp, dg, wa, la, ps, m, s.mem, rfl, a.mem, q⟩
def sp_Machine_told (K : PySem.W.Frag) (C CM : Addr) : Sp := fun vs H Q _ => ∃ (p : Addr) (F : List Addr) (dg : Addr) (m : Int) (s : MSt), vs = [.ref p] ∧ MacAt K C CM H p F dg m s ∧ ∀ t H', H t = none → Evl.Ex H H' → H' t = some (.tup (iv s.told)) → Q (.ref t) H'
theorem ok_Machine_told (T : Txt K mg) : FnOk P w K mg base CX0 1 T.f_Machine_told.f T.f_Machine_told.fd ["self"] (sp_Machine_told K T.c_Machine.C T.c_Memory.C) := by
  refine T.f_Machine_told.F.ok sc_Machine_told (fun vs H Q E h => ?_) (fun cdv A outer s H vs Q E hr h => ?_)
  · obtain ⟨p, F, dg, m, s, rfl, hm, q⟩ := h
    rfl
  obtain ⟨p, F, dg, m, s, rfl, hm, q⟩ := h
  have nd := sc_Machine_told.nd
  refine Kit.ok_body (σ := [some _]) ((pss_one (ps_ret (pe_callTy (Kit.kTuple K) (by rfl) T.z_tuple (by decide +kernel) (pa_cons (Kit.kFld K (pv 0) rfl) pa_nil))))) rfl ?_
  obtain ⟨dx, r, mp, ta, wa, la, ps, a, rfl⟩ := hm.ex
  have hp := a.at_
  have ht := a.told
  walk_at "wp"
  rename_i t H' n e f
  exact q t H' n e f
def regsI (s : MSt) : List Int := [s.pc, s.acc, s.x, s.mark, s.out, s.count]
def digestM (m : Int) (s : MSt) : Int := stateI m (regsI s ++ [memRoot m s.mem])
theorem root_dg {m : Int} (hm : 0 < m) {ws : List Int} (hl : ws.length = 256) : Dg m (memRoot m ws) := by
  have h := levs_last (f := foldI m) 8 (ws.map (leafI m)) (by rw [List.length_map, hl])
  have := levs_dg hm 8 _ (leaves_dg hm ws) _ (List.mem_of_getElem? h)
  exact this _ (by simp [memRoot])
theorem SOk.nums {m : Int} {s : MSt} (h : SOk m s) (h1 : m < 2 ^ 62) (hm : 0 < m) : ∀ n ∈ regsI s ++ [memRoot m s.mem], 0 ≤ n ∧ n < 2 ^ 62 := by
  intro n hn
  simp only [regsI, List.cons_append, List.nil_append, List.mem_cons, List.not_mem_nil, or_false] at hn
  have := root_dg hm h.len
  obtain ⟨r0, r1⟩ := this
  obtain ⟨a0, a1⟩ := h.acc
  obtain ⟨x0, x1⟩ := h.x
  obtain ⟨o0, o1⟩ := h.out
  have := h.pc
  have := h.mark
  have := h.count
  rcases hn with rfl | rfl | rfl | rfl | rfl | rfl | rfl <;> omega
def sp_Machine_digest (P : Program) (w : World) (K : PySem.W.Frag) (C CM CD CB : Addr) : Sp := fun vs H Q _ => ∃ (p : Addr) (F : List Addr) (dg pb : Addr) (m : Int) (s : MSt) (l : List Tx), vs = [.ref p] ∧ MacAt K C CM H p F dg m s ∧ DigB CD H dg pb m ∧ BkG P w CB H pb m l ∧ l.length ≤ 90000 ∧ 100 < m ∧ SOk m s ∧ ∀ H', Kit.KeepE pb H H' → BkG P w CB H' pb m (addX l (.st (regsI s ++ [memRoot m s.mem]))) → Q (.int (digestM m s)) H'
/-- a tuple added to a tuple: a new one -/
theorem w_catT2 {K : PySem.W.Frag} {a b : Addr} {xs ys : List V} {H : Hp} {Q : VK} (h : SqT K H a xs) (h2 : SqT K H b ys) (hx : xs ≠ []) (hy : ys ≠ []) (hl : xs.length + ys.length ≤ 100000) (q : ∀ p H2, H p = none → Evl.Ex H H2 → H2 p = some (.tup (xs ++ ys)) → Q (.ref p) H2) : rCatA K (.ref a) (.ref b) H Q :=
  ⟨a, b, xs, ys, rfl, rfl, h, h2, Evl.sz_of hl, fun e => absurd e hx, fun _ e => absurd e hy, fun _ _ p hp => q p _ hp (Evl.Ex.new hp) upd_same⟩
local macro_rules | `(tactic| walk_at "wp1") => `(tactic| first | ((with_reducible show L2.rCatA _ _ _ _ _); refine w_catT2 (by walk_at "sqT") (by walk_at "sqT") (by simp [regsV]) (by simp) (by walk_at "len2") ?_; intro _ _ _ _ _) | fail)
theorem use_stateG {P : Program} {w : World} {C CB p pb a : Addr} {m : Int} {l : List Tx} {ns : List Int} {H : Hp} {Q : VK} {E : XK} (hd : DigB C H p pb m) (hb : BkG P w CB H pb m l) (m3 : 3 < m) (ha : H a = some (.tup (iv ns))) (hn : ∀ n ∈ ns, 0 ≤ n ∧ n < 2 ^ 62) (hln : ns.length ≤ 1000) (hl : l.length ≤ 100000)
    (q : ∀ H', Kit.KeepE pb H H' → BkG P w CB H' pb m (addX l (.st ns)) → Q (.int (stateI m ns)) H') : sp_state P w C CB [.ref p, .ref a] H Q E := by
  obtain ⟨dx, b, h⟩ := hd.at_
  exact ⟨p, dx, b, .ref pb, m, a, ns, rfl, h, m3, hd.lt, ha, hn, hln, hb.noteK hl (.st ns) q⟩
theorem ok_Machine_digest (T : Txt K mg) : FnOk P w K mg base CX0 4 T.f_Machine_digest.f T.f_Machine_digest.fd ["self"] (sp_Machine_digest P w K T.c_Machine.C T.c_Memory.C T.c_Digests.C T.c_Book.C) := by
  have G_Digests_state := ok_Digests_state (P := P) (w := w) (base := base) T
  have G_Memory_root := ok_Memory_root (P := P) (w := w) (base := base) T
  refine T.f_Machine_digest.F.ok sc_Machine_digest (fun vs H Q E h => ?_) (fun cdv A outer s H vs Q E hr h => ?_)
  · obtain ⟨p, F, dg, pb, m, s, l, rfl, hm, hd, hb, hl, m1, ok, q⟩ := h
    rfl
  obtain ⟨p, F, dg, pb, m, s, l, rfl, hm, hd, hb, hl, m1, ok, q⟩ := h
  have nd := sc_Machine_digest.nd
  have hr1 : Room 1 _ := hr.mono (by decide)
  have hr3 : Room 3 _ := hr.mono (by decide)
  refine Kit.ok_body (σ := [some _]) ((pss_one (ps_ret (pe_meth (Kit.kFld K (pv 0) rfl) T.c_Digests.cl T.m_Digests_state G_Digests_state hr3 T.f_Digests_state.b .nil pass0 (pa_cons (pe_op (Kit.kCat K) (Kit.kFld K (pv 0) rfl) (pe_tup (pa_cons (pe_meth0 (Kit.kFld K (pv 0) rfl) T.c_Memory.cl T.m_Memory_root G_Memory_root hr1 T.f_Memory_root.b .nil pass0) pa_nil))) pa_nil))))) rfl ?_
  try dsimp only [L2.cxOf, L2.Cx.nox]
  obtain ⟨dx, r, mp, ta, wa, la, ps, a, rfl⟩ := hm.ex
  have hp := a.at_
  obtain ⟨dm, hmp⟩ := a.mem.at_
  have hrg := a.regs
  walk_at "wp"
  refine ⟨mp, dg, wa, la, ps, m, s.mem, rfl, a.mem, ?_⟩
  walk_at "wp"
  rename_i t1 H1 n1 e1 f1 t2 H2 n2 e2 f2
  refine use_stateG (hd.keep (.of (e1.trans e2))) (hb.exE (e1.trans e2)) (by omega) (ns := regsI s ++ [memRoot m s.mem]) f2 (ok.nums hd.lt hd.pos) (by simp [regsI]) (by omega) fun H3 k3 b3 => q _ ((Kit.KeepE.of (p := pb) (e1.trans e2)).trans k3) b3

/-! ### told texts: of a whole memory, of one place -/
theorem mem_prsX {f : Int → Int → Int} : ∀ {r : List Int} {n : Nat}, r.length = 2 * n → ∀ t, t ∈ prsX r ↔ ∃ a, a < n ∧ t = .fd ((r[2 * a]?).getD 0) ((r[2 * a + 1]?).getD 0) := by
  intro r n h t
  constructor
  · intro ht
    obtain ⟨i, hi⟩ := List.mem_iff_getElem?.mp ht
    have hl : i < n := by
      have := (List.getElem?_eq_some_iff.mp hi).1
      rw [prsX_len h] at this
      exact this
    rw [prsX_at h hl] at hi
    exact ⟨i, hl, (Option.some.inj hi).symm⟩
  · rintro ⟨a, ha, rfl⟩
    exact List.mem_of_getElem? (prsX_at h ha)
theorem mem_treeX {f : Int → Int → Int} : ∀ (k : Nat) (r : List Int), r.length = 2 ^ k → ∀ t, t ∈ treeX f k r ↔ ∃ j i, j < 2 ^ k ∧ i < k ∧ t = chgG (KM.levs f k r) j i
  | 0, r, _, t => ⟨fun h => absurd h (by simp [treeX]), fun ⟨_, _, _, h, _⟩ => absurd h (Nat.not_lt_zero _)⟩
  | k + 1, r, h, t => by
    have h' := h
    rw [KM.two_pow] at h
    have hB : ∀ i, (KM.levs f (k + 1) r)[i + 1]? = (KM.levs f k (KM.pairs f r))[i]? := fun i => rfl
    have h0 : (KM.levs f (k + 1) r)[0]? = some r := rfl
    show t ∈ prsX r ++ treeX f k (KM.pairs f r) ↔ _
    rw [List.mem_append, mem_prsX (f := f) h, mem_treeX k _ (KM.pairs_len r h)]
    constructor
    · rintro (⟨a, ha, rfl⟩ | ⟨j, i, hj, hi, rfl⟩)
      · refine ⟨2 * a, 0, by rw [KM.two_pow]; omega, by omega, ?_⟩
        unfold chgG
        rw [h0, show 2 * a / 2 ^ (0 + 1) = a by omega]
        rfl
      · refine ⟨2 * j, i + 1, by rw [KM.two_pow]; omega, by omega, ?_⟩
        unfold chgG
        rw [hB, show 2 * j / 2 ^ (i + 1 + 1) = j / 2 ^ (i + 1) by rw [KM.two_pow (i + 1), Nat.mul_div_mul_left _ _ (by decide)]]
    · rintro ⟨j, i, hj, hi, rfl⟩
      rw [KM.two_pow] at hj
      cases i with
      | zero =>
        refine .inl ⟨j / 2, by omega, ?_⟩
        unfold chgG
        rw [h0]
        rfl
      | succ i =>
        refine .inr ⟨j / 2, i, by omega, by omega, ?_⟩
        unfold chgG
        rw [hB, show j / 2 ^ (i + 1 + 1) = j / 2 / 2 ^ (i + 1) by rw [KM.two_pow (i + 1), Nat.div_div_eq_div_mul]]
def tellX (m : Int) (ws : List Int) (j : Nat) : List Tx := chgX m ws j ((ws[j]?).getD 0)
theorem mem_memX {m : Int} {ws : List Int} (hl : ws.length = 256) (t : Tx) : t ∈ memX m ws ↔ ∃ j, j < 256 ∧ t ∈ tellX m ws j := by
  have h8 : (ws.map (leafI m)).length = 2 ^ 8 := by rw [List.length_map, hl]
  unfold memX tellX chgX
  rw [List.mem_append, List.mem_map, mem_treeX 8 _ h8]
  constructor
  · rintro (⟨w, hw, rfl⟩ | ⟨j, i, hj, hi, rfl⟩)
    · obtain ⟨j, hj⟩ := List.mem_iff_getElem?.mp hw
      have hjl := (List.getElem?_eq_some_iff.mp hj).1
      exact ⟨j, by omega, by rw [hj]; exact List.mem_cons_self⟩
    · exact ⟨j, hj, List.mem_cons_of_mem _ (List.mem_map.mpr ⟨i, List.mem_range.mpr hi, rfl⟩)⟩
  · rintro ⟨j, hj, h⟩
    rcases List.mem_cons.mp h with rfl | h
    · refine .inl ⟨(ws[j]?).getD 0, ?_, rfl⟩
      rw [List.getElem?_eq_getElem (by omega)]
      exact List.getElem_mem _
    · obtain ⟨i, hi, rfl⟩ := List.mem_map.mp h
      exact .inr ⟨j, i, hj, List.mem_range.mp hi, rfl⟩
/-- as many texts as keys -/
theorem same_len : ∀ {a b : List Tx}, a.Nodup → b.Nodup → (∀ t, t ∈ a ↔ t ∈ b) → a.length = b.length := by
  intro a b ha hb h
  exact ((List.perm_ext_iff_of_nodup ha hb).mpr h).length_eq
def keyT : Tx → List Key
  | .lf w => [.inr "leaf", .inl w]
  | .fd x y => [.inr "fold", .inl x, .inl y]
  | .st ns => .inr "state" :: ns.map .inl
theorem keyT_inj {t u : Tx} (h : keyT t = keyT u) : t = u := by
  have ne1 : (("leaf" : Str)) ≠ "fold" := by decide +kernel
  have ne2 : (("leaf" : Str)) ≠ "state" := by decide +kernel
  have ne3 : (("fold" : Str)) ≠ "state" := by decide +kernel
  have im : ∀ {a b : List Int}, a.map (Sum.inl : Int → Key) = b.map Sum.inl → a = b := fun {a b} z => by
    have := congrArg (List.map fun k : Key => match k with | .inl i => i | .inr _ => 0) z
    simpa [List.map_map, Function.comp_def] using this
  cases t <;> cases u
  all_goals (simp only [keyT, List.cons.injEq, Sum.inr.injEq, Sum.inl.injEq, and_true] at h)
  · rw [h.2]
  · exact absurd h.1 ne1
  · exact absurd h.1 ne2
  · exact absurd h.1.symm ne1
  · rw [h.2.1, h.2.2]
  · exact absurd h.1 ne3
  · exact absurd h.1.symm ne2
  · exact absurd h.1.symm ne3
  · rw [im h.2]
def yesX (l : List Tx) : List (List Key × V) := l.map fun t => (keyT t, V.bl true)
theorem yesX_any (l : List Tx) (t : Tx) : ((yesX l).any fun kv => decide (kv.1 = keyT t)) = decide (t ∈ l) := by
  unfold yesX
  rw [List.any_map, Bool.eq_iff_iff, List.any_eq_true, decide_eq_true_iff]
  constructor
  · rintro ⟨x, hx, e⟩
    exact keyT_inj (of_decide_eq_true e : keyT x = keyT t) ▸ hx
  · exact fun h => ⟨t, h, decide_eq_true rfl⟩
theorem put_yesX (l : List Tx) (t : Tx) : putK (yesX l) (keyT t) (V.bl true) = yesX (addX l t) := by
  unfold putK addX
  rw [yesX_any]
  by_cases h : t ∈ l
  · rw [if_pos (decide_eq_true h), if_pos h]
    unfold yesX
    rw [List.map_map]
    refine List.map_congr_left fun x _ => ?_
    show (if keyT x = keyT t then (keyT x, V.bl true) else (keyT x, V.bl true)) = (keyT x, V.bl true)
    split <;> rfl
  · rw [if_neg (by rw [decide_eq_false h]; exact Bool.false_ne_true), if_neg h]
    unfold yesX
    rw [List.map_append]
    rfl

/-! ### a step -/
theorem w_lawnone {x : V} {H : Hp} {Q : VK} (h : x = .non) (q : Q (.bl true) H) : Kit.rIsNo x .non H Q := by subst h; exact ⟨rfl, q⟩
theorem stepM_go {m : Int} {s : MSt} (h : s.mark = 0) : s.stepM m = (s.workM m (s.at s.pc / 1024) (s.at s.pc % 1024)).1.setPc (s.workM m (s.at s.pc / 1024) (s.at s.pc % 1024)).2 := if_pos h
theorem m_cutN {a b : TS} {nx bk ct : L2.St → Hp → Prop} {rt : VK} {σ : L2.St} {H : Hp} (M : L2.St → Hp → Prop) (k : ∀ N : L2.St → Hp → Prop, (∀ σ H, M σ H → N σ H) → Kit.Sm a N rt bk ct σ H) (h : ∀ σ H, M σ H → Kit.Sm b nx rt bk ct σ H) : Kit.Sm (tSeq a b) nx rt bk ct σ H := k _ h
theorem writL_non {s : MSt} {o : Option (Int × Bool)} (h : ∀ k, o ≠ some (k, true)) : writL s o = .non := by
  rcases o with _ | ⟨k, b⟩
  · rfl
  · cases b
    · rfl
    · exact absurd rfl (h k)
theorem stepM_rest {m : Int} {s : MSt} (h : ¬ s.mark = 0) : s.stepM m = s := if_neg h
theorem wordAt_pc {m : Int} {s : MSt} (h : SOk m s) : wordAt s.mem s.pc = s.at s.pc := by
  have := h.pc
  unfold wordAt MSt.at
  rw [Int.emod_eq_of_lt this.1 this.2]
theorem wordAt_in {s : MSt} {k : Int} (h0 : 0 ≤ k) (h1 : k < 256) : wordAt s.mem k = s.at k := by
  unfold wordAt MSt.at
  rw [Int.emod_eq_of_lt h0 h1]
theorem dataM_none {s : Str} {word x : Int} (h : dataM s word x = none) : ¬ (s = "back" ∨ s = "within" ∨ s ∈ sgs) := by
  intro z
  unfold dataM at h
  rw [if_pos (by
    rcases z with rfl | rfl | z
    · exact .inl (by decide +kernel)
    · exact .inl (by decide +kernel)
    · exact .inr z)] at h
  cases h
theorem dataL_in {n a x k : Int} {b : Bool} (h : dataL n a x = some (k, b)) : k = otherM n a x ∧ 0 ≤ k ∧ k < 256 := by
  unfold dataL at h
  have := other_in n a x
  split at h
  · injection h with h; injection h with h _; omega
  · split at h
    · injection h with h; injection h with h _; omega
    · cases h
theorem set256 {ws : List Int} {k v : Int} (h0 : 0 ≤ k) (h1 : k < 256) : ws.set (k % 256).toNat v = ws.set k.toNat v := by rw [Int.emod_eq_of_lt h0 h1]
/-- the texts of a memory that was changed -/
theorem memX_set {m : Int} {ws : List Int} {j : Nat} {v : Int} (hl : ws.length = 256) (hj : j < 256) : ∀ t ∈ memX m (ws.set j v), t ∈ memX m ws ∨ t ∈ chgX m (ws.set j v) j v := by
  intro t ht
  have hl2 : (ws.set j v).length = 256 := by rw [List.length_set]; exact hl
  obtain ⟨p, hp, ht⟩ := (mem_memX hl2 t).mp ht
  unfold tellX chgX at ht
  rcases List.mem_cons.mp ht with rfl | ht
  · by_cases e : p = j
    · subst e
      rw [List.getElem?_set_self (by omega)]
      exact .inr List.mem_cons_self
    · rw [List.getElem?_set_ne (Ne.symm e)]
      exact .inl ((mem_memX hl _).mpr ⟨p, hp, List.mem_cons_self⟩)
  · obtain ⟨i, hi, rfl⟩ := List.mem_map.mp ht
    have hi8 : i < 8 := List.mem_range.mp hi
    by_cases e : p / 2 ^ (i + 1) = j / 2 ^ (i + 1)
    · refine .inr (List.mem_cons_of_mem _ (List.mem_map.mpr ⟨i, hi, ?_⟩))
      unfold chgG
      rw [e]
    · refine .inl ((mem_memX hl _).mpr ⟨p, hp, List.mem_cons_of_mem _ (List.mem_map.mpr ⟨i, hi, ?_⟩)⟩)
      have h8 : (ws.map (leafI m)).length = 2 ^ 8 := by rw [List.length_map, hl]
      obtain ⟨r, w, h1, h2⟩ := levs_set (f := foldI m) 8 (ws.map (leafI m)) j (leafI m v) i h8 hj (by omega)
      unfold chgG
      rw [List.map_set, h1, h2]
      have e2 : j / 2 ^ i / 2 = j / 2 ^ (i + 1) := by rw [Nat.div_div_eq_div_mul, Nat.mul_comm, ← KM.two_pow]
      generalize j / 2 ^ i = x at *
      generalize p / 2 ^ (i + 1) = y at *
      show Tx.fd ((r[2 * y]?).getD 0) ((r[2 * y + 1]?).getD 0) = Tx.fd (((r.set x w)[2 * y]?).getD 0) (((r.set x w)[2 * y + 1]?).getD 0)
      rw [List.getElem?_set_ne (by omega), List.getElem?_set_ne (by omega)]
def sp_Machine_step (P : Program) (w : World) (K : PySem.W.Frag) (C CM CD CB : Addr) : Sp := fun vs H Q _ => ∃ (p : Addr) (F : List Addr) (dg pb : Addr) (m : Int) (s : MSt) (l : List Tx), vs = [.ref p] ∧ MacAt K C CM H p F dg m s ∧ DigB CD H dg pb m ∧ BkG P w CB H pb m l ∧ l.length ≤ 80000 ∧ 100 < m ∧ SOk m s ∧ (∀ t ∈ memX m s.mem, t ∈ l) ∧
  ∀ H' l', KeepF pb F H H' → MacAt K C CM H' p F dg m (s.stepM m) → BkG P w CB H' pb m l' → Gr l l' 20 → (∀ t ∈ memX m (s.stepM m).mem, t ∈ l') → Q .non H'
theorem ok_Machine_step (T : Txt K mg) : FnOk P w K mg base CX0 6 T.f_Machine_step.f T.f_Machine_step.fd ["self"] (sp_Machine_step P w K T.c_Machine.C T.c_Memory.C T.c_Digests.C T.c_Book.C) := by
  have G_Memory_change := ok_Memory_change (P := P) (w := w) (base := base) T
  have G_Memory_word := ok_Memory_word (P := P) (w := w) (base := base) T
  have G_data_of := ok_data_of (P := P) (w := w) (base := base) T
  have G_done_by := ok_done_by (P := P) (w := w) (base := base) T
  refine T.f_Machine_step.F.ok sc_Machine_step (fun vs H Q E h => ?_) (fun cdv A outer s H vs Q E hr h => ?_)
  · obtain ⟨p, F, dg, pb, m, s, l, rfl, hm, hd, hb, hl0, m1, ok, hml, q⟩ := h
    rfl
  obtain ⟨p, F, dg, pb, m, s, l, rfl, hm, hd, hb, hl0, m1, ok, hml, q⟩ := h
  have nd := sc_Machine_step.nd
  have hr1 : Room 1 _ := hr.mono (by decide)
  have hr2 : Room 2 _ := hr.mono (by decide)
  have hr4 : Room 4 _ := hr.mono (by decide)
  have hr5 : Room 5 _ := hr.mono (by decide)
  refine Kit.ok_body (σ := [some _, none, none, none, none, none, none, none, none, none, none]) ((pss_cons (ps_asg (Kit.kFld K (pv 0) rfl) (Kit.kgTup K rfl (pgs_cons (pg_name (i := 1) nd rfl (Or.inl rfl)) (pgs_cons (pg_name (i := 2) nd rfl (Or.inl rfl)) (pgs_cons (pg_name (i := 3) nd rfl (Or.inl rfl)) (pgs_cons (pg_name (i := 4) nd rfl (Or.inl rfl)) (pgs_cons (pg_name (i := 5) nd rfl (Or.inl rfl)) (pgs_cons (pg_name (i := 6) nd rfl (Or.inl rfl)) pgs_nil))))))))
    (pss_cons (ps_if (pt_cmpR op_ne (pv 4) pe_int (nomark _))
    (pss_one ps_retN)
    pss_nil)
    (pss_cons (ps_set (i := 7) nd rfl (Or.inl rfl) (pe_meth (Kit.kFld K (pv 0) rfl) T.c_Memory.cl T.m_Memory_word G_Memory_word hr1 T.f_Memory_word.b .nil pass0 (pa_cons (pv 1) pa_nil)))
    (pss_cons (ps_set (i := 8) nd rfl (Or.inl rfl) (pe_call G_data_of hr2 (by rfl) T.f_data_of.g T.f_data_of.F.kp T.f_data_of.b .nil pass0 (pa_cons (Kit.kFld K (pv 0) rfl) (pa_cons (pv 7) pa_nil))))
    (pss_cons (ps_set (i := 9) nd rfl (Or.inl rfl) (pe_ifExp (pt_cmpR Kit.k_isN (pv 8) pe_non (nomark _)) pe_non (pe_meth (Kit.kFld K (pv 0) rfl) T.c_Memory.cl T.m_Memory_word G_Memory_word hr1 T.f_Memory_word.b .nil pass0 (pa_cons (pe_ix (Kit.ixT K) (pv 8) pe_int (fun _ _ => rfl)) pa_nil))))
    (pss_cons (ps_asg (pe_call G_done_by hr5 (by rfl) T.f_done_by.g T.f_done_by.F.kp T.f_done_by.b .nil pass0 (pa_cons (Kit.kFld K (pv 0) rfl) (pa_cons (Kit.kFld K (pv 0) rfl) (pa_cons (pv 7) (pa_cons (pv 9) pa_nil))))) (Kit.kgTup K rfl (pgs_cons (kgAttr K (pv 0)) (pgs_cons (pg_name (i := 10) nd rfl (Or.inl rfl)) pgs_nil))))
    (pss_cons (ps_if (pt_cmpR Kit.k_notN (pv 10) pe_non (nomark _))
    (pss_one (ps_expr (pe_meth (Kit.kFld K (pv 0) rfl) T.c_Memory.cl T.m_Memory_change G_Memory_change hr4 T.f_Memory_change.b .nil pass0 (pa_cons (pe_ix (Kit.ixT K) (pv 8) pe_int (fun _ _ => rfl)) (pa_cons (pv 10) pa_nil)))))
    pss_nil)
    (pss_one (ps_if (pt_cmpR op_gt (pe_ix (Kit.ixT K) (Kit.kFld K (pv 0) rfl) pe_int (fun _ _ => rfl)) (pv 6) (nomark _))
    (pss_one (ps_expr (pe_bm PySem.F.plainAttrs_list PySem.F.slot_list_append PySem.F.type_list_append mt_append (Kit.kFld K (pv 0) rfl) (pa_cons (pv 2) pa_nil))))
    pss_nil)))))))))) rfl ?_
  try dsimp only [L2.cxOf, L2.Cx.nox]
  have hdF := hm.digB hd
  have hbF := hm.bk hb
  have hkF := hm.kind
  obtain ⟨dx, r, mp, ta, wa, la, ps, a, rfl⟩ := hm.ex
  have hp := a.at_
  obtain ⟨dm, hmp⟩ := a.mem.at_
  have hr6 : SqT K H r [.int s.pc, .int s.acc, .int s.x, .int s.mark, .int s.out, .int s.count] := a.regs
  walk_at "wp"
  all_goals rename_i hmark
  rotate_left
  · exact q _ l (KeepF.of (.of (Evl.Ex.refl _))) (by rw [stepM_rest hmark]; exact hm) hb ((Gr.refl l).le (by decide)) (by rw [stepM_rest hmark]; exact hml)
  rw [stepM_go hmark] at q
  refine ⟨mp, dg, wa, la, ps, m, s.mem, s.pc, rfl, a.mem, ?_⟩
  rw [wordAt_pc ok]
  have hW := ok.at s.pc
  have hcount := ok.count
  generalize hword : s.at s.pc = word at *
  have hn0 : 0 ≤ word / 1024 := by have := hW.1; omega
  have hoth := other_in (word / 1024) (word % 1024) s.x
  walk_at "wp"
  refine ⟨r, word, s.pc, s.acc, s.x, s.mark, s.out, s.count, rfl, hr6, hW.1, hW.2, fun v H1 e1 hv => ?_⟩
  rw [data_math (a := word % 1024) hn0 (by omega)] at hv
  have hdI := ok.at (otherM (word / 1024) (word % 1024) s.x)
  have hwm := work_mem (m := m) (n := word / 1024) (a := word % 1024) ok.len
  have hsm := fun dv h => step_math (m := m) (word := word) (s := s) (dv := dv) hn0 ok.len rfl h hmark
  generalize hdd : s.at (otherM (word / 1024) (word % 1024) s.x) = d at hdI hsm
  generalize hod : dataL (word / 1024) (word % 1024) s.x = od at hv hwm hsm
  have hnone : od = none → ¬ (nm (word / 1024) = "back" ∨ nm (word / 1024) = "within" ∨ nm (word / 1024) ∈ sgs) := fun h => dataM_none (word := word) (x := s.x) (by rw [data_math (a := word % 1024) hn0 (by omega), hod, h])
  try refine Kit.m_norm (by simp only [List.set_cons_succ, List.set_cons_zero]; exact rfl) ?_
  refine m_cutN (fun σ' H' => ∃ dv, σ' = [some (.ref p), some (.int s.pc), some (.int s.acc), some (.int s.x), some (.int s.mark), some (.int s.out), some (.int s.count), some (.int word), some v, some dv, none] ∧ H1 = H' ∧ (od ≠ none → dv = .int d)) (fun N hN => ?_) ?_
  · rcases od with _ | ⟨k, b⟩
    · cases hv
      walk_at "wp"
      exact hN _ _ ⟨_, rfl, rfl, fun z => absurd rfl z⟩
    · obtain ⟨t, rfl, ft⟩ := hv
      obtain ⟨hk, hk0, hk1⟩ := dataL_in hod
      walk_at "wp"
      refine ⟨mp, dg, wa, la, ps, m, s.mem, k, rfl, a.mem.ex e1, ?_⟩
      rw [wordAt_in hk0 hk1, hk, hdd]
      walk_at "wp"
      exact hN _ _ ⟨_, rfl, rfl, fun _ => rfl⟩
  rintro σ' H1' ⟨dv, rfl, rfl, hdv⟩
  have hp1 := e1 _ _ hp
  have hne : ∀ x ∈ ownF p mp ta wa la ps, x ≠ pb := fun x hx z => hbF (z ▸ hx)
  have hppb : p ≠ pb := hne p (by simp [ownF])
  have htpb : ta ≠ pb := hne ta (by simp [ownF])
  have hdp : dg ≠ p := fun z => hdF (by rw [z]; simp [ownF])
  have hsm := hsm dv hdv
  generalize hw2 : s.workM m (word / 1024) (word % 1024) = sr at q hwm hsm
  obtain ⟨s2, r2⟩ := sr
  walk_at "wp"
  refine ⟨dg, pb, r, l, m, s.pc, s.acc, s.x, s.mark, s.out, s.count, word, d, dv, rfl, hd.keep (.of e1), hb.exE e1, by omega, Evl.ex_t e1 hr6, hW.1, hW.2, ok.acc.1, ok.acc.2, ok.out, fun z => ⟨hdv (fun y => hnone y z), hdI.1, hdI.2⟩, fun t1 t2 H2 l2 k2 b2 x2 g1 g2 => ?_⟩
  have K12 := (Kit.KeepE.of (p := pb) e1).trans k2
  have hd2 := hd.keep K12
  have mem2 : MemAt T.c_Memory.C H2 mp dg wa la ps m s.mem := a.mem.keepF (F := []) (KeepF.of K12) (fun x hx => ⟨(fun z => nomatch z), hne x (by simp only [ownF, List.mem_cons] at hx ⊢; rcases hx with rfl | rfl | rfl | hx; exact .inr (.inl rfl); exact .inr (.inr (.inr (.inr (.inl rfl)))); exact .inr (.inr (.inr (.inl rfl))); exact .inr (.inr (.inr (.inr (.inr hx)))))⟩)
  have ta2 : H2 ta = some (.lst (iv s.told)) := K12.1 _ _ htpb a.told rfl
  rw [hsm] at g1 g2
  have htp : ta ≠ p := by rintro rfl; rw [a.told] at hp; cases hp
  have htm : ∀ x ∈ mp :: wa :: la :: ps, x ∉ [ta] := fun x hx z => by
    rw [List.mem_singleton] at z
    subst z
    rcases List.mem_cons.mp hx with rfl | hx
    · rw [a.told] at hmp; cases hmp
    · exact a.nt hx
  have hpm : ∀ x ∈ mp :: wa :: la :: ps, x ∉ [p] := fun x hx z => by
    rw [List.mem_singleton] at z
    subst z
    rcases List.mem_cons.mp hx with rfl | hx
    · exact a.np rfl
    · rcases List.mem_cons.mp hx with rfl | hx
      · rw [a.mem.wds] at hp; cases hp
      · rcases List.mem_cons.mp hx with rfl | hx
        · rw [a.mem.lvl] at hp; cases hp
        · obtain ⟨ys, hy⟩ := a.mem.rows.mem hx; rw [hy] at hp; cases hp
  have hp2 := keep_ins hb K12 hp hppb
  have g1 : H2 t1 = some (.tup (regsL s2 r2)) := g1
  have htold := work_told m (word / 1024) (word % 1024) s
  rw [hw2] at htold
  have htold : (s2.count = s.count ∧ s2.told = s.told) ∨ (s2.count = s.count + 1 ∧ s2.told = s.told ++ [s.acc]) := htold
  have htl := ok.told
  have hpn : p ∉ wa :: ps := fun z => hpm p (by
    rcases List.mem_cons.mp z with rfl | z
    · simp
    · simp [z]) (by simp)
  have htn : ta ∉ wa :: ps := fun z => a.nt (by
    rcases List.mem_cons.mp z with rfl | z
    · simp
    · simp [z])
  rcases hwm with ⟨k, rfl, hk0, hk1, hmem⟩ | ⟨hk, hmem⟩
  · obtain ⟨t, rfl, ft⟩ := hv
    have g2 : H2 t2 = some (.tup [.ref t1, .int (s2.at k)]) := g2
    have ft2 := keep_tup (hb.exE e1) k2 ft
    have hmem' : s2.mem = s.mem.set k.toNat (s2.at k) := hmem
    walk_at "wp"
    rename_i H3 m3 f3
    have mem3 : MemAt T.c_Memory.C H3 mp dg wa la ps m s.mem := mem2.by (F := [p]) (ExBy.len1 m3 (by simp)) hpm
    have b3 := b2.butI hp2 hppb m3
    have hx2 := x2.2
    refine MemAt.ins mem3 rfl ?_
    walk_at "wp"
    refine ⟨mp, dg, pb, wa, la, ps, m, s.mem, k, s2.at k, l2, rfl, mem3, hne mp (by simp [ownF]), hd2.butI m3 hdp, b3, by omega, fun H4 l4 b4 mem4 bk4 x4 => ?_⟩
    rw [Int.emod_eq_of_lt hk0 hk1] at mem4 x4
    have hmx : ∀ t ∈ memX m s2.mem, t ∈ l4 := fun t ht => by
      rw [hmem'] at ht
      rcases memX_set ok.len (by omega) t ht with h | h
      · exact (x4.mem t).mpr (.inl (x2.1 t (hml t h)))
      · exact (x4.mem t).mpr (.inr h)
    rw [← hmem'] at mem4
    have X4 : Gr l l4 20 := (x2.trans x4.gr).le (by decide)
    have hp4 := b4.1 _ _ hppb hpn f3 rfl
    have t4 : SqT K H4 t1 (regsL s2 r2) := b4.sqT b3 (fun x hx => .inl (mem3.mem_lst x hx)) (tup_ins m3 hp2 (Evl.st_of g1))
    have ta4 : H4 ta = some (.lst (iv s.told)) := b4.1 _ _ htpb htn (m3 _ _ htp ta2) rfl
    have B4 : KeepF pb (ownF p mp ta wa la ps) H H4 := ((KeepF.of K12).trans (KeepF.one m3 (by simp [ownF]) f3)).trans (b4.mono (fun x hx => by simp only [ownF, List.mem_cons] at hx ⊢; exact .inr (.inr (.inr (.inr hx)))))
    have t4' : SqT K H4 t1 [.int r2, .int s2.acc, .int s2.x, .int s2.mark, .int s2.out, .int s2.count] := t4
    walk_at "wp"
    all_goals rename_i hc
    · have hc : s.count < s2.count := hc
      have ht : s2.told = s.told ++ [s.acc] := by
        rcases htold with h | h
        · omega
        · exact h.2
      walk_at "wp"
      refine Kit.w_app ta4 (by rw [iv_len]; omega) fun H5 m5 f5 => ?_
      have b5 : KeepF pb (ownF p mp ta wa la ps) H4 H5 := KeepF.one m5 (by simp [ownF]) f5
      walk_at "wp"
      refine q H5 l4 (B4.trans b5) ⟨dx, t1, mp, ta, wa, la, ps, ⟨m5 _ _ htp.symm hp4, tup_stay m5 ta4 (fun _ z => nomatch z) (fun _ _ z => nomatch z) t4, mem4.by (F := [ta]) (ExBy.len1 m5 (by simp)) htm, ?_, a.nt, a.np⟩, rfl⟩ (bk4.but m5 ta4) X4 hmx
      show H5 ta = some (.lst (iv s2.told))
      rw [f5, ht]
      unfold iv
      rw [List.map_append]
      rfl
    · have hc : ¬ s.count < s2.count := hc
      have ht : s2.told = s.told := by
        rcases htold with h | h
        · exact h.2
        · omega
      refine q H4 l4 B4 ⟨dx, t1, mp, ta, wa, la, ps, ⟨hp4, t4, mem4, ?_, a.nt, a.np⟩, rfl⟩ bk4 X4 hmx
      show H4 ta = some (.lst (iv s2.told))
      rw [ht]
      exact ta4
  · rw [writL_non hk] at g2
    have hmem' : s2.mem = s.mem := hmem
    have g1' : H2 t1 = some (.tup [.int r2, .int s2.acc, .int s2.x, .int s2.mark, .int s2.out, .int s2.count]) := g1
    walk_at "wp"
    all_goals rename_i H4 m4 hp4 hc
    all_goals have mem4 : MemAt T.c_Memory.C H4 mp dg wa la ps m s2.mem := by rw [hmem']; exact mem2.by (F := [p]) (ExBy.len1 m4 (by simp)) hpm
    all_goals have bk4 := b2.butI hp2 hppb m4
    all_goals have X4 : Gr l l2 20 := x2.le (by decide)
    all_goals have hmx : ∀ t ∈ memX m s2.mem, t ∈ l2 := fun t ht => x2.1 t (hml t (by rw [hmem'] at ht; exact ht))
    all_goals have t4 : SqT K H4 t1 (regsL s2 r2) := tup_ins m4 hp2 (Evl.st_of g1)
    all_goals have ta4 : H4 ta = some (.lst (iv s.told)) := m4 _ _ htp ta2
    all_goals have B4 : KeepF pb (ownF p mp ta wa la ps) H H4 := (KeepF.of K12).trans (KeepF.one m4 (by simp [ownF]) hp4)
    · have hc : s.count < s2.count := hc
      have ht : s2.told = s.told ++ [s.acc] := by
        rcases htold with h | h
        · omega
        · exact h.2
      walk_at "wp"
      refine Kit.w_app ta4 (by rw [iv_len]; omega) fun H5 m5 f5 => ?_
      have b5 : KeepF pb (ownF p mp ta wa la ps) H4 H5 := KeepF.one m5 (by simp [ownF]) f5
      walk_at "wp"
      refine q H5 l2 (B4.trans b5) ⟨dx, t1, mp, ta, wa, la, ps, ⟨m5 _ _ htp.symm hp4, tup_stay m5 ta4 (fun _ z => nomatch z) (fun _ _ z => nomatch z) t4, mem4.by (F := [ta]) (ExBy.len1 m5 (by simp)) htm, ?_, a.nt, a.np⟩, rfl⟩ (bk4.but m5 ta4) X4 hmx
      show H5 ta = some (.lst (iv s2.told))
      rw [f5, ht]
      unfold iv
      rw [List.map_append]
      rfl
    · have hc : ¬ s.count < s2.count := hc
      have ht : s2.told = s.told := by
        rcases htold with h | h
        · exact h.2
        · omega
      refine q H4 l2 B4 ⟨dx, t1, mp, ta, wa, la, ps, ⟨hp4, t4, mem4, ?_, a.nt, a.np⟩, rfl⟩ bk4 X4 hmx
      show H4 ta = some (.lst (iv s2.told))
      rw [ht]
      exact ta4

/-! ### the pairs that a tree and a path fold -/
abbrev PR := Int × Int
def prs : List Int → List PR
  | a :: b :: r => (a, b) :: prs r
  | _ => []
def treeF (f : Int → Int → Int) : Nat → List Int → List PR
  | 0, _ => []
  | k + 1, r => prs r ++ treeF f k (KM.pairs f r)
def pathF (f : Int → Int → Int) : Nat → Int → List Int → List PR
  | _, _, [] => []
  | pl, d, x :: r => (if pl % 2 = 0 then (d, x) else (x, d)) :: pathF f (pl / 2) (if pl % 2 = 0 then f d x else f x d) r
theorem prs_at : ∀ {r : List Int} {n : Nat}, r.length = 2 * n → ∀ x ∈ prs r, ∃ i, i < n ∧ x = ((r[2 * i]?).getD 0, (r[2 * i + 1]?).getD 0)
  | [], _, _, x, hx => by cases hx
  | [_], n, h, _, _ => by simp at h; omega
  | a :: b :: r, n, h, x, hx => by
    rcases List.mem_cons.mp hx with rfl | hx
    · exact ⟨0, by simp at h; omega, rfl⟩
    · obtain ⟨i, hi, e⟩ := prs_at (r := r) (n := n - 1) (by simp at h; omega) x hx
      refine ⟨i + 1, by omega, ?_⟩
      rw [e]
      rfl
theorem prs_mem : ∀ {r : List Int} {i : Nat} {a b : Int}, r[2 * i]? = some a → r[2 * i + 1]? = some b → (a, b) ∈ prs r
  | x :: y :: r, 0, a, b, h1, h2 => by cases h1; cases h2; exact List.mem_cons_self
  | x :: y :: r, i + 1, a, b, h1, h2 => List.mem_cons_of_mem _ (prs_mem (i := i) h1 h2)
  | [], _, _, _, h1, _ => by simp at h1
  | [x], 0, _, _, _, h2 => by simp at h2
  | [x], i + 1, _, _, h1, _ => by simp at h1
theorem pathF_snoc (f : Int → Int → Int) : ∀ (path : List Int) (x : Int) (pl : Nat) (d : Int), pathF f pl d (path ++ [x]) = pathF f pl d path ++ [if pl / 2 ^ path.length % 2 = 0 then (KM.rootBy f pl d path, x) else (x, KM.rootBy f pl d path)]
  | [], x, pl, d => by simp [KM.rootBy, pathF]
  | y :: r, x, pl, d => by
    show _ :: pathF f (pl / 2) _ (r ++ [x]) = _ :: (pathF f (pl / 2) _ r ++ _)
    rw [pathF_snoc f r x (pl / 2), Nat.div_div_eq_div_mul, List.length_cons, KM.two_pow]
    rfl
/-- what leads to a row's root is its digest with its path, or two pairs have one fold -/
theorem opens {f : Int → Int → Int} : ∀ (k : Nat) (r : List Int) (pl : Nat) (d : Int) (path : List Int) (v : Int), r.length = 2 ^ k → path.length = k → r[pl]? = some v → KM.rootBy f pl d path = KM.rootM f k r →
    (d = v ∧ path = KM.pathM f k r pl) ∨ ∃ a b : PR, a ∈ treeF f k r ∧ b ∈ pathF f pl d path ∧ a ≠ b ∧ f a.1 a.2 = f b.1 b.2
  | 0, [x], pl, d, [], v, _, _, hv, e => by
    have hpl : pl = 0 := by
      have := (List.getElem?_eq_some_iff.mp hv).1
      simpa using this
    subst hpl
    cases hv
    exact .inl ⟨e, rfl⟩
  | k + 1, r, pl, d, x :: path, v, hr, hp, hv, e => by
    have hr' := hr
    rw [KM.two_pow] at hr
    have hpl := (List.getElem?_eq_some_iff.mp hv).1
    have h0 : 2 * (pl / 2) < r.length := by omega
    have h1 : 2 * (pl / 2) + 1 < r.length := by omega
    have g0 := List.getElem?_eq_getElem h0
    have g1 := List.getElem?_eq_getElem h1
    generalize r[2 * (pl / 2)] = y0 at g0
    generalize r[2 * (pl / 2) + 1] = y1 at g1
    have hpair := KM.pairs_get (f := f) r g0 g1
    have hmem := prs_mem g0 g1
    have e2 : KM.rootBy f (pl / 2) (if pl % 2 = 0 then f d x else f x d) path = KM.rootM f k (KM.pairs f r) := e
    have hpm : KM.pathM f (k + 1) r pl = (r[KM.nb pl]?).getD 0 :: KM.pathM f k (KM.pairs f r) (pl / 2) := rfl
    rcases opens k (KM.pairs f r) (pl / 2) _ path _ (KM.pairs_len r hr) (by simpa using hp) hpair e2 with ⟨h2, h3⟩ | ⟨a, b, ha, hb, hn, hf⟩
    · rw [hpm, ← h3]
      by_cases hm : pl % 2 = 0
      · rw [if_pos hm] at h2
        have ep : 2 * (pl / 2) = pl := by omega
        rw [ep] at g0 g1
        have hv' : v = y0 := Option.some.inj (hv.symm.trans g0)
        have en : KM.nb pl = pl + 1 := by unfold KM.nb; rw [if_pos hm]
        rw [en, g1]
        by_cases hc : (y0, y1) = ((d, x) : PR)
        · injection hc with c1 c2
          exact .inl ⟨(hv'.trans c1).symm, by rw [← c2]; rfl⟩
        · exact .inr ⟨(y0, y1), (d, x), List.mem_append_left _ hmem, by
            show (d, x) ∈ (if pl % 2 = 0 then (d, x) else (x, d)) :: _
            rw [if_pos hm]
            exact List.mem_cons_self, hc, h2.symm⟩
      · rw [if_neg hm] at h2
        have ep : 2 * (pl / 2) + 1 = pl := by omega
        rw [ep] at g1
        have hv' : v = y1 := Option.some.inj (hv.symm.trans g1)
        have en : KM.nb pl = 2 * (pl / 2) := by unfold KM.nb; rw [if_neg hm]; omega
        rw [en, g0]
        by_cases hc : (y0, y1) = ((x, d) : PR)
        · injection hc with c1 c2
          exact .inl ⟨(hv'.trans c2).symm, by rw [← c1]; rfl⟩
        · exact .inr ⟨(y0, y1), (x, d), List.mem_append_left _ hmem, by
            show (x, d) ∈ (if pl % 2 = 0 then (d, x) else (x, d)) :: _
            rw [if_neg hm]
            exact List.mem_cons_self, hc, h2.symm⟩
    · exact .inr ⟨a, b, List.mem_append_right _ ha, List.mem_cons_of_mem _ hb, hn, hf⟩

def sp_root_by (P : Program) (w : World) (K : PySem.W.Frag) (C CB : Addr) : Sp := fun vs H Q _ => ∃ (p pb a : Addr) (m d : Int) (path : List Int) (pl : Nat) (l : List Tx), vs = [.ref p, .int pl, .int d, .ref a] ∧ DigB C H p pb m ∧ BkG P w CB H pb m l ∧ SqT K H a (iv path) ∧ AllDg m path ∧ Dg m d ∧ path.length ≤ 1000 ∧ l.length + path.length ≤ 90000 ∧
  ∀ H' l', Kit.KeepE pb H H' → BkG P w CB H' pb m l' → Gr l l' path.length → (∀ y ∈ pathF (foldI m) pl d path, Tx.fd y.1 y.2 ∈ l') → Q (.int (KM.rootBy (foldI m) pl d path)) H'
theorem addX_mem {l : List Tx} {t : Tx} : t ∈ addX l t := ((Ext.add l t).mem t).mpr (.inr (by simp))
theorem addX_sub {l : List Tx} {t u : Tx} (h : u ∈ l) : u ∈ addX l t := ((Ext.add l t).mem u).mpr (.inl h)
theorem rootBy_dg {m : Int} (hm : 0 < m) : ∀ (path : List Int) (pl : Nat) (d : Int), Dg m d → Dg m (KM.rootBy (foldI m) pl d path)
  | [], _, _, h => h
  | x :: r, pl, d, h => rootBy_dg hm r _ _ (by split <;> exact fold_dg hm)
theorem rootBy_snoc (f : Int → Int → Int) : ∀ (path : List Int) (x : Int) (pl : Nat) (d : Int), KM.rootBy f pl d (path ++ [x]) = (if pl / 2 ^ path.length % 2 = 0 then f (KM.rootBy f pl d path) x else f x (KM.rootBy f pl d path))
  | [], x, pl, d => by simp [KM.rootBy]
  | y :: r, x, pl, d => by
    show KM.rootBy f (pl / 2) _ (r ++ [x]) = _
    rw [rootBy_snoc f r x (pl / 2), Nat.div_div_eq_div_mul, List.length_cons, KM.two_pow]
    rfl
theorem ok_root_by (T : Txt K mg) : FnOk P w K mg base CX0 4 T.f_root_by.f T.f_root_by.fd ["digests", "place", "digest", "path"] (sp_root_by P w K T.c_Digests.C T.c_Book.C) := by
  have G_Digests_fold := ok_Digests_fold (P := P) (w := w) (base := base) T
  refine T.f_root_by.F.ok sc_root_by (fun vs H Q E h => ?_) (fun cdv A outer s H vs Q E hr h => ?_)
  · obtain ⟨p, pb, a, m, d, path, pl, l0, rfl, hd, hb, ha, hx, hdg, hl, hl0, q⟩ := h
    rfl
  obtain ⟨p, pb, a, m, d, path, pl, l0, rfl, hd, hb, ha, hx, hdg, hl, hl0, q⟩ := h
  have nd := sc_root_by.nd
  have hr3 : Room 3 _ := hr.mono (by decide)
  refine Kit.ok_body (σ := [some _, some _, some _, some _, none, none]) ((pss_cons (ps_set (i := 4) nd rfl (Or.inl rfl) (pv 2))
    (pss_cons (ps_for PassesOwn.never rfl (Kit.kpTup K (pv 3)) (pg_name (i := 5) nd rfl (Or.inl rfl))
    (pss_cons (ps_if (pt_cmpR op_eq (pe_op op_mod (pv 1) pe_int) pe_int (nomark _))
    (pss_one (ps_set (i := 4) nd rfl (Or.inl rfl) (pe_meth (pv 0) T.c_Digests.cl T.m_Digests_fold G_Digests_fold hr3 T.f_Digests_fold.b .nil pass0 (pa_cons (pv 4) (pa_cons (pv 5) pa_nil)))))
    (pss_one (ps_set (i := 4) nd rfl (Or.inl rfl) (pe_meth (pv 0) T.c_Digests.cl T.m_Digests_fold G_Digests_fold hr3 T.f_Digests_fold.b .nil pass0 (pa_cons (pv 5) (pa_cons (pv 4) pa_nil))))))
    (pss_one (ps_set (i := 1) nd rfl (Or.inl rfl) (pe_op op_fdiv (pv 1) pe_int)))))
    (pss_one (ps_ret (pv 4)))))) rfl ?_
  try dsimp only [L2.cxOf, L2.Cx.nox]
  walk_at "wp"
  refine Kit.f_tup ha (fun i σ' H' => ∃ y5 l1, σ' = [some (.ref p), some (.int ((pl / 2 ^ i : Nat) : Int)), some (.int d), some (.ref a), some (.int (KM.rootBy (foldI m) pl d (path.take i))), y5] ∧ Kit.KeepE pb H H' ∧ BkG P w T.c_Book.C H' pb m l1 ∧ Gr l0 l1 i ∧ (∀ y ∈ pathF (foldI m) pl d (path.take i), Tx.fd y.1 y.2 ∈ l1)) ⟨none, l0, by simp [KM.rootBy], .of (Evl.Ex.refl _), hb, Gr.refl _, by simp [pathF]⟩ ?_ ?_ ?_
  · rintro i σ' H' _ ⟨y5, l1, rfl, k1, _⟩
    exact keep_sqT hb k1 ha
  · rintro i x σ' H' hix ⟨y5, l1, rfl, k1, b1, u1, u2⟩
    have hi : i < path.length := by
      have := (List.getElem?_eq_some_iff.mp hix).1
      rw [iv_len] at this
      exact this
    have exi : x = .int path[i] := by
      unfold iv at hix
      rw [List.getElem?_map, List.getElem?_eq_getElem hi] at hix
      exact (Option.some.inj hix).symm
    subst exi
    have hz : ((pl / 2 ^ i : Nat) : Int) / 2 = ((pl / 2 ^ (i + 1) : Nat) : Int) := by
      rw [KM.two_pow, Nat.mul_comm, ← Nat.div_div_eq_div_mul]
      omega
    have hs := rootBy_snoc (foldI m) (path.take i) path[i] pl d
    have hp := pathF_snoc (foldI m) (path.take i) path[i] pl d
    rw [List.length_take, Nat.min_eq_left (Nat.le_of_lt hi), List.take_append_getElem hi] at hs hp
    have h1 : Dg m (KM.rootBy (foldI m) pl d (path.take i)) := rootBy_dg hd.pos _ _ _ hdg
    have h2 : Dg m path[i] := hx _ (List.getElem_mem hi)
    have hd2 := hd.keep k1
    have hu := u1.2
    show Kit.Sm _ _ _ _ _ _ _
    generalize hg : pl / 2 ^ i = z at *
    walk_at "wp"
    · rename_i hc
      rw [if_pos (by omega)] at hs hp
      refine use_foldG hd2 b1 h1 h2 (by omega) fun H2 k2 b2 => ?_
      walk_at "wp"
      refine ⟨_, _, by rw [hz, hs] <;> rfl, k1.trans k2, b2, u1.trans (Ext.add _ _).gr, ?_⟩
      rw [hp]
      intro y hy
      rcases List.mem_append.mp hy with hy | hy
      · exact addX_sub (u2 y hy)
      · rw [List.mem_singleton.mp hy]; exact addX_mem
    · rename_i hc
      rw [if_neg (by omega)] at hs hp
      refine use_foldG hd2 b1 h2 h1 (by omega) fun H2 k2 b2 => ?_
      walk_at "wp"
      refine ⟨_, _, by rw [hz, hs] <;> rfl, k1.trans k2, b2, u1.trans (Ext.add _ _).gr, ?_⟩
      rw [hp]
      intro y hy
      rcases List.mem_append.mp hy with hy | hy
      · exact addX_sub (u2 y hy)
      · rw [List.mem_singleton.mp hy]; exact addX_mem
  · rintro σ' H' ⟨y5, l1, rfl, k1, b1, u1, u2⟩
    rw [iv_len] at u1 u2 ⊢
    rw [List.take_length] at u2 ⊢
    walk_at "wp"
    exact q _ l1 k1 b1 u1 u2
def sp_root_with (P : Program) (w : World) (K : PySem.W.Frag) (C CB : Addr) : Sp := fun vs H Q _ => ∃ (p pb a : Addr) (m x : Int) (path : List Int) (pl : Nat) (l : List Tx), vs = [.ref p, .int pl, .int x, .ref a] ∧ DigB C H p pb m ∧ BkG P w CB H pb m l ∧ SqT K H a (iv path) ∧ AllDg m path ∧ path.length ≤ 1000 ∧ l.length + path.length + 1 ≤ 90000 ∧
  ∀ H' l', Kit.KeepE pb H H' → BkG P w CB H' pb m l' → Gr l l' (1 + path.length) → Tx.lf x ∈ l' → (∀ y ∈ pathF (foldI m) pl (leafI m x) path, Tx.fd y.1 y.2 ∈ l') → Q (.int (KM.rootBy (foldI m) pl (leafI m x) path)) H'
theorem ok_root_with (T : Txt K mg) : FnOk P w K mg base CX0 5 T.f_root_with.f T.f_root_with.fd ["digests", "place", "word", "path"] (sp_root_with P w K T.c_Digests.C T.c_Book.C) := by
  have G_Digests_leaf := ok_Digests_leaf (P := P) (w := w) (base := base) T
  have G_root_by := ok_root_by (P := P) (w := w) (base := base) T
  refine T.f_root_with.F.ok sc_root_with (fun vs H Q E h => ?_) (fun cdv A outer s H vs Q E hr h => ?_)
  · obtain ⟨p, pb, a, m, x, path, pl, l, rfl, hd, hb, ha, hx, hl, hl0, q⟩ := h
    rfl
  obtain ⟨p, pb, a, m, x, path, pl, l, rfl, hd, hb, ha, hx, hl, hl0, q⟩ := h
  have nd := sc_root_with.nd
  have hr3 : Room 3 _ := hr.mono (by decide)
  have hr4 : Room 4 _ := hr.mono (by decide)
  refine Kit.ok_body (σ := [some _, some _, some _, some _]) ((pss_one (ps_ret (pe_call G_root_by hr4 (by rfl) T.f_root_by.g T.f_root_by.F.kp T.f_root_by.b .nil pass0 (pa_cons (pv 0) (pa_cons (pv 1) (pa_cons (pe_meth (pv 0) T.c_Digests.cl T.m_Digests_leaf G_Digests_leaf hr3 T.f_Digests_leaf.b .nil pass0 (pa_cons (pv 2) pa_nil)) (pa_cons (pv 3) pa_nil)))))))) rfl ?_
  try dsimp only [L2.cxOf, L2.Cx.nox]
  walk_at "wp"
  refine use_leafG hd hb (by omega) fun H1 k1 b1 => ?_
  have x1 := (Ext.add l (.lf x)).gr
  have hx1 := x1.2
  walk_at "wp"
  refine ⟨p, pb, a, m, leafI m x, path, pl, _, rfl, hd.keep k1, b1, keep_sqT hb k1 ha, hx, leaf_dg hd.pos, hl, by omega, fun H2 l2 k2 b2 x2 u2 => ?_⟩
  walk_at "wp"
  exact q _ l2 (k1.trans k2) b2 (x1.trans x2) (x2.1 _ addX_mem) u2
theorem use_root_with {P : Program} {w : World} {K : PySem.W.Frag} {C CB p pb a : Addr} {m x k : Int} {path : List Int} {l : List Tx} {H : Hp} {Q : VK} {E : XK} (hd : DigB C H p pb m) (hb : BkG P w CB H pb m l) (ha : SqT K H a (iv path)) (hx : AllDg m path) (hl : path.length ≤ 1000) (hl0 : l.length + path.length + 1 ≤ 90000) (k0 : 0 ≤ k)
    (q : ∀ H' l', Kit.KeepE pb H H' → BkG P w CB H' pb m l' → Gr l l' (1 + path.length) → Tx.lf x ∈ l' → (∀ y ∈ pathF (foldI m) k.toNat (leafI m x) path, Tx.fd y.1 y.2 ∈ l') → Q (.int (KM.rootBy (foldI m) k.toNat (leafI m x) path)) H') : sp_root_with P w K C CB [.ref p, .int k, .int x, .ref a] H Q E :=
  ⟨p, pb, a, m, x, path, k.toNat, l, by rw [Int.toNat_of_nonneg k0], hd, hb, ha, hx, hl, hl0, q⟩
theorem none_back {H H' : Hp} {p : Addr} (e : Evl.Ex H H') (h : H' p = none) : H p = none := by
  cases hh : H p with
  | none => rfl
  | some o => rw [e _ _ hh] at h; cases h
def placesV (pc : Int) : Option (Int × Bool) → List V
  | none => [.int pc]
  | some (z, _) => [.int pc, .int z]
def sp_places_of (K : PySem.W.Frag) : Sp := fun vs H Q _ => ∃ (r : Addr) (word pc acc x mark out count : Int), vs = [.ref r, .int word] ∧ SqT K H r [.int pc, .int acc, .int x, .int mark, .int out, .int count] ∧ 0 ≤ word ∧ word < 65536 ∧
  ∀ p H', H p = none → Evl.Ex H H' → H' p = some (.lst (placesV pc (dataM (nm (word / 1024)) word x))) → Q (.ref p) H'
theorem ok_places_of (T : Txt K mg) : FnOk P w K mg base CX0 3 T.f_places_of.f T.f_places_of.fd ["registers", "word"] (sp_places_of K) := by
  have G_data_of := ok_data_of (P := P) (w := w) (base := base) T
  refine T.f_places_of.F.ok sc_places_of (fun vs H Q E h => ?_) (fun cdv A outer s H vs Q E hr h => ?_)
  · obtain ⟨r, word, pc, acc, x, mark, out, count, rfl, hr6, h0, h1, q⟩ := h
    rfl
  obtain ⟨r, word, pc, acc, x, mark, out, count, rfl, hr6, h0, h1, q⟩ := h
  have nd := sc_places_of.nd
  have hr2 : Room 2 _ := hr.mono (by decide)
  refine Kit.ok_body (σ := [some _, some _, none]) ((pss_cons (ps_set (i := 2) nd rfl (Or.inl rfl) (pe_call G_data_of hr2 (by rfl) T.f_data_of.g T.f_data_of.F.kp T.f_data_of.b .nil pass0 (pa_cons (pv 0) (pa_cons (pv 1) pa_nil))))
    (pss_one (ps_ret (pe_ifExp (pt_cmpR Kit.k_isN (pv 2) pe_non (nomark _)) (pe_lst (pa_cons (pe_ix (Kit.ixT K) (pv 0) pe_int (fun _ _ => rfl)) pa_nil)) (pe_lst (pa_cons (pe_ix (Kit.ixT K) (pv 0) pe_int (fun _ _ => rfl)) (pa_cons (pe_ix (Kit.ixT K) (pv 2) pe_int (fun _ _ => rfl)) pa_nil)))))))) rfl ?_
  walk_at "wp"
  refine ⟨r, word, pc, acc, x, mark, out, count, rfl, hr6, h0, h1, fun v H1 e1 hv => ?_⟩
  rcases hdm : dataM (nm (word / 1024)) word x with _ | ⟨z, b⟩
  · rw [hdm] at hv q
    cases hv
    walk_at "wp"
    exact q _ _ (none_back e1 ‹_›) (e1.trans ‹_›) ‹_›
  · rw [hdm] at hv q
    obtain ⟨t, rfl, ht⟩ := hv
    walk_at "wp"
    exact q _ _ (none_back e1 ‹_›) (e1.trans ‹_›) ‹_›

/-! ### zip of a list with a tuple: what the hand layer has for two lists and for two tuples -/
structure ZipM (h : Heap) (z TI TO i1 i2 l1 l2 : Addr) (k : Nat) : Prop where
  apart : ZipApart z TI TO i1 i2 l1 l2
  zip : IsZip h z TI TO .none
  its : IsPair h TI (.ref i1) (.ref i2)
  old : ∃ a b, IsPair h TO a b
  one : h.IsListIter i1 l1 k
  two : h.IsTupleIter i2 l2 k
section
variable {prog : Program} {w : World} {A : Around} {E : Value → Shared → Prop} {s : Shared} {z TI TO i1 i2 l1 l2 : Addr} {k : Nat} {xs ys : Array Value}
abbrev Rest (z TO i1 i2 : Addr) (h h' : Heap) : Prop := ∀ c o, c ≠ z → c ≠ TO → c ≠ i1 → c ≠ i2 → h.get? c = some o → h'.get? c = some o
theorem zm_item {x y : Value} {Q : Value → Shared → Prop} (Z : ZipM s.heap z TI TO i1 i2 l1 l2 k) (hl1 : s.heap.IsList l1 xs) (hl2 : s.heap.IsTuple l2 ys) (hx : xs[k]? = some x) (hy : ys[k]? = some y)
    (go : ∀ h', IsZip h' z TI TO (rawInt s.heap.objs.size) → IsPair h' TO x y → h'.IsListIter i1 l1 (k + 1) → h'.IsTupleIter i2 l2 (k + 1) → IsPair h' s.heap.objs.size x y → Rest z TO i1 i2 s.heap h' → Q (.ref s.heap.objs.size) { s with heap := h' }) :
    wpAny (model prog w) A (Builtin.«zip.__next__» ⟨[.ref z], []⟩) (fun fin s' => ∃ v, fin = .done (.ret v) ∧ Q v s') E s := by
  obtain ⟨D, Z1, Z2, ⟨a, b, Z3⟩, Z4, Z5⟩ := Z
  show wpAny _ _ (field (.ref z) 2 >>= fun _ => _) _ _ _
  refine wpAny_bind (wpAny_field Z1 rfl (x := .bool false) rfl ?_)
  show wpAny _ _ (field (.ref z) 3 >>= fun _ => _) _ _ _
  refine wpAny_bind (wpAny_field Z1 rfl (x := .ref TI) rfl (wpAny_bind (wpAny_seqItems Z2 rfl ?_)))
  show wpAny _ _ (Builtin.SmallTypes.ownedTupleIsFree (.ref z) >>= fun _ => _) _ _ _
  unfold Builtin.SmallTypes.ownedTupleIsFree
  refine wpAny_bind (wpAny_bind (wpAny_field Z1 rfl (x := .none) rfl (wpAny_pure ?_)))
  simp only [if_true]
  refine wpAny_bind (wpAny_rule (wpAny_bind (wpAny_field Z1 rfl (x := .ref TO) rfl ?_)))
  refine wpAny_bind (wpAny_setField_rec Z1 (by simp) fun ha za ka => wpAny_bind ?_)
  have za : IsZip ha z TI TO .ellipsis := za
  have kA := ka.extBut
  simp only [List.zipIdx_cons, List.zipIdx_nil, List.forIn_cons, List.forIn_nil]
  refine wpAny_bind (wpAny_bind (wpAny_onRaise ?_))
  show wpAny _ _ (Builtin.SmallTypes.nextOf (.ref i1) >>= fun _ => _) _ _ _
  refine wpAny_bind (wpAny_nextOf_list_item (Z4.extBut kA D.i1z) (hl1.extBut kA D.l1z) hx fun hb ib kb => wpAny_pure ?_)
  have kB := kb.extBut
  have tb : IsPair hb TO a b := kB _ _ D.TOi1 (kA _ _ D.TOz Z3)
  refine wpAny_bind (wpAny_seqItems tb rfl (wpAny_bind (wpAny_updateSeq_pair tb fun hc tc kc => ?_)))
  have tc : IsPair hc TO x b := tc
  have kC := kc.extBut
  refine wpAny_bind (wpAny_letGo (wpAny_pure (wpAny_bind (wpAny_bind (wpAny_onRaise ?_)))))
  show wpAny _ _ (Builtin.SmallTypes.nextOf (.ref i2) >>= fun _ => _) _ _ _
  have jc : hc.IsTupleIter i2 l2 k := ((Z5.extBut kA D.i2z).extBut kB D.i12.symm).extBut kC D.TOi2.symm
  have lc : hc.IsTuple l2 ys := ((hl2.extBut kA D.l2z).extBut kB D.l2i1).extBut kC D.l2TO
  refine wpAny_bind (RZ.nextOf_tuple_item jc lc hy fun hd jd kd => wpAny_pure ?_)
  have kD := kd.extBut
  have td : IsPair hd TO x b := kD _ _ D.TOi2 tc
  refine wpAny_bind (wpAny_seqItems td rfl (wpAny_bind (wpAny_updateSeq_pair td fun he te ke => ?_)))
  have te : IsPair he TO x y := te
  have kE := ke.extBut
  refine wpAny_bind (wpAny_letGo (wpAny_pure (wpAny_pure (wpAny_bind (wpAny_seqItems te rfl (wpAny_bind (wpAny_newTuple ?_)))))))
  have size : he.objs.size = s.heap.objs.size := ke.1.trans (kd.1.trans (kc.1.trans (kb.1.trans ka.1)))
  have ze : IsZip he z TI TO .ellipsis := kE _ _ D.TOz.symm (kD _ _ D.i2z.symm (kC _ _ D.TOz.symm (kB _ _ D.i1z.symm za)))
  have rest : Rest z TO i1 i2 s.heap he := fun c o n1 n2 n3 n4 q => kE _ _ n2 (kD _ _ n4 (kC _ _ n2 (kB _ _ n3 (kA _ _ n1 q))))
  have ie : he.IsListIter i1 l1 (k + 1) := ((ib.extBut kC D.TOi1.symm).extBut kD D.i12).extBut kE D.TOi1.symm
  have je : he.IsTupleIter i2 l2 (k + 1) := jd.extBut kE D.TOi2.symm
  have zlt : z < he.objs.size := Heap.lt_size ze
  show wpAny _ _ (Builtin.SmallTypes.ownedTupleHandOut (.ref z) (.ref he.objs.size) >>= fun _ => _) _ _ _
  unfold Builtin.SmallTypes.ownedTupleHandOut
  have zf : IsZip (he.push { cls := .type "tuple", data := .seq #[x, y] }) z TI TO .ellipsis := Heap.get?_push_of_some _ ze
  refine wpAny_bind (wpAny_bind (wpAny_setField_rec zf (by simp) fun hg zg kg => ?_))
  have zg : IsZip hg z TI TO (rawInt he.objs.size) := zg
  refine wpAny_setField_rec zg (by simp) fun hh zh kh => wpAny_pure ⟨_, rfl, ?_⟩
  have zh : IsZip hh z TI TO (rawInt he.objs.size) := zh
  have up : ∀ c o, c ≠ z → he.get? c = some o → hh.get? c = some o := fun c o n q => kh.extBut _ _ n (kg.extBut _ _ n (Heap.get?_push_of_some _ q))
  have th : IsPair hh he.objs.size x y := kh.extBut _ _ (Nat.ne_of_gt zlt) (kg.extBut _ _ (Nat.ne_of_gt zlt) (Heap.get?_push_size _ rfl))
  show Q (.ref he.objs.size) _
  rw [size] at zh th ⊢
  exact go hh zh (up _ _ D.TOz te) (ie.at fun o q => up _ o D.i1z q) (je.at fun o q => up _ o D.i2z q) th fun c o n1 n2 n3 n4 q => up c o n1 (rest c o n1 n2 n3 n4 q)
theorem zm_end {Q : Fin → Shared → Prop} (free : A.handled = none) (Z : ZipM s.heap z TI TO i1 i2 l1 l2 k) (hl1 : s.heap.IsList l1 xs) (hl2 : s.heap.IsTuple l2 ys) (stop : xs[k]? = none ∨ ys[k]? = none)
    (out : ∀ h' e, Rest z TO i1 i2 s.heap h' → (∃ o, h'.get? e = some o ∧ o.cls = .type "StopIteration") → E (.ref e) { s with heap := h' }) :
    wpAny (model prog w) A (Builtin.«zip.__next__» ⟨[.ref z], []⟩) Q E s := by
  obtain ⟨D, Z1, Z2, ⟨a, b, Z3⟩, Z4, Z5⟩ := Z
  show wpAny _ _ (field (.ref z) 2 >>= fun _ => _) _ _ _
  refine wpAny_bind (wpAny_field Z1 rfl (x := .bool false) rfl ?_)
  show wpAny _ _ (field (.ref z) 3 >>= fun _ => _) _ _ _
  refine wpAny_bind (wpAny_field Z1 rfl (x := .ref TI) rfl (wpAny_bind (wpAny_seqItems Z2 rfl ?_)))
  show wpAny _ _ (Builtin.SmallTypes.ownedTupleIsFree (.ref z) >>= fun _ => _) _ _ _
  unfold Builtin.SmallTypes.ownedTupleIsFree
  refine wpAny_bind (wpAny_bind (wpAny_field Z1 rfl (x := .none) rfl (wpAny_pure ?_)))
  simp only [if_true]
  refine wpAny_bind (wpAny_rule (wpAny_bind (wpAny_field Z1 rfl (x := .ref TO) rfl ?_)))
  refine wpAny_bind (wpAny_setField_rec Z1 (by simp) fun ha za ka => wpAny_bind ?_)
  have za : IsZip ha z TI TO .ellipsis := za
  have kA := ka.extBut
  have noZip : ∀ {h : Heap} {e : Addr} {o : Obj}, IsZip h z TI TO .ellipsis → h.get? e = some o → o.cls = .type "StopIteration" → e ≠ z := fun q1 q2 q3 q4 => by
    rw [q4, q1] at q2
    cases q2
    simp at q3
  simp only [List.zipIdx_cons, List.zipIdx_nil, List.forIn_cons, List.forIn_nil]
  refine wpAny_bind (wpAny_bind (wpAny_onRaise ?_))
  show wpAny _ _ (Builtin.SmallTypes.nextOf (.ref i1) >>= fun _ => _) _ _ _
  have ia := Z4.extBut kA D.i1z
  have la := hl1.extBut kA D.l1z
  rcases hx : xs[k]? with _ | x
  · refine wpAny_bind (wpAny_nextOf_list_end free ia la hx fun hb e kb ⟨o, ho, hc⟩ => ?_)
    have zb : IsZip hb z TI TO .ellipsis := kb _ _ D.i1z.symm za
    exact wpAny_setField_rec zb (by simp) fun hd _ kd => out hd e (fun c q n1 _ n3 _ y => kd.extBut _ _ n1 (kb _ _ n3 (kA _ _ n1 y))) ⟨o, kd.extBut _ _ (noZip zb ho hc) ho, hc⟩
  · have hy : ys[k]? = none := stop.resolve_left (by rw [hx]; exact fun q => nomatch q)
    refine wpAny_bind (wpAny_nextOf_list_item ia la hx fun hb ib kb => wpAny_pure ?_)
    have kB := kb.extBut
    have tb : IsPair hb TO a b := kB _ _ D.TOi1 (kA _ _ D.TOz Z3)
    refine wpAny_bind (wpAny_seqItems tb rfl (wpAny_bind (wpAny_updateSeq_pair tb fun hc tc kc => ?_)))
    have kC := kc.extBut
    refine wpAny_bind (wpAny_letGo (wpAny_pure (wpAny_bind (wpAny_bind (wpAny_onRaise ?_)))))
    show wpAny _ _ (Builtin.SmallTypes.nextOf (.ref i2) >>= fun _ => _) _ _ _
    have jc : hc.IsTupleIter i2 l2 k := ((Z5.extBut kA D.i2z).extBut kB D.i12.symm).extBut kC D.TOi2.symm
    have lc : hc.IsTuple l2 ys := ((hl2.extBut kA D.l2z).extBut kB D.l2i1).extBut kC D.l2TO
    refine wpAny_bind (RZ.nextOf_tuple_end free jc lc hy fun hd e kd ⟨o, ho, hq⟩ => ?_)
    have zd : IsZip hd z TI TO .ellipsis := kd _ _ D.i2z.symm (kC _ _ D.TOz.symm (kB _ _ D.i1z.symm za))
    exact wpAny_setField_rec zd (by simp) fun hf _ kf => out hf e (fun c q n1 n2 n3 n4 y => kf.extBut _ _ n1 (kd _ _ n4 (kC _ _ n2 (kB _ _ n3 (kA _ _ n1 y))))) ⟨o, kf.extBut _ _ (noZip zd ho hq) ho, hq⟩
theorem zm_next {x y : Value} {Q : Option Value → Shared → Prop} (Z : ZipM s.heap z TI TO i1 i2 l1 l2 k) (hl1 : s.heap.IsList l1 xs) (hl2 : s.heap.IsTuple l2 ys) (hx : xs[k]? = some x) (hy : ys[k]? = some y)
    (go : ∀ h', IsZip h' z TI TO (rawInt s.heap.objs.size) → IsPair h' TO x y → h'.IsListIter i1 l1 (k + 1) → h'.IsTupleIter i2 l2 (k + 1) → IsPair h' s.heap.objs.size x y → Rest z TO i1 i2 s.heap h' → Q (some (.ref s.heap.objs.size)) { s with heap := h' }) :
    wpAny (model prog w) A (pyNext (.ref z)) Q E s := by
  have ty : s.TypeIs (.ref z) "zip" := ⟨_, Z.zip, rfl⟩
  unfold pyNext
  refine wpAny_bind (wpAny_attempt (wpAny_callSpecial?_slot (name := Str.ofString "__next__") ty F.slot_zip_next ?_))
  exact wpAny_call_entry F.slot_zip_next ty F.entry_zip_next (zm_item Z hl1 hl2 hx hy fun h' q1 q2 q3 q4 q5 q6 => wpAny_pure (go h' q1 q2 q3 q4 q5 q6)) (F.args_zip_next_1 _)
theorem zm_over {Q : Option Value → Shared → Prop} (free : A.handled = none) (Z : ZipM s.heap z TI TO i1 i2 l1 l2 k) (hl1 : s.heap.IsList l1 xs) (hl2 : s.heap.IsTuple l2 ys) (stop : xs[k]? = none ∨ ys[k]? = none)
    (go : ∀ h', Rest z TO i1 i2 s.heap h' → Q none { s with heap := h' }) : wpAny (model prog w) A (pyNext (.ref z)) Q E s := by
  have ty : s.TypeIs (.ref z) "zip" := ⟨_, Z.zip, rfl⟩
  unfold pyNext
  refine wpAny_bind (wpAny_attempt (wpAny_callSpecial?_slot (name := Str.ofString "__next__") ty F.slot_zip_next ?_))
  refine wpAny_call_entry F.slot_zip_next ty F.entry_zip_next (zm_end free Z hl1 hl2 stop fun h' e q ⟨o, ho, hc⟩ => ?_) (F.args_zip_next_1 _)
  exact wpAny_bind (wpAny_isInstance (T := "StopIteration") (b := true) ⟨o, ho, hc⟩ isSubtype_stop (wpAny_pure (go _ q)))
end
/-! a new one: its five objects, one after the other -/
abbrev zmA (h : Heap) (p : Addr) : Heap := h.push ⟨.type "list_iterator", none, .fields #[.ref p, .int 0 0], #[]⟩
abbrev zmB (h : Heap) (p q : Addr) : Heap := (zmA h p).push ⟨.type "tuple_iterator", none, .fields #[.ref q, .int 0 0], #[]⟩
abbrev zmC (h : Heap) (p q : Addr) : Heap := (zmB h p q).push ⟨.type "tuple", none, .seq #[.ref h.objs.size, .ref (zmA h p).objs.size], #[]⟩
abbrev zmD (h : Heap) (p q : Addr) : Heap := (zmC h p q).push ⟨.type "tuple", none, .seq #[.none, .none], #[]⟩
abbrev zmE (h : Heap) (p q : Addr) : Heap := (zmD h p q).push ⟨.type "zip", none, .fields #[.none, .bool false, .bool false, .ref (zmB h p q).objs.size, .ref (zmC h p q).objs.size], #[]⟩
theorem zm_new (p q : Addr) (xs ys : Array Value) : Meets (Builtin.«zip.__new__» ⟨[.type "zip", .ref p, .ref q], []⟩) fun _ R s => s.heap.IsList p xs ∧ s.heap.IsTuple q ys ∧ R (.ok (.ret (.ref (zmD s.heap p q).objs.size))) { s with heap := zmE s.heap p q } :=
  .of_wp fun prog w A R st hh => by
    obtain ⟨h0, g0, r0, t0, o0⟩ := st
    obtain ⟨q1, q2, q3⟩ := hh
    have sub := sub_zip
    have L1 : Heap.IsList (Shared.heap ⟨h0, g0, r0, t0, o0⟩) p xs := q1
    have L2 : Heap.IsTuple (Shared.heap ⟨zmA h0 p, g0, r0, t0, o0⟩) q ys := Heap.IsTuple.push q2 _
    wp_walk using wpAny_pyIter_list L1, wpAny_pyIter_tuple L2
    exact ⟨_, rfl, q3⟩
section
variable {prog : Program} {w : World} {A : Around} {E : Value → Shared → Prop} {s : Shared}
theorem zm_call {p q : Addr} {xs ys : Array Value} {Q : Value → Shared → Prop} (hp : s.heap.IsList p xs) (hq : s.heap.IsTuple q ys)
    (go : ∀ h', ZipM h' (s.heap.objs.size + 4) (s.heap.objs.size + 2) (s.heap.objs.size + 3) s.heap.objs.size (s.heap.objs.size + 1) p q 0 → (∀ c o, s.heap.get? c = some o → h'.get? c = some o) → Q (.ref (s.heap.objs.size + 4)) { s with heap := h' }) :
    wpAny (model prog w) A (call (.type "zip") [.ref p, .ref q]) Q E s := by
  refine callType_new F.called_zip (by decide) (F.typeCall_zip_2 _ _) (F.newCall_zip_2 _ _) (fun obj => F.args_object_init_3 obj _ _) F.entry_zip_new (zm_new p q xs ys) ⟨hp, hq, ?_⟩
  have sA : (zmA s.heap p).objs.size = s.heap.objs.size + 1 := Heap.size_push ..
  have sB : (zmB s.heap p q).objs.size = s.heap.objs.size + 2 := (Heap.size_push ..).trans (by rw [sA])
  have sC : (zmC s.heap p q).objs.size = s.heap.objs.size + 3 := (Heap.size_push ..).trans (by rw [sB])
  have sD : (zmD s.heap p q).objs.size = s.heap.objs.size + 4 := (Heap.size_push ..).trans (by rw [sC])
  have eE : (zmE s.heap p q).get? (zmD s.heap p q).objs.size = some _ := Heap.get?_push_size _ rfl
  have eD : (zmE s.heap p q).get? (zmC s.heap p q).objs.size = some _ := Heap.get?_push_of_some _ (Heap.get?_push_size _ rfl)
  have eC : (zmE s.heap p q).get? (zmB s.heap p q).objs.size = some _ := Heap.get?_push_of_some _ (Heap.get?_push_of_some _ (Heap.get?_push_size _ rfl))
  have eB : (zmE s.heap p q).get? (zmA s.heap p).objs.size = some _ := Heap.get?_push_of_some _ (Heap.get?_push_of_some _ (Heap.get?_push_of_some _ (Heap.get?_push_size _ rfl)))
  have up : ∀ c o, s.heap.get? c = some o → (zmE s.heap p q).get? c = some o := fun c o x => Heap.get?_push_of_some _ (Heap.get?_push_of_some _ (Heap.get?_push_of_some _ (Heap.get?_push_of_some _ (Heap.get?_push_of_some _ x))))
  have eA : (zmE s.heap p q).get? s.heap.objs.size = some _ := Heap.get?_push_of_some _ (Heap.get?_push_of_some _ (Heap.get?_push_of_some _ (Heap.get?_push_of_some _ (Heap.get?_push_size _ rfl))))
  have lp : p < s.heap.objs.size := by obtain ⟨o, ho, _⟩ := hp; exact Heap.lt_size ho
  have lq : q < s.heap.objs.size := by obtain ⟨o, ho, _⟩ := hq; exact Heap.lt_size ho
  rw [sB, sC, sD] at eE
  rw [sC] at eD
  rw [sA, sB] at eC
  rw [sA] at eB
  show _ ∧ _
  rw [sD]
  exact ⟨⟨_, eE, rfl⟩, go _ ⟨PySem.W.ktu_apart s.heap.objs.size p q lp lq, eE, eC, ⟨_, _, eD⟩, ⟨_, eA, rfl, rfl⟩, ⟨_, eB, rfl, rfl⟩⟩ up⟩
end
/-! the iterator, and the loop -/
def ItzM (K : PySem.W.Frag) (a b : Addr) : It where
  go := fun i H => ∃ (xs ys : List V) (x y : V), SqL K H a xs ∧ SqT K H b ys ∧ xs[i]? = some x ∧ ys[i]? = some y
  yld := fun i H v H' => ∃ t x y, v = .ref t ∧ H t = none ∧ H' = upd H t (.tup [x, y]) ∧ (∀ xs, SqL K H a xs → xs[i]? = some x) ∧ ∀ ys, SqT K H b ys → ys[i]? = some y
  stop := fun i H => ∃ xs ys : List V, SqL K H a xs ∧ SqT K H b ys ∧ (xs.length ≤ i ∨ ys.length ≤ i)
theorem turn_zipM {P : Program} {w : World} {K : PySem.W.Frag} {elts : List Expr} {kk : Nat} {tpos : Pos} {a b z TI TO i1 i2 : Addr} : L2.Turn P w K (.Tuple elts kk tpos) (ItzM K a b) [z, TI, TO, i1, i2] z (fun i h => ZipM h z TI TO i1 i2 a b i) where
  mem := by simp
  obj := fun i h st c hc => by
    obtain ⟨_, q1, q2, ⟨_, _, q3⟩, ⟨o1, e1, _, d1⟩, ⟨o2, e2, _, d2⟩⟩ := st
    simp only [List.mem_cons, List.not_mem_nil, or_false] at hc
    rcases hc with rfl | rfl | rfl | rfl | rfl
    · exact ⟨_, q1, fun v q => nomatch q⟩
    · exact ⟨_, q2, fun v q => nomatch q⟩
    · exact ⟨_, q3, fun v q => nomatch q⟩
    · exact ⟨o1, e1, fun v q => by rw [d1] at q; cases q⟩
    · exact ⟨o2, e2, fun v q => by rw [d2] at q; cases q⟩
  keep := fun i h h' st k => by
    obtain ⟨q0, q1, q2, ⟨x, y, q3⟩, q4, q5⟩ := st
    exact ⟨q0, k z (by simp) _ q1, k TI (by simp) _ q2, ⟨x, y, k TO (by simp) _ q3⟩, q4.at fun o q => k i1 (by simp) o q, q5.at fun o q => k i2 (by simp) o q⟩
  item := by
    intro X hP hw hK hc i pins s σ H E I hf st hg
    subst hP hw hK
    obtain ⟨xs, ys, x, y, hqx, hqy, hx, hy⟩ := hg
    obtain ⟨its, rv, p1, _⟩ := I.list hqx
    obtain ⟨its2, rv2, p2, _⟩ := I.tuple hqy
    obtain ⟨u1, hu1, ru1⟩ := rv.get hx
    obtain ⟨u2, hu2, ru2⟩ := rv2.get hy
    have D := st.apart
    have lz : z < s.heap.objs.size := Heap.lt_size st.zip
    refine zm_next st p1.isList p2 (x := u1) (y := u2) (by simpa using hu1) (by simpa using hu2) fun g1 y1 y2 y3 y4 y5 keep => ⟨_, rfl, ?_⟩
    refine wpAny_letOwnedTupleGo_zip (s := { s with heap := g1 }) y1 fun g2 yz same => ?_
    have nt : g2.get? s.heap.objs.size = some { cls := .type "tuple", data := .seq #[u1, u2] } := (same.2 _ (Nat.ne_of_gt lz)).trans y5
    have ok : ObjOk X.prog X.w (upd H s.heap.objs.size (.tup [x, y])) g2 s.heap.objs.size (.tup [x, y]) := ⟨by show 2 ≤ sizeLine; decide, [u1, u2], .cons ru1 (.cons ru2 .nil), _, nt, rfl, _, rfl⟩
    have I1 := I.turnedNew (t' := s.toks) (ch := [z, TI, TO, i1, i2]) (fun c o nb q => (same.2 c fun e => nb (by simp [e])).trans (keep c o (fun e => nb (by simp [e])) (fun e => nb (by simp [e])) (fun e => nb (by simp [e])) (fun e => nb (by simp [e])) q)) hf (Nat.le_refl _) ok
    refine ⟨.ref s.heap.objs.size, _, I1, rfl, ⟨_, x, y, rfl, I.hok.fresh (Nat.le_refl _), rfl, fun l hl => by rw [I.list_inj hl hqx]; exact hx, fun l hl => by rw [I.tuple_inj hl hqy]; exact hy⟩, ⟨D, yz, ?_, ⟨u1, u2, (same.2 _ D.TOz).trans y2⟩, y3.at fun o q => (same.2 _ D.i1z).trans q, y4.at fun o q => (same.2 _ D.i2z).trans q⟩, fun c hcm => ?_⟩
    · exact (same.2 _ D.TIz).trans (keep _ _ D.TIz D.TITO D.TIi1 D.TIi2 st.its)
    · have lc : c < s.heap.objs.size := by
        obtain ⟨_, q1, q2, ⟨_, _, q3⟩, ⟨_, q4, _⟩, ⟨_, q5, _⟩⟩ := st
        simp only [List.mem_cons, List.not_mem_nil, or_false] at hcm
        rcases hcm with rfl | rfl | rfl | rfl | rfl
        · exact lz
        · exact Heap.lt_size q2
        · exact Heap.lt_size q3
        · exact Heap.lt_size q4
        · exact Heap.lt_size q5
      rw [upd_ne (Nat.ne_of_lt lc)]
      exact (hf c hcm).1
  done := by
    intro X hP hw hK hc i pins s σ H E I hf st hg
    subst hP hw hK
    obtain ⟨xs, ys, hqx, hqy, hend⟩ := hg
    obtain ⟨its, rv, p1, _⟩ := I.list hqx
    obtain ⟨its2, rv2, p2, _⟩ := I.tuple hqy
    have e1 := rv.length
    have e2 := rv2.length
    have stop : its.toArray[i]? = none ∨ its2.toArray[i]? = none := hend.imp (fun q => by simp; omega) fun q => by simp; omega
    exact zm_over (I.ok.hd hc) st p1.isList p2 stop fun h' keep => ⟨rfl, I.turnedL (t' := s.toks) (ch := [z, TI, TO, i1, i2]) (fun c o nb q => keep c o (fun e => nb (by simp [e])) (fun e => nb (by simp [e])) (fun e => nb (by simp [e])) (fun e => nb (by simp [e])) q) hf⟩
  self := fun A i s Q E st h => wpAny_pyIter_zip st.zip h
def iZipM (K : PySem.W.Frag) (ta : TA) : TI := fun σ H R => ta σ H fun vs H1 => ∃ a b xs ys, vs = [.ref a, .ref b] ∧ SqL K H1 a xs ∧ SqT K H1 b ys ∧ R (ItzM K a b) H1
theorem pi_zipM (K : PySem.W.Frag) {X : Cx} {e e2 : Expr} {ta : TA} {p pos tpos : Pos} {elts : List Expr} {kk : Nat} (hg : Gl X "zip") (hm : X.mg "zip" = none) (ha : PA X [e, e2] ta)
    (hs : starEach [e, e2] X.env = (false, eval e X.env) :: starEach [e2] X.env := by rfl) (hpl : (backTo pos (starEach [e2] X.env)).any (·.1) = false := by rfl) (hK : X.K = K := by rfl) :
    PI X (.Tuple elts kk tpos) (.Call (.Name "zip" p) [e, e2] [] pos) (iZipM K ta) := by
  subst hK
  refine ⟨fun pins s σ H R I h => Call_ (ld_blt I hg hm PyProof.Rows.boot_zip (PyProof.Rows.callWith_type1 (thn (ha.run pos pins s σ H _ I h) fun us s1 ⟨vs, H1, I1, r1, a, b, xs, ys, ex, hqx, hqy, q⟩ => ?_) hs hpl))⟩
  subst ex
  rcases r1 with _ | ⟨r, _ | ⟨r', rr⟩⟩
  cases rr
  cases r
  cases r'
  obtain ⟨its, rv, p1, _⟩ := I1.list hqx
  obtain ⟨its2, rv2, p2, _⟩ := I1.tuple hqy
  refine zm_call p1.isList (show s1.heap.IsTuple b its2.toArray from p2) fun h' st up => wpAny_pyIter_zip st.zip ?_
  have I2 : L2.Inv X pins σ H1 { s1 with heap := h' } := I1.kept (t' := s1.toks) up
  refine ⟨s1.heap.objs.size + 4, [s1.heap.objs.size + 4, s1.heap.objs.size + 2, s1.heap.objs.size + 3, s1.heap.objs.size, s1.heap.objs.size + 1], _, _, H1, rfl, I2, turn_zipM, st, fun c hcm => ?_, q⟩
  have lc : s1.heap.objs.size ≤ c := by
    simp only [List.mem_cons, List.not_mem_nil, or_false] at hcm
    rcases hcm with e | e | e | e | e <;> rw [e] <;> first | exact Nat.le_refl _ | exact Nat.le_add_right _ _
  exact I1.fpOk lc (I1.hok.fresh lc)
section
variable {σ : L2.St} {H : Hp} {nx : L2.St → Hp → Prop} {rt : VK} {K : PySem.W.Frag}
theorem w_zipM {tl : TA} {R : It → Hp → Prop} (h : tl σ H fun vs H1 => ∃ a b xs ys, vs = [.ref a, .ref b] ∧ SqL K H1 a xs ∧ SqT K H1 b ys ∧ R (ItzM K a b) H1) : iZipM K tl σ H R := h
theorem f_zipM {g : TG} {t : TS} {a b : Addr} {xs ys : List V} (hx : SqL K H a xs) (hy : SqT K H b ys) (hlen : ys.length = xs.length) (Pv : Nat → L2.St → Hp → Prop) (p0 : Pv 0 σ H)
    (hl : ∀ i σ' H', i ≤ xs.length → Pv i σ' H' → SqL K H' a xs ∧ SqT K H' b ys)
    (hs : ∀ i x y z σ' H', xs[i]? = some x → ys[i]? = some y → Pv i σ' H' → H' z = none → g (.ref z) σ' (upd H' z (.tup [x, y])) fun σ2 H2 => Kit.Sm t (Pv (i + 1)) rt nx (Pv (i + 1)) σ2 H2) (hd : ∀ σ' H', Pv xs.length σ' H' → nx σ' H') :
    ∃ a' b' xs' ys', [V.ref a, V.ref b] = [.ref a', .ref b'] ∧ SqL K H a' xs' ∧ SqT K H b' ys' ∧ Kit.Fj (ItzM K a' b') g t nx rt σ H := by
  refine ⟨a, b, xs, ys, rfl, hx, hy, fun i m σ H => Pv i σ H ∧ i + m = xs.length, ⟨xs.length, p0, by omega⟩, ?_⟩
  rintro i m σ' H' ⟨p, e⟩
  obtain ⟨q1, q2⟩ := hl i σ' H' (by omega) p
  rcases Nat.lt_or_ge i xs.length with lt | ge
  · have h1 : xs[i]? = some xs[i] := List.getElem?_eq_getElem lt
    have h2 : ys[i]? = some (ys[i]'(by omega)) := List.getElem?_eq_getElem (by omega)
    refine .inr ⟨⟨xs, ys, _, _, q1, q2, h1, h2⟩, Pv (i + 1), fun s2 H2 p2 => ⟨m - 1, by omega, p2, by omega⟩, ?_⟩
    rintro x H2 ⟨z, x0, y0, rfl, hz, rfl, f1, f2⟩
    exact hs i x0 y0 z σ' H' (f1 xs q1) (f2 ys q2) p hz
  · have ei : i = xs.length := by omega
    rw [ei] at p
    exact .inl ⟨⟨xs, ys, q1, q2, .inl ge⟩, hd _ _ p⟩
end
local macro_rules | `(tactic| walk_at "wp1") => `(tactic| with_reducible refine w_zipM ?_)

/-! ### any data, as it stands in a heap -/
mutual
theorem dp_ex {K : PySem.W.Frag} {H H' : Hp} (e : Evl.Ex H H') : ∀ (d : PyData) (v : V), Dp K H v d → Dp K H' v d
  | .none, _, h => by cases h; exact .non
  | .bool _, _, h => by cases h; exact .bl _
  | .int _, _, h => by cases h; exact .int _
  | .str _, _, h => by cases h; exact .str _
  | .list ds, _, h => by
    cases h with
    | lst h1 h2 => exact .lst (Evl.ex_l e h1) (dps_ex e ds _ h2)
  | .tuple ds, _, h => by
    cases h with
    | tup h1 h2 => exact .tup (Evl.ex_t e h1) (dps_ex e ds _ h2)
  | .dict _, _, h => nomatch h
theorem dps_ex {K : PySem.W.Frag} {H H' : Hp} (e : Evl.Ex H H') : ∀ (ds : List PyData) (vs : List V), DpAll K H vs ds → DpAll K H' vs ds
  | [], _, h => by cases h; exact .nil
  | d :: ds, _, h => by
    cases h with
    | cons h1 h2 => exact .cons (dp_ex e d _ h1) (dps_ex e ds _ h2)
end
theorem dps_len {K : PySem.W.Frag} {H : Hp} : ∀ {ds : List PyData} {vs : List V}, DpAll K H vs ds → vs.length = ds.length
  | [], _, h => by cases h; rfl
  | d :: ds, _, h => by
    cases h with
    | cons h1 h2 => rw [List.length_cons, List.length_cons, dps_len h2]
theorem dps_at {K : PySem.W.Frag} {H : Hp} : ∀ {ds : List PyData} {vs : List V} {i : Nat} {v : V}, DpAll K H vs ds → vs[i]? = some v → ∃ d, ds[i]? = some d ∧ Dp K H v d
  | [], _, _, _, h, hi => by cases h; simp at hi
  | d :: ds, _, 0, v, h, hi => by
    cases h with
    | cons h1 h2 => cases hi; exact ⟨d, rfl, h1⟩
  | d :: ds, _, i + 1, v, h, hi => by
    cases h with
    | cons h1 h2 => exact dps_at (i := i) h2 hi
theorem dps_ints {K : PySem.W.Frag} {H : Hp} : ∀ r : List Int, DpAll K H (r.map V.int) (r.map PyData.int)
  | [] => .nil
  | i :: r => .cons (.int i) (dps_ints r)
theorem dp_itup {K : PySem.W.Frag} {H : Hp} {p : Addr} {r : List Int} (h : SqT K H p (r.map V.int)) : Dp K H (.ref p) (.tuple (r.map PyData.int)) := .tup h (dps_ints r)
theorem ints_of {K : PySem.W.Frag} {H : Hp} : ∀ {r : List Int} {vs : List V}, DpAll K H vs (r.map PyData.int) → vs = r.map V.int
  | [], _, h => by cases h; rfl
  | i :: r, _, h => by
    cases h with
    | cons h1 h2 =>
      cases h1
      rw [ints_of h2]
      rfl
theorem itup_of {K : PySem.W.Frag} {H : Hp} {v : V} {r : List Int} (h : Dp K H v (.tuple (r.map PyData.int))) : ∃ p, v = .ref p ∧ SqT K H p (r.map V.int) := by
  cases h with
  | tup h1 h2 => exact ⟨_, rfl, ints_of h2 ▸ h1⟩
theorem range_bl {ds : List PyData} {n : Nat} (f : PyData → Bool) (h : n = ds.length) : (List.range n).map (fun i => V.bl (f ((ds[i]?).getD .none))) = (ds.map f).map V.bl := by
  subst h
  apply List.ext_getElem?
  intro i
  by_cases hi : i < ds.length
  · rw [List.getElem?_map, List.getElem?_range hi, List.getElem?_map, List.getElem?_map, List.getElem?_eq_getElem hi]
    show some (V.bl (f ((ds[i]?).getD .none))) = _
    rw [List.getElem?_eq_getElem hi]
    rfl
  · rw [List.getElem?_eq_none (by rw [List.length_map, List.length_range]; omega), List.getElem?_eq_none (by rw [List.length_map, List.length_map]; omega)]
theorem w_all {K : PySem.W.Frag} {p : Addr} {ds : List PyData} {f : PyData → Bool} {H : Hp} {Q : VK} (h : H p = some (.lst ((ds.map f).map V.bl))) (q : Q (.bl (ds.all f)) H) : rAll K [.ref p] H Q :=
  ⟨p, ds.map f, rfl, Evl.sq_of h, by rw [show (ds.map f).all id = ds.all f from by rw [List.all_map]; rfl]; exact q⟩
/-- [f(x) for x in xs] over a tuple of data, each item True or False -/
theorem l_dps {K : PySem.W.Frag} {a : Addr} {xs : List V} {ds : List PyData} {H : Hp} {Q : VK} {σ : L2.St} {vs : List Nat} {te : TE} {j : Nat} (hx : SqT K H a xs) (hd : DpAll K H xs ds) (hn : xs.length ≤ 40000) (hw : ∀ v, wipe ((wipe σ vs).set j (some v)) vs = wipe σ vs) (f : PyData → Bool)
    (he : ∀ (x : V) (d : PyData) H', Evl.Ex H H' → Dp K H' x d → d ∈ ds → ∀ R : VK, (∀ H2, Evl.Ex H' H2 → R (.bl (f d)) H2) → te ((wipe σ vs).set j (some x)) H' R)
    (q : ∀ p H2, H p = none → Evl.Ex H H2 → H2 p = some (.lst ((ds.map f).map V.bl)) → Q (.ref p) H2) :
    ∃ b, V.ref a = .ref b ∧ (∃ ys, SqT K H b ys) ∧ Kit.Lcj (Itt K b) (gName j) tYes te vs σ H Q := by
  refine Kit.l_tup hx hn hw (fun i => .bl (f ((ds[i]?).getD .none))) (fun i x H' hi e R r => ?_) (fun p H2 n e h => q p H2 n e (by rw [h, range_bl f (dps_len hd)]))
  obtain ⟨d, h1, h2⟩ := dps_at hd hi
  rw [h1] at r
  exact he x d H' e (dp_ex e d x h2) (List.mem_of_getElem? h1) R r

/-! ### forms of values: of any data -/
local macro_rules | `(tactic| walk_at "wp1") => `(tactic| first
  | with_reducible refine Kit.w_chain ?_
  | with_reducible refine Kit.w_isB ?_
  | with_reducible refine Kit.w_notB ?_
  | ((with_reducible show rAll _ _ _ _); refine w_all (by with_reducible assumption) ?_)
  | fail)
def inI (d : PyData) (lo hi : Int) : Bool := match d with
  | .int i => decide (lo ≤ i) && decide (i ≤ hi)
  | _ => false
def sp_is_integer (K : PySem.W.Frag) : Sp := fun vs H Q _ => ∃ (x : V) (d : PyData) (lo hi : Int), vs = [x, .int lo, .int hi] ∧ Dp K H x d ∧ Q (.bl (inI d lo hi)) H
theorem ok_is_integer (T : Txt K mg) : FnOk P w K mg base CX0 1 T.f_is_integer.f T.f_is_integer.fd ["value", "least", "greatest"] (sp_is_integer K) := by
  refine T.f_is_integer.F.ok sc_is_integer (fun vs H Q E h => ?_) (fun cdv A outer s H vs Q E hr h => ?_)
  · obtain ⟨x, d, lo, hi, rfl, hx, q⟩ := h
    rfl
  obtain ⟨x, d, lo, hi, rfl, hx, q⟩ := h
  have nd := sc_is_integer.nd
  refine Kit.ok_body (σ := [some _, some _, some _]) ((pss_cons (ps_if (PW.pt (pw_or (pt_not (pt_val (pe_callB (Kit.kIsi K) (by rfl) T.z_isinstance (by decide +kernel) (pa_cons (pv 0) (pa_cons (pe_bltn (v := .ty "int") (by rfl) T.z_int (by decide +kernel) rfl) pa_nil))))) (pw_or1 (pt_val (pe_callB (Kit.kIsi K) (by rfl) T.z_isinstance (by decide +kernel) (pa_cons (pv 0) (pa_cons (pe_bltn (v := .ty "bool") (by rfl) T.z_bool (by decide +kernel) rfl) pa_nil)))))))
    (pss_one (ps_ret pe_bl))
    pss_nil)
    (pss_one (ps_ret (pe_chain op_le op_le (pv 1) (pv 0) (pv 2)))))) rfl ?_
  cases hx with
  | int i =>
    change Q (.bl (decide (lo ≤ i) && decide (i ≤ hi))) H at q
    by_cases h1 : lo ≤ i
    · rw [decide_eq_true h1, Bool.true_and] at q
      walk_at "wp"
      all_goals first | exact q | omega
    · rw [decide_eq_false h1, Bool.false_and] at q
      walk_at "wp"
      all_goals first | exact q | omega
  | _ =>
    walk_at "wp"
    exact q
theorem use_is_integer {K : PySem.W.Frag} {x : V} {d : PyData} {lo hi hi' : Int} {H : Hp} {Q : VK} {E : XK} (hx : Dp K H x d) (e : hi = hi') (q : Q (.bl (inI d lo hi')) H) : sp_is_integer K [x, .int lo, .int hi] H Q E := ⟨x, d, lo, hi, rfl, hx, by rw [e]; exact q⟩
local macro_rules | `(tactic| walk_at "wp1") => `(tactic| ((with_reducible show sp_is_integer _ _ _ _ _); refine use_is_integer (by with_reducible assumption) (by first | decide | rfl) ?_))
def sp_is_word (K : PySem.W.Frag) : Sp := fun vs H Q _ => ∃ (x : V) (d : PyData), vs = [x] ∧ Dp K H x d ∧ Q (.bl (inI d 0 65535)) H
theorem ok_is_word (T : Txt K mg) : FnOk P w K mg base CX0 2 T.f_is_word.f T.f_is_word.fd ["value"] (sp_is_word K) := by
  have G_is_integer := ok_is_integer (P := P) (w := w) (base := base) T
  refine T.f_is_word.F.ok sc_is_word (fun vs H Q E h => ?_) (fun cdv A outer s H vs Q E hr h => ?_)
  · obtain ⟨x, d, rfl, hx, q⟩ := h
    rfl
  obtain ⟨x, d, rfl, hx, q⟩ := h
  have nd := sc_is_word.nd
  have hr1 : Room 1 _ := hr.mono (by decide)
  refine Kit.ok_body (σ := [some _]) ((pss_one (ps_ret (pe_call G_is_integer hr1 (by rfl) T.f_is_integer.g T.f_is_integer.F.kp T.f_is_integer.b .nil pass0 (pa_cons (pv 0) (pa_cons pe_int (pa_cons (pe_glob (v := .int 65535) rfl T.g_MOST_WORD ⟨_, rfl⟩) pa_nil))))))) rfl ?_
  walk_at "wp"
  exact q
theorem use_is_word {K : PySem.W.Frag} {x : V} {d : PyData} {H : Hp} {Q : VK} {E : XK} (hx : Dp K H x d) (q : Q (.bl (inI d 0 65535)) H) : sp_is_word K [x] H Q E := ⟨x, d, rfl, hx, q⟩
local macro_rules | `(tactic| walk_at "wp1") => `(tactic| ((with_reducible show sp_is_word _ _ _ _ _); refine use_is_word (by with_reducible assumption) ?_))
def sp_is_digest (K : PySem.W.Frag) (C : Addr) : Sp := fun vs H Q _ => ∃ (p dx : Addr) (b bk : V) (m : Int) (x : V) (d : PyData), vs = [.ref p, x] ∧ H p = some (.ins C dx (fl_Digests b bk (.int m))) ∧ Dp K H x d ∧ Q (.bl (inI d 0 (m - 1))) H
theorem ok_Digests_is_digest (T : Txt K mg) : FnOk P w K mg base CX0 2 T.f_Digests_is_digest.f T.f_Digests_is_digest.fd ["self", "value"] (sp_is_digest K T.c_Digests.C) := by
  have G_is_integer := ok_is_integer (P := P) (w := w) (base := base) T
  refine T.f_Digests_is_digest.F.ok sc_Digests_is_digest (fun vs H Q E h => ?_) (fun cdv A outer s H vs Q E hr h => ?_)
  · obtain ⟨p, dx, b, bk, m, x, d, rfl, hp, hx, q⟩ := h
    rfl
  obtain ⟨p, dx, b, bk, m, x, d, rfl, hp, hx, q⟩ := h
  have nd := sc_Digests_is_digest.nd
  have hr1 : Room 1 _ := hr.mono (by decide)
  refine Kit.ok_body (σ := [some _, some _]) ((pss_one (ps_ret (pe_call G_is_integer hr1 (by rfl) T.f_is_integer.g T.f_is_integer.F.kp T.f_is_integer.b .nil pass0 (pa_cons (pv 1) (pa_cons pe_int (pa_cons (pe_op op_sub (Kit.kFld K (pv 0) rfl) pe_int) pa_nil))))))) rfl ?_
  walk_at "wp"
  exact q
theorem use_is_digest {K : PySem.W.Frag} {C p dx : Addr} {b bk : V} {m : Int} {x : V} {d : PyData} {H : Hp} {Q : VK} {E : XK} (hp : H p = some (.ins C dx (fl_Digests b bk (.int m)))) (hx : Dp K H x d) (q : Q (.bl (inI d 0 (m - 1))) H) : sp_is_digest K C [.ref p, x] H Q E := ⟨p, dx, b, bk, m, x, d, rfl, hp, hx, q⟩
local macro_rules | `(tactic| walk_at "wp1") => `(tactic| ((with_reducible show sp_is_digest _ _ _ _ _ _); refine use_is_digest (by walk_at "hp") (by with_reducible assumption) ?_))
def regB (m : Int) : PyData → Bool
  | .tuple [a, b, c, d, e, f] => inI a 0 255 && (inI b 0 65535 && (inI c 0 65535 && (inI d 0 6 && (inI e 0 (m - 1) && inI f 0 16))))
  | _ => false
theorem regB_ne {m : Int} {ds : List PyData} (h : ¬ ds.length = 6) : regB m (.tuple ds) = false := by
  unfold regB
  split
  · rename_i hz
    injection hz with hz
    subst hz
    exact absurd rfl h
  · rfl
theorem six_of {ds : List PyData} (h : ds.length = 6) : ∃ a b c d e f, ds = [a, b, c, d, e, f] := by
  match ds, h with
  | [a, b, c, d, e, f], _ => exact ⟨a, b, c, d, e, f, rfl⟩
theorem dps_cons {K : PySem.W.Frag} {H : Hp} {vs : List V} {d : PyData} {ds : List PyData} (h : DpAll K H vs (d :: ds)) : ∃ v vs', vs = v :: vs' ∧ Dp K H v d ∧ DpAll K H vs' ds := by
  cases h with
  | cons h1 h2 => exact ⟨_, _, rfl, h1, h2⟩
theorem dps_nil {K : PySem.W.Frag} {H : Hp} {vs : List V} (h : DpAll K H vs []) : vs = [] := by cases h; rfl
def sp_are_registers (K : PySem.W.Frag) (C : Addr) : Sp := fun vs H Q _ => ∃ (p dx : Addr) (b bk : V) (m : Int) (x : V) (d : PyData), vs = [.ref p, x] ∧ H p = some (.ins C dx (fl_Digests b bk (.int m))) ∧ Dp K H x d ∧ Q (.bl (regB m d)) H
theorem ok_are_registers (T : Txt K mg) : FnOk P w K mg base CX0 3 T.f_are_registers.f T.f_are_registers.fd ["digests", "value"] (sp_are_registers K T.c_Digests.C) := by
  have G_Digests_is_digest := ok_Digests_is_digest (P := P) (w := w) (base := base) T
  have G_is_integer := ok_is_integer (P := P) (w := w) (base := base) T
  have G_is_word := ok_is_word (P := P) (w := w) (base := base) T
  refine T.f_are_registers.F.ok sc_are_registers (fun vs H Q E h => ?_) (fun cdv A outer s H vs Q E hr h => ?_)
  · obtain ⟨p, dx, b, bk, m, x, d, rfl, hp, hx, q⟩ := h
    rfl
  obtain ⟨p, dx, b, bk, m, x, d, rfl, hp, hx, q⟩ := h
  have nd := sc_are_registers.nd
  have hr1 : Room 1 _ := hr.mono (by decide)
  have hr2 : Room 2 _ := hr.mono (by decide)
  refine Kit.ok_body (σ := [some _, some _, none, none, none, none, none, none]) ((pss_cons (ps_if (PW.pt (pw_or (pt_not (pt_val (pe_callB (Kit.kIsi K) (by rfl) T.z_isinstance (by decide +kernel) (pa_cons (pv 1) (pa_cons (pe_bltn (v := .ty "tuple") (by rfl) T.z_tuple (by decide +kernel) rfl) pa_nil))))) (pw_or1 (pt_cmpR op_ne (pe_callB (Kit.kLen K) (by rfl) T.z_len (by decide +kernel) (pa_cons (pv 1) pa_nil)) pe_int (nomark _)))))
    (pss_one (ps_ret pe_bl))
    pss_nil)
    (pss_cons (ps_asg (pv 1) (Kit.kgTup K rfl (pgs_cons (pg_name (i := 2) nd rfl (Or.inl rfl)) (pgs_cons (pg_name (i := 3) nd rfl (Or.inl rfl)) (pgs_cons (pg_name (i := 4) nd rfl (Or.inl rfl)) (pgs_cons (pg_name (i := 5) nd rfl (Or.inl rfl)) (pgs_cons (pg_name (i := 6) nd rfl (Or.inl rfl)) (pgs_cons (pg_name (i := 7) nd rfl (Or.inl rfl)) pgs_nil))))))))
    (pss_cons (ps_if (PW.pt (pw_or (pt_not (pt_val (pe_call G_is_integer hr1 (by rfl) T.f_is_integer.g T.f_is_integer.F.kp T.f_is_integer.b .nil pass0 (pa_cons (pv 2) (pa_cons pe_int (pa_cons (pe_op op_sub (pe_glob (v := .int 256) rfl T.g_PLACES ⟨_, rfl⟩) pe_int) pa_nil)))))) (pw_or (pt_not (pt_val (pe_call G_is_word hr2 (by rfl) T.f_is_word.g T.f_is_word.F.kp T.f_is_word.b .nil pass0 (pa_cons (pv 3) pa_nil)))) (pw_or1 (pt_not (pt_val (pe_call G_is_word hr2 (by rfl) T.f_is_word.g T.f_is_word.F.kp T.f_is_word.b .nil pass0 (pa_cons (pv 4) pa_nil))))))))
    (pss_one (ps_ret pe_bl))
    pss_nil)
    (pss_cons (ps_if (PW.pt (pw_or (pt_not (pt_val (pe_call G_is_integer hr1 (by rfl) T.f_is_integer.g T.f_is_integer.F.kp T.f_is_integer.b .nil pass0 (pa_cons (pv 5) (pa_cons pe_int (pa_cons (pe_op op_sub (pe_callB (Kit.kLen K) (by rfl) T.z_len (by decide +kernel) (pa_cons (pe_glob (v := .ref T.a_MARKS) rfl T.g_MARKS rfl) pa_nil)) pe_int) pa_nil)))))) (pw_or1 (pt_not (pt_val (pe_meth (pv 0) T.c_Digests.cl T.m_Digests_is_digest G_Digests_is_digest hr2 T.f_Digests_is_digest.b .nil pass0 (pa_cons (pv 6) pa_nil)))))))
    (pss_one (ps_ret pe_bl))
    pss_nil)
    (pss_one (ps_ret (pe_call G_is_integer hr1 (by rfl) T.f_is_integer.g T.f_is_integer.F.kp T.f_is_integer.b .nil pass0 (pa_cons (pv 7) (pa_cons pe_int (pa_cons (pe_glob (v := .int 16) rfl T.g_MOST_TOLD ⟨_, rfl⟩) pa_nil))))))))))) rfl ?_
  try dsimp only [L2.cxOf, L2.Cx.nox]
  cases hx with
  | @tup a xs ds h1 h2 =>
    by_cases h6 : ds.length = 6
    · obtain ⟨d0, d1, d2, d3, d4, d5, rfl⟩ := six_of h6
      obtain ⟨x0, _, rfl, g0, h2⟩ := dps_cons h2
      obtain ⟨x1, _, rfl, g1, h2⟩ := dps_cons h2
      obtain ⟨x2, _, rfl, g2, h2⟩ := dps_cons h2
      obtain ⟨x3, _, rfl, g3, h2⟩ := dps_cons h2
      obtain ⟨x4, _, rfl, g4, h2⟩ := dps_cons h2
      obtain ⟨x5, _, rfl, g5, h2⟩ := dps_cons h2
      cases dps_nil h2
      change Q (.bl (inI d0 0 255 && (inI d1 0 65535 && (inI d2 0 65535 && (inI d3 0 6 && (inI d4 0 (m - 1) && inI d5 0 16)))))) H at q
      have hMK := T.w_MARKS.sq H
      walk_at "wp"
      all_goals first | (rename_i hz; exact absurd rfl hz) | skip
      all_goals clear hMK h1 hp g0 g1 g2 g3 g4 g5 h6
      all_goals simp only [show (256 : Int) - 1 = 255 from rfl, List.length_cons, List.length_nil, show (((0 + 1 + 1 + 1 + 1 + 1 + 1 + 1 : Nat) : Int) - 1) = 6 from rfl] at *
      all_goals first | (simp only [*, Bool.true_and, Bool.false_and] at q; exact q) | skip
    · rw [regB_ne h6, ] at q
      have h6' : ¬ ((xs.length : Int) = 6) := by rw [dps_len h2]; omega
      walk_at "wp"
      all_goals first | exact q | (rename_i hz; exact absurd hz h6')
  | _ =>
    walk_at "wp"
    exact q
theorem use_are_registers {K : PySem.W.Frag} {C p dx : Addr} {b bk : V} {m : Int} {x : V} {d : PyData} {H : Hp} {Q : VK} {E : XK} (hp : H p = some (.ins C dx (fl_Digests b bk (.int m)))) (hx : Dp K H x d) (q : Q (.bl (regB m d)) H) : sp_are_registers K C [.ref p, x] H Q E := ⟨p, dx, b, bk, m, x, d, rfl, hp, hx, q⟩
local macro_rules | `(tactic| walk_at "wp1") => `(tactic| ((with_reducible show sp_are_registers _ _ _ _ _ _); refine use_are_registers (by walk_at "hp") (by with_reducible assumption) ?_))

/-! ### openings: their form -/
def partB (m : Int) : PyData → Bool
  | .tuple [w, .tuple ps] => inI w 0 65535 && (decide (ps.length = 8) && ps.all fun d => inI d 0 (m - 1))
  | _ => false
theorem partB_ne {m : Int} {ds : List PyData} (h : ¬ ds.length = 2) : partB m (.tuple ds) = false := by
  unfold partB
  split
  · rename_i hz
    injection hz with hz
    subst hz
    exact absurd rfl h
  · rfl
theorem two_of {ds : List PyData} (h : ds.length = 2) : ∃ a b, ds = [a, b] := by
  match ds, h with
  | [a, b], _ => exact ⟨a, b, rfl⟩
/-- tuples are not too long to be walked -/
def lenB : PyData → Bool
  | .tuple ds => decide (ds.length ≤ 40000)
  | _ => true
def sp_is_part (K : PySem.W.Frag) (C : Addr) : Sp := fun vs H Q _ => ∃ (p dx : Addr) (b bk : V) (m : Int) (x : V) (d : PyData), vs = [.ref p, x] ∧ H p = some (.ins C dx (fl_Digests b bk (.int m))) ∧ Dp K H x d ∧ ∀ H', Evl.Ex H H' → Q (.bl (partB m d)) H'
theorem ok_is_part (T : Txt K mg) : FnOk P w K mg base CX0 3 T.f_is_part.f T.f_is_part.fd ["digests", "value"] (sp_is_part K T.c_Digests.C) := by
  have G_Digests_is_digest := ok_Digests_is_digest (P := P) (w := w) (base := base) T
  have G_is_word := ok_is_word (P := P) (w := w) (base := base) T
  refine T.f_is_part.F.ok sc_is_part (fun vs H Q E h => ?_) (fun cdv A outer s H vs Q E hr h => ?_)
  · obtain ⟨p, dx, b, bk, m, x, d, rfl, hp, hx, q⟩ := h
    rfl
  obtain ⟨p, dx, b, bk, m, x, d, rfl, hp, hx, q⟩ := h
  have nd := sc_is_part.nd
  have hr2 : Room 2 _ := hr.mono (by decide)
  refine Kit.ok_body (σ := [some _, some _, none, none, none]) ((pss_cons (ps_if (PW.pt (pw_or (pt_not (pt_val (pe_callB (Kit.kIsi K) (by rfl) T.z_isinstance (by decide +kernel) (pa_cons (pv 1) (pa_cons (pe_bltn (v := .ty "tuple") (by rfl) T.z_tuple (by decide +kernel) rfl) pa_nil))))) (pw_or1 (pt_cmpR op_ne (pe_callB (Kit.kLen K) (by rfl) T.z_len (by decide +kernel) (pa_cons (pv 1) pa_nil)) pe_int (nomark _)))))
    (pss_one (ps_ret pe_bl))
    pss_nil)
    (pss_cons (ps_asg (pv 1) (Kit.kgTup K rfl (pgs_cons (pg_name (i := 2) nd rfl (Or.inl rfl)) (pgs_cons (pg_name (i := 3) nd rfl (Or.inl rfl)) pgs_nil))))
    (pss_cons (ps_if (PW.pt (pw_or (pt_not (pt_val (pe_call G_is_word hr2 (by rfl) T.f_is_word.g T.f_is_word.F.kp T.f_is_word.b .nil pass0 (pa_cons (pv 2) pa_nil)))) (pw_or (pt_not (pt_val (pe_callB (Kit.kIsi K) (by rfl) T.z_isinstance (by decide +kernel) (pa_cons (pv 3) (pa_cons (pe_bltn (v := .ty "tuple") (by rfl) T.z_tuple (by decide +kernel) rfl) pa_nil))))) (pw_or1 (pt_cmpR op_ne (pe_callB (Kit.kLen K) (by rfl) T.z_len (by decide +kernel) (pa_cons (pv 3) pa_nil)) (pe_glob (v := .int 8) rfl T.g_DEPTH ⟨_, rfl⟩) (nomark _))))))
    (pss_one (ps_ret pe_bl))
    pss_nil)
    (pss_one (ps_ret (pe_callB (kAll K rfl) (by rfl) T.z_all (by decide +kernel) (pa_cons (pe_lc (own := [("item", 4)]) (g := gName 4) (tt := tYes) (by rfl) nd (Kit.kpTup K (pv 3)) (blkOk_by (own := [("item", 4)]) (N := N_is_part) (sc := defScope s_is_part) (by decide +kernel)) (fun _ _ _ _ _ => pg_name (i := 4) nd rfl (Or.inl rfl)) (fun _ _ _ _ _ => pts_nil) (fun _ _ _ _ _ => (pe_meth (pv 0) T.c_Digests.cl T.m_Digests_is_digest G_Digests_is_digest hr2 T.f_Digests_is_digest.b .nil pass0 (pa_cons (pv 4) pa_nil)))) pa_nil)))))))) rfl ?_
  try dsimp only [L2.cxOf, L2.Cx.nox]
  cases hx with
  | @tup a xs ds h1 h2 =>
    by_cases h6 : ds.length = 2
    · obtain ⟨d0, d1, rfl⟩ := two_of h6
      obtain ⟨x0, _, rfl, g0, h2⟩ := dps_cons h2
      obtain ⟨x1, _, rfl, g1, h2⟩ := dps_cons h2
      cases dps_nil h2
      cases g1 with
      | @tup a2 ys es k1 k2 =>
        change ∀ H', Evl.Ex H H' → Q (.bl (inI d0 0 65535 && (decide (es.length = 8) && es.all fun d => inI d 0 (m - 1)))) H' at q
        by_cases h8 : es.length = 8
        · have h8' : (ys.length : Int) = 8 := by rw [dps_len k2]; omega
          walk_at "wp"
          all_goals first | (rename_i hz; exact absurd rfl hz) | (rename_i hz; exact absurd h8' hz) | skip
          · refine l_dps k1 k2 (by omega) (fun _ => rfl) (fun d => inI d 0 (m - 1)) ?_ ?_
            · intro x d H8 e8 hx _ R rr
              walk_at "wp"
              exact rr _ (Evl.Ex.refl _)
            · intro l H8 n8 e8 f8
              walk_at "wp"
              rw [decide_eq_true h8, Bool.true_and] at q
              simp only [*, Bool.true_and] at q
              exact q _ e8
          · simp only [*, Bool.false_and] at q
            exact q _ (Evl.Ex.refl _)
        · have h8' : ¬ ((ys.length : Int) = 8) := by rw [dps_len k2]; omega
          rw [decide_eq_false h8, Bool.false_and, Bool.and_false] at q
          walk_at "wp"
          all_goals first | (rename_i hz; exact absurd rfl hz) | (rename_i hz; exact absurd hz h8') | exact q _ (Evl.Ex.refl _)
      | _ =>
        walk_at "wp"
        all_goals first | (rename_i hz; exact absurd rfl hz) | exact q _ (Evl.Ex.refl _)
    · rw [partB_ne h6] at q
      have h6' : ¬ ((xs.length : Int) = 2) := by rw [dps_len h2]; omega
      walk_at "wp"
      all_goals first | exact q _ (Evl.Ex.refl _) | (rename_i hz; exact absurd hz h6')
  | _ =>
    walk_at "wp"
    exact q _ (Evl.Ex.refl _)
def openB (m : Int) : PyData → Bool
  | .tuple [r, t, .tuple ps] => regB m r && (inI t 0 (m - 1) && ps.all (partB m))
  | _ => false
theorem openB_ne {m : Int} {ds : List PyData} (h : ¬ ds.length = 3) : openB m (.tuple ds) = false := by
  unfold openB
  split
  · rename_i hz
    injection hz with hz
    subst hz
    exact absurd rfl h
  · rfl
theorem three_of {ds : List PyData} (h : ds.length = 3) : ∃ a b c, ds = [a, b, c] := by
  match ds, h with
  | [a, b, c], _ => exact ⟨a, b, c, rfl⟩
/-- the parts of a value that may be an opening are not too many to be walked -/
def fewB : PyData → Bool
  | .tuple [_, _, .tuple ps] => decide (ps.length ≤ 40000)
  | _ => true
def sp_is_opening (K : PySem.W.Frag) (C : Addr) : Sp := fun vs H Q _ => ∃ (p dx : Addr) (b bk : V) (m : Int) (x : V) (d : PyData), vs = [.ref p, x] ∧ H p = some (.ins C dx (fl_Digests b bk (.int m))) ∧ Dp K H x d ∧ fewB d = true ∧ ∀ H', Evl.Ex H H' → Q (.bl (openB m d)) H'
theorem ok_is_opening (T : Txt K mg) : FnOk P w K mg base CX0 4 T.f_is_opening.f T.f_is_opening.fd ["digests", "value"] (sp_is_opening K T.c_Digests.C) := by
  have G_Digests_is_digest := ok_Digests_is_digest (P := P) (w := w) (base := base) T
  have G_are_registers := ok_are_registers (P := P) (w := w) (base := base) T
  have G_is_part := ok_is_part (P := P) (w := w) (base := base) T
  refine T.f_is_opening.F.ok sc_is_opening (fun vs H Q E h => ?_) (fun cdv A outer s H vs Q E hr h => ?_)
  · obtain ⟨p, dx, b, bk, m, x, d, rfl, hp, hx, hf, q⟩ := h
    rfl
  obtain ⟨p, dx, b, bk, m, x, d, rfl, hp, hx, hf, q⟩ := h
  have nd := sc_is_opening.nd
  have hr2 : Room 2 _ := hr.mono (by decide)
  have hr3 : Room 3 _ := hr.mono (by decide)
  refine Kit.ok_body (σ := [some _, some _, none, none, none, none]) ((pss_cons (ps_if (PW.pt (pw_or (pt_not (pt_val (pe_callB (Kit.kIsi K) (by rfl) T.z_isinstance (by decide +kernel) (pa_cons (pv 1) (pa_cons (pe_bltn (v := .ty "tuple") (by rfl) T.z_tuple (by decide +kernel) rfl) pa_nil))))) (pw_or1 (pt_cmpR op_ne (pe_callB (Kit.kLen K) (by rfl) T.z_len (by decide +kernel) (pa_cons (pv 1) pa_nil)) pe_int (nomark _)))))
    (pss_one (ps_ret pe_bl))
    pss_nil)
    (pss_cons (ps_asg (pv 1) (Kit.kgTup K rfl (pgs_cons (pg_name (i := 2) nd rfl (Or.inl rfl)) (pgs_cons (pg_name (i := 3) nd rfl (Or.inl rfl)) (pgs_cons (pg_name (i := 4) nd rfl (Or.inl rfl)) pgs_nil)))))
    (pss_cons (ps_if (PW.pt (pw_or (pt_not (pt_val (pe_call G_are_registers hr3 (by rfl) T.f_are_registers.g T.f_are_registers.F.kp T.f_are_registers.b .nil pass0 (pa_cons (pv 0) (pa_cons (pv 2) pa_nil))))) (pw_or (pt_not (pt_val (pe_meth (pv 0) T.c_Digests.cl T.m_Digests_is_digest G_Digests_is_digest hr2 T.f_Digests_is_digest.b .nil pass0 (pa_cons (pv 3) pa_nil)))) (pw_or1 (pt_not (pt_val (pe_callB (Kit.kIsi K) (by rfl) T.z_isinstance (by decide +kernel) (pa_cons (pv 4) (pa_cons (pe_bltn (v := .ty "tuple") (by rfl) T.z_tuple (by decide +kernel) rfl) pa_nil)))))))))
    (pss_one (ps_ret pe_bl))
    pss_nil)
    (pss_one (ps_ret (pe_callB (kAll K rfl) (by rfl) T.z_all (by decide +kernel) (pa_cons (pe_lc (own := [("part", 5)]) (g := gName 5) (tt := tYes) (by rfl) nd (Kit.kpTup K (pv 4)) (blkOk_by (own := [("part", 5)]) (N := N_is_opening) (sc := defScope s_is_opening) (by decide +kernel)) (fun _ _ _ _ _ => pg_name (i := 5) nd rfl (Or.inl rfl)) (fun _ _ _ _ _ => pts_nil) (fun _ _ _ _ _ => (pe_call G_is_part hr3 (by rfl) T.f_is_part.g T.f_is_part.F.kp T.f_is_part.b .nil pass0 (pa_cons (pv 0) (pa_cons (pv 5) pa_nil))))) pa_nil)))))))) rfl ?_
  try dsimp only [L2.cxOf, L2.Cx.nox]
  cases hx with
  | @tup a xs ds h1 h2 =>
    by_cases h6 : ds.length = 3
    · obtain ⟨d0, d1, d2, rfl⟩ := three_of h6
      obtain ⟨x0, _, rfl, g0, h2⟩ := dps_cons h2
      obtain ⟨x1, _, rfl, g1, h2⟩ := dps_cons h2
      obtain ⟨x2, _, rfl, g2, h2⟩ := dps_cons h2
      cases dps_nil h2
      cases g2 with
      | @tup a2 ys es k1 k2 =>
        have hf : es.length ≤ 40000 := of_decide_eq_true hf
        change ∀ H', Evl.Ex H H' → Q (.bl (regB m d0 && (inI d1 0 (m - 1) && es.all (partB m)))) H' at q
        walk_at "wp"
        all_goals first | (rename_i hz; exact absurd rfl hz) | skip
        · refine l_dps k1 k2 (by rw [dps_len k2]; exact hf) (fun _ => rfl) (partB m) ?_ ?_
          · intro x d H8 e8 hx _ R rr
            walk_at "wp"
            exact ⟨p, dx, b, bk, m, x, d, rfl, e8 _ _ hp, hx, rr⟩
          · intro l H8 n8 e8 f8
            walk_at "wp"
            simp only [*, Bool.true_and] at q
            exact q _ e8
        all_goals
          simp only [*, Bool.true_and, Bool.false_and] at q
          exact q _ (Evl.Ex.refl _)
      | _ =>
        walk_at "wp"
        all_goals first | (rename_i hz; exact absurd rfl hz) | exact q _ (Evl.Ex.refl _) | skip
        all_goals
          simp only [openB, *, Bool.true_and, Bool.false_and] at q
          exact q _ (Evl.Ex.refl _)
    · rw [openB_ne h6] at q
      have h6' : ¬ ((xs.length : Int) = 3) := by rw [dps_len h2]; omega
      walk_at "wp"
      all_goals first | exact q _ (Evl.Ex.refl _) | (rename_i hz; exact absurd hz h6')
  | _ =>
    walk_at "wp"
    exact q _ (Evl.Ex.refl _)

/-! ### openings of any registers, root and parts -/
structure Op where
  pc : Int
  acc : Int
  x : Int
  mark : Int
  out : Int
  count : Int
  root : Int
  ps : List (Int × List Int)
def pD (p : Int × List Int) : PyData := .tuple [.int p.1, .tuple (p.2.map PyData.int)]
def Op.regs (o : Op) : List Int := [o.pc, o.acc, o.x, o.mark, o.out, o.count]
def Op.data (o : Op) : PyData := .tuple [.tuple (o.regs.map PyData.int), .int o.root, .tuple (o.ps.map pD)]
structure OpOk (m : Int) (o : Op) : Prop where
  pc : 0 ≤ o.pc ∧ o.pc < 256
  acc : IsW o.acc
  x : IsW o.x
  mark : 0 ≤ o.mark ∧ o.mark < 7
  out : Dg m o.out
  count : 0 ≤ o.count ∧ o.count ≤ 16
  root : Dg m o.root
  ps : ∀ p ∈ o.ps, IsW p.1 ∧ p.2.length = 8 ∧ AllDg m p.2
theorem inI_of {d : PyData} {lo hi : Int} (h : inI d lo hi = true) : ∃ i, d = .int i ∧ lo ≤ i ∧ i ≤ hi := by
  unfold inI at h
  split at h
  · rename_i i
    rw [Bool.and_eq_true, decide_eq_true_eq, decide_eq_true_eq] at h
    exact ⟨i, rfl, h.1, h.2⟩
  · cases h
theorem ints_all {lo hi : Int} : ∀ {ds : List PyData}, (ds.all fun d => inI d lo hi) = true → ∃ r : List Int, ds = r.map PyData.int ∧ ∀ i ∈ r, lo ≤ i ∧ i ≤ hi
  | [], _ => ⟨[], rfl, fun _ z => nomatch z⟩
  | d :: ds, h => by
    rw [List.all_cons, Bool.and_eq_true] at h
    obtain ⟨i, rfl, h1⟩ := inI_of h.1
    obtain ⟨r, rfl, h2⟩ := ints_all h.2
    exact ⟨i :: r, rfl, fun j hj => by
      rcases List.mem_cons.mp hj with rfl | hj
      · exact h1
      · exact h2 j hj⟩
theorem part_of {m : Int} {d : PyData} (h : partB m d = true) : ∃ p, d = pD p ∧ IsW p.1 ∧ p.2.length = 8 ∧ AllDg m p.2 := by
  unfold partB at h
  split at h
  · rename_i w ps
    rw [Bool.and_eq_true, Bool.and_eq_true, decide_eq_true_eq] at h
    obtain ⟨i, rfl, h1, h2⟩ := inI_of h.1
    obtain ⟨r, rfl, h3⟩ := ints_all h.2.2
    refine ⟨(i, r), rfl, ⟨h1, by show i < 65536; omega⟩, by have := h.2.1; rw [List.length_map] at this; exact this, fun z hz => ?_⟩
    have := h3 z hz
    exact ⟨this.1, by omega⟩
  · cases h
theorem parts_of {m : Int} : ∀ {ds : List PyData}, ds.all (partB m) = true → ∃ ps : List (Int × List Int), ds = ps.map pD ∧ ∀ p ∈ ps, IsW p.1 ∧ p.2.length = 8 ∧ AllDg m p.2
  | [], _ => ⟨[], rfl, fun _ z => nomatch z⟩
  | d :: ds, h => by
    rw [List.all_cons, Bool.and_eq_true] at h
    obtain ⟨p, rfl, h1⟩ := part_of h.1
    obtain ⟨r, rfl, h2⟩ := parts_of h.2
    exact ⟨p :: r, rfl, fun j hj => by
      rcases List.mem_cons.mp hj with rfl | hj
      · exact h1
      · exact h2 j hj⟩
theorem openB_of {m : Int} {d : PyData} (h : openB m d = true) : ∃ o : Op, d = o.data ∧ OpOk m o := by
  unfold openB at h
  split at h
  · rename_i r root ps
    rw [Bool.and_eq_true, Bool.and_eq_true] at h
    obtain ⟨hr, h1, h2⟩ := h
    unfold regB at hr
    split at hr
    · rename_i a b c d e f
      simp only [Bool.and_eq_true] at hr
      obtain ⟨g0, g1, g2, g3, g4, g5⟩ := hr
      obtain ⟨i0, rfl, a0, b0⟩ := inI_of g0
      obtain ⟨i1, rfl, a1, b1⟩ := inI_of g1
      obtain ⟨i2, rfl, a2, b2⟩ := inI_of g2
      obtain ⟨i3, rfl, a3, b3⟩ := inI_of g3
      obtain ⟨i4, rfl, a4, b4⟩ := inI_of g4
      obtain ⟨i5, rfl, a5, b5⟩ := inI_of g5
      obtain ⟨i6, rfl, a6, b6⟩ := inI_of h1
      obtain ⟨l, rfl, hl⟩ := parts_of h2
      exact ⟨⟨i0, i1, i2, i3, i4, i5, i6, l⟩, rfl, ⟨a0, by show i0 < 256; omega⟩, ⟨a1, by show i1 < 65536; omega⟩, ⟨a2, by show i2 < 65536; omega⟩, ⟨a3, by show i3 < 7; omega⟩, ⟨a4, by show i4 < m; omega⟩, ⟨a5, b5⟩, ⟨a6, by show i6 < m; omega⟩, hl⟩
    · cases hr
  · cases h
/-- the places of an opening, and whether its parts are right -/
def plcs (pc x w : Int) : List Int := match dataL (w / 1024) (w % 1024) x with
  | none => [pc]
  | some (k, _) => [pc, k]
def Op.fits (m : Int) (o : Op) : Prop := match o.ps with
  | [] => False
  | (w, _) :: _ => o.ps.length = (plcs o.pc o.x w).length ∧ ∀ kp ∈ (plcs o.pc o.x w).zip o.ps, KM.rootBy (foldI m) kp.1.toNat (leafI m kp.2.1) kp.2.2 = o.root
def Op.good (m : Int) (o : Op) : Prop := if o.mark = 0 then o.fits m else o.ps = []
def Op.last (o : Op) : Int × List Int := (o.ps.getLast?).getD (0, [])
def Op.word (o : Op) : Int := match o.ps with
  | [] => 0
  | (w, _) :: _ => w
/-- a state that does the opening's step -/
def Op.st (o : Op) : MSt := ⟨o.pc, o.acc, o.x, 0, o.out, o.count, (List.replicate 256 0).set (otherM (o.word / 1024) (o.word % 1024) o.x).toNat o.last.1, []⟩
def Op.then (m : Int) (o : Op) : MSt × Int := o.st.workM m (o.word / 1024) (o.word % 1024)
def Op.root2 (m : Int) (o : Op) : Int := match dataL (o.word / 1024) (o.word % 1024) o.x with
  | some (k, true) => KM.rootBy (foldI m) k.toNat (leafI m ((o.then m).1.at k)) o.last.2
  | _ => o.root
def Op.dig2 (m : Int) (o : Op) : Int := stateI m ([(o.then m).2, (o.then m).1.acc, (o.then m).1.x, (o.then m).1.mark, (o.then m).1.out, (o.then m).1.count] ++ [o.root2 m])
def Op.next (m D : Int) (o : Op) : Int := if o.mark = 0 then o.dig2 m else D
/-- what the book is told of a step -/
def Op.told (m : Int) (o : Op) (l : List Tx) : Prop := ∀ kp ∈ (plcs o.pc o.x o.word).zip o.ps, Tx.lf kp.2.1 ∈ l ∧ ∀ y ∈ pathF (foldI m) kp.1.toNat (leafI m kp.2.1) kp.2.2, Tx.fd y.1 y.2 ∈ l
theorem plcs_in {m : Int} {o : Op} (ok : OpOk m o) {w : Int} : ∀ k ∈ plcs o.pc o.x w, 0 ≤ k ∧ k < 256 := by
  intro k hk
  unfold plcs at hk
  split at hk
  · rw [List.mem_singleton.mp hk]; exact ok.pc
  · rename_i z b hd
    obtain ⟨_, h0, h1⟩ := dataL_in hd
    simp only [List.mem_cons, List.not_mem_nil, or_false] at hk
    rcases hk with rfl | rfl
    · exact ok.pc
    · exact ⟨h0, h1⟩
theorem Op.st_ok {m : Int} {o : Op} (ok : OpOk m o) (hl : IsW o.last.1) : SOk m o.st := by
  have ht : ((0 : Nat) : Int) ≤ o.count := ok.count.1
  refine ⟨ok.pc, ok.acc, ok.x, ⟨by show (0 : Int) ≤ 0; decide, by show (0 : Int) < 7; decide⟩, ok.out, ok.count, ht, by show (List.set _ _ _).length = 256; rw [List.length_set, List.length_replicate], fun w hw => ?_⟩
  rcases List.mem_or_eq_of_mem_set hw with h | rfl
  · rw [(List.mem_replicate.mp h).2]; exact ⟨by decide, by decide⟩
  · exact hl
theorem Op.st_at {o : Op} : o.st.at (otherM (o.word / 1024) (o.word % 1024) o.x) = o.last.1 := by
  have := other_in (o.word / 1024) (o.word % 1024) o.x
  show (((List.replicate 256 (0 : Int)).set (otherM (o.word / 1024) (o.word % 1024) o.x).toNat o.last.1)[(otherM (o.word / 1024) (o.word % 1024) o.x).toNat]?).getD 0 = o.last.1
  rw [List.getElem?_set_self (by rw [List.length_replicate]; omega)]
  rfl
section
variable {P : Program} {w : World} {K : PySem.W.Frag} {CB pb : Addr} {m : Int} {l : List Tx} {H H' : Hp}
mutual
theorem dp_keep (hb : BkG P w CB H pb m l) (k : Kit.KeepE pb H H') : ∀ (d : PyData) (v : V), Dp K H v d → Dp K H' v d
  | .none, _, h => by cases h; exact .non
  | .bool _, _, h => by cases h; exact .bl _
  | .int _, _, h => by cases h; exact .int _
  | .str _, _, h => by cases h; exact .str _
  | .list ds, _, h => by
    cases h with
    | lst h1 h2 => exact .lst (keep_sqL hb k h1) (dps_keep hb k ds _ h2)
  | .tuple ds, _, h => by
    cases h with
    | tup h1 h2 => exact .tup (keep_sqT hb k h1) (dps_keep hb k ds _ h2)
  | .dict _, _, h => nomatch h
theorem dps_keep (hb : BkG P w CB H pb m l) (k : Kit.KeepE pb H H') : ∀ (ds : List PyData) (vs : List V), DpAll K H vs ds → DpAll K H' vs ds
  | [], _, h => by cases h; exact .nil
  | d :: ds, _, h => by
    cases h with
    | cons h1 h2 => exact .cons (dp_keep hb k d _ h1) (dps_keep hb k ds _ h2)
end
theorem pD_of {v : V} {p : Int × List Int} (h : Dp K H v (pD p)) : ∃ t a, v = .ref t ∧ SqT K H t [.int p.1, .ref a] ∧ SqT K H a (iv p.2) := by
  cases h with
  | tup h1 h2 =>
    obtain ⟨x, _, rfl, g0, h2⟩ := dps_cons h2
    obtain ⟨y, _, rfl, g1, h2⟩ := dps_cons h2
    cases dps_nil h2
    cases g0
    obtain ⟨a, rfl, ha⟩ := itup_of g1
    exact ⟨_, a, rfl, h1, ha⟩
end
theorem plcs_len (pc x w : Int) : (plcs pc x w).length ≤ 2 := by unfold plcs; split <;> simp
theorem placesV_plcs {pc x w : Int} : placesV pc (dataL (w / 1024) (w % 1024) x) = (plcs pc x w).map V.int := by
  unfold plcs
  cases dataL (w / 1024) (w % 1024) x with
  | none => rfl
  | some p => obtain ⟨k, b⟩ := p; rfl
theorem zip_at {α β : Type} : ∀ {as : List α} {bs : List β} {i : Nat} {a : α} {b : β}, as[i]? = some a → bs[i]? = some b → (as.zip bs)[i]? = some (a, b)
  | [], _, _, _, _, h, _ => by simp at h
  | _ :: _, [], _, _, _, _, h => by simp at h
  | _ :: _, _ :: _, 0, _, _, h1, h2 => by cases h1; cases h2; rfl
  | _ :: as, _ :: bs, i + 1, a, b, h1, h2 => zip_at (as := as) (bs := bs) (i := i) h1 h2

def sp_step_by (P : Program) (w : World) (K : PySem.W.Frag) (C CB CE : Addr) : Sp := fun vs H Q E => ∃ (g pb r pa : Addr) (m : Int) (o : Op) (xs : List V) (l : List Tx), vs = [.ref g, .ref r, .int o.root, .ref pa] ∧ DigB C H g pb m ∧ BkG P w CB H pb m l ∧ l.length ≤ 80000 ∧ 100 < m ∧ SqT K H r (o.regs.map V.int) ∧ SqT K H pa xs ∧ DpAll K H xs (o.ps.map pD) ∧ OpOk m o ∧ o.mark = 0 ∧
  (o.fits m → ∀ H' l', Kit.KeepE pb H H' → BkG P w CB H' pb m l' → Gr l l' 60 → o.told m l' → Q (.int (o.dig2 m)) H') ∧ (¬ o.fits m → ∀ H' l', Kit.KeepE pb H H' → BkG P w CB H' pb m l' → Gr l l' 60 → E (.ref CE) none H')
theorem ok_step_by (T : Txt K mg) : FnOk P w K mg base (L2.CX P w) 6 T.f_step_by.f T.f_step_by.fd ["digests", "registers", "root", "parts"] (sp_step_by P w K T.c_Digests.C T.c_Book.C T.e_BadOpening.C) := by
  have G_Digests_state := ok_Digests_state (P := P) (w := w) (base := base) T
  have G_done_by := ok_done_by (P := P) (w := w) (base := base) T
  have G_places_of := ok_places_of (P := P) (w := w) (base := base) T
  have G_root_with := ok_root_with (P := P) (w := w) (base := base) T
  refine T.f_step_by.F.okX sc_step_by (fun vs H Q E h => ?_) (fun cdv A outer s H vs Q E hr h => ?_)
  · obtain ⟨g, pb, r, pa, m, o, xs, l, rfl, hd, hb, hl0, m1, hrg, hpa, hxs, ok, hmark, q, qe⟩ := h
    rfl
  obtain ⟨g, pb, r, pa, m, o, xs, l, rfl, hd, hb, hl0, m1, hrg, hpa, hxs, ok, hmark, q, qe⟩ := h
  have nd := sc_step_by.nd
  have hr3 : Room 3 _ := hr.mono (by decide)
  have hr5 : Room 5 _ := hr.mono (by decide)
  refine Kit.ok_body (σ := [some _, some _, some _, some _, none, none, none, none, none, none, none, none]) ((pss_cons (ps_if (pt_cmpR op_eq (pe_callB (Kit.kLen K) (by rfl) T.z_len (by decide +kernel) (pa_cons (pv 3) pa_nil)) pe_int (nomark _))
    (pss_one (Kit.ps_raise0 rfl (takes_of rfl rfl rfl rfl) T.e_BadOpening rfl rfl (by exact rfl)))
    pss_nil)
    (pss_cons (ps_set (i := 4) nd rfl (Or.inl rfl) (pe_ix (Kit.ixT K) (pe_ix (Kit.ixT K) (pv 3) pe_int (fun _ _ => rfl)) pe_int (fun _ _ => rfl)))
    (pss_cons (ps_set (i := 5) nd rfl (Or.inl rfl) (pe_call G_places_of hr3 (by rfl) T.f_places_of.g T.f_places_of.F.kp T.f_places_of.b .nil pass0 (pa_cons (pv 1) (pa_cons (pv 4) pa_nil))))
    (pss_cons (ps_if (pt_cmpR op_ne (pe_callB (Kit.kLen K) (by rfl) T.z_len (by decide +kernel) (pa_cons (pv 3) pa_nil)) (pe_callB (Kit.kLen K) (by rfl) T.z_len (by decide +kernel) (pa_cons (pv 5) pa_nil)) (nomark _))
    (pss_one (Kit.ps_raise0 rfl (takes_of rfl rfl rfl rfl) T.e_BadOpening rfl rfl (by exact rfl)))
    pss_nil)
    (pss_cons (ps_for (passes_of rfl) rfl (pi_zipM K (by rfl) T.z_zip (pa_cons (pv 5) (pa_cons (pv 3) pa_nil))) (Kit.kgTup K rfl (pgs_cons (pg_name (i := 6) nd rfl (Or.inl rfl)) (pgs_cons (pg_name (i := 7) nd rfl (Or.inl rfl)) pgs_nil)))
    (pss_one (ps_if (pt_cmpR op_ne (pe_call G_root_with hr5 (by rfl) T.f_root_with.g T.f_root_with.F.kp T.f_root_with.b .nil pass0 (pa_cons (pv 0) (pa_cons (pv 6) (pa_cons (pe_ix (Kit.ixT K) (pv 7) pe_int (fun _ _ => rfl)) (pa_cons (pe_ix (Kit.ixT K) (pv 7) pe_int (fun _ _ => rfl)) pa_nil))))) (pv 2) (nomark _))
    (pss_one (Kit.ps_raise0 rfl (takes_of rfl rfl rfl rfl) T.e_BadOpening rfl rfl (by exact rfl)))
    pss_nil)))
    (pss_cons (ps_asg (pe_ix (Kit.ixT K) (pv 3) (pe_un un_neg pe_int) (fun _ _ => rfl)) (Kit.kgTup K rfl (pgs_cons (pg_name (i := 8) nd rfl (Or.inl rfl)) (pgs_cons (pg_name (i := 9) nd rfl (Or.inl rfl)) pgs_nil))))
    (pss_cons (ps_asg (pe_call G_done_by hr5 (by rfl) T.f_done_by.g T.f_done_by.F.kp T.f_done_by.b .nil pass0 (pa_cons (pv 0) (pa_cons (pv 1) (pa_cons (pv 4) (pa_cons (pv 8) pa_nil))))) (Kit.kgTup K rfl (pgs_cons (pg_name (i := 10) nd rfl (Or.inl rfl)) (pgs_cons (pg_name (i := 11) nd rfl (Or.inl rfl)) pgs_nil))))
    (pss_cons (ps_if (pt_cmpR Kit.k_isN (pv 11) pe_non (nomark _))
    (pss_one (ps_ret (pe_meth (pv 0) T.c_Digests.cl T.m_Digests_state G_Digests_state hr3 T.f_Digests_state.b .nil pass0 (pa_cons (pe_op (Kit.kCat K) (pv 10) (pe_tup (pa_cons (pv 2) pa_nil))) pa_nil))))
    pss_nil)
    (pss_one (ps_ret (pe_meth (pv 0) T.c_Digests.cl T.m_Digests_state G_Digests_state hr3 T.f_Digests_state.b .nil pass0 (pa_cons (pe_op (Kit.kCat K) (pv 10) (pe_tup (pa_cons (pe_call G_root_with hr5 (by rfl) T.f_root_with.g T.f_root_with.F.kp T.f_root_with.b .nil pass0 (pa_cons (pv 0) (pa_cons (pe_ix (Kit.ixL K) (pv 5) (pe_un un_neg pe_int) (fun _ _ => rfl)) (pa_cons (pv 11) (pa_cons (pv 9) pa_nil))))) pa_nil))) pa_nil))))))))))))) rfl ?_
  try dsimp only [L2.cxOf, L2.Cx.nox]
  have hrg : SqT K H r [.int o.pc, .int o.acc, .int o.x, .int o.mark, .int o.out, .int o.count] := hrg
  have hxl := dps_len hxs
  rw [List.length_map] at hxl
  rcases hps : o.ps with _ | ⟨⟨w0, p0⟩, ps'⟩
  · have hx0 : xs = [] := by rw [hps] at hxs; exact dps_nil hxs
    subst hx0
    have hnf : ¬ o.fits m := by unfold Op.fits; rw [hps]; exact id
    walk_at "wp"
    · exact qe hnf H l (.of (Evl.Ex.refl _)) hb ((Gr.refl l).le (by decide))
    · rename_i hz
      exact absurd rfl hz
  have hword : o.word = w0 := by unfold Op.word; rw [hps]
  have hfits : o.fits m ↔ (o.ps.length = (plcs o.pc o.x w0).length ∧ ∀ kp ∈ (plcs o.pc o.x w0).zip o.ps, KM.rootBy (foldI m) kp.1.toNat (leafI m kp.2.1) kp.2.2 = o.root) := by unfold Op.fits; rw [hps]
  have hW : IsW w0 := (ok.ps (w0, p0) (by rw [hps]; exact List.mem_cons_self)).1
  obtain ⟨t0, a0, xs', ex, ht0, ha0⟩ : ∃ t a xs', xs = .ref t :: xs' ∧ SqT K H t [.int w0, .ref a] ∧ SqT K H a (iv p0) := by
    rw [hps] at hxs
    obtain ⟨v, xs', rfl, h1, _⟩ := dps_cons hxs
    obtain ⟨t, a, rfl, h2, h3⟩ := pD_of h1
    exact ⟨t, a, xs', rfl, h2, h3⟩
  rw [ex] at hpa
  walk_at "wp"
  · rename_i hz
    exact absurd hz (by rw [List.length_cons]; omega)
  refine ⟨r, w0, o.pc, o.acc, o.x, o.mark, o.out, o.count, rfl, hrg, hW.1, hW.2, fun pl H1 n1 e1 f1 => ?_⟩
  rw [data_math (a := w0 % 1024) (by have := hW.1; omega) (by omega), placesV_plcs] at f1
  have hpl2 := plcs_len o.pc o.x w0
  walk_at "wp"
  rotate_left
  · rename_i hz
    rw [← ex, hxl, List.length_map] at hz
    exact qe (fun h => hz (by rw [(hfits.mp h).1])) H1 l (.of e1) (hb.exE e1) ((Gr.refl l).le (by decide))
  rename_i hz
  have hlen : xs.length = ((plcs o.pc o.x w0).map V.int).length := by
    rw [← ex] at hz
    omega
  have hlen2 : o.ps.length = (plcs o.pc o.x w0).length := by rw [← hxl, hlen, List.length_map]
  have hpaT : SqT K H pa xs := by rw [ex]; exact hpa
  have hb1 := hb.exE e1
  have hd1 := hd.keep (.of e1)
  have hpa1 := Evl.ex_t e1 hpaT
  have hxs1 := dps_ex e1 _ _ hxs
  refine f_zipM (Evl.sq_of f1) hpa1 hlen (fun i σ' H' => ∃ y6 y7 l1, σ' = [some (.ref g), some (.ref r), some (.int o.root), some (.ref pa), some (.int w0), some (.ref pl), y6, y7, none, none, none, none] ∧ Kit.KeepE pb H1 H' ∧ BkG P w T.c_Book.C H' pb m l1 ∧ Gr l l1 (9 * i) ∧
      ∀ j kp, j < i → ((plcs o.pc o.x w0).zip o.ps)[j]? = some kp → KM.rootBy (foldI m) kp.1.toNat (leafI m kp.2.1) kp.2.2 = o.root ∧ Tx.lf kp.2.1 ∈ l1 ∧ ∀ y ∈ pathF (foldI m) kp.1.toNat (leafI m kp.2.1) kp.2.2, Tx.fd y.1 y.2 ∈ l1) ⟨none, none, l, rfl, .of (Evl.Ex.refl _), hb1, Gr.refl l, fun j _ h => absurd h (Nat.not_lt_zero j)⟩ ?_ ?_ ?_
  · rintro i σ' H' _ ⟨y6, y7, l1, rfl, k1, _⟩
    exact ⟨Evl.sq_of (keep_lst hb1 k1 f1), keep_sqT hb1 k1 hpa1⟩
  · rintro i xk y z σ' H' hx hy ⟨y6, y7, l1, rfl, k1, b1, u1, told⟩ hz
    rw [List.getElem?_map] at hx
    obtain ⟨k, hk, rfl⟩ : ∃ k, (plcs o.pc o.x w0)[i]? = some k ∧ xk = V.int k := by
      cases e : (plcs o.pc o.x w0)[i]? with
      | none => rw [e] at hx; cases hx
      | some k => rw [e] at hx; exact ⟨k, rfl, (Option.some.inj hx).symm⟩
    have hi : i < (plcs o.pc o.x w0).length := (List.getElem?_eq_some_iff.mp hk).1
    obtain ⟨k0, k256⟩ := plcs_in ok k (List.mem_of_getElem? hk)
    have hx' := dps_keep hb1 k1 _ _ hxs1
    obtain ⟨d, hd2, hdy⟩ := dps_at hx' hy
    rw [List.getElem?_map] at hd2
    obtain ⟨p, hp, rfl⟩ : ∃ p, o.ps[i]? = some p ∧ d = pD p := by
      cases e : o.ps[i]? with
      | none => rw [e] at hd2; cases hd2
      | some p => rw [e] at hd2; exact ⟨p, rfl, (Option.some.inj hd2).symm⟩
    obtain ⟨_, p8, pdg⟩ := ok.ps p (List.mem_of_getElem? hp)
    have hzip := zip_at hk hp
    obtain ⟨t2, a2, rfl, ht2, ha2⟩ := pD_of hdy
    have E0 : Evl.Ex H' (upd H' z (.tup [.int k, .ref t2])) := Evl.Ex.new hz
    have hz2 : upd H' z (.tup [.int k, .ref t2]) z = some (.tup [.int k, .ref t2]) := upd_same
    generalize upd H' z (.tup [.int k, .ref t2]) = U at E0 hz2 ⊢
    have KU := k1.trans (Kit.KeepE.of (p := pb) E0)
    have ht3 := Evl.ex_t E0 ht2
    have hu := u1.2
    walk_at "wp"
    refine use_root_with (hd1.keep KU) (b1.exE E0) (Evl.ex_t E0 ha2) pdg (by omega) (by omega) k0 fun H3 l3 k3 b3 u3 tl tf => ?_
    have U3 : Gr l l3 (9 * i + (1 + p.2.length)) := u1.trans u3
    walk_at "wp"
    · rename_i hc
      refine ⟨_, _, l3, rfl, KU.trans k3, b3, U3.le (by omega), fun j kp hj hkp => ?_⟩
      by_cases e : j = i
      · subst e
        rw [hzip] at hkp
        cases hkp
        exact ⟨hc, tl, tf⟩
      · obtain ⟨h1, h2, h3⟩ := told j kp (by omega) hkp
        exact ⟨h1, u3.1 _ h2, fun y hy => u3.1 _ (h3 y hy)⟩
    · rename_i hc
      have K3 := (Kit.KeepE.of (p := pb) e1).trans (KU.trans k3)
      exact qe (fun h => hc ((hfits.mp h).2 _ (List.mem_of_getElem? hzip))) H3 l3 K3 b3 (U3.le (by omega))
  · rintro σ' H2 ⟨y6, y7, l2, rfl, k2, b2, u2, told⟩
    rw [List.length_map] at u2 told
    have hall : ∀ kp ∈ (plcs o.pc o.x w0).zip o.ps, KM.rootBy (foldI m) kp.1.toNat (leafI m kp.2.1) kp.2.2 = o.root ∧ Tx.lf kp.2.1 ∈ l2 ∧ ∀ y ∈ pathF (foldI m) kp.1.toNat (leafI m kp.2.1) kp.2.2, Tx.fd y.1 y.2 ∈ l2 := fun kp hkp => by
      obtain ⟨j, hj⟩ := List.mem_iff_getElem?.mp hkp
      have hjl := (List.getElem?_eq_some_iff.mp hj).1
      rw [List.length_zip] at hjl
      exact told j kp (by omega) hj
    have q := q (hfits.mpr ⟨hlen2, fun kp h => (hall kp h).1⟩)
    have htold : ∀ l', Gr l2 l' 0 ∨ (∀ t ∈ l2, t ∈ l') → o.told m l' := fun l' h kp hkp => by
      rw [hword] at hkp
      obtain ⟨_, h2, h3⟩ := hall kp hkp
      have hs : ∀ t ∈ l2, t ∈ l' := h.elim (fun z => z.1) id
      exact ⟨hs _ h2, fun y hy => hs _ (h3 y hy)⟩
    have K02 := (Kit.KeepE.of (p := pb) e1).trans k2
    have f2 := keep_lst hb1 k2 f1
    have hd2 := hd1.keep k2
    have hr2 := keep_sqT hb1 k2 (Evl.ex_t e1 hrg)
    have hpa2 := keep_sqT hb1 k2 hpa1
    have hxs2 := dps_keep hb1 k2 _ _ hxs1
    have hu2 := u2.2
    obtain ⟨lw, lp, tl, al, hlast, hlW, hl8, hldg, hix, htl, hal⟩ : ∃ lw lp tl al, o.last = (lw, lp) ∧ IsW lw ∧ lp.length = 8 ∧ AllDg m lp ∧ atI xs (-1) = some (.ref tl) ∧ SqT K H2 tl [.int lw, .ref al] ∧ SqT K H2 al (iv lp) := by
      have hl1 : ps'.length ≤ 1 := by
        have : o.ps.length = ps'.length + 1 := by rw [hps]; rfl
        omega
      have hin := ok.ps
      unfold Op.last
      rw [hps] at hxs2 hin ⊢
      match ps', hl1, hxs2, hin with
      | [], _, hxs2, hin =>
        obtain ⟨v, _, rfl, h1, h2⟩ := dps_cons hxs2
        cases dps_nil h2
        obtain ⟨t, a, rfl, h3, h4⟩ := pD_of h1
        obtain ⟨i1, i2, i3⟩ := hin (w0, p0) (by simp)
        exact ⟨w0, p0, t, a, rfl, i1, i2, i3, rfl, h3, h4⟩
      | [(w1, p1)], _, hxs2, hin =>
        obtain ⟨v, _, rfl, h1, h2⟩ := dps_cons hxs2
        obtain ⟨u, _, rfl, h1', h2⟩ := dps_cons h2
        cases dps_nil h2
        obtain ⟨t, a, rfl, h3, h4⟩ := pD_of h1'
        obtain ⟨i1, i2, i3⟩ := hin (w1, p1) (by simp)
        exact ⟨w1, p1, t, a, rfl, i1, i2, i3, rfl, h3, h4⟩
      | _ :: _ :: _, h, _, _ => exact absurd h (by simp)
    have hlw1 : o.last.1 = lw := by rw [hlast]
    have okS : SOk m o.st := o.st_ok ok (by rw [hlw1]; exact hlW)
    have hat := o.st_at
    rw [hword, hlw1] at hat
    have hsm := step_math (m := m) (n := w0 / 1024) (word := w0) (d := lw) (s := o.st) (dv := .int lw) (by have := hW.1; omega) okS.len hat.symm (fun _ => rfl) rfl
    have hwok := work_ok (n := w0 / 1024) (a := w0 % 1024) m1 (by omega) (by omega) okS
    have hthen : o.then m = o.st.workM m (w0 / 1024) (w0 % 1024) := by unfold Op.then; rw [hword]
    have hroot2 : o.root2 m = (match dataL (w0 / 1024) (w0 % 1024) o.x with
        | some (k, true) => KM.rootBy (foldI m) k.toNat (leafI m ((o.then m).1.at k)) lp
        | _ => o.root) := by
      unfold Op.root2
      rw [hword, hlast]
      all_goals generalize dataL (w0 / 1024) (w0 % 1024) o.x = od
      all_goals rcases od with _ | ⟨k, b⟩
      all_goals first | rfl | (cases b <;> rfl)
    have hdig2 : o.dig2 m = stateI m ([(o.then m).2, (o.then m).1.acc, (o.then m).1.x, (o.then m).1.mark, (o.then m).1.out, (o.then m).1.count] ++ [o.root2 m]) := rfl
    have hsm : doneM m (nm (w0 / 1024)) o.pc o.acc o.x o.mark o.out o.count w0 lw (.int lw) = (regsL (o.st.workM m (w0 / 1024) (w0 % 1024)).1 (o.st.workM m (w0 / 1024) (w0 % 1024)).2, writL (o.st.workM m (w0 / 1024) (w0 % 1024)).1 (dataL (w0 / 1024) (w0 % 1024) o.x)) := by rw [hmark]; exact hsm
    rw [hthen] at hroot2 hdig2
    generalize o.st.workM m (w0 / 1024) (w0 % 1024) = sr at hsm hwok hroot2 hdig2
    obtain ⟨s2, r2⟩ := sr
    have hnum : ∀ rt : Int, Dg m rt → ∀ n ∈ [r2, s2.acc, s2.x, s2.mark, s2.out, s2.count] ++ [rt], 0 ≤ n ∧ n < 2 ^ 62 := by
      intro rt hrt n hn
      obtain ⟨hS, hr0, hr1⟩ := hwok
      have hS : SOk m s2 := hS
      have hr0 : 0 ≤ r2 := hr0
      have hr1 : r2 < 256 := hr1
      obtain ⟨a0', a1'⟩ := hS.acc
      obtain ⟨x0', x1'⟩ := hS.x
      obtain ⟨o0', o1'⟩ := hS.out
      have := hS.mark
      have := hS.count
      obtain ⟨rt0, rt1⟩ := hrt
      have := hd.lt
      have a0' : 0 ≤ s2.acc := a0'
      have a1' : s2.acc < 65536 := a1'
      have x0' : 0 ≤ s2.x := x0'
      have x1' : s2.x < 65536 := x1'
      have o0' : 0 ≤ s2.out := o0'
      have o1' : s2.out < m := o1'
      simp only [List.cons_append, List.nil_append, List.mem_cons, List.not_mem_nil, or_false] at hn
      rcases hn with rfl | rfl | rfl | rfl | rfl | rfl | rfl <;> constructor <;> omega
    clear hlen hxs hpaT hpa ex ht0 f1 hrg told hfits qe hxs1 hpa1 ha0
    show Kit.Sm _ _ _ _ _ _ _
    walk_at "wp"
    refine ⟨g, pb, r, l2, m, o.pc, o.acc, o.x, o.mark, o.out, o.count, w0, lw, .int lw, rfl, hd2, b2, by omega, hr2, hW.1, hW.2, ok.acc.1, ok.acc.2, ok.out, fun _ => ⟨rfl, hlW.1, hlW.2⟩, fun t1 t2 H3 l3 k3 b3 u3 g1 g2 => ?_⟩
    rw [hsm] at g1 g2
    have hu3 := u3.2
    have g1' : SqT K H3 t1 [.int r2, .int s2.acc, .int s2.x, .int s2.mark, .int s2.out, .int s2.count] := Evl.st_of g1
    have K03 := K02.trans k3
    have hd3 := hd2.keep k3
    rcases hod : dataL (w0 / 1024) (w0 % 1024) o.x with _ | ⟨k, b⟩
    · rw [hod] at g2 hroot2
      have g2 : H3 t2 = some (.tup [.ref t1, .non]) := g2
      walk_at "wp"
      rename_i p1 H4 n4 e4 f4 p2 H5 n5 e5 f5
      refine use_stateG ((hd2.keep k3).keep (.of (e4.trans e5))) (b3.exE (e4.trans e5)) (by omega) (ns := [r2, s2.acc, s2.x, s2.mark, s2.out, s2.count] ++ [o.root]) f5 (hnum _ ok.root) (by simp) (by omega) fun H6 k6 b6 => ?_
      rw [hdig2, hroot2] at q
      exact q H6 _ (K03.trans ((Kit.KeepE.of (p := pb) (e4.trans e5)).trans k6)) b6 (((u2.trans u3).trans (Ext.add _ _).gr).le (by omega)) (htold _ (.inr fun t ht => addX_sub (u3.1 t ht)))
    · cases b with
      | true =>
        rw [hod] at g2 hroot2
        have g2 : H3 t2 = some (.tup [.ref t1, .int (s2.at k)]) := g2
        have hk0 := (dataL_in hod).2.1
        have hf2 : H2 pl = some (.lst [.int o.pc, .int k]) := by rw [f2]; unfold plcs; rw [hod]; rfl
        have hf3 := keep_lst b2 k3 hf2
        walk_at "wp"
        refine Kit.w_ixL (Evl.sq_of hf3) (show atI [V.int o.pc, V.int k] (-1) = some (V.int k) from rfl) ?_
        walk_at "wp"
        refine use_root_with (hd2.keep k3) b3 (keep_sqT b2 k3 hal) hldg (by omega) (by omega) hk0 fun H4 l4 k4 b4 u4 _ _ => ?_
        have hu4 := u4.2
        have g1'' := keep_sqT b3 k4 g1'
        walk_at "wp"
        rename_i p1 H5 n5 e5 f5 p2 H6 n6 e6 f6
        refine use_stateG (((hd2.keep k3).keep k4).keep (.of (e5.trans e6))) (b4.exE (e5.trans e6)) (by omega) (ns := [r2, s2.acc, s2.x, s2.mark, s2.out, s2.count] ++ [KM.rootBy (foldI m) k.toNat (leafI m (s2.at k)) lp]) f6 (hnum _ (rootBy_dg hd.pos _ _ _ (leaf_dg hd.pos))) (by simp) (by omega) fun H7 k7 b7 => ?_
        rw [hdig2, hroot2] at q
        exact q H7 _ ((K03.trans k4).trans ((Kit.KeepE.of (p := pb) (e5.trans e6)).trans k7)) b7 ((((u2.trans u3).trans u4).trans (Ext.add _ _).gr).le (by omega)) (htold _ (.inr fun t ht => addX_sub (u4.1 _ (u3.1 t ht))))
      | false =>
        rw [hod] at g2 hroot2
        have g2 : H3 t2 = some (.tup [.ref t1, .non]) := g2
        walk_at "wp"
        rename_i p1 H4 n4 e4 f4 p2 H5 n5 e5 f5
        refine use_stateG ((hd2.keep k3).keep (.of (e4.trans e5))) (b3.exE (e4.trans e5)) (by omega) (ns := [r2, s2.acc, s2.x, s2.mark, s2.out, s2.count] ++ [o.root]) f5 (hnum _ ok.root) (by simp) (by omega) fun H6 k6 b6 => ?_
        rw [hdig2, hroot2] at q
        exact q H6 _ (K03.trans ((Kit.KeepE.of (p := pb) (e4.trans e5)).trans k6)) b6 (((u2.trans u3).trans (Ext.add _ _).gr).le (by omega)) (htold _ (.inr fun t ht => addX_sub (u3.1 t ht)))

theorem op_of {K : PySem.W.Frag} {H : Hp} {o : Op} {v : V} (h : Dp K H v o.data) : ∃ t r p xs, v = .ref t ∧ SqT K H t [.ref r, .int o.root, .ref p] ∧ SqT K H r (o.regs.map V.int) ∧ SqT K H p xs ∧ DpAll K H xs (o.ps.map pD) := by
  cases h with
  | tup h1 h2 =>
    obtain ⟨x, _, rfl, g0, h2⟩ := dps_cons h2
    obtain ⟨y, _, rfl, g1, h2⟩ := dps_cons h2
    obtain ⟨z, _, rfl, g2, h2⟩ := dps_cons h2
    cases dps_nil h2
    cases g1
    obtain ⟨r, rfl, hr⟩ := itup_of g0
    cases g2 with
    | tup k1 k2 => exact ⟨_, r, _, _, rfl, h1, hr, k1, k2⟩
theorem OpOk.nums {m : Int} {o : Op} (h : OpOk m o) (h1 : m < 2 ^ 62) : ∀ n ∈ o.regs ++ [o.root], 0 ≤ n ∧ n < 2 ^ 62 := by
  intro n hn
  simp only [Op.regs, List.cons_append, List.nil_append, List.mem_cons, List.not_mem_nil, or_false] at hn
  obtain ⟨r0, r1⟩ := h.root
  obtain ⟨a0, a1⟩ := h.acc
  obtain ⟨x0, x1⟩ := h.x
  obtain ⟨o0, o1⟩ := h.out
  have := h.pc
  have := h.mark
  have := h.count
  rcases hn with rfl | rfl | rfl | rfl | rfl | rfl | rfl <;> omega
theorem dp_few {K : PySem.W.Frag} {H : Hp} {v : V} {d : PyData} {m : Int} (h : Dp K H v d) : True := trivial
def sp_step_of (P : Program) (w : World) (K : PySem.W.Frag) (C CB CE : Addr) : Sp := fun vs H Q E => ∃ (g pb : Addr) (m D : Int) (v : V) (d : PyData) (l : List Tx), vs = [.ref g, .int D, v] ∧ DigB C H g pb m ∧ BkG P w CB H pb m l ∧ l.length ≤ 79000 ∧ 100 < m ∧ Dp K H v d ∧ fewB d = true ∧
  ((openB m d = false ∧ ∀ H' l', Kit.KeepE pb H H' → BkG P w CB H' pb m l' → Gr l l' 80 → E (.ref CE) none H') ∨
   ∃ o : Op, d = o.data ∧ OpOk m o ∧ openB m d = true ∧
    ((stateI m (o.regs ++ [o.root]) = D ∧ o.good m) → ∀ H' l', Kit.KeepE pb H H' → BkG P w CB H' pb m l' → Gr l l' 80 → Tx.st (o.regs ++ [o.root]) ∈ l' → (o.mark = 0 → o.told m l') → Q (.int (o.next m D)) H') ∧
    (¬ (stateI m (o.regs ++ [o.root]) = D ∧ o.good m) → ∀ H' l', Kit.KeepE pb H H' → BkG P w CB H' pb m l' → Gr l l' 80 → E (.ref CE) none H'))
theorem ok_step_of (T : Txt K mg) : FnOk P w K mg base (L2.CX P w) 7 T.f_step_of.f T.f_step_of.fd ["digests", "digest", "opening"] (sp_step_of P w K T.c_Digests.C T.c_Book.C T.e_BadOpening.C) := by
  have G_Digests_state := ok_Digests_state (P := P) (w := w) (base := base) T
  have G_is_opening := ok_is_opening (P := P) (w := w) (base := base) T
  have G_step_by := ok_step_by (P := P) (w := w) (base := base) T
  refine T.f_step_of.F.okX sc_step_of (fun vs H Q E h => ?_) (fun cdv A outer s H vs Q E hr h => ?_)
  · obtain ⟨g, pb, m, D, v, d, l, rfl, hd, hb, hl0, m1, hv, hfew, hq⟩ := h
    rfl
  obtain ⟨g, pb, m, D, v, d, l, rfl, hd, hb, hl0, m1, hv, hfew, hq⟩ := h
  have nd := sc_step_of.nd
  have hr3 : Room 3 _ := hr.mono (by decide)
  have hr4 : Room 4 _ := hr.mono (by decide)
  have hr6 : Room 6 _ := hr.mono (by decide)
  refine Kit.ok_body (σ := [some _, some _, some _, none, none, none]) ((pss_cons (ps_if (pt_not (pt_val (pe_call G_is_opening hr4 (by rfl) T.f_is_opening.g T.f_is_opening.F.kp T.f_is_opening.b .nil pass0 (pa_cons (pv 0) (pa_cons (pv 2) pa_nil)))))
    (pss_one (Kit.ps_raise0 rfl (takes_of rfl rfl rfl rfl) T.e_BadOpening rfl rfl (by exact rfl)))
    pss_nil)
    (pss_cons (ps_asg (pv 2) (Kit.kgTup K rfl (pgs_cons (pg_name (i := 3) nd rfl (Or.inl rfl)) (pgs_cons (pg_name (i := 4) nd rfl (Or.inl rfl)) (pgs_cons (pg_name (i := 5) nd rfl (Or.inl rfl)) pgs_nil)))))
    (pss_cons (ps_if (pt_cmpR op_ne (pe_meth (pv 0) T.c_Digests.cl T.m_Digests_state G_Digests_state hr3 T.f_Digests_state.b .nil pass0 (pa_cons (pe_op (Kit.kCat K) (pv 3) (pe_tup (pa_cons (pv 4) pa_nil))) pa_nil)) (pv 1) (nomark _))
    (pss_one (Kit.ps_raise0 rfl (takes_of rfl rfl rfl rfl) T.e_BadOpening rfl rfl (by exact rfl)))
    pss_nil)
    (pss_cons (ps_if (pt_cmpR op_eq (pe_ix (Kit.ixT K) (pv 3) pe_int (fun _ _ => rfl)) pe_int (nomark _))
    (pss_one (ps_ret (pe_callS G_step_by hr6 (by rfl) T.f_step_by.g T.f_step_by.F.kp T.f_step_by.b (fun σ => passAt (takes_of rfl rfl rfl rfl) σ) (pa_cons (pv 0) (pa_cons (pv 3) (pa_cons (pv 4) (pa_cons (pv 5) pa_nil)))))))
    pss_nil)
    (pss_cons (ps_if (pt_cmpR op_ne (pe_callB (Kit.kLen K) (by rfl) T.z_len (by decide +kernel) (pa_cons (pv 5) pa_nil)) pe_int (nomark _))
    (pss_one (Kit.ps_raise0 rfl (takes_of rfl rfl rfl rfl) T.e_BadOpening rfl rfl (by exact rfl)))
    pss_nil)
    (pss_one (ps_ret (pv 1))))))))) rfl ?_
  try dsimp only [L2.cxOf, L2.Cx.nox]
  obtain ⟨dx, b, hg⟩ := hd.at_
  walk_at "wp"
  refine ⟨g, dx, b, .ref pb, m, v, d, rfl, hg, hv, hfew, fun H1 e1 => ?_⟩
  rcases hq with ⟨hB, qe⟩ | ⟨o, rfl, ok, hB, q, qe⟩
  · rw [hB]
    walk_at "wp"
    exact qe H1 l (.of e1) (hb.exE e1) ((Gr.refl l).le (by decide))
  rw [hB]
  obtain ⟨t, r, p, xs, rfl, ht, hrg, hp, hxs⟩ := op_of hv
  have ht1 := Evl.ex_t e1 ht
  have hr1 : SqT K H1 r [.int o.pc, .int o.acc, .int o.x, .int o.mark, .int o.out, .int o.count] := Evl.ex_t e1 hrg
  have hd1 := hd.keep (Kit.KeepE.of (p := pb) e1)
  walk_at "wp"
  rename_i p1 H4 n4 e4 f4 p2 H5 n5 e5 f5
  have E5 := e1.trans (e4.trans e5)
  refine use_stateG (hd.keep (.of E5)) (hb.exE E5) (by omega) (ns := o.regs ++ [o.root]) f5 (ok.nums hd.lt) (by simp [Op.regs]) (by omega) fun H6 k6 b6 => ?_
  have K6 := (Kit.KeepE.of (p := pb) E5).trans k6
  have x6 := (Ext.add l (.st (o.regs ++ [o.root]))).gr
  have hu6 := x6.2
  walk_at "wp"
  rotate_left
  · rename_i hz
    exact qe (fun h => hz h.1) H6 _ K6 b6 (x6.le (by decide))
  rename_i hz
  have hd6 := hd.keep K6
  have hr6' : SqT K H6 r [.int o.pc, .int o.acc, .int o.x, .int o.mark, .int o.out, .int o.count] := keep_sqT hb K6 hrg
  have hp6 := keep_sqT hb K6 hp
  have hx6 := dps_keep hb K6 _ _ hxs
  have hxl := dps_len hxs
  rw [List.length_map] at hxl
  walk_at "wp"
  · rename_i hmark
    refine ⟨g, pb, r, p, m, o, xs, _, rfl, hd6, b6, by omega, m1, hr6', hp6, hx6, ok, hmark, fun hf H7 l7 k7 b7 u7 t7 => ?_, fun hf H7 l7 k7 b7 u7 => ?_⟩
    · have := q ⟨hz, by unfold Op.good; rw [if_pos hmark]; exact hf⟩ H7 l7 (K6.trans k7) b7 ((x6.trans u7).le (by decide)) (u7.1 _ addX_mem) (fun _ => t7)
      unfold Op.next at this
      rw [if_pos hmark] at this
      walk_at "wp"
      exact this
    · exact qe (fun h => hf (by have := h.2; unfold Op.good at this; rw [if_pos hmark] at this; exact this)) H7 l7 (K6.trans k7) b7 ((x6.trans u7).le (by decide))
  · rename_i hmark hz0
    have h0 : o.ps = [] := List.eq_nil_of_length_eq_zero (by omega)
    have := q ⟨hz, by unfold Op.good; rw [if_neg hmark]; exact h0⟩ H6 _ K6 b6 (x6.le (by decide)) addX_mem (fun h => absurd h hmark)
    unfold Op.next at this
    rw [if_neg hmark] at this
    exact this
  · rename_i hmark hz0
    refine qe (fun h => ?_) H6 _ K6 b6 (x6.le (by decide))
    have := h.2
    unfold Op.good at this
    rw [if_neg hmark] at this
    rw [this] at hxl
    exact hz0 (by rw [hxl]; rfl)

/-! ### a path serves the row with its own place changed -/
theorem path_set {f : Int → Int → Int} : ∀ (k : Nat) (r : List Int) (p : Nat) (d : Int), r.length = 2 ^ k → p < 2 ^ k → KM.pathM f k (r.set p d) p = KM.pathM f k r p
  | 0, _, _, _, _, _ => rfl
  | k + 1, r, p, d, hr, hp => by
    rw [KM.two_pow] at hr hp
    obtain ⟨w, hw⟩ := pairs_set (f := f) (v := d) hr hp
    show ((r.set p d)[KM.nb p]?).getD 0 :: KM.pathM f k (KM.pairs f (r.set p d)) (p / 2) = (r[KM.nb p]?).getD 0 :: KM.pathM f k (KM.pairs f r) (p / 2)
    rw [hw, path_set k _ _ w (KM.pairs_len r hr) (by omega), List.getElem?_set_ne (by unfold KM.nb; split <;> omega)]
theorem rootBy_mem {m : Int} {ws : List Int} {k : Nat} {v : Int} (hl : ws.length = 256) (hk : k < 256) : KM.rootBy (foldI m) k (leafI m v) (memPath m ws k) = memRoot m (ws.set k v) := by
  have h8 : (ws.map (leafI m)).length = 2 ^ 8 := by rw [List.length_map, hl]
  unfold memPath memRoot
  rw [← path_set 8 (ws.map (leafI m)) k (leafI m v) h8 hk, List.map_set]
  exact KM.rootBy_path 8 _ k _ (by rw [List.length_set]; exact h8) (by rw [List.getElem?_set_self (by rw [h8]; exact hk)])
theorem rootBy_own {m : Int} {s : MSt} {k : Int} (hl : s.mem.length = 256) (h0 : 0 ≤ k) (h1 : k < 256) : KM.rootBy (foldI m) k.toNat (leafI m (s.at k)) (memPath m s.mem k.toNat) = memRoot m s.mem := by
  rw [rootBy_mem hl (by omega)]
  have hk : k.toNat < s.mem.length := by omega
  have e : s.mem.set k.toNat (s.at k) = s.mem := by
    unfold MSt.at
    rw [List.getElem?_eq_getElem hk]
    exact List.set_getElem_self hk
  rw [e]
theorem path_dg {m : Int} (hm : 0 < m) : ∀ (k : Nat) (r : List Int) (p : Nat), AllDg m r → AllDg m (KM.pathM (foldI m) k r p)
  | 0, _, _, _ => fun z hz => nomatch hz
  | k + 1, r, p, h => fun z hz => by
    rcases List.mem_cons.mp (show z ∈ (r[KM.nb p]?).getD 0 :: KM.pathM (foldI m) k (KM.pairs (foldI m) r) (p / 2) from hz) with rfl | hz
    · cases e : r[KM.nb p]? with
      | none => exact ⟨Int.le_refl _, hm⟩
      | some y => exact h y (List.mem_of_getElem? e)
    · exact path_dg hm k _ _ (pairs_dg hm r) z hz
theorem memPath_dg {m : Int} (hm : 0 < m) {ws : List Int} {k : Nat} : AllDg m (memPath m ws k) := path_dg hm 8 _ k (leaves_dg hm ws)
def PartOf (K : PySem.W.Frag) (H : Hp) (m : Int) (s : MSt) (k : Int) (v : V) : Prop := ∃ t a, v = .ref t ∧ SqT K H t [.int (s.at k), .ref a] ∧ SqT K H a (iv (memPath m s.mem k.toNat))
theorem PartOf.ex {K : PySem.W.Frag} {H H' : Hp} {m : Int} {s : MSt} {k : Int} {v : V} (e : Evl.Ex H H') : PartOf K H m s k v → PartOf K H' m s k v := fun ⟨t, a, h1, h2, h3⟩ => ⟨t, a, h1, Evl.ex_t e h2, Evl.ex_t e h3⟩
/-! ### openings as data -/
def partD (m : Int) (s : MSt) (k : Int) : PyData := .tuple [.int (s.at k), .tuple ((memPath m s.mem k.toNat).map PyData.int)]
def plsI (s : MSt) : List Int := if s.mark = 0 then (match dataL (s.at s.pc / 1024) (s.at s.pc % 1024) s.x with | none => [s.pc] | some (k, _) => [s.pc, k]) else []
def openD (m : Int) (s : MSt) : PyData := .tuple [.tuple ((regsI s).map PyData.int), .int (memRoot m s.mem), .tuple ((plsI s).map (partD m s))]
theorem PartOf.dp {K : PySem.W.Frag} {H : Hp} {m : Int} {s : MSt} {k : Int} {v : V} : PartOf K H m s k v → Dp K H v (partD m s k)
  | ⟨_, _, e, h1, h2⟩ => e ▸ .tup h1 (.cons (.int _) (.cons (dp_itup h2) .nil))
theorem PartOf.of {K : PySem.W.Frag} {H : Hp} {m : Int} {s : MSt} {k : Int} {v : V} (h : Dp K H v (partD m s k)) : PartOf K H m s k v := by
  cases h with
  | tup h1 h2 =>
    obtain ⟨x, _, rfl, g0, h2⟩ := dps_cons h2
    obtain ⟨y, _, rfl, g1, h2⟩ := dps_cons h2
    cases dps_nil h2
    cases g0
    obtain ⟨p, rfl, hp⟩ := itup_of g1
    exact ⟨_, p, rfl, h1, hp⟩
theorem plsI_in {m : Int} {s : MSt} (ok : SOk m s) : ∀ k ∈ plsI s, 0 ≤ k ∧ k < 256 := by
  intro k hk
  unfold plsI at hk
  split at hk
  · split at hk
    · rw [List.mem_singleton] at hk
      rw [hk]; exact ok.pc
    · rename_i k2 b hd
      obtain ⟨_, h0, h1⟩ := dataL_in hd
      simp only [List.mem_cons, List.not_mem_nil, or_false] at hk
      rcases hk with rfl | rfl
      · exact ok.pc
      · exact ⟨h0, h1⟩
  · cases hk
theorem plsI_len (s : MSt) : (plsI s).length ≤ 2 := by
  unfold plsI
  split
  · split <;> simp
  · simp
theorem inI_t {i lo hi : Int} (h : lo ≤ i ∧ i ≤ hi) : inI (.int i) lo hi = true := by
  show (decide (lo ≤ i) && decide (i ≤ hi)) = true
  rw [decide_eq_true h.1, decide_eq_true h.2]
  rfl
theorem regB_t {m : Int} {s : MSt} (ok : SOk m s) : regB m (.tuple ((regsI s).map PyData.int)) = true := by
  have h1 := ok.pc
  have h2 := ok.acc
  have h3 := ok.x
  have h4 := ok.mark
  have h5 := ok.out
  have h6 := ok.count
  unfold IsW at h2 h3
  unfold Dg at h5
  show (inI (.int s.pc) 0 255 && (inI (.int s.acc) 0 65535 && (inI (.int s.x) 0 65535 && (inI (.int s.mark) 0 6 && (inI (.int s.out) 0 (m - 1) && inI (.int s.count) 0 16))))) = true
  rw [inI_t (by omega), inI_t (by omega), inI_t (by omega), inI_t (by omega), inI_t (by omega), inI_t (by omega)]
  rfl
theorem partB_t {m : Int} {s : MSt} (hm : 0 < m) (ok : SOk m s) (k : Int) : partB m (partD m s k) = true := by
  have h1 := ok.at k
  unfold IsW at h1
  show (inI (.int (s.at k)) 0 65535 && (decide (((memPath m s.mem k.toNat).map PyData.int).length = 8) && ((memPath m s.mem k.toNat).map PyData.int).all fun d => inI d 0 (m - 1))) = true
  rw [inI_t (by omega), decide_eq_true (by rw [List.length_map]; unfold memPath; exact KM.path_len _ _ _), Bool.true_and, Bool.true_and, List.all_eq_true]
  intro d hd
  obtain ⟨i, hi, rfl⟩ := List.mem_map.mp hd
  have := memPath_dg hm i hi
  unfold Dg at this
  exact inI_t (by omega)
theorem openB_t {m : Int} {s : MSt} (hm : 0 < m) (ok : SOk m s) : openB m (openD m s) = true := by
  have h1 := root_dg hm ok.len
  unfold Dg at h1
  show (regB m (.tuple ((regsI s).map PyData.int)) && (inI (.int (memRoot m s.mem)) 0 (m - 1) && ((plsI s).map (partD m s)).all (partB m))) = true
  rw [regB_t ok, inI_t (by omega), Bool.true_and, Bool.true_and, List.all_eq_true]
  intro d hd
  obtain ⟨i, _, rfl⟩ := List.mem_map.mp hd
  exact partB_t hm ok i
theorem few_t {m : Int} {s : MSt} : fewB (openD m s) = true := by
  show decide (((plsI s).map (partD m s)).length ≤ 40000) = true
  rw [List.length_map]
  exact decide_eq_true (Nat.le_trans (plsI_len s) (by decide))
/-- what stands in an opening -/
theorem open_of {K : PySem.W.Frag} {H : Hp} {m : Int} {s : MSt} {v : V} (h : Dp K H v (openD m s)) : ∃ t r p xs, v = .ref t ∧ SqT K H t [.ref r, .int (memRoot m s.mem), .ref p] ∧ SqT K H r ((regsI s).map V.int) ∧ SqT K H p xs ∧ DpAll K H xs ((plsI s).map (partD m s)) := by
  cases h with
  | tup h1 h2 =>
    obtain ⟨x, _, rfl, g0, h2⟩ := dps_cons h2
    obtain ⟨y, _, rfl, g1, h2⟩ := dps_cons h2
    obtain ⟨z, _, rfl, g2, h2⟩ := dps_cons h2
    cases dps_nil h2
    cases g1
    obtain ⟨r, rfl, hr⟩ := itup_of g0
    cases g2 with
    | tup k1 k2 => exact ⟨_, r, _, _, rfl, h1, hr, k1, k2⟩

theorem dps_of {K : PySem.W.Frag} {H : Hp} : ∀ {ys : List V} {ds : List PyData}, ys.length = ds.length → (∀ (i : Nat) y d, ys[i]? = some y → ds[i]? = some d → Dp K H y d) → DpAll K H ys ds
  | [], [], _, _ => .nil
  | y :: ys, d :: ds, hl, h => .cons (h 0 y d rfl rfl) (dps_of (by simpa using hl) fun i y d hy hd => h (i + 1) y d hy hd)
def sp_opened (K : PySem.W.Frag) (C CM : Addr) : Sp := fun vs H Q _ => ∃ (p : Addr) (F : List Addr) (dg : Addr) (m : Int) (s : MSt), vs = [.ref p] ∧ MacAt K C CM H p F dg m s ∧ SOk m s ∧ ∀ v H', Evl.Ex H H' → Dp K H' v (openD m s) → Q v H'
theorem ok_opened (T : Txt K mg) : FnOk P w K mg base CX0 4 T.f_opened.f T.f_opened.fd ["machine"] (sp_opened K T.c_Machine.C T.c_Memory.C) := by
  have G_Machine_path := ok_Machine_path (P := P) (w := w) (base := base) T
  have G_Machine_registers := ok_Machine_registers (P := P) (w := w) (base := base) T
  have G_Machine_root := ok_Machine_root (P := P) (w := w) (base := base) T
  have G_Machine_word := ok_Machine_word (P := P) (w := w) (base := base) T
  have G_places_of := ok_places_of (P := P) (w := w) (base := base) T
  refine T.f_opened.F.ok sc_opened (fun vs H Q E h => ?_) (fun cdv A outer s H vs Q E hr h => ?_)
  · obtain ⟨p, F, dg, m, s, rfl, hm, ok, q⟩ := h
    rfl
  obtain ⟨p, F, dg, m, s, rfl, hm, ok, q⟩ := h
  have nd := sc_opened.nd
  have hr1 : Room 1 _ := hr.mono (by decide)
  have hr2 : Room 2 _ := hr.mono (by decide)
  have hr3 : Room 3 _ := hr.mono (by decide)
  refine Kit.ok_body (σ := [some _, none, none, none, none]) ((pss_cons (ps_set (i := 1) nd rfl (Or.inl rfl) (pe_meth0 (pv 0) T.c_Machine.cl T.m_Machine_registers G_Machine_registers hr1 T.f_Machine_registers.b .nil pass0))
    (pss_cons (ps_set (i := 2) nd rfl (Or.inl rfl) (pe_lst pa_nil))
    (pss_cons (ps_if (pt_cmpR op_eq (pe_ix (Kit.ixT K) (pv 1) pe_int (fun _ _ => rfl)) pe_int (nomark _))
    (pss_one (ps_set (i := 2) nd rfl (Or.inl rfl) (pe_call G_places_of hr3 (by rfl) T.f_places_of.g T.f_places_of.F.kp T.f_places_of.b .nil pass0 (pa_cons (pv 1) (pa_cons (pe_meth (pv 0) T.c_Machine.cl T.m_Machine_word G_Machine_word hr2 T.f_Machine_word.b .nil pass0 (pa_cons (pe_ix (Kit.ixT K) (pv 1) pe_int (fun _ _ => rfl)) pa_nil)) pa_nil)))))
    pss_nil)
    (pss_cons (ps_setLc (i := 3) (own := [("place", 4)]) (g := gName 4) (tt := tYes) (by rfl) nd rfl rfl (sw_true rfl rfl rfl (by decide +kernel)) (Kit.kpList K (pv 2)) (blkOk_by (own := [("place", 4)]) (N := N_opened) (sc := defScope s_opened) (by decide +kernel)) (fun _ _ _ _ _ => pg_name (i := 4) nd rfl (Or.inl rfl)) (fun _ _ _ _ _ => pts_nil) (fun _ _ _ _ _ => (pe_tup (pa_cons (pe_meth (pv 0) T.c_Machine.cl T.m_Machine_word G_Machine_word hr2 T.f_Machine_word.b .nil pass0 (pa_cons (pv 4) pa_nil)) (pa_cons (pe_meth (pv 0) T.c_Machine.cl T.m_Machine_path G_Machine_path hr3 T.f_Machine_path.b .nil pass0 (pa_cons (pv 4) pa_nil)) pa_nil)))))
    (pss_one (ps_ret (pe_tup (pa_cons (pv 1) (pa_cons (pe_meth0 (pv 0) T.c_Machine.cl T.m_Machine_root G_Machine_root hr2 T.f_Machine_root.b .nil pass0) (pa_cons (pe_callTy (Kit.kTuple K) (by rfl) T.z_tuple (by decide +kernel) (pa_cons (pv 3) pa_nil)) pa_nil))))))))))) rfl ?_
  try dsimp only [L2.cxOf, L2.Cx.nox]
  walk_at "wp"
  refine ⟨p, F, dg, m, s, rfl, hm, fun r hr6 => ?_⟩
  have hr : SqT K H r [.int s.pc, .int s.acc, .int s.x, .int s.mark, .int s.out, .int s.count] := hr6
  have hW := ok.at s.pc
  walk_at "wp"
  all_goals rename_i pl H2 n2 e2 f2 hmark
  rotate_left
  replace f2 : H2 pl = some (.lst ((plsI s).map V.int)) := by
    rw [f2]
    unfold plsI
    rw [if_neg hmark]
    rfl
  rotate_left
  have hr1 := Evl.ex_t e2 hr
  refine ⟨p, F, dg, m, s, s.pc, rfl, hm.exE e2, ?_⟩
  rw [wordAt_pc ok]
  walk_at "wp"
  refine ⟨r, s.at s.pc, s.pc, s.acc, s.x, s.mark, s.out, s.count, rfl, hr1, hW.1, hW.2, fun pl H2 n2 e3 f2 => ?_⟩
  replace e2 := e2.trans e3
  replace f2 : H2 pl = some (.lst ((plsI s).map V.int)) := by
    rw [data_math (a := s.at s.pc % 1024) (by have := hW.1; omega) (by omega)] at f2
    rw [f2]
    unfold plsI placesV
    rw [if_pos hmark]
    generalize dataL (s.at s.pc / 1024) (s.at s.pc % 1024) s.x = od
    rcases od with _ | ⟨k, b⟩ <;> rfl
  all_goals
    have hlen : ((plsI s).map V.int).length ≤ 2 := by rw [List.length_map]; exact plsI_len s
    walk_at "wp"
    refine ⟨pl, rfl, ⟨_, Evl.sq_of f2⟩, ?_⟩
    refine Kit.l_grow Kit.walks_list (by omega) (fun _ => rfl) (Evl.sq_of f2) (fun _ _ e h => Evl.ex_l e h) (fun D i v H' => ∃ (t a : Addr) (k : Int), (plsI s)[i]? = some k ∧ v = .ref t ∧ t ≠ D ∧ a ≠ D ∧ H' t = some (.tup [.int (s.at k), .ref a]) ∧ H' a = some (.tup (iv (memPath m s.mem k.toNat))))
      (fun D i v H3 H4 m3 ⟨t, a, k, h1, h2, h3, h4, h5, h6⟩ => ⟨t, a, k, h1, h2, h3, h4, m3 _ _ h3 h5, m3 _ _ h4 h6⟩) ?_ ?_
    · intro D i acc H3 hD hi e3 hD3 R rr
      rw [List.length_map] at hi
      have hk : (plsI s)[i]? = some (plsI s)[i] := List.getElem?_eq_getElem hi
      obtain ⟨k0, k1⟩ := plsI_in ok _ (List.getElem_mem hi)
      rw [List.getElem?_map, hk]
      generalize (plsI s)[i] = k at *
      have E3 := e2.trans e3
      show _
      walk_at "wp"
      refine ⟨p, F, dg, m, s, k, rfl, hm.exE E3, ?_⟩
      rw [wordAt_in k0 k1]
      walk_at "wp"
      refine ⟨p, F, dg, m, s, k, rfl, hm.exE E3, fun a H4 n4 e4 f4 => ?_⟩
      rw [Int.emod_eq_of_lt k0 k1] at f4
      walk_at "wp"
      rename_i t H5 n5 e5 f5
      refine rr _ H5 (e4.trans e5) ⟨t, a, k, hk, rfl, fun z => ?_, fun z => ?_, f5, e5 _ _ f4⟩
      · rw [z, e4 _ _ hD3] at n5; cases n5
      · rw [z, hD3] at n4; cases n4
    · intro D ys H3 nD e3 fD hyl hpe
      have E3 := e2.trans e3
      walk_at "wp"
      refine ⟨p, F, dg, m, s, rfl, hm.exE E3, ?_⟩
      walk_at "wp"
      rename_i t4 H4 n4 e4 f4 t5 H5 n5 e5 f5
      have E5 := E3.trans (e4.trans e5)
      refine q _ H5 E5 (.tup (Evl.st_of f5) (.cons (dp_itup (Evl.ex_t E5 hr6)) (.cons (.int _) (.cons (.tup (Evl.st_of (e5 _ _ f4)) (dps_of ?_ ?_)) .nil))))
      · rw [hyl, List.length_map, List.length_map]
      · intro i y d hy hd
        obtain ⟨t, a, k, h1, h2, h3, h4, h5, h6⟩ := hpe i y hy
        rw [List.getElem?_map, h1] at hd
        cases hd
        exact PartOf.dp ⟨t, a, h2, Evl.st_of (e5 _ _ (e4 _ _ h5)), Evl.st_of (e5 _ _ (e4 _ _ h6))⟩

/-! ### two rows with one root -/
theorem pairs_prs {f : Int → Int → Int} : ∀ r : List Int, KM.pairs f r = (prs r).map fun p => f p.1 p.2
  | [] => rfl
  | [_] => rfl
  | a :: b :: r => by
    show f a b :: KM.pairs f r = f a b :: (prs r).map _
    rw [pairs_prs r]
theorem prs_inj : ∀ {r s : List Int} {n : Nat}, r.length = 2 * n → s.length = 2 * n → prs r = prs s → r = s
  | [], [], _, _, _, _ => rfl
  | [], _ :: _, n, h, h2, _ => by simp at h h2; omega
  | _ :: _, [], n, h, h2, _ => by simp at h h2; omega
  | [_], _, n, h, _, _ => by simp at h; omega
  | _ :: _ :: _, [_], n, _, h, _ => by simp at h; omega
  | a :: b :: r, c :: d :: s, n, h1, h2, e => by
    have e : (a, b) :: prs r = (c, d) :: prs s := e
    injection e with e1 e2
    injection e1 with e3 e4
    rw [e3, e4, prs_inj (r := r) (s := s) (n := n - 1) (by simp at h1; omega) (by simp at h2; omega) e2]
theorem map_or {α : Type} [DecidableEq α] {β : Type} (g : α → β) : ∀ {as bs : List α}, as.map g = bs.map g → as = bs ∨ ∃ a b, a ∈ as ∧ b ∈ bs ∧ a ≠ b ∧ g a = g b
  | [], [], _ => .inl rfl
  | [], _ :: _, h => by cases h
  | _ :: _, [], h => by cases h
  | a :: as, b :: bs, h => by
    injection h with h1 h2
    by_cases e : a = b
    · subst e
      rcases map_or g h2 with rfl | ⟨x, y, hx, hy, n, z⟩
      · exact .inl rfl
      · exact .inr ⟨x, y, List.mem_cons_of_mem _ hx, List.mem_cons_of_mem _ hy, n, z⟩
    · exact .inr ⟨a, b, List.mem_cons_self, List.mem_cons_self, e, h1⟩
theorem tree_inj {f : Int → Int → Int} : ∀ (k : Nat) (r s : List Int), r.length = 2 ^ k → s.length = 2 ^ k → KM.rootM f k r = KM.rootM f k s → r = s ∨ ∃ a b : PR, a ∈ treeF f k r ∧ b ∈ treeF f k s ∧ a ≠ b ∧ f a.1 a.2 = f b.1 b.2
  | 0, [x], [y], _, _, e => .inl (by
    have e : x = y := e
    rw [e])
  | 0, [], _, h, _, _ => by simp at h
  | 0, _, [], _, h, _ => by simp at h
  | 0, _ :: _ :: _, _, h, _, _ => by simp at h
  | 0, _, _ :: _ :: _, _, h, _ => by simp at h
  | k + 1, r, s, hr, hs, e => by
    rw [KM.two_pow] at hr hs
    have e : KM.rootM f k (KM.pairs f r) = KM.rootM f k (KM.pairs f s) := e
    rcases tree_inj k _ _ (KM.pairs_len r hr) (KM.pairs_len s hs) e with h | ⟨a, b, ha, hb, n, z⟩
    · rw [pairs_prs, pairs_prs] at h
      rcases map_or _ h with h | ⟨a, b, ha, hb, n, z⟩
      · exact .inl (prs_inj hr hs h)
      · exact .inr ⟨a, b, List.mem_append_left _ ha, List.mem_append_left _ hb, n, z⟩
    · exact .inr ⟨a, b, List.mem_append_right _ ha, List.mem_append_right _ hb, n, z⟩
theorem prsX_prs : ∀ r : List Int, prsX r = (prs r).map fun p => Tx.fd p.1 p.2
  | [] => rfl
  | [_] => rfl
  | a :: b :: r => by
    show Tx.fd a b :: prsX r = Tx.fd a b :: (prs r).map _
    rw [prsX_prs r]
theorem treeX_treeF {f : Int → Int → Int} : ∀ (k : Nat) (r : List Int), treeX f k r = (treeF f k r).map fun p => Tx.fd p.1 p.2
  | 0, _ => rfl
  | k + 1, r => by
    show prsX r ++ treeX f k (KM.pairs f r) = (prs r ++ treeF f k (KM.pairs f r)).map _
    rw [List.map_append, prsX_prs, treeX_treeF k]
/-- two texts of one digest are among those told -/
def Coll (m : Int) (l : List Tx) : Prop := ∃ x y, x ∈ l ∧ y ∈ l ∧ x ≠ y ∧ firstK (x.row m) = firstK (y.row m)
theorem coll_fd {m : Int} {l : List Tx} {a b : PR} (ha : Tx.fd a.1 a.2 ∈ l) (hb : Tx.fd b.1 b.2 ∈ l) (n : a ≠ b) (e : foldI m a.1 a.2 = foldI m b.1 b.2) : Coll m l :=
  ⟨_, _, ha, hb, fun z => n (by injection z with z1 z2; exact Prod.ext z1 z2), by unfold firstK; show ((("fold" : Str)), Kit.TK.num (foldI m a.1 a.2)) = ((("fold" : Str)), Kit.TK.num (foldI m b.1 b.2)); rw [e]⟩
theorem coll_lf {m : Int} {l : List Tx} {a b : Int} (ha : Tx.lf a ∈ l) (hb : Tx.lf b ∈ l) (n : a ≠ b) (e : leafI m a = leafI m b) : Coll m l :=
  ⟨_, _, ha, hb, fun z => n (by injection z), by unfold firstK; show ((("leaf" : Str)), Kit.TK.num (leafI m a)) = ((("leaf" : Str)), Kit.TK.num (leafI m b)); rw [e]⟩
theorem coll_st {m : Int} {l : List Tx} {a b : List Int} (ha : Tx.st a ∈ l) (hb : Tx.st b ∈ l) (n : a ≠ b) (e : stateI m a = stateI m b) : Coll m l :=
  ⟨_, _, ha, hb, fun z => n (by injection z), by unfold firstK; show ((("state" : Str)), Kit.TK.num (stateI m a)) = ((("state" : Str)), Kit.TK.num (stateI m b)); rw [e]⟩
theorem Coll.mono {m : Int} {l l' : List Tx} (h : ∀ t ∈ l, t ∈ l') : Coll m l → Coll m l' := fun ⟨x, y, hx, hy, r⟩ => ⟨x, y, h x hx, h y hy, r⟩
/-- two memories with one root -/
theorem mem_inj {m : Int} {l : List Tx} {a b : List Int} (la : a.length = 256) (lb : b.length = 256) (ha : ∀ t ∈ memX m a, t ∈ l) (hb : ∀ t ∈ memX m b, t ∈ l) (e : memRoot m a = memRoot m b) : a = b ∨ Coll m l := by
  have fa : ∀ p ∈ treeF (foldI m) 8 (a.map (leafI m)), Tx.fd p.1 p.2 ∈ l := fun p hp => ha _ (List.mem_append_right _ (by rw [treeX_treeF]; exact List.mem_map.mpr ⟨p, hp, rfl⟩))
  have fb : ∀ p ∈ treeF (foldI m) 8 (b.map (leafI m)), Tx.fd p.1 p.2 ∈ l := fun p hp => hb _ (List.mem_append_right _ (by rw [treeX_treeF]; exact List.mem_map.mpr ⟨p, hp, rfl⟩))
  rcases tree_inj 8 _ _ (by rw [List.length_map, la]) (by rw [List.length_map, lb]) e with h | ⟨p, q, hp, hq, n, z⟩
  · rcases map_or _ h with h | ⟨x, y, hx, hy, n, z⟩
    · exact .inl h
    · exact .inr (coll_lf (ha _ (List.mem_append_left _ (List.mem_map.mpr ⟨x, hx, rfl⟩))) (hb _ (List.mem_append_left _ (List.mem_map.mpr ⟨y, hy, rfl⟩))) n z)
  · exact .inr (coll_fd (fa p hp) (fb q hq) n z)
def stX (m : Int) (s : MSt) : Tx := .st (regsI s ++ [memRoot m s.mem])
/-- two states with one digest -/
theorem state_inj {m : Int} {l : List Tx} {s t : MSt} (ls : s.mem.length = 256) (lt : t.mem.length = 256) (hs : stX m s ∈ l) (ht : stX m t ∈ l) (ms : ∀ x ∈ memX m s.mem, x ∈ l) (mt : ∀ x ∈ memX m t.mem, x ∈ l) (e : digestM m s = digestM m t) : (regsI s = regsI t ∧ s.mem = t.mem) ∨ Coll m l := by
  by_cases h : regsI s ++ [memRoot m s.mem] = regsI t ++ [memRoot m t.mem]
  · have h1 : regsI s = regsI t ∧ [memRoot m s.mem] = [memRoot m t.mem] := List.append_inj h rfl
    have h2 : memRoot m s.mem = memRoot m t.mem := by injection h1.2
    exact (mem_inj ls lt ms mt h2).imp (fun z => ⟨h1.1, z⟩) id
  · exact .inr (coll_st hs ht h e)
/-! ### the opening of a state -/
def opOf (m : Int) (s : MSt) : Op := ⟨s.pc, s.acc, s.x, s.mark, s.out, s.count, memRoot m s.mem, (plsI s).map fun k => (s.at k, memPath m s.mem k.toNat)⟩
theorem openD_op {m : Int} {s : MSt} : openD m s = (opOf m s).data := by
  unfold openD Op.data opOf
  rw [List.map_map]
  rfl
theorem opOf_ok {m : Int} {s : MSt} (hm : 0 < m) (ok : SOk m s) : OpOk m (opOf m s) := by
  refine ⟨ok.pc, ok.acc, ok.x, ok.mark, ok.out, ok.count, root_dg hm ok.len, fun p hp => ?_⟩
  obtain ⟨k, _, rfl⟩ := List.mem_map.mp hp
  exact ⟨ok.at k, by unfold memPath; exact KM.path_len _ _ _, memPath_dg hm⟩
theorem plsI_go {s : MSt} (h : s.mark = 0) : plsI s = plcs s.pc s.x (s.at s.pc) := by
  unfold plsI plcs
  rw [if_pos h]
  all_goals generalize dataL (s.at s.pc / 1024) (s.at s.pc % 1024) s.x = od
  all_goals rcases od with _ | ⟨k, b⟩ <;> rfl
theorem opOf_word {m : Int} {s : MSt} (h : s.mark = 0) : ∃ r, (opOf m s).ps = (s.at s.pc, memPath m s.mem s.pc.toNat) :: r := by
  unfold opOf
  rw [plsI_go h]
  unfold plcs
  split
  · exact ⟨_, rfl⟩
  · exact ⟨_, rfl⟩
theorem zip_mapR {α β : Type} (g : α → β) : ∀ {as : List α} {x : α × β}, x ∈ as.zip (as.map g) → x.2 = g x.1 ∧ x.1 ∈ as
  | [], _, h => by cases h
  | a :: as, x, h => by
    rcases List.mem_cons.mp (show x ∈ (a, g a) :: as.zip (as.map g) from h) with rfl | h
    · exact ⟨rfl, List.mem_cons_self⟩
    · obtain ⟨h1, h2⟩ := zip_mapR g h
      exact ⟨h1, List.mem_cons_of_mem _ h2⟩
theorem opOf_good {m : Int} {s : MSt} (ok : SOk m s) : (opOf m s).good m := by
  unfold Op.good
  by_cases h : s.mark = 0
  · rw [if_pos (show (opOf m s).mark = 0 from h)]
    obtain ⟨r, hr⟩ := opOf_word (m := m) h
    unfold Op.fits
    rw [hr]
    show _ ∧ _
    rw [← hr]
    have e : plcs (opOf m s).pc (opOf m s).x (s.at s.pc) = plsI s := (plsI_go h).symm
    rw [e]
    refine ⟨by unfold opOf; rw [List.length_map], fun kp hkp => ?_⟩
    obtain ⟨h1, h2⟩ := zip_mapR (fun k => (s.at k, memPath m s.mem k.toNat)) hkp
    rw [h1]
    obtain ⟨k0, k1⟩ := plsI_in ok _ h2
    exact rootBy_own ok.len k0 k1
  · rw [if_neg (show ¬ (opOf m s).mark = 0 from h)]
    unfold opOf plsI
    rw [if_neg h]
    rfl
theorem doneM_d {m : Int} {s : Str} {pc acc x mark out count word d d' : Int} {data : V} (h : ¬ (s = "back" ∨ s = "within" ∨ s ∈ sgs)) : doneM m s pc acc x mark out count word d data = doneM m s pc acc x mark out count word d' data := by
  have h1 : s ≠ "back" := fun z => h (.inl z)
  have h2 : s ≠ "within" := fun z => h (.inr (.inl z))
  have h3 : s ∉ sgs := fun z => h (.inr (.inr z))
  unfold doneM haltN pcM accM
  simp only [h1, h2, h3, if_false, false_and]
theorem opOf_next {m : Int} {s : MSt} (ok : SOk m s) : (opOf m s).next m (digestM m s) = digestM m (s.stepM m) := by
  unfold Op.next
  by_cases h : s.mark = 0
  · rw [if_pos (show (opOf m s).mark = 0 from h), stepM_go h]
    obtain ⟨r, hr⟩ := opOf_word (m := m) h
    have hw : (opOf m s).word = s.at s.pc := by unfold Op.word; rw [hr]
    have hps : (opOf m s).ps = (plcs s.pc s.x (s.at s.pc)).map fun k => (s.at k, memPath m s.mem k.toNat) := by rw [← plsI_go h]; rfl
    have hW := ok.at s.pc
    have hst := (opOf m s).st_at
    have hroot : (opOf m s).root2 m = (match dataL (s.at s.pc / 1024) (s.at s.pc % 1024) s.x with
        | some (k, true) => KM.rootBy (foldI m) k.toNat (leafI m (((opOf m s).then m).1.at k)) (opOf m s).last.2
        | _ => memRoot m s.mem) := by
      unfold Op.root2
      rw [hw]
      show (match dataL (s.at s.pc / 1024) (s.at s.pc % 1024) s.x with
        | some (k, true) => _
        | _ => memRoot m s.mem) = _
      generalize dataL (s.at s.pc / 1024) (s.at s.pc % 1024) s.x = od
      rcases od with _ | ⟨k, b⟩
      · rfl
      · cases b <;> rfl
    have hthen : (opOf m s).then m = (opOf m s).st.workM m (s.at s.pc / 1024) (s.at s.pc % 1024) := by unfold Op.then; rw [hw]
    rw [hw] at hst
    have hl256 : (opOf m s).st.mem.length = 256 := by show (List.set _ _ _).length = 256; rw [List.length_set, List.length_replicate]
    have hn0 : 0 ≤ s.at s.pc / 1024 := by have := hW.1; omega
    have hwm := work_mem (m := m) (n := s.at s.pc / 1024) (a := s.at s.pc % 1024) ok.len
    unfold Op.dig2
    rw [hroot, hthen]
    have key : regsL ((opOf m s).st.workM m (s.at s.pc / 1024) (s.at s.pc % 1024)).1 ((opOf m s).st.workM m (s.at s.pc / 1024) (s.at s.pc % 1024)).2 = regsL (s.workM m (s.at s.pc / 1024) (s.at s.pc % 1024)).1 (s.workM m (s.at s.pc / 1024) (s.at s.pc % 1024)).2 ∧
        writL ((opOf m s).st.workM m (s.at s.pc / 1024) (s.at s.pc % 1024)).1 (dataL (s.at s.pc / 1024) (s.at s.pc % 1024) s.x) = writL (s.workM m (s.at s.pc / 1024) (s.at s.pc % 1024)).1 (dataL (s.at s.pc / 1024) (s.at s.pc % 1024) s.x) := by
      have e2 : ∀ dv : V, (dataL (s.at s.pc / 1024) (s.at s.pc % 1024) s.x ≠ none → dv = .int (s.at (otherM (s.at s.pc / 1024) (s.at s.pc % 1024) s.x))) → _ := fun dv hdv => step_math (m := m) (n := s.at s.pc / 1024) (word := s.at s.pc) (s := s) (dv := dv) hn0 ok.len rfl hdv h
      have e1 : ∀ dv : V, (dataL (s.at s.pc / 1024) (s.at s.pc % 1024) s.x ≠ none → dv = .int (opOf m s).last.1) → _ := fun dv hdv => step_math (m := m) (n := s.at s.pc / 1024) (word := s.at s.pc) (s := (opOf m s).st) (dv := dv) hn0 hl256 hst.symm hdv rfl
      rcases hod : dataL (s.at s.pc / 1024) (s.at s.pc % 1024) s.x with _ | ⟨k, b⟩
      · have hn : ¬ (nm (s.at s.pc / 1024) = "back" ∨ nm (s.at s.pc / 1024) = "within" ∨ nm (s.at s.pc / 1024) ∈ sgs) := dataM_none (word := s.at s.pc) (x := s.x) (by rw [data_math (a := s.at s.pc % 1024) hn0 (by omega), hod])
        have f1 := e1 .non (fun z => absurd hod z)
        have f2 := e2 .non (fun z => absurd hod z)
        rw [h, doneM_d (d' := (opOf m s).last.1) hn] at f2
        have f3 := f1.symm.trans f2
        rw [show (opOf m s).st.x = s.x from rfl, hod] at f3
        exact ⟨congrArg Prod.fst f3, congrArg Prod.snd f3⟩
      · obtain ⟨hk, _, _⟩ := dataL_in hod
        have hl : (opOf m s).last.1 = s.at (otherM (s.at s.pc / 1024) (s.at s.pc % 1024) s.x) := by
          unfold Op.last
          rw [hps, ← hk]
          unfold plcs
          rw [hod]
          rfl
        have f1 := e1 _ (fun _ => rfl)
        have f2 := e2 _ (fun _ => rfl)
        rw [h] at f2
        rw [hl] at f1
        have f3 := f1.symm.trans f2
        rw [show (opOf m s).st.x = s.x from rfl, hod] at f3
        exact ⟨congrArg Prod.fst f3, congrArg Prod.snd f3⟩
    obtain ⟨k1, k2⟩ := key
    generalize (opOf m s).st.workM m (s.at s.pc / 1024) (s.at s.pc % 1024) = u at k1 k2 ⊢
    generalize hsw : s.workM m (s.at s.pc / 1024) (s.at s.pc % 1024) = v at k1 k2 hwm ⊢
    obtain ⟨u1, u2⟩ := u
    obtain ⟨v1, v2⟩ := v
    simp only [regsL, List.cons.injEq, V.int.injEq, and_true] at k1
    obtain ⟨c1, c2, c3, c4, c5, c6⟩ := k1
    have hreg : [u2, u1.acc, u1.x, u1.mark, u1.out, u1.count] = regsI (v1.setPc v2) := by
      show _ = [v2, v1.acc, v1.x, v1.mark, v1.out, v1.count]
      rw [c1, c2, c3, c4, c5, c6]
    show stateI m ([u2, u1.acc, u1.x, u1.mark, u1.out, u1.count] ++ [_]) = stateI m (regsI (v1.setPc v2) ++ [memRoot m v1.mem])
    rw [hreg]
    congr 3
    rcases hod : dataL (s.at s.pc / 1024) (s.at s.pc % 1024) s.x with _ | ⟨k, b⟩
    · rw [hod] at hwm
      rcases hwm with ⟨k, hk, _⟩ | ⟨_, hm⟩
      · cases hk
      · show memRoot m s.mem = memRoot m v1.mem
        rw [show v1.mem = s.mem from hm]
    · cases b with
      | true =>
        rw [hod] at hwm k2
        have hl : (opOf m s).last.2 = memPath m s.mem k.toNat := by
          unfold Op.last
          rw [hps]
          unfold plcs
          rw [hod]
          rfl
        rcases hwm with ⟨k', hk, h0, h1, hm⟩ | ⟨hno, _⟩
        · cases hk
          have k2 : V.int (u1.at k) = V.int (v1.at k) := k2
          injection k2 with k2
          show KM.rootBy (foldI m) k.toNat (leafI m (u1.at k)) (opOf m s).last.2 = memRoot m v1.mem
          rw [hl, k2, rootBy_mem ok.len (by omega)]
          rw [← show v1.mem = s.mem.set k.toNat (v1.at k) from hm]
        · exact absurd rfl (hno k)
      | false =>
        rw [hod] at hwm
        rcases hwm with ⟨k', hk, _⟩ | ⟨_, hm⟩
        · cases hk
        · show memRoot m s.mem = memRoot m v1.mem
          rw [show v1.mem = s.mem from hm]
  · rw [if_neg (show ¬ (opOf m s).mark = 0 from h), stepM_rest h]

/-! ### drawn words -/
theorem Bag5.updI {H : Hp} {p D : Addr} {ws : List Int} (b : Bag5 H p) (h : D ≠ p) : Bag5 (upd H D (.lst (ws.map V.int))) p := by
  obtain ⟨r, s, k, c, cs, h1, h2, h3, h4⟩ := b
  by_cases e : c = D
  · subst e
    exact ⟨r, s, k, c, ws, by rw [upd_ne h.symm]; exact h1, upd_same, h3, h4⟩
  · exact ⟨r, s, k, c, cs, by rw [upd_ne h.symm]; exact h1, by rw [upd_ne e]; exact h2, h3, h4⟩
/-- [.. for k in range(n)] where each item draws -/
theorem l_bag {n : Int} {p : Addr} {H : Hp} {Q : VK} {σ : L2.St} {vs : List Nat} {te : TE} {j : Nat} (hb : Bag5 H p) (h0 : 0 ≤ n) (hn : n ≤ 40000) (hw : ∀ v, wipe ((wipe σ vs).set j (some v)) vs = wipe σ vs) (P : Int → Prop)
    (he : ∀ (i : Nat) H', (i : Int) < n → Kit.ExBut p H H' → Bag5 H' p → ∀ R : VK, (∀ v H2, P v → Kit.ExBut p H' H2 → Bag5 H2 p → R (.int v) H2) → te ((wipe σ vs).set j (some (.int (i : Int)))) H' R)
    (q : ∀ D (ws : List Int) H2, H D = none → Kit.ExBut p H H2 → Bag5 H2 p → H2 D = some (.lst (ws.map V.int)) → ws.length = n.toNat → (∀ w ∈ ws, P w) → Q (.ref D) H2) :
    ∃ k : Int, [V.int n] = [.int k] ∧ -(2 ^ 62) ≤ k ∧ k < 2 ^ 62 ∧ Kit.Lcj (Itr 0 k.toNat) (gName j) tYes te vs σ H Q := by
  have hDp : ∀ D, H D = none → D ≠ p := fun D hD => hb.ne hD
  refine ⟨n, rfl, by omega, by omega, Kit.l_any Kit.walks_rng (by omega) hw (fun D i acc H' => H D = none ∧ Kit.ExBut p H H' ∧ Bag5 H' p ∧ ∃ ws : List Int, acc = ws.map V.int ∧ ws.length = i ∧ ∀ w ∈ ws, P w) (fun _ _ _ _ _ => trivial) (fun D hD => ⟨hD, .of (Evl.Ex.new hD), hb.ex (Evl.Ex.new hD), [], rfl, rfl, fun w hw => nomatch hw⟩) ?_ ?_⟩
  · rintro D i acc H' hD hi _ ha ⟨_, m, b, ws, rfl, hl, hP⟩ R _ r2
    refine r2 H' fun R2 rr => ?_
    have e0 : (0 : Int) + (i : Int) = (i : Int) := Int.zero_add _
    show te ((wipe σ vs).set j (some (.int (0 + (i : Int))))) H' R2
    rw [e0]
    refine he i H' (by omega) m b R2 fun v H2 hv m2 b2 => ?_
    have hD2 : H2 D = some (.lst (ws.map V.int)) := m2 _ _ (hDp D hD) ha
    have eA : ws.map V.int ++ [V.int v] = (ws ++ [v]).map V.int := by rw [List.map_append]; rfl
    refine rr (.int v) H2 hD2 ?_
    rw [eA]
    refine ⟨hD, fun c o hc ho => ?_, b2.updI (hDp D hD), ws ++ [v], rfl, by rw [List.length_append, hl]; rfl, fun w hw => ?_⟩
    · rw [upd_ne (ne_of_none ho hD)]
      exact m2 c o hc (m c o hc ho)
    · rcases List.mem_append.mp hw with h | h
      · exact hP w h
      · rw [List.mem_singleton.mp h]; exact hv
  · rintro D acc H2 hD _ ha ⟨_, m, b, ws, rfl, hl, hP⟩
    exact q D ws H2 hD m b ha (by rw [hl]) hP
theorem but_back {p l : Addr} {H H' : Hp} (m : Kit.ExBut p H H') (h : H' l = none) (n : l ≠ p) : H l = none := by
  cases e : H l with
  | none => rfl
  | some o => have := m l o n e; rw [h] at this; cases this
theorem cut_take {xs : List V} {n : Nat} (h : n ≤ xs.length) : cutV xs none (some (n : Int)) = xs.take n := by
  unfold cutV
  rw [HT.sIx_none]
  have e : HT.sIx xs.length xs.length (some (n : Int)) = n := by
    unfold HT.sIx
    simp
    rw [if_neg (by omega)]
    omega
  rw [e]
  simp
def sp_law_words : Sp := fun vs H Q _ => ∃ (p : Addr), vs = [.ref p] ∧ Bag5 H p ∧ ∀ t ws H', H t = none → Kit.ExBut p H H' → Bag5 H' p → H' t = some (.tup (iv ws)) → ws.length = 256 → (∀ w ∈ ws, IsW w) → Q (.ref t) H'
theorem ok_law_words (T : Txt K mg) : FnOk P w K mg base CX0 3 T.f_law_words.f T.f_law_words.fd ["bag"] (sp_law_words) := by
  have G_law_draw := ok_law_draw (P := P) (w := w) (base := base) T
  have G_law_word := ok_law_word (P := P) (w := w) (base := base) T
  refine T.f_law_words.F.ok sc_law_words (fun vs H Q E h => ?_) (fun cdv A outer s H vs Q E hr h => ?_)
  · obtain ⟨p, rfl, hb, q⟩ := h
    rfl
  obtain ⟨p, rfl, hb, q⟩ := h
  have nd := sc_law_words.nd
  have hr1 : Room 1 _ := hr.mono (by decide)
  have hr2 : Room 2 _ := hr.mono (by decide)
  refine Kit.ok_body (σ := [some _, none, none, none]) ((pss_cons (ps_set (i := 1) nd rfl (Or.inl rfl) (pe_ix (Kit.ixL K) (pe_lst (pa_cons pe_int (pa_cons pe_int (pa_cons pe_int pa_nil)))) (pe_call G_law_draw hr1 (by rfl) T.f_law_draw.g T.f_law_draw.F.kp T.f_law_draw.b .nil pass0 (pa_cons (pv 0) (pa_cons pe_int pa_nil))) (fun _ _ => rfl)))
    (pss_cons (ps_setLc (i := 2) (own := [("k", 3)]) (g := gName 3) (tt := tYes) (by rfl) nd rfl rfl (sw_true rfl rfl rfl (by decide +kernel)) (pi_range1 (by rfl) T.z_range (pa_cons (pv 1) pa_nil)) (blkOk_by (own := [("k", 3)]) (N := N_law_words) (sc := defScope s_law_words) (by decide +kernel)) (fun _ _ _ _ _ => pg_name (i := 3) nd rfl (Or.inl rfl)) (fun _ _ _ _ _ => pts_nil) (fun _ _ _ _ _ => (pe_call G_law_word hr2 (by rfl) T.f_law_word.g T.f_law_word.F.kp T.f_law_word.b .nil pass0 (pa_cons (pv 0) pa_nil))))
    (pss_one (ps_ret (pe_callTy (Kit.kTuple K) (by rfl) T.z_tuple (by decide +kernel) (pa_cons (pe_slice (Kit.kSlL K) (pe_op op_cat (pv 2) (pe_lc (own := [("k", 3)]) (g := gName 3) (tt := tYes) (by rfl) nd (pi_range1 (by rfl) T.z_range (pa_cons pe_int pa_nil)) (blkOk_by (own := [("k", 3)]) (N := N_law_words) (sc := defScope s_law_words) (by decide +kernel)) (fun _ _ _ _ _ => pg_name (i := 3) nd rfl (Or.inl rfl)) (fun _ _ _ _ _ => pts_nil) (fun _ _ _ _ _ => (pe_ix (Kit.ixL K) (pe_lst (pa_cons pe_int (pa_cons pe_int (pa_cons pe_int pa_nil)))) (pe_call G_law_draw hr1 (by rfl) T.f_law_draw.g T.f_law_draw.F.kp T.f_law_draw.b .nil pass0 (pa_cons (pv 0) (pa_cons pe_int pa_nil))) (fun _ _ => rfl))))) po_none (po_some pe_int)) pa_nil))))))) rfl ?_
  try dsimp only [L2.cxOf, L2.Cx.nox]
  walk_at "wp"
  rename_i pl H1 n1 e1 f1 i H2 i0 i1 m2 b2
  refine w_pick [16, 40, 256] (by walk_at "hpB") rfl i0 i1 fun sz hsz => ?_
  have hsz : 0 ≤ sz ∧ sz ≤ 256 := by
    simp only [List.mem_cons, List.not_mem_nil, or_false] at hsz
    omega
  walk_at "wp"
  refine l_bag b2 hsz.1 (by omega) (fun _ => rfl) IsW ?_ ?_
  · intro k H3 hk m3 b3 R rr
    walk_at "wp"
    rename_i v H4 hv m4 b4
    exact rr v H4 hv m4 b4
  intro row rs H3 n3 m3 b3 f3 hl3 hw3
  walk_at "wp"
  refine l_bag b3 (by decide) (by decide) (fun _ => rfl) IsW ?_ ?_
  · intro k H4 hk m4 b4 R rr
    walk_at "wp"
    rename_i pk H5 n5 e5 f5 j H6 j0 j1 m6 b6
    refine w_pick [0, 65535, 3000] (by walk_at "hpB") rfl j0 j1 fun v hv => ?_
    refine rr v H6 ?_ (by walk_at "but") b6
    simp only [List.mem_cons, List.not_mem_nil, or_false] at hv
    exact ⟨by omega, by omega⟩
  intro row2 rs2 H4 n4 m4 b4 f4 hl4 hw4
  have f3' : H4 row = some (.lst (rs.map V.int)) := m4 _ _ (b2.ne n3) f3
  have hlen : (rs.map V.int).length + (rs2.map V.int).length ≤ 100000 := by rw [List.length_map, List.length_map]; omega
  walk_at "wp"
  rename_i r3 H5 n5 e5 f5 r4 H6 n6 e6 f6 t H7 n7 e7 f7
  have hcut : cutV (rs.map V.int ++ rs2.map V.int) none (some 256) = iv ((rs ++ rs2).take 256) := by
    rw [show (256 : Int) = ((256 : Nat) : Int) from rfl, cut_take (by rw [List.length_append, List.length_map, List.length_map, hl4]; exact Nat.le_add_left _ _)]
    unfold iv
    rw [List.map_take, List.map_append]
  rw [hcut] at f7
  have bt : Bag5 H6 p := by walk_at "bag"
  refine q t _ H7 (but_back (show Kit.ExBut p H H6 from by walk_at "but") n7 (bt.ne n7)) (by walk_at "but") (by walk_at "bag") f7 ?_ ?_
  · rw [List.length_take, List.length_append, hl4]
    show min 256 (rs.length + 256) = 256
    omega
  · intro w hw
    have hw := List.mem_of_mem_take hw
    rcases List.mem_append.mp hw with h | h
    · exact hw3 w h
    · exact hw4 w h

/-! ### a drawn size of digests -/
theorem flat_ints : ∀ ss : List Int, (ss.map V.int).all flatV = true
  | [] => rfl
  | _ :: ss => by rw [List.map_cons, List.all_cons, flat_ints ss]; rfl
theorem w_indexI {K : PySem.W.Frag} {p : Addr} {H : Hp} {Q : VK} {ss : List Int} {j : Nat} {z : Int} (h : SqL K H p (ss.map V.int)) (hz : ss[j]? = some z) (hlt : ∀ m, m < j → ss[m]? ≠ some z) (q : Q (.int (j : Int)) H) : rIndex K (.ref p) [.int z] H Q := by
  refine ⟨p, ss.map V.int, .int z, j, .int z, rfl, rfl, h, rfl, flat_ints ss, by rw [List.getElem?_map, hz]; rfl, by show (z == z) = true; exact beq_self_eq_true z, fun m z' hm e => ?_, q⟩
  rw [List.getElem?_map] at e
  cases ht : ss[m]? with
  | none => rw [ht] at e; cases e
  | some t =>
    rw [ht] at e
    cases e
    show (t == z) = false
    exact beq_eq_false_iff_ne.mpr fun c => hlt m hm (by rw [ht, c])
def msV : List V := [.int (2 ^ (61 : Int).toNat - 1), .int (2 ^ (31 : Int).toNat - 1), .int (2 ^ (13 : Int).toNat - 1), .int (2 ^ (7 : Int).toNat - 1)]
def bits4 : List Int := [61, 31, 13, 7]
theorem bits_ix {z : Int} (h : z ∈ bits4) : IsBits z ∧ ∃ j : Nat, bits4[j]? = some z ∧ (∀ m : Nat, m < j → bits4[m]? ≠ some z) ∧ atI msV (j : Int) = some (.int (2 ^ z.toNat - 1)) := by
  have hd : ∀ j : Fin 4, ∀ m : Fin 4, m.1 < j.1 → bits4[m.1]? ≠ bits4[j.1]? := by decide
  have go : ∀ j : Fin 4, ∀ m, m < j.1 → bits4[m]? ≠ bits4[j.1]? := fun j m hm => hd j ⟨m, by omega⟩ hm
  simp only [bits4, List.mem_cons, List.not_mem_nil, or_false] at h
  rcases h with rfl | rfl | rfl | rfl
  · exact ⟨.b61, 0, rfl, go 0, L2.atI_nat (j := 0) rfl⟩
  · exact ⟨.b31, 1, rfl, go 1, L2.atI_nat (j := 1) rfl⟩
  · exact ⟨.b13, 2, rfl, go 2, L2.atI_nat (j := 2) rfl⟩
  · exact ⟨.b7, 3, rfl, go 3, L2.atI_nat (j := 3) rfl⟩
theorem IsBits.m100 {b : Int} (h : IsBits b) : 100 < 2 ^ b.toNat - (1 : Int) := by cases h <;> decide
def sp_law (K : PySem.W.Frag) : Sp := fun vs H Q _ => ∃ (a : Addr) (ns : List Int), vs = [.ref a] ∧ SqL K H a (ns.map V.int) ∧ ns.length ≤ 63 ∧ ∀ H', Q (.bl true) H'
theorem sp_law_of {K : PySem.W.Frag} {H : Hp} {a : Addr} {ns : List Int} (hl : ns.length ≤ 63) (hS : SqL K H a (ns.map V.int)) : sp_law K [.ref a] H (fun v _ => v = .bl true) fun _ _ _ => False := ⟨a, ns, rfl, hS, hl, fun _ => rfl⟩

theorem kind1 {H : Hp} {p : Addr} (b : Bag5 H p) : KindF [p] H := fun x hx => by
  rw [List.mem_singleton] at hx
  subst hx
  obtain ⟨_, _, _, _, _, h1, _⟩ := b
  exact .inl ⟨_, h1⟩
theorem Bag5.by {F : List Addr} {H H' : Hp} {p : Addr} (b : Bag5 H p) (e : ExBy F H H') (n : p ∉ F) (c : ∀ x ∈ F, ∀ ns : List Int, H x = some (.lst (ns.map V.int)) → ∃ ns' : List Int, H' x = some (.lst (ns'.map V.int))) : Bag5 H' p := by
  obtain ⟨r, s, k, c0, cs, h1, h2, h3, h4⟩ := b
  by_cases hc : c0 ∈ F
  · obtain ⟨ns', h⟩ := c c0 hc cs h2
    exact ⟨r, s, k, c0, ns', e _ _ n h1, h, h3, h4⟩
  · exact ⟨r, s, k, c0, cs, e _ _ n h1, e _ _ hc h2, h3, h4⟩
theorem MacAt.cells {K : PySem.W.Frag} {C CM : Addr} {H H' : Hp} {p : Addr} {F : List Addr} {dg : Addr} {m : Int} {s s' : MSt} (h : MacAt K C CM H p F dg m s) (h' : MacAt K C CM H' p F dg m s') : ∀ x ∈ F, ∀ ns : List Int, H x = some (.lst (ns.map V.int)) → ∃ ns' : List Int, H' x = some (.lst (ns'.map V.int)) := by
  obtain ⟨dx, r, mp, ta, wa, la, ps, a, rfl⟩ := h.ex
  obtain ⟨dx', r', mp', ta', wa', la', ps', a', hF⟩ := h'.ex
  simp only [ownF, List.cons.injEq, true_and] at hF
  obtain ⟨rfl, rfl, rfl, rfl, rfl⟩ := hF
  intro x hx ns hn
  simp only [ownF, List.mem_cons] at hx
  rcases hx with rfl | rfl | rfl | rfl | rfl | hx
  · rw [a.at_] at hn; cases hn
  · obtain ⟨_, hm⟩ := a.mem.at_; rw [hm] at hn; cases hn
  · exact ⟨_, a'.told⟩
  · rw [a.mem.lvl] at hn
    injection hn with hn
    injection hn with hn
    have hl := a.mem.plen
    cases ps with
    | nil => cases hl
    | cons q qs =>
      cases ns with
      | nil => cases hn
      | cons n ns => injection hn with hn _; cases hn
  · exact ⟨_, a'.mem.wds⟩
  · obtain ⟨i, hi⟩ := List.mem_iff_getElem?.mp hx
    have hil : i < (KM.levs (foldI m) 8 (s'.mem.map (leafI m))).length := by
      rw [← a'.mem.rows.len]
      exact (List.getElem?_eq_some_iff.mp hi).1
    obtain ⟨q, h1, h2⟩ := a'.mem.row (List.getElem?_eq_getElem hil)
    rw [hi] at h1
    cases h1
    exact ⟨_, h2⟩
theorem DigN.bag {C g p : Addr} {m : Int} {H H' : Hp} (e : Kit.ExBut p H H') (b : Bag5 H p) (h : DigN C H g m) : DigN C H' g m := h.but e (by
  rintro rfl
  obtain ⟨_, _, _, _, _, h1, _⟩ := b
  obtain ⟨_, _, h2⟩ := h.at_
  rw [h1] at h2
  cases h2)

/-! ### == of nested data -/
def Sh (n : Nat) (d : PyData) : Prop := d.canLay0 = true ∧ PyData.depth d ≤ n
def ShA (n : Nat) (ds : List PyData) : Prop := PyData.canLayAll0 ds = true ∧ PyData.depthAll ds ≤ n
theorem ShA.nil {n : Nat} : ShA n [] := ⟨rfl, Nat.zero_le _⟩
theorem ShA.cons {n : Nat} {d : PyData} {ds : List PyData} (h : Sh n d) (t : ShA n ds) : ShA n (d :: ds) := by
  unfold ShA
  rw [PyData.canLayAll0, PyData.depthAll, h.1, t.1]
  exact ⟨rfl, Nat.max_le.mpr ⟨h.2, t.2⟩⟩
theorem Sh.tup {n : Nat} {ds : List PyData} (h : ShA n ds) : Sh (n + 1) (.tuple ds) := by
  unfold Sh
  rw [PyData.canLay0, PyData.depth, h.1]
  exact ⟨rfl, by have := h.2; omega⟩
theorem Sh.mono {n k : Nat} {d : PyData} (h : Sh n d) (hk : n ≤ k) : Sh k d := ⟨h.1, Nat.le_trans h.2 hk⟩
theorem Sh.flat {n : Nat} {v : V} (h : Kit.isFlN v = true) : Sh n (Kit.flatD v) := by
  cases v <;> first | (cases h; done) | exact ⟨by simp [Kit.flatD, PyData.canLay0], by simp [Kit.flatD, PyData.depth]⟩
theorem Sh.int {n : Nat} (i : Int) : Sh n (.int i) := Sh.flat (v := .int i) rfl
theorem ShA.ints {n : Nat} (r : List Int) : ShA n ((r.map V.int).map Kit.flatD) := by
  obtain ⟨h1, h2⟩ := Kit.flats_ok (Kit.ints_fln r)
  exact ⟨h1, by rw [h2]; exact Nat.zero_le _⟩
theorem Sh.shaped {n : Nat} {d : PyData} (h : Sh n d) (hn : n ≤ 64) : SeqAt.shaped d = true := by
  unfold SeqAt.shaped
  rw [h.1, decide_eq_true (Nat.le_trans h.2 hn)]
  rfl
theorem w_eqSh {K : PySem.W.Frag} {x y : V} {d : PyData} {H : Hp} {Q : VK} (hx : Dp K H x d) (hy : Dp K H y d) (s : Sh 60 d) (q : Q (.bl true) H) : rEqD K x y H Q := Kit.w_eqD hx hy (s.shaped (by decide)) (s.shaped (by decide)) (by rw [SeqAt.eqv_refl _ s.1]; exact q)
theorem w_neSh {K : PySem.W.Frag} {x y : V} {d : PyData} {H : Hp} {Q : VK} (hx : Dp K H x d) (hy : Dp K H y d) (s : Sh 60 d) (q : Q (.bl false) H) : rNeD K x y H Q := Kit.w_neD hx hy (s.shaped (by decide)) (s.shaped (by decide)) (by rw [SeqAt.eqv_refl _ s.1]; exact q)
theorem dp_ints {K : PySem.W.Frag} {H : Hp} {p : Addr} {r : List Int} (h : SqT K H p (r.map V.int)) : Dp K H (.ref p) (.tuple ((r.map V.int).map Kit.flatD)) := Kit.dp_tup h (Kit.fln_fl (Kit.ints_fln r))

/-! ### tuples that stand -/
def TKeep (K : PySem.W.Frag) (H H' : Hp) : Prop := ∀ a xs, SqT K H a xs → SqT K H' a xs
mutual
def noL : PyData → Bool
  | .list _ => false
  | .dict _ => false
  | .tuple ds => noLs ds
  | _ => true
def noLs : List PyData → Bool
  | [] => true
  | d :: ds => noL d && noLs ds
end
mutual
theorem dpT {K : PySem.W.Frag} {H H' : Hp} (k : TKeep K H H') : ∀ (d : PyData) (v : V), noL d = true → Dp K H v d → Dp K H' v d
  | .none, _, _, h => by cases h; exact .non
  | .bool _, _, _, h => by cases h; exact .bl _
  | .int _, _, _, h => by cases h; exact .int _
  | .str _, _, _, h => by cases h; exact .str _
  | .list ds, _, n, _ => by unfold noL at n; cases n
  | .tuple ds, _, n, h => by
    unfold noL at n
    cases h with
    | tup h1 h2 => exact .tup (k _ _ h1) (dpsT k ds _ n h2)
  | .dict _, _, _, h => nomatch h
theorem dpsT {K : PySem.W.Frag} {H H' : Hp} (k : TKeep K H H') : ∀ (ds : List PyData) (vs : List V), noLs ds = true → DpAll K H vs ds → DpAll K H' vs ds
  | [], _, _, h => by cases h; exact .nil
  | d :: ds, _, n, h => by
    unfold noLs at n
    rw [Bool.and_eq_true] at n
    cases h with
    | cons h1 h2 => exact .cons (dpT k d _ n.1 h1) (dpsT k ds _ n.2 h2)
end
theorem noLs_ints : ∀ r : List Int, noLs (r.map PyData.int) = true
  | [] => rfl
  | _ :: r => by
    show (true && noLs (r.map PyData.int)) = true
    rw [noLs_ints r]
    rfl
theorem noLs_map {α : Type} (f : α → PyData) (h : ∀ a, noL (f a) = true) : ∀ r : List α, noLs (r.map f) = true
  | [] => rfl
  | a :: r => by
    show (noL (f a) && noLs (r.map f)) = true
    rw [h a, noLs_map f h r]
    rfl
theorem noL_open {m : Int} {s : MSt} : noL (openD m s) = true := by
  show (noLs ((regsI s).map PyData.int) && (true && (noLs ((plsI s).map (partD m s)) && true))) = true
  rw [noLs_ints, noLs_map (partD m s) (fun k => ?_)]
  · rfl
  · show (true && (noLs ((memPath m s.mem k.toNat).map PyData.int) && true)) = true
    rw [noLs_ints]
    rfl
def stD (s : MSt) : PyData := .tuple [.tuple (((regsI s).map V.int).map Kit.flatD), .tuple ((s.mem.map V.int).map Kit.flatD)]
theorem flat_int (r : List Int) : (r.map V.int).map Kit.flatD = r.map PyData.int := by rw [List.map_map]; rfl
theorem noL_st {s : MSt} : noL (stD s) = true := by
  show (noLs (((regsI s).map V.int).map Kit.flatD) && (noLs ((s.mem.map V.int).map Kit.flatD) && true)) = true
  rw [flat_int, flat_int, noLs_ints, noLs_ints]
  rfl
theorem sh_st {s : MSt} : Sh 60 (stD s) := Sh.mono (Sh.tup (n := 1) (ShA.cons (Sh.tup (n := 0) (ShA.ints _)) (ShA.cons (Sh.tup (n := 0) (ShA.ints _)) ShA.nil))) (by decide)
theorem tk_ex {K : PySem.W.Frag} {H H' : Hp} (e : Evl.Ex H H') : TKeep K H H' := fun _ _ h => Evl.ex_t e h
theorem tk_but {K : PySem.W.Frag} {H H' : Hp} {a : Addr} {xs : List V} (e : Kit.ExBut a H H') (h : H a = some (.lst xs)) : TKeep K H H' := fun _ _ h2 => tup_stay e h (fun _ z => nomatch z) (fun _ _ z => nomatch z) h2

/-! ### openings turned -/
theorem tup_bag {K : PySem.W.Frag} {H H' : Hp} {p : Addr} (b : Bag5 H p) (m : Kit.ExBut p H H') : TKeep K H H' := fun a xs h => by
  obtain ⟨_, _, _, _, _, h1, _⟩ := b
  exact tk_but m h1 a xs h
theorem tup_bagM {K : PySem.W.Frag} {H H' : Hp} {p a : Addr} {xs : List V} (m : Kit.ExBut p H H') (b : Bag5 H p) (h : SqT K H a xs) : SqT K H' a xs := tup_bag b m a xs h
local macro_rules | `(tactic| walk_at "sqT") => `(tactic| first | with_reducible assumption | exact Evl.st_of (by with_reducible assumption) | exact Evl.ex_t (by with_reducible assumption) (by walk_at "sqT") | exact tup_bagM (by with_reducible assumption) (by walk_at "bag") (by walk_at "sqT") | fail)
theorem dps_app {K : PySem.W.Frag} {H : Hp} : ∀ {vs us : List V} {ds es : List PyData}, DpAll K H vs ds → DpAll K H us es → DpAll K H (vs ++ us) (ds ++ es)
  | [], _, _, _, h, g => by cases h; exact g
  | v :: vs, _, d :: ds, _, h, g => by
    cases h with
    | cons h1 h2 => exact .cons h1 (dps_app h2 g)
theorem dps_take {K : PySem.W.Frag} {H : Hp} : ∀ (n : Nat) {vs : List V} {ds : List PyData}, DpAll K H vs ds → DpAll K H (vs.take n) (ds.take n)
  | 0, _, _, _ => by rw [List.take_zero, List.take_zero]; exact .nil
  | n + 1, _, _, h => by
    cases h with
    | nil => exact .nil
    | cons h1 h2 => exact .cons h1 (dps_take n h2)
theorem dps_drop {K : PySem.W.Frag} {H : Hp} : ∀ (n : Nat) {vs : List V} {ds : List PyData}, DpAll K H vs ds → DpAll K H (vs.drop n) (ds.drop n)
  | 0, _, _, h => h
  | n + 1, _, _, h => by
    cases h with
    | nil => exact .nil
    | cons h1 h2 => exact dps_drop n h2
theorem dps_rev {K : PySem.W.Frag} {H : Hp} : ∀ {vs : List V} {ds : List PyData}, DpAll K H vs ds → DpAll K H vs.reverse ds.reverse
  | [], _, h => by cases h; exact .nil
  | v :: vs, d :: ds, h => by
    cases h with
    | cons h1 h2 =>
      rw [List.reverse_cons, List.reverse_cons]
      exact dps_app (dps_rev h2) (.cons h1 .nil)
theorem cutT {xs : List V} {n : Nat} (h : n ≤ xs.length) : cutV xs none (some (n : Int)) = xs.take n := by
  unfold cutV
  rw [HT.sIx_none, HT.sIx_nat, Nat.min_eq_left h, List.drop_zero, Nat.sub_zero]
theorem cutD {xs : List V} {n : Nat} (h : n ≤ xs.length) : cutV xs (some (n : Int)) none = xs.drop n := by
  unfold cutV
  rw [HT.sIx_none, HT.sIx_nat, Nat.min_eq_left h, List.take_of_length_le (by rw [List.length_drop]; exact Nat.le_refl _)]
theorem cutTD {xs : List V} {n : Nat} (h : n < xs.length) : cutV xs (some (n : Int)) (some ((n : Int) + 1)) = (xs.drop n).take 1 := by
  unfold cutV
  rw [show ((n : Int) + 1) = ((n + 1 : Nat) : Int) from rfl, HT.sIx_nat, HT.sIx_nat, Nat.min_eq_left (by omega), Nat.min_eq_left (by omega)]
  rw [show n + 1 - n = 1 by omega]
theorem pick_at {xs : List V} {i : Int} (h0 : 0 ≤ i) (h1 : i < (xs.length : Int)) : ∃ (j : Nat) (v : V), i = (j : Int) ∧ j < xs.length ∧ xs[j]? = some v ∧ atI xs i = some v := by
  obtain ⟨j, rfl⟩ := Int.eq_ofNat_of_zero_le h0
  have hj : j < xs.length := by omega
  exact ⟨j, xs[j], rfl, hj, List.getElem?_eq_getElem hj, atI_nat (j := j) (List.getElem?_eq_getElem hj)⟩
theorem put_set {α : Type} {xs : List α} {j : Nat} {y : α} (h : j < xs.length) : xs.take j ++ [y] ++ xs.drop (j + 1) = xs.set j y := by
  rw [List.set_eq_take_append_cons_drop, if_pos h, List.append_assoc]
  rfl
def sp_law_put (K : PySem.W.Frag) : Sp := fun vs H Q _ => ∃ (r : Addr) (j : Nat) (xs : List V) (y : V), vs = [.ref r, .int (j : Int), y] ∧ SqT K H r xs ∧ j < xs.length ∧ xs.length ≤ 1000 ∧ ∀ t H', Evl.Ex H H' → SqT K H' t (xs.set j y) → Q (.ref t) H'
theorem ok_law_put (T : Txt K mg) : FnOk P w K mg base CX0 1 T.f_law_put.f T.f_law_put.fd ["row", "place", "value"] (sp_law_put K) := by
  refine T.f_law_put.F.ok sc_law_put (fun vs H Q E h => ?_) (fun cdv A outer s H vs Q E hr h => ?_)
  · obtain ⟨r, j, xs, y, rfl, hr6, hj, hl, q⟩ := h
    rfl
  obtain ⟨r, j, xs, y, rfl, hr6, hj, hl, q⟩ := h
  have nd := sc_law_put.nd
  refine Kit.ok_body (σ := [some _, some _, some _]) ((pss_one (ps_ret (pe_op (Kit.kCat K) (pe_op (Kit.kCat K) (pe_slice (Kit.kSlT K) (pv 0) po_none (po_some (pv 1))) (pe_tup (pa_cons (pv 2) pa_nil))) (pe_slice (Kit.kSlT K) (pv 0) (po_some (pe_op op_add (pv 1) pe_int)) po_none))))) rfl ?_
  try dsimp only [L2.cxOf, L2.Cx.nox]
  walk_at "wp"
  rename_i t1 H1 e1 s1 t2 H2 n2 e2 f2
  rw [cutT (by omega)] at s1
  refine Kit.w_catT (Evl.ex_t e2 s1) (Evl.st_of f2) (by rw [List.length_take]; simp; omega) fun t3 H3 e3 s3 => ?_
  walk_at "wp"
  rename_i t4 H4 e4 s4
  rw [show ((j : Int) + 1) = ((j + 1 : Nat) : Int) from rfl, cutD (by omega)] at s4
  refine Kit.w_catT (Evl.ex_t e4 s3) s4 (by rw [List.length_append, List.length_take, List.length_drop]; simp; omega) fun t5 H5 e5 s5 => ?_
  exact q _ _ (e1.trans (e2.trans (e3.trans (e4.trans e5)))) (by rw [← put_set hj]; exact s5)
/-- registers in their bounds -/
def BB (m : Int) : List Int := [256, 65536, 65536, 7, m, 17]
def RegIn (m : Int) (rs : List Int) : Prop := rs.length = 6 ∧ ∀ (i : Nat) (x b : Int), rs[i]? = some x → (BB m)[i]? = some b → 0 ≤ x ∧ x < b
theorem BB_in {m : Int} (h : 100 < m) : ∀ b ∈ BB m, 1 < b ∧ b ≤ max m 65536 := fun b hb => by
  simp only [BB, List.mem_cons, List.not_mem_nil, or_false] at hb
  rcases hb with rfl | rfl | rfl | rfl | rfl | rfl <;> constructor <;> omega
theorem RegIn.set {m : Int} {rs : List Int} {j : Nat} {z b : Int} (h : RegIn m rs) (hb : (BB m)[j]? = some b) (h0 : 0 ≤ z) (h1 : z < b) : RegIn m (rs.set j z) := by
  refine ⟨by rw [List.length_set]; exact h.1, fun i x c hx hc => ?_⟩
  by_cases e : j = i
  · subst e
    rw [List.getElem?_set_self'] at hx
    rw [hb] at hc
    cases hc
    cases hr : rs[j]? with
    | none => rw [hr] at hx; cases hx
    | some y => rw [hr] at hx; cases hx; exact ⟨h0, h1⟩
  · rw [List.getElem?_set_ne e] at hx
    exact h.2 i x c hx hc
theorem iv_set (rs : List Int) (j : Nat) (z : Int) : (iv rs).set j (.int z) = iv (rs.set j z) := by unfold iv; rw [List.map_set]
def sp_regs_turned (K : PySem.W.Frag) : Sp := fun vs H Q _ => ∃ (p r : Addr) (m : Int) (rs : List Int), vs = [.ref p, .int m, .ref r] ∧ Bag5 H p ∧ 100 < m ∧ m < 2 ^ 62 ∧ SqT K H r (iv rs) ∧ RegIn m rs ∧ ∀ t rs' H', Kit.ExBut p H H' → Bag5 H' p → SqT K H' t (iv rs') → RegIn m rs' → Q (.ref t) H'
theorem ok_law_registers_turned (T : Txt K mg) : FnOk P w K mg base CX0 2 T.f_law_registers_turned.f T.f_law_registers_turned.fd ["bag", "m", "registers"] (sp_regs_turned K) := by
  have G_law_draw := ok_law_draw (P := P) (w := w) (base := base) T
  have G_law_put := ok_law_put (P := P) (w := w) (base := base) T
  refine T.f_law_registers_turned.F.ok sc_law_registers_turned (fun vs H Q E h => ?_) (fun cdv A outer s H vs Q E hr h => ?_)
  · obtain ⟨p, r, m, rs, rfl, hb, m0, m1, hrg, hin, q⟩ := h
    rfl
  obtain ⟨p, r, m, rs, rfl, hb, m0, m1, hrg, hin, q⟩ := h
  have nd := sc_law_registers_turned.nd
  have hr1 : Room 1 _ := hr.mono (by decide)
  refine Kit.ok_body (σ := [some _, some _, some _, none, none, none]) ((pss_cons (ps_set (i := 3) nd rfl (Or.inl rfl) (pe_call G_law_draw hr1 (by rfl) T.f_law_draw.g T.f_law_draw.F.kp T.f_law_draw.b .nil pass0 (pa_cons (pv 0) (pa_cons pe_int pa_nil))))
    (pss_cons (ps_set (i := 4) nd rfl (Or.inl rfl) (pe_ix (Kit.ixL K) (pe_lst (pa_cons pe_int (pa_cons pe_int (pa_cons pe_int (pa_cons pe_int (pa_cons (pv 1) (pa_cons pe_int pa_nil))))))) (pv 3) (fun _ _ => rfl)))
    (pss_cons (ps_set (i := 5) nd rfl (Or.inl rfl) (pe_op op_mod (pe_callTy Kit.k_int (by rfl) T.z_int (by decide +kernel) (pa_cons (pe_op op_add (pe_ix (Kit.ixT K) (pv 2) (pv 3) (fun _ _ => rfl)) (pe_ix (Kit.ixL K) (pe_lst (pa_cons pe_int (pa_cons (pe_op op_sub (pv 4) pe_int) (pa_cons pe_int pa_nil)))) (pe_call G_law_draw hr1 (by rfl) T.f_law_draw.g T.f_law_draw.F.kp T.f_law_draw.b .nil pass0 (pa_cons (pv 0) (pa_cons pe_int pa_nil))) (fun _ _ => rfl))) pa_nil)) (pv 4)))
    (pss_one (ps_ret (pe_call G_law_put hr1 (by rfl) T.f_law_put.g T.f_law_put.F.kp T.f_law_put.b .nil pass0 (pa_cons (pv 2) (pa_cons (pv 3) (pa_cons (pe_ix (Kit.ixL K) (pe_lst (pa_cons (pv 5) (pa_cons (pe_call G_law_draw hr1 (by rfl) T.f_law_draw.g T.f_law_draw.F.kp T.f_law_draw.b .nil pass0 (pa_cons (pv 0) (pa_cons (pv 4) pa_nil))) pa_nil))) (pe_call G_law_draw hr1 (by rfl) T.f_law_draw.g T.f_law_draw.F.kp T.f_law_draw.b .nil pass0 (pa_cons (pv 0) (pa_cons pe_int pa_nil))) (fun _ _ => rfl)) pa_nil)))))))))) rfl ?_
  walk_at "wp"
  rename_i i H1 i0 i1 mb1 b1 l1 H2 n2 e2 f2
  obtain ⟨j, rfl⟩ := Int.eq_ofNat_of_zero_le i0
  have hj : j < 6 := by omega
  obtain ⟨b, hbj⟩ : ∃ b, (BB m)[j]? = some b := ⟨_, List.getElem?_eq_getElem (by show j < 6; exact hj)⟩
  obtain ⟨hb1, hbm⟩ := BB_in m0 b (List.mem_of_getElem? hbj)
  have hb62 : b < 2 ^ 62 := by omega
  refine Kit.w_ixL (xs := iv (BB m)) (Evl.sq_of f2) (L2.atI_nat (by unfold iv; rw [List.getElem?_map, hbj]; rfl)) ?_
  have hr2 : SqT K H2 r (iv rs) := Evl.ex_t e2 (tup_bagM mb1 hb hrg)
  have hjl : j < rs.length := by rw [hin.1]; exact hj
  have hx : atI (iv rs) (j : Int) = some (.int rs[j]) := L2.atI_nat (by unfold iv; rw [List.getElem?_map, List.getElem?_eq_getElem hjl]; rfl)
  generalize rs[j] = x at hx
  have b2 := b1.ex e2
  clear b1 f2 n2 hrg
  walk_at "wp"
  rename_i l3 H3 n3 e3 f3 k H4 k0 k1 mb4 b4
  obtain ⟨z, hz, _⟩ := pick_of (P := fun _ => True) (xs := [1, b - 1, 256]) (fun _ _ => trivial) k0 k1
  refine Kit.w_ixL (xs := [1, b - 1, 256].map V.int) (Evl.sq_of (mb4 _ _ (by rintro rfl; obtain ⟨o, ho⟩ := b2.is; rw [ho] at n3; cases n3) f3)) hz ?_
  have hr4 : SqT K H4 r (iv rs) := tup_bagM mb4 (b2.ex e3) (Evl.ex_t e3 hr2)
  clear f3 n3 hr2
  walk_at "wp"
  rename_i v5 H5 v0 v1 mb5 b5 l6 H6 n6 e6 f6 k7 H7 k70 k71 mb7 b7
  have hzz : 0 ≤ (x + z) % b ∧ (x + z) % b < b := ⟨Int.emod_nonneg _ (by omega), Int.emod_lt_of_pos _ (by omega)⟩
  obtain ⟨y, hy, y0, y1⟩ := pick_of (P := fun y => 0 ≤ y ∧ y < b) (xs := [(x + z) % b, v5]) (fun y hy => by
    simp only [List.mem_cons, List.not_mem_nil, or_false] at hy
    rcases hy with rfl | rfl
    · exact hzz
    · exact ⟨v0, v1⟩) k70 k71
  refine Kit.w_ixL (xs := [(x + z) % b, v5].map V.int) (Evl.sq_of (mb7 _ _ (by rintro rfl; obtain ⟨o, ho⟩ := b5.is; rw [ho] at n6; cases n6) f6)) hy ?_
  have hr7 : SqT K H7 r (iv rs) := tup_bagM mb7 (b5.ex e6) (Evl.ex_t e6 (tup_bagM mb5 b4 hr4))
  refine ⟨r, j, iv rs, .int y, rfl, hr7, by rw [iv_len]; exact hjl, by rw [iv_len, hin.1]; decide, fun t H8 e8 s8 => ?_⟩
  rw [iv_set] at s8
  exact q t _ H8 (by walk_at "but") (b7.ex e8) s8 (hin.set hbj y0 y1)
def sp_part_turned (K : PySem.W.Frag) : Sp := fun vs H Q _ => ∃ (p t a : Addr) (m w : Int) (pth : List Int), vs = [.ref p, .int m, .ref t] ∧ Bag5 H p ∧ 100 < m ∧ m < 2 ^ 62 ∧ SqT K H t [.int w, .ref a] ∧ SqT K H a (iv pth) ∧ IsW w ∧ pth.length = 8 ∧ AllDg m pth ∧
  ∀ t' a' w' pth' H', Kit.ExBut p H H' → Bag5 H' p → SqT K H' t' [.int w', .ref a'] → SqT K H' a' (iv pth') → IsW w' → pth'.length = 8 → AllDg m pth' → Q (.ref t') H'
theorem mod_w (x : Int) : IsW (x % 65536) := ⟨Int.emod_nonneg _ (by decide), Int.emod_lt_of_pos _ (by decide)⟩
theorem dg_set {m : Int} {pth : List Int} {j : Nat} {z : Int} (h : AllDg m pth) (hz : Dg m z) : AllDg m (pth.set j z) := fun x hx => by
  rcases List.mem_or_eq_of_mem_set hx with h1 | rfl
  · exact h x h1
  · exact hz
theorem ok_law_part_turned (T : Txt K mg) : FnOk P w K mg base CX0 2 T.f_law_part_turned.f T.f_law_part_turned.fd ["bag", "m", "part"] (sp_part_turned K) := by
  have G_law_draw := ok_law_draw (P := P) (w := w) (base := base) T
  have G_law_put := ok_law_put (P := P) (w := w) (base := base) T
  refine T.f_law_part_turned.F.ok sc_law_part_turned (fun vs H Q E h => ?_) (fun cdv A outer s H vs Q E hr h => ?_)
  · obtain ⟨p, t, a, m, w', pth, rfl, hb, m0, m1, ht, ha, hw, hl, hdg, q⟩ := h
    rfl
  obtain ⟨p, t, a, m, w', pth, rfl, hb, m0, m1, ht, ha, hw, hl, hdg, q⟩ := h
  have nd := sc_law_part_turned.nd
  have hr1 : Room 1 _ := hr.mono (by decide)
  refine Kit.ok_body (σ := [some _, some _, some _, none]) ((pss_cons (ps_if (pt_cmpR op_eq (pe_call G_law_draw hr1 (by rfl) T.f_law_draw.g T.f_law_draw.F.kp T.f_law_draw.b .nil pass0 (pa_cons (pv 0) (pa_cons pe_int pa_nil))) pe_int (nomark _))
    (pss_one (ps_ret (pe_tup (pa_cons (pe_ix (Kit.ixL K) (pe_lst (pa_cons (pe_op op_mod (pe_callTy Kit.k_int (by rfl) T.z_int (by decide +kernel) (pa_cons (pe_op op_add (pe_ix (Kit.ixT K) (pv 2) pe_int (fun _ _ => rfl)) pe_int) pa_nil)) pe_int) (pa_cons (pe_call G_law_draw hr1 (by rfl) T.f_law_draw.g T.f_law_draw.F.kp T.f_law_draw.b .nil pass0 (pa_cons (pv 0) (pa_cons pe_int pa_nil))) (pa_cons (pe_op op_mod (pe_callTy Kit.k_int (by rfl) T.z_int (by decide +kernel) (pa_cons (pe_op op_add (pe_ix (Kit.ixT K) (pv 2) pe_int (fun _ _ => rfl)) (pv 1)) pa_nil)) pe_int) pa_nil)))) (pe_call G_law_draw hr1 (by rfl) T.f_law_draw.g T.f_law_draw.F.kp T.f_law_draw.b .nil pass0 (pa_cons (pv 0) (pa_cons pe_int pa_nil))) (fun _ _ => rfl)) (pa_cons (pe_ix (Kit.ixT K) (pv 2) pe_int (fun _ _ => rfl)) pa_nil)))))
    pss_nil)
    (pss_cons (ps_set (i := 3) nd rfl (Or.inl rfl) (pe_call G_law_draw hr1 (by rfl) T.f_law_draw.g T.f_law_draw.F.kp T.f_law_draw.b .nil pass0 (pa_cons (pv 0) (pa_cons pe_int pa_nil))))
    (pss_one (ps_ret (pe_tup (pa_cons (pe_ix (Kit.ixT K) (pv 2) pe_int (fun _ _ => rfl)) (pa_cons (pe_call G_law_put hr1 (by rfl) T.f_law_put.g T.f_law_put.F.kp T.f_law_put.b .nil pass0 (pa_cons (pe_ix (Kit.ixT K) (pv 2) pe_int (fun _ _ => rfl)) (pa_cons (pv 3) (pa_cons (pe_ix (Kit.ixL K) (pe_lst (pa_cons (pe_op op_mod (pe_callTy Kit.k_int (by rfl) T.z_int (by decide +kernel) (pa_cons (pe_op op_add (pe_ix (Kit.ixT K) (pe_ix (Kit.ixT K) (pv 2) pe_int (fun _ _ => rfl)) (pv 3) (fun _ _ => rfl)) pe_int) pa_nil)) (pv 1)) (pa_cons (pe_call G_law_draw hr1 (by rfl) T.f_law_draw.g T.f_law_draw.F.kp T.f_law_draw.b .nil pass0 (pa_cons (pv 0) (pa_cons (pv 1) pa_nil))) pa_nil))) (pe_call G_law_draw hr1 (by rfl) T.f_law_draw.g T.f_law_draw.F.kp T.f_law_draw.b .nil pass0 (pa_cons (pv 0) (pa_cons pe_int pa_nil))) (fun _ _ => rfl)) pa_nil)))) pa_nil)))))))) rfl ?_
  walk_at "wp"
  · rename_i k1 H1 k10 k11 mb1 b1 hk v2 H2 v20 v21 mb2 b2 l3 H3 n3 e3 f3 k4 H4 k40 k41 mb4 b4
    obtain ⟨y, hy, hyw⟩ := pick_of (P := IsW) (xs := [(w' + 1) % 65536, v2, (w' + m) % 65536]) (fun y hy => by
      simp only [List.mem_cons, List.not_mem_nil, or_false] at hy
      rcases hy with rfl | rfl | rfl
      · exact mod_w _
      · exact ⟨v20, v21⟩
      · exact mod_w _) k40 k41
    refine Kit.w_ixL (xs := [(w' + 1) % 65536, v2, (w' + m) % 65536].map V.int) (Evl.sq_of (mb4 _ _ (by rintro rfl; obtain ⟨o, ho⟩ := b2.is; rw [ho] at n3; cases n3) f3)) hy ?_
    have ht4 : SqT K H4 t [.int w', .ref a] := tup_bagM mb4 (b2.ex e3) (Evl.ex_t e3 (tup_bagM mb2 b1 (tup_bagM mb1 hb ht)))
    have ha4 : SqT K H4 a (iv pth) := tup_bagM mb4 (b2.ex e3) (Evl.ex_t e3 (tup_bagM mb2 b1 (tup_bagM mb1 hb ha)))
    walk_at "wp"
    rename_i t5 H5 n5 e5 f5
    exact q t5 a y pth H5 (by walk_at "but") (b4.ex e5) (Evl.st_of f5) (Evl.ex_t e5 ha4) hyw hl hdg
  · rename_i k1 H1 k10 k11 mb1 b1 hk i H2 i0 i1 mb2 b2
    obtain ⟨j, rfl⟩ := Int.eq_ofNat_of_zero_le i0
    have ht2 : SqT K H2 t [.int w', .ref a] := tup_bagM mb2 b1 (tup_bagM mb1 hb ht)
    have ha2 : SqT K H2 a (iv pth) := tup_bagM mb2 b1 (tup_bagM mb1 hb ha)
    have hjl : j < pth.length := by omega
    have hx : atI (iv pth) (j : Int) = some (.int pth[j]) := L2.atI_nat (by unfold iv; rw [List.getElem?_map, List.getElem?_eq_getElem hjl]; rfl)
    generalize pth[j] = x at hx
    clear ht ha hb
    walk_at "wp"
    rename_i v3 H3 v30 v31 mb3 b3 l4 H4 n4 e4 f4 k5 H5 k50 k51 mb5 b5
    have hm2 : Dg m ((x + 1) % m) := ⟨Int.emod_nonneg _ (by omega), Int.emod_lt_of_pos _ (by omega)⟩
    obtain ⟨y, hy, hyd⟩ := pick_of (P := Dg m) (xs := [(x + 1) % m, v3]) (fun y hy => by
      simp only [List.mem_cons, List.not_mem_nil, or_false] at hy
      rcases hy with rfl | rfl
      · exact hm2
      · exact ⟨v30, v31⟩) k50 k51
    refine Kit.w_ixL (xs := [(x + 1) % m, v3].map V.int) (Evl.sq_of (mb5 _ _ (by rintro rfl; obtain ⟨o, ho⟩ := b3.is; rw [ho] at n4; cases n4) f4)) hy ?_
    have ha5 : SqT K H5 a (iv pth) := tup_bagM mb5 (b3.ex e4) (Evl.ex_t e4 (tup_bagM mb3 b2 ha2))
    refine ⟨a, j, iv pth, .int y, rfl, ha5, by rw [iv_len]; exact hjl, by rw [iv_len, hl]; decide, fun t6 H6 e6 s6 => ?_⟩
    rw [iv_set] at s6
    walk_at "wp"
    rename_i t7 H7 n7 e7 f7
    exact q t7 t6 w' _ H7 (by walk_at "but") ((b5.ex e6).ex e7) (Evl.st_of f7) (Evl.ex_t e7 s6) hw (by rw [List.length_set]; exact hl) (dg_set hdg hyd)

/-! ### an opening turned -/
theorem op_mk {m : Int} {rs : List Int} {root : Int} {ps : List (Int × List Int)} (h : RegIn m rs) (hr : Dg m root) (hp : ∀ p ∈ ps, IsW p.1 ∧ p.2.length = 8 ∧ AllDg m p.2) : ∃ o : Op, OpOk m o ∧ o.regs = rs ∧ o.root = root ∧ o.ps = ps := by
  obtain ⟨hl, hin⟩ := h
  match rs, hl, hin with
  | [a, b, c, d, e, f], _, hin =>
    have h0 := hin 0 a 256 rfl rfl
    have h1 := hin 1 b 65536 rfl rfl
    have h2 := hin 2 c 65536 rfl rfl
    have h3 := hin 3 d 7 rfl rfl
    have h4 := hin 4 e m rfl rfl
    have h5 := hin 5 f 17 rfl rfl
    exact ⟨⟨a, b, c, d, e, f, root, ps⟩, ⟨h0, h1, h2, h3, h4, ⟨h5.1, by show f ≤ 16; omega⟩, hr, hp⟩, rfl, rfl, rfl⟩
theorem OpOk.regIn {m : Int} {o : Op} (h : OpOk m o) : RegIn m o.regs := by
  refine ⟨rfl, fun i x b hx hb => ?_⟩
  have hi : i < 6 := (List.getElem?_eq_some_iff.mp hx).1
  have h1 := h.pc
  have h2 := h.acc
  have h3 := h.x
  have h4 := h.mark
  have h5 := h.out
  have h6 := h.count
  match i, hi, hx, hb with
  | 0, _, hx, hb => cases hx; cases hb; exact h1
  | 1, _, hx, hb => cases hx; cases hb; exact h2
  | 2, _, hx, hb => cases hx; cases hb; exact h3
  | 3, _, hx, hb => cases hx; cases hb; exact h4
  | 4, _, hx, hb => cases hx; cases hb; exact h5
  | 5, _, hx, hb => cases hx; cases hb; exact ⟨h6.1, by omega⟩
theorem op_dp {K : PySem.W.Frag} {H : Hp} {o : Op} {q r pp : Addr} {xs : List V} (h : SqT K H q [.ref r, .int o.root, .ref pp]) (hr : SqT K H r (iv o.regs)) (hp : SqT K H pp xs) (hd : DpAll K H xs (o.ps.map pD)) : Dp K H (.ref q) o.data :=
  .tup h (.cons (dp_itup hr) (.cons (.int _) (.cons (.tup hp hd) .nil)))
theorem noL_pD (p : Int × List Int) : noL (pD p) = true := by
  show (true && (noLs (p.2.map PyData.int) && true)) = true
  rw [noLs_ints]
  rfl
theorem noL_op (o : Op) : noL o.data = true := by
  show (noLs (o.regs.map PyData.int) && (true && (noLs (o.ps.map pD) && true))) = true
  rw [noLs_ints, noLs_map pD noL_pD]
  rfl
theorem pD_in {K : PySem.W.Frag} {H : Hp} {t a : Addr} {w : Int} {pth : List Int} (h : SqT K H t [.int w, .ref a]) (ha : SqT K H a (iv pth)) : Dp K H (.ref t) (pD (w, pth)) := .tup h (.cons (.int _) (.cons (dp_itup ha) .nil))
theorem dps_set {K : PySem.W.Frag} {H : Hp} : ∀ {vs : List V} {ds : List PyData} {j : Nat} {v : V} {d : PyData}, DpAll K H vs ds → Dp K H v d → DpAll K H (vs.set j v) (ds.set j d)
  | [], _, _, _, _, h, _ => by cases h; exact .nil
  | x :: vs, _, 0, _, _, h, g => by
    cases h with
    | cons h1 h2 => exact .cons g h2
  | x :: vs, _, j + 1, _, _, h, g => by
    cases h with
    | cons h1 h2 => exact .cons h1 (dps_set h2 g)
theorem op_fin {K : PySem.W.Frag} {H : Hp} {m : Int} {q r pp : Addr} {xs : List V} {rs : List Int} {root : Int} {ps : List (Int × List Int)} (h : SqT K H q [.ref r, .int root, .ref pp]) (hr : SqT K H r (iv rs)) (hp : SqT K H pp xs) (hd : DpAll K H xs (ps.map pD)) (h1 : RegIn m rs) (h2 : Dg m root) (h3 : ∀ p ∈ ps, IsW p.1 ∧ p.2.length = 8 ∧ AllDg m p.2) :
    ∃ o' : Op, OpOk m o' ∧ o'.ps = ps ∧ Dp K H (.ref q) o'.data := by
  obtain ⟨o', ok', e1, e2, e3⟩ := op_mk h1 h2 h3
  exact ⟨o', ok', e3, op_dp (by rw [e2]; exact h) (by rw [e1]; exact hr) hp (by rw [e3]; exact hd)⟩
theorem dp_opT {K : PySem.W.Frag} {H H' : Hp} {v : V} {o : Op} (k : TKeep K H H') (h : Dp K H v o.data) : Dp K H' v o.data := dpT k _ _ (noL_op o) h
theorem bagNe {H : Hp} {p a : Addr} (b : Bag5 H p) (n : H a = none) : a ≠ p := by rintro rfl; obtain ⟨o, ho⟩ := b.is; rw [ho] at n; cases n
theorem w_repT {K : PySem.W.Frag} {l : Addr} {xs : List V} {k : Int} {H : Hp} {Q : VK} (h : SqT K H l xs) (hn : xs ≠ []) (h2 : 2 ≤ k) (h3 : k ≤ 1000) (hx : xs.length ≤ 1000) (q : ∀ p H2, H p = none → Evl.Ex H H2 → H2 p = some (.tup (List.replicate k.toNat xs).flatten) → Q (.ref p) H2) : rRepT K (.ref l) (.int k) H Q := ⟨l, k, xs, rfl, rfl, h, hn, h2, h3, hx, fun p hp => q p _ hp (Evl.Ex.new hp) upd_same⟩
def sp_turned (K : PySem.W.Frag) : Sp := fun vs H Q _ => ∃ (p la : Addr) (m : Int) (v v1 v2 : V) (o o1 o2 : Op) (n : Nat), vs = [.ref p, .int m, v, .ref la] ∧ Bag5 H p ∧ 100 < m ∧ m < 2 ^ 62 ∧ Dp K H v o.data ∧ OpOk m o ∧ o.ps.length ≤ n ∧ 2 ≤ n ∧ n ≤ 8 ∧
  H la = some (.lst [v1, v2]) ∧ la ≠ p ∧ Dp K H v1 o1.data ∧ OpOk m o1 ∧ o1.ps.length ≤ 2 ∧ Dp K H v2 o2.data ∧ OpOk m o2 ∧ o2.ps.length ≤ 2 ∧
  ∀ v' o' H', Kit.ExBut p H H' → Bag5 H' p → Dp K H' v' o'.data → OpOk m o' → o'.ps.length ≤ n + 1 → Q v' H'
theorem two_at {v1 v2 : V} {i : Int} (h0 : 0 ≤ i) (h1 : i < 2) : ∃ v, (v = v1 ∨ v = v2) ∧ atI [v1, v2] i = some v := by
  have h : i = 0 ∨ i = 1 := by omega
  rcases h with rfl | rfl
  · exact ⟨v1, .inl rfl, L2.atI_nat (j := 0) rfl⟩
  · exact ⟨v2, .inr rfl, L2.atI_nat (j := 1) rfl⟩
theorem tri_at {v1 v2 v3 : V} {i : Int} (h0 : 0 ≤ i) (h1 : i < 3) : ∃ v, (v = v1 ∨ v = v2 ∨ v = v3) ∧ atI [v1, v2, v3] i = some v := by
  have h : i = 0 ∨ i = 1 ∨ i = 2 := by omega
  rcases h with rfl | rfl | rfl
  · exact ⟨v1, .inl rfl, L2.atI_nat (j := 0) rfl⟩
  · exact ⟨v2, .inr (.inl rfl), L2.atI_nat (j := 1) rfl⟩
  · exact ⟨v3, .inr (.inr rfl), L2.atI_nat (j := 2) rfl⟩
def DrawS (vs : List V) (H : Hp) (Q : VK) (E : XK) : Prop := sp_law_draw vs H Q E
theorem draw_stop {vs : List V} {H : Hp} {Q : VK} {E : XK} (h : DrawS vs H Q E) : sp_law_draw vs H Q E := h
local macro_rules | `(tactic| walk_at "wp1") => `(tactic| ((with_reducible show sp_law_draw _ _ _ _); refine draw_stop ?_))
theorem ok_law_turned (T : Txt K mg) : FnOk P w K mg base CX0 3 T.f_law_turned.f T.f_law_turned.fd ["bag", "m", "opening", "others"] (sp_turned K) := by
  have G_law_draw := ok_law_draw (P := P) (w := w) (base := base) T
  have G_law_part_turned := ok_law_part_turned (P := P) (w := w) (base := base) T
  have G_law_put := ok_law_put (P := P) (w := w) (base := base) T
  have G_law_registers_turned := ok_law_registers_turned (P := P) (w := w) (base := base) T
  refine T.f_law_turned.F.ok sc_law_turned (fun vs H Q E h => ?_) (fun cdv A outer s H vs Q E hr h => ?_)
  · obtain ⟨p, la, m, v, v1, v2, o, o1, o2, n, rfl, hb, m0, m1, hv, ok, hn, hn2, hn8, hla, hlp, hv1, ok1, hn1, hv2, ok2, hn2', q⟩ := h
    rfl
  obtain ⟨p, la, m, v, v1, v2, o, o1, o2, n, rfl, hb, m0, m1, hv, ok, hn, hn2, hn8, hla, hlp, hv1, ok1, hn1, hv2, ok2, hn2', q⟩ := h
  have nd := sc_law_turned.nd
  have hr1 : Room 1 _ := hr.mono (by decide)
  have hr2 : Room 2 _ := hr.mono (by decide)
  refine Kit.ok_body (σ := [some _, some _, some _, some _, none, none, none, none, none, none]) ((pss_cons (ps_asg (pv 2) (Kit.kgTup K rfl (pgs_cons (pg_name (i := 4) nd rfl (Or.inl rfl)) (pgs_cons (pg_name (i := 5) nd rfl (Or.inl rfl)) (pgs_cons (pg_name (i := 6) nd rfl (Or.inl rfl)) pgs_nil)))))
    (pss_cons (ps_set (i := 7) nd rfl (Or.inl rfl) (pe_call G_law_draw hr1 (by rfl) T.f_law_draw.g T.f_law_draw.F.kp T.f_law_draw.b .nil pass0 (pa_cons (pv 0) (pa_cons pe_int pa_nil))))
    (pss_cons (ps_if (pt_cmpR op_lt (pv 7) pe_int (nomark _))
    (pss_one (ps_ret (pe_tup (pa_cons (pe_call G_law_registers_turned hr2 (by rfl) T.f_law_registers_turned.g T.f_law_registers_turned.F.kp T.f_law_registers_turned.b .nil pass0 (pa_cons (pv 0) (pa_cons (pv 1) (pa_cons (pv 4) pa_nil)))) (pa_cons (pv 5) (pa_cons (pv 6) pa_nil))))))
    pss_nil)
    (pss_cons (ps_if (pt_cmpR op_eq (pv 7) pe_int (nomark _))
    (pss_one (ps_ret (pe_tup (pa_cons (pv 4) (pa_cons (pe_op op_mod (pe_callTy Kit.k_int (by rfl) T.z_int (by decide +kernel) (pa_cons (pe_op op_add (pe_op op_add (pv 5) pe_int) (pe_call G_law_draw hr1 (by rfl) T.f_law_draw.g T.f_law_draw.F.kp T.f_law_draw.b .nil pass0 (pa_cons (pv 0) (pa_cons (pe_op op_sub (pv 1) pe_int) pa_nil)))) pa_nil)) (pv 1)) (pa_cons (pv 6) pa_nil))))))
    pss_nil)
    (pss_cons (ps_if (pt_cmpR op_eq (pv 7) pe_int (nomark _))
    (pss_one (ps_ret (pe_ix (Kit.ixL K) (pv 3) (pe_call G_law_draw hr1 (by rfl) T.f_law_draw.g T.f_law_draw.F.kp T.f_law_draw.b .nil pass0 (pa_cons (pv 0) (pa_cons (pe_callB (Kit.kLen K) (by rfl) T.z_len (by decide +kernel) (pa_cons (pv 3) pa_nil)) pa_nil))) (fun _ _ => rfl))))
    pss_nil)
    (pss_cons (ps_if (pt_cmpR op_eq (pv 7) pe_int (nomark _))
    (pss_cons (ps_set (i := 8) nd rfl (Or.inl rfl) (pe_ix (Kit.ixL K) (pv 3) (pe_call G_law_draw hr1 (by rfl) T.f_law_draw.g T.f_law_draw.F.kp T.f_law_draw.b .nil pass0 (pa_cons (pv 0) (pa_cons (pe_callB (Kit.kLen K) (by rfl) T.z_len (by decide +kernel) (pa_cons (pv 3) pa_nil)) pa_nil))) (fun _ _ => rfl)))
    (pss_one (ps_ret (pe_ix (Kit.ixL K) (pe_lst (pa_cons (pe_tup (pa_cons (pv 4) (pa_cons (pv 5) (pa_cons (pe_ix (Kit.ixT K) (pv 8) pe_int (fun _ _ => rfl)) pa_nil)))) (pa_cons (pe_tup (pa_cons (pv 4) (pa_cons (pe_ix (Kit.ixT K) (pv 8) pe_int (fun _ _ => rfl)) (pa_cons (pv 6) pa_nil)))) (pa_cons (pe_tup (pa_cons (pe_ix (Kit.ixT K) (pv 8) pe_int (fun _ _ => rfl)) (pa_cons (pv 5) (pa_cons (pv 6) pa_nil)))) pa_nil)))) (pe_call G_law_draw hr1 (by rfl) T.f_law_draw.g T.f_law_draw.F.kp T.f_law_draw.b .nil pass0 (pa_cons (pv 0) (pa_cons pe_int pa_nil))) (fun _ _ => rfl)))))
    pss_nil)
    (pss_cons (ps_if (pt_cmpR op_eq (pe_callB (Kit.kLen K) (by rfl) T.z_len (by decide +kernel) (pa_cons (pv 6) pa_nil)) pe_int (nomark _))
    (pss_one (ps_ret (pe_tup (pa_cons (pv 4) (pa_cons (pv 5) (pa_cons (pe_tup (pa_cons (pe_tup (pa_cons pe_int (pa_cons (pe_op (Kit.kRepT K) (pe_tup (pa_cons pe_int pa_nil)) pe_int) pa_nil))) pa_nil)) pa_nil))))))
    pss_nil)
    (pss_cons (ps_set (i := 9) nd rfl (Or.inl rfl) (pe_call G_law_draw hr1 (by rfl) T.f_law_draw.g T.f_law_draw.F.kp T.f_law_draw.b .nil pass0 (pa_cons (pv 0) (pa_cons (pe_callB (Kit.kLen K) (by rfl) T.z_len (by decide +kernel) (pa_cons (pv 6) pa_nil)) pa_nil))))
    (pss_cons (ps_if (pt_cmpR op_eq (pv 7) pe_int (nomark _))
    (pss_one (ps_ret (pe_tup (pa_cons (pv 4) (pa_cons (pv 5) (pa_cons (pe_ix (Kit.ixL K) (pe_lst (pa_cons (pe_op (Kit.kCat K) (pe_slice (Kit.kSlT K) (pv 6) po_none (po_some (pv 9))) (pe_slice (Kit.kSlT K) (pv 6) (po_some (pe_op op_add (pv 9) pe_int)) po_none)) (pa_cons (pe_op (Kit.kCat K) (pv 6) (pe_slice (Kit.kSlT K) (pv 6) (po_some (pv 9)) (po_some (pe_op op_add (pv 9) pe_int)))) (pa_cons (Kit.pe_revT K (pv 6) (po_some (pe_un un_neg pe_int))) pa_nil)))) (pe_call G_law_draw hr1 (by rfl) T.f_law_draw.g T.f_law_draw.F.kp T.f_law_draw.b .nil pass0 (pa_cons (pv 0) (pa_cons pe_int pa_nil))) (fun _ _ => rfl)) pa_nil))))))
    pss_nil)
    (pss_one (ps_ret (pe_tup (pa_cons (pv 4) (pa_cons (pv 5) (pa_cons (pe_call G_law_put hr1 (by rfl) T.f_law_put.g T.f_law_put.F.kp T.f_law_put.b .nil pass0 (pa_cons (pv 6) (pa_cons (pv 9) (pa_cons (pe_call G_law_part_turned hr2 (by rfl) T.f_law_part_turned.g T.f_law_part_turned.F.kp T.f_law_part_turned.b .nil pass0 (pa_cons (pv 0) (pa_cons (pv 1) (pa_cons (pe_ix (Kit.ixT K) (pv 6) (pv 9) (fun _ _ => rfl)) pa_nil)))) pa_nil)))) pa_nil)))))))))))))))) rfl ?_
  try dsimp only [L2.cxOf, L2.Cx.nox]
  obtain ⟨t, r, pp, xs, rfl, ht, hrg, hpp, hxs⟩ := op_of hv
  have hxl := dps_len hxs
  rw [List.length_map] at hxl
  walk_at "wp"
  show sp_law_draw _ _ _ _
  refine use_draw hb (by decide) (by decide) fun pick H1 p0 p10 mb b1 => ?_
  have tk := tup_bag (K := K) hb mb
  have ht1 := tk _ _ ht
  have hr1 := tk _ _ hrg
  have hp1 := tk _ _ hpp
  have hx1 := dpsT tk _ _ (noLs_map pD noL_pD o.ps) hxs
  have hw1 := dpT tk _ _ (noL_op o1) hv1
  have hw2 := dpT tk _ _ (noL_op o2) hv2
  have hla1 := mb _ _ hlp hla
  clear ht hrg hpp hxs hv1 hv2 hla tk hb hv
  walk_at "wp"
  · refine ⟨p, r, m, o.regs, rfl, b1, m0, m1, hr1, ok.regIn, fun t2 rs2 H2 mb2 b2 s2 hin2 => ?_⟩
    have hp2 := tup_bagM mb2 b1 hp1
    have hx2 := dpsT (tup_bag b1 mb2) _ _ (noLs_map pD noL_pD o.ps) hx1
    walk_at "wp"
    rename_i q3 H3 n3 e3 f3
    obtain ⟨o', ok', hps, hdp⟩ := op_fin (Evl.st_of f3) (Evl.ex_t e3 s2) (Evl.ex_t e3 hp2) (dps_ex e3 _ _ hx2) hin2 ok.root ok.ps
    exact q _ o' H3 (mb.trans (mb2.trans (.of e3))) (b2.ex e3) hdp ok' (by rw [hps]; omega)
  · show sp_law_draw _ _ _ _
    refine use_draw b1 (by omega) (by omega) fun z H2 z0 z1 mb2 b2 => ?_
    have hr2 := tup_bagM mb2 b1 hr1
    have hp2 := tup_bagM mb2 b1 hp1
    have hx2 := dpsT (tup_bag b1 mb2) _ _ (noLs_map pD noL_pD o.ps) hx1
    walk_at "wp"
    rename_i q3 H3 n3 e3 f3
    obtain ⟨o', ok', hps, hdp⟩ := op_fin (Evl.st_of f3) (Evl.ex_t e3 hr2) (Evl.ex_t e3 hp2) (dps_ex e3 _ _ hx2) ok.regIn ⟨Int.emod_nonneg _ (by omega), Int.emod_lt_of_pos _ (by omega)⟩ ok.ps
    exact q _ o' H3 (mb.trans (mb2.trans (.of e3))) (b2.ex e3) hdp ok' (by rw [hps]; omega)
  · show sp_law_draw _ _ _ _
    refine use_draw b1 (by show (0 : Int) < 2; decide) (by show (2 : Int) < 2 ^ 250; decide) fun z H2 z0 z1 mb2 b2 => ?_
    have hla2 := mb2 _ _ hlp hla1
    obtain ⟨u, hu, hat⟩ := two_at (v1 := v1) (v2 := v2) z0 (by simpa using z1)
    refine Kit.w_ixL (Evl.sq_of hla2) hat ?_
    rcases hu with rfl | rfl
    · exact q _ o1 H2 (mb.trans mb2) b2 (dp_opT (tup_bag b1 mb2) hw1) ok1 (by omega)
    · exact q _ o2 H2 (mb.trans mb2) b2 (dp_opT (tup_bag b1 mb2) hw2) ok2 (by omega)
  · show sp_law_draw _ _ _ _
    refine use_draw b1 (by show (0 : Int) < 2; decide) (by show (2 : Int) < 2 ^ 250; decide) fun z H2 z0 z1 mb2 b2 => ?_
    have hla2 := mb2 _ _ hlp hla1
    obtain ⟨u, hu, hat⟩ := two_at (v1 := v1) (v2 := v2) z0 (by simpa using z1)
    obtain ⟨o3, ok3, hn3, hd3⟩ : ∃ o3 : Op, OpOk m o3 ∧ o3.ps.length ≤ 2 ∧ Dp K H2 u o3.data := by
      rcases hu with rfl | rfl
      · exact ⟨o1, ok1, hn1, dp_opT (tup_bag b1 mb2) hw1⟩
      · exact ⟨o2, ok2, hn2', dp_opT (tup_bag b1 mb2) hw2⟩
    have hr2 := tup_bagM mb2 b1 hr1
    have hp2 := tup_bagM mb2 b1 hp1
    have hx2 := dpsT (tup_bag b1 mb2) _ _ (noLs_map pD noL_pD o.ps) hx1
    obtain ⟨t3, r3, pp3, xs3, rfl, ht3, hr3', hp3, hx3⟩ := op_of hd3
    clear hw1 hw2 hx1 hr1 hp1 ht1 hla1 b1 hd3
    walk_at "wp"
    rename_i qa Ha na ea fa qb Hb nb eb fb qc Hc nc ec fc lq Hd nd' ed fd
    have EE := ((ea.trans eb).trans ec).trans ed
    show sp_law_draw _ _ _ _
    refine use_draw (b2.ex EE) (by decide) (by decide) fun y He y0 y1 mbe be => ?_
    have hlq := bagNe (((b2.ex ea).ex eb).ex ec) nd'
    obtain ⟨u3, hu3, hat3⟩ := tri_at (v1 := V.ref qa) (v2 := V.ref qb) (v3 := V.ref qc) y0 y1
    refine Kit.w_ixL (Evl.sq_of (mbe _ _ hlq fd)) hat3 ?_
    have tke := fun {a xs} (h : SqT K H2 a xs) => tup_bagM mbe (b2.ex EE) (Evl.ex_t EE h)
    have dke := fun {ps : List (Int × List Int)} {ys : List V} (h : DpAll K H2 ys (ps.map pD)) => dpsT (tup_bag (b2.ex EE) mbe) _ _ (noLs_map pD noL_pD ps) (dps_ex EE _ _ h)
    have sa := tup_bagM (K := K) mbe (b2.ex EE) (Evl.st_of (ed _ _ (ec _ _ (eb _ _ fa))))
    have sb := tup_bagM (K := K) mbe (b2.ex EE) (Evl.st_of (ed _ _ (ec _ _ fb)))
    have sc := tup_bagM (K := K) mbe (b2.ex EE) (Evl.st_of (ed _ _ fc))
    have M : Kit.ExBut p H He := ((mb.trans mb2).trans (.of EE)).trans mbe
    rcases hu3 with rfl | rfl | rfl
    · obtain ⟨o', ok', hps, hdp⟩ := op_fin sa (tke hr2) (tke hp3) (dke hx3) ok.regIn ok.root ok3.ps
      exact q _ o' He M be hdp ok' (by rw [hps]; omega)
    · obtain ⟨o', ok', hps, hdp⟩ := op_fin sb (tke hr2) (tke hp2) (dke hx2) ok.regIn ok3.root ok.ps
      exact q _ o' He M be hdp ok' (by rw [hps]; omega)
    · obtain ⟨o', ok', hps, hdp⟩ := op_fin sc (tke hr3') (tke hp2) (dke hx2) ok3.regIn ok.root ok.ps
      exact q _ o' He M be hdp ok' (by rw [hps]; omega)
  · rename_i p9 H9 n9 e9 f9
    refine w_repT (Evl.st_of f9) (by simp) (by decide) (by decide) (by simp) fun q2 H2 n2 e2 f2 => ?_
    have s2 : SqT K H2 q2 (iv (List.replicate 8 0)) := Evl.st_of f2
    walk_at "wp"
    rename_i q3 H3 n3 e3 f3 q4 H4 n4 e4 f4 q5 H5 n5 e5 f5
    have E5 := (((e9.trans e2).trans e3).trans e4).trans e5
    have dd : Dp K H5 (.ref q3) (pD (0, List.replicate 8 0)) := pD_in (Evl.st_of (e5 _ _ (e4 _ _ f3))) (Evl.ex_t (e3.trans (e4.trans e5)) s2)
    obtain ⟨o', ok', hps, hdp⟩ := op_fin (ps := [(0, List.replicate 8 0)]) (Evl.st_of f5) (Evl.ex_t E5 hr1) (Evl.st_of (e5 _ _ f4)) (.cons dd .nil) ok.regIn ok.root (fun p hp => by
      rw [List.mem_singleton.mp hp]
      exact ⟨⟨by decide, by decide⟩, rfl, fun z hz => by rw [(List.mem_replicate.mp hz).2]; exact ⟨Int.le_refl _, by omega⟩⟩)
    exact q _ o' H5 (mb.trans (.of E5)) (b1.ex E5) hdp ok' (by rw [hps]; simp)
  · rename_i hz0 _ _
    have hpos : 0 < xs.length := by omega
    show sp_law_draw _ _ _ _
    refine use_draw b1 (by omega) (by omega) fun z H2 z0 z1 mb2 b2 => ?_
    obtain ⟨j, rfl⟩ := Int.eq_ofNat_of_zero_le z0
    have hj : j < xs.length := by omega
    have hr2 := tup_bagM mb2 b1 hr1
    have hp2 := tup_bagM mb2 b1 hp1
    have hx2 := dpsT (tup_bag b1 mb2) _ _ (noLs_map pD noL_pD o.ps) hx1
    clear hw1 hw2 hx1 hr1 hp1 ht1 hla1
    walk_at "wp"
    · rename_i t3 H3 e3 s3 t4 H4 e4 s4
      rw [cutT (by omega)] at s3
      rw [show ((j : Int) + 1) = ((j + 1 : Nat) : Int) from rfl, cutD (by omega)] at s4
      refine Kit.w_catT (Evl.ex_t e4 s3) s4 (by rw [List.length_take, List.length_drop]; omega) fun t5 H5 e5 s5 => ?_
      walk_at "wp"
      rename_i t6 H6 e6 s6
      rw [cutTD hj] at s6
      have E26 := ((e3.trans e4).trans e5).trans e6
      refine Kit.w_catT (Evl.ex_t E26 hp2) s6 (by rw [List.length_take, List.length_drop]; omega) fun t7 H7 e7 s7 => ?_
      walk_at "wp"
      refine Kit.w_revT ?_
      walk_at "wp"
      refine ⟨rfl, pp, xs, rfl, Evl.ex_t (E26.trans e7) hp2, fun t8 n8 => ?_⟩
      have e8 : Evl.Ex H7 (upd H7 t8 (.tup xs.reverse)) := Evl.Ex.new n8
      have f8 : upd H7 t8 (.tup xs.reverse) t8 = some (.tup xs.reverse) := upd_same
      generalize upd H7 t8 (.tup xs.reverse) = H8 at e8 f8 ⊢
      have s8 : SqT K H8 t8 xs.reverse := Evl.st_of f8
      have E28 := (E26.trans e7).trans e8
      have s5' : SqT K H8 t5 (xs.take j ++ xs.drop (j + 1)) := Evl.ex_t (e6.trans (e7.trans e8)) s5
      have s7' : SqT K H8 t7 (xs ++ (xs.drop j).take 1) := Evl.ex_t e8 s7
      have hr8 := Evl.ex_t E28 hr2
      have hx8 := dps_ex E28 _ _ hx2
      have b8 := b2.ex E28
      have M8 : Kit.ExBut p H H8 := (mb.trans mb2).trans (.of E28)
      clear e3 e4 e5 e6 e7 e8 s3 s4 s5 s6 s7 f8 n8 E26 E28 hp2 hx2 hr2 b2
      walk_at "wp"
      rename_i l9 H9 n9 e9 f9
      show sp_law_draw _ _ _ _
      refine use_draw (b8.ex e9) (by decide) (by decide) fun y He y0 y1 mbe be => ?_
      obtain ⟨u3, hu3, hat3⟩ := tri_at (v1 := V.ref t5) (v2 := V.ref t7) (v3 := V.ref t8) y0 y1
      refine Kit.w_ixL (Evl.sq_of (mbe _ _ (bagNe b8 n9) f9)) hat3 ?_
      have Te : TKeep K H8 He := fun _ _ h => tup_bagM mbe (b8.ex e9) (Evl.ex_t e9 h)
      obtain ⟨u, ys, ps3, rfl, hsu, hdu, hpu, hlu⟩ : ∃ (u : Addr) (ys : List V) (ps3 : List (Int × List Int)), u3 = .ref u ∧ SqT K He u ys ∧ DpAll K He ys (ps3.map pD) ∧ (∀ z ∈ ps3, z ∈ o.ps) ∧ ps3.length ≤ n + 1 := by
        have hxe := dpsT Te _ _ (noLs_map pD noL_pD o.ps) hx8
        rcases hu3 with rfl | rfl | rfl
        · refine ⟨t5, _, o.ps.take j ++ o.ps.drop (j + 1), rfl, Te _ _ s5', ?_, fun z hz => ?_, by rw [List.length_append, List.length_take, List.length_drop]; omega⟩
          · rw [List.map_append, List.map_take, List.map_drop]
            exact dps_app (dps_take _ hxe) (dps_drop _ hxe)
          · rcases List.mem_append.mp hz with h | h
            · exact List.mem_of_mem_take h
            · exact List.mem_of_mem_drop h
        · refine ⟨t7, _, o.ps ++ (o.ps.drop j).take 1, rfl, Te _ _ s7', ?_, fun z hz => ?_, by rw [List.length_append, List.length_take, List.length_drop]; omega⟩
          · rw [List.map_append, List.map_take, List.map_drop]
            exact dps_app hxe (dps_take _ (dps_drop _ hxe))
          · rcases List.mem_append.mp hz with h | h
            · exact h
            · exact List.mem_of_mem_drop (List.mem_of_mem_take h)
        · refine ⟨t8, _, o.ps.reverse, rfl, Te _ _ s8, ?_, fun z hz => List.mem_reverse.mp hz, by rw [List.length_reverse]; omega⟩
          rw [List.map_reverse]
          exact dps_rev hxe
      have hre := Te _ _ hr8
      walk_at "wp"
      rename_i q10 H10 n10 e10 f10
      obtain ⟨o', ok', hps, hdp⟩ := op_fin (Evl.st_of f10) (Evl.ex_t e10 hre) (Evl.ex_t e10 hsu) (dps_ex e10 _ _ hdu) ok.regIn ok.root (fun z hz => ok.ps z (hpu z hz))
      exact q _ o' H10 ((M8.trans (.of e9)).trans (mbe.trans (.of e10))) (be.ex e10) hdp ok' (by rw [hps]; exact hlu)
    · obtain ⟨pj, hpj⟩ : ∃ pj, o.ps[j]? = some pj := ⟨_, List.getElem?_eq_getElem (by omega)⟩
      have hxj : xs[j]? = some xs[j] := List.getElem?_eq_getElem hj
      obtain ⟨d, hd1, hd2⟩ := dps_at hx2 hxj
      rw [List.getElem?_map, hpj] at hd1
      cases hd1
      obtain ⟨t3, a3, e3, ht3, ha3⟩ := pD_of hd2
      obtain ⟨hw, hl, hdg⟩ := ok.ps pj (List.mem_of_getElem? hpj)
      refine Kit.w_ixT hp2 (L2.atI_nat hxj) ?_
      rw [e3]
      walk_at "wp"
      refine ⟨p, t3, a3, m, pj.1, pj.2, rfl, b2, m0, m1, ht3, ha3, hw, hl, hdg, fun t4 a4 w4 pth4 H3 mb3 b3 s4 s5 hw4 hl4 hdg4 => ?_⟩
      have Te : TKeep K H2 H3 := tup_bag b2 mb3
      walk_at "wp"
      refine ⟨pp, j, xs, .ref t4, rfl, Te _ _ hp2, hj, by omega, fun t5 H4 e4 s6 => ?_⟩
      walk_at "wp"
      rename_i q6 H6 n6 e6 f6
      have hx6 : DpAll K H6 (xs.set j (.ref t4)) ((o.ps.set j (w4, pth4)).map pD) := by
        rw [List.map_set]
        exact dps_set (dps_ex (e4.trans e6) _ _ (dpsT Te _ _ (noLs_map pD noL_pD o.ps) hx2)) (pD_in (Evl.ex_t (e4.trans e6) s4) (Evl.ex_t (e4.trans e6) s5))
      obtain ⟨o', ok', hps, hdp⟩ := op_fin (Evl.st_of f6) (Evl.ex_t (e4.trans e6) (Te _ _ hr2)) (Evl.ex_t e6 s6) hx6 ok.regIn ok.root (fun z hz => by
        rcases List.mem_or_eq_of_mem_set hz with h | rfl
        · exact ok.ps z h
        · exact ⟨hw4, hl4, hdg4⟩)
      exact q _ o' H6 (((mb.trans mb2).trans mb3).trans (.of (e4.trans e6))) (b3.ex (e4.trans e6)) hdp ok' (by rw [hps, List.length_set]; omega)

/-! ### only the state's own opening is taken, or two texts have one digest -/
theorem openB_op {m : Int} {o : Op} (h : OpOk m o) : openB m o.data = true := by
  have h1 := h.pc
  have h2 := h.acc
  have h3 := h.x
  have h4 := h.mark
  have h5 := h.out
  have h6 := h.count
  have h7 := h.root
  unfold IsW at h2 h3
  unfold Dg at h5 h7
  show ((inI (.int o.pc) 0 255 && (inI (.int o.acc) 0 65535 && (inI (.int o.x) 0 65535 && (inI (.int o.mark) 0 6 && (inI (.int o.out) 0 (m - 1) && inI (.int o.count) 0 16))))) && (inI (.int o.root) 0 (m - 1) && (o.ps.map pD).all (partB m))) = true
  rw [inI_t (by omega), inI_t (by omega), inI_t (by omega), inI_t (by omega), inI_t (by omega), inI_t (by omega), inI_t (by omega), Bool.true_and, Bool.true_and, Bool.true_and, Bool.true_and, Bool.true_and, Bool.true_and, Bool.true_and, List.all_eq_true]
  intro d hd
  obtain ⟨p, hp, rfl⟩ := List.mem_map.mp hd
  obtain ⟨hw, hl, hdg⟩ := h.ps p hp
  unfold IsW at hw
  show (inI (.int p.1) 0 65535 && (decide ((p.2.map PyData.int).length = 8) && (p.2.map PyData.int).all fun d => inI d 0 (m - 1))) = true
  rw [inI_t (by omega), decide_eq_true (by rw [List.length_map]; exact hl), Bool.true_and, Bool.true_and, List.all_eq_true]
  intro d hd
  obtain ⟨i, hi, rfl⟩ := List.mem_map.mp hd
  have := hdg i hi
  unfold Dg at this
  exact inI_t (by omega)
theorem op_few {o : Op} (h : o.ps.length ≤ 100) : fewB o.data = true := by
  show decide ((o.ps.map pD).length ≤ 40000) = true
  rw [List.length_map]
  exact decide_eq_true (by omega)
theorem part_only {m : Int} {l : List Tx} {s : MSt} {k : Int} {p : Int × List Int} (ok : SOk m s) (hm : ∀ t ∈ memX m s.mem, t ∈ l) (k0 : 0 ≤ k) (k1 : k < 256) (hl : p.2.length = 8) (e : KM.rootBy (foldI m) k.toNat (leafI m p.1) p.2 = memRoot m s.mem)
    (t1 : Tx.lf p.1 ∈ l) (t2 : ∀ y ∈ pathF (foldI m) k.toNat (leafI m p.1) p.2, Tx.fd y.1 y.2 ∈ l) : p = (s.at k, memPath m s.mem k.toNat) ∨ Coll m l := by
  have h8 : (s.mem.map (leafI m)).length = 2 ^ 8 := by rw [List.length_map, ok.len]
  have hk : k.toNat < s.mem.length := by rw [ok.len]; omega
  have hv : (s.mem.map (leafI m))[k.toNat]? = some (leafI m (s.at k)) := by
    rw [List.getElem?_map]
    unfold MSt.at
    rw [List.getElem?_eq_getElem hk]
    rfl
  have hlf : Tx.lf (s.at k) ∈ l := by
    refine hm _ (List.mem_append_left _ (List.mem_map.mpr ⟨s.at k, ?_, rfl⟩))
    unfold MSt.at
    rw [List.getElem?_eq_getElem hk]
    exact List.getElem_mem hk
  rcases opens 8 _ k.toNat (leafI m p.1) p.2 _ h8 hl hv e with ⟨h1, h2⟩ | ⟨a, b, ha, hb, hn, hf⟩
  · by_cases h : p.1 = s.at k
    · exact .inl (Prod.ext h h2)
    · exact .inr (coll_lf t1 hlf h h1)
  · exact .inr (coll_fd (hm _ (List.mem_append_right _ (by rw [treeX_treeF]; exact List.mem_map.mpr ⟨a, ha, rfl⟩))) (t2 b hb) hn hf)
theorem zip_all {α β : Type} {f : α → β} {C : Prop} : ∀ {as : List α} {bs : List β}, bs.length = as.length → (∀ kp ∈ as.zip bs, kp.2 = f kp.1 ∨ C) → bs = as.map f ∨ C
  | [], [], _, _ => .inl rfl
  | [], _ :: _, h, _ => by cases h
  | _ :: _, [], h, _ => by cases h
  | a :: as, b :: bs, h, hh => by
    rcases hh (a, b) (List.mem_cons_self) with h1 | h1
    · rcases zip_all (as := as) (bs := bs) (by simpa using h) (fun kp hkp => hh kp (List.mem_cons_of_mem _ hkp)) with h2 | h2
      · exact .inl (by rw [List.map_cons, ← h2]; have h1 : b = f a := h1; rw [h1])
      · exact .inr h2
    · exact .inr h1
theorem op_ext {o o' : Op} (h1 : o.regs = o'.regs) (h2 : o.root = o'.root) (h3 : o.ps = o'.ps) : o = o' := by
  obtain ⟨a, b, c, d, e, f, g, ps⟩ := o
  obtain ⟨a', b', c', d', e', f', g', ps'⟩ := o'
  simp only [Op.regs, List.cons.injEq, and_true] at h1
  obtain ⟨rfl, rfl, rfl, rfl, rfl, rfl⟩ := h1
  have h2 : g = g' := h2
  have h3 : ps = ps' := h3
  rw [h2, h3]
theorem plcs_head (pc x w : Int) : ∃ r, plcs pc x w = pc :: r := by
  unfold plcs
  split
  · exact ⟨_, rfl⟩
  · exact ⟨_, rfl⟩
theorem open_only {m : Int} {l : List Tx} {s : MSt} {o : Op} (ok : SOk m s) (oo : OpOk m o) (hs : stX m s ∈ l) (hm : ∀ t ∈ memX m s.mem, t ∈ l) (ho : Tx.st (o.regs ++ [o.root]) ∈ l) (ht : o.mark = 0 → o.told m l)
    (e : stateI m (o.regs ++ [o.root]) = digestM m s) (g : o.good m) : o = opOf m s ∨ Coll m l := by
  by_cases h : o.regs ++ [o.root] = regsI s ++ [memRoot m s.mem]
  · have h1 : o.regs = regsI s ∧ [o.root] = [memRoot m s.mem] := List.append_inj h rfl
    have hr : o.root = memRoot m s.mem := by injection h1.2
    have hregs := h1.1
    simp only [Op.regs, regsI, List.cons.injEq, and_true] at hregs
    obtain ⟨epc, _, ex, emark, _, _⟩ := hregs
    have fin : o.ps = (opOf m s).ps → o = opOf m s := fun z => op_ext h1.1 hr z
    by_cases hmk : s.mark = 0
    · have hmo : o.mark = 0 := by rw [emark]; exact hmk
      unfold Op.good at g
      rw [if_pos hmo] at g
      have ht := ht hmo
      unfold Op.fits at g
      unfold Op.told Op.word at ht
      rcases hps : o.ps with _ | ⟨⟨w0, p0⟩, r⟩
      · rw [hps] at g; exact g.elim
      · rw [hps] at g ht
        have g : (((w0, p0) :: r).length = (plcs o.pc o.x w0).length) ∧ ∀ kp ∈ (plcs o.pc o.x w0).zip ((w0, p0) :: r), KM.rootBy (foldI m) kp.1.toNat (leafI m kp.2.1) kp.2.2 = o.root := g
        have ht : ∀ kp ∈ (plcs o.pc o.x w0).zip ((w0, p0) :: r), Tx.lf kp.2.1 ∈ l ∧ ∀ y ∈ pathF (foldI m) kp.1.toNat (leafI m kp.2.1) kp.2.2, Tx.fd y.1 y.2 ∈ l := ht
        have key : ∀ kp ∈ (plcs o.pc o.x w0).zip ((w0, p0) :: r), kp.2 = (s.at kp.1, memPath m s.mem kp.1.toNat) ∨ Coll m l := fun kp hkp => by
          obtain ⟨t1, t2⟩ := ht kp hkp
          have hz := List.of_mem_zip hkp
          obtain ⟨k0, k1⟩ := plcs_in oo kp.1 hz.1
          have hin : kp.2 ∈ o.ps := by rw [hps]; exact hz.2
          exact part_only ok hm k0 k1 (oo.ps _ hin).2.1 (by rw [g.2 kp hkp, hr]) t1 t2
        obtain ⟨pr, hpr⟩ := plcs_head o.pc o.x w0
        rcases key (o.pc, (w0, p0)) (by rw [hpr]; exact List.mem_cons_self) with h0 | h0
        · have hw : w0 = s.at s.pc := by
            have := congrArg Prod.fst h0
            rw [← epc]
            exact this
          rcases zip_all (f := fun k => (s.at k, memPath m s.mem k.toNat)) g.1 key with h2 | h2
          · refine .inl (fin ?_)
            rw [hps, h2, epc, ex, hw, ← plsI_go hmk]
            rfl
          · exact .inr h2
        · exact .inr h0
    · have hmo : ¬ o.mark = 0 := by rw [emark]; exact hmk
      unfold Op.good at g
      rw [if_neg hmo] at g
      refine .inl (fin ?_)
      rw [g]
      unfold opOf plsI
      rw [if_neg hmk]
      rfl
  · exact .inr (coll_st ho hs h e)

theorem kIndexL (K : PySem.W.Frag) {X : Cx} (h : X.K = K := by rfl) : MtR X "list.index" (rIndex K) := h ▸ mt_index

def sp_told (P : Program) (w : World) (K : PySem.W.Frag) (C CB : Addr) : Sp := fun vs H Q _ => ∃ (g pb : Addr) (m D : Int) (v : V) (o : Op) (l : List Tx), vs = [.ref g, .int D, v] ∧ DigB C H g pb m ∧ BkG P w CB H pb m l ∧ l.length ≤ 79000 ∧ 100 < m ∧ Dp K H v o.data ∧ OpOk m o ∧ o.ps.length ≤ 100 ∧
  ((stateI m (o.regs ++ [o.root]) = D ∧ o.good m) → ∀ t H' l', Kit.KeepE pb H H' → BkG P w CB H' pb m l' → Gr l l' 80 → Tx.st (o.regs ++ [o.root]) ∈ l' → (o.mark = 0 → o.told m l') → H' t = some (.lst [.int (o.next m D)]) → Q (.ref t) H') ∧
  (¬ (stateI m (o.regs ++ [o.root]) = D ∧ o.good m) → ∀ t H' l', Kit.KeepE pb H H' → BkG P w CB H' pb m l' → Gr l l' 80 → H' t = some (.lst []) → Q (.ref t) H')
theorem ok_law_told (T : Txt K mg) : FnOk P w K mg base CX0 8 T.f_law_told.f T.f_law_told.fd ["digests", "digest", "opening"] (sp_told P w K T.c_Digests.C T.c_Book.C) := by
  have G_step_of := ok_step_of (P := P) (w := w) (base := base) T
  refine T.f_law_told.F.ok sc_law_told (fun vs H Q E h => ?_) (fun cdv A outer s H vs Q E hr h => ?_)
  · obtain ⟨g, pb, m, D, v, o, l, rfl, hd, hb, hl, m1, hv, ok, hn, q1, q2⟩ := h
    rfl
  obtain ⟨g, pb, m, D, v, o, l, rfl, hd, hb, hl, m1, hv, ok, hn, q1, q2⟩ := h
  have nd := sc_law_told.nd
  have hr7 : Room 7 _ := hr.mono (by decide)
  refine Kit.ok_body (σ := [some _, some _, some _, none]) ((pss_one (Kit.ps_try_hs (tb := fun W => _) (Wout := fun _ _ _ _ => False) rfl rfl takes0 (fun W pn xe tk po => (pss_one (ps_ret (pe_lst (pa_cons (pe_callS G_step_of hr7 (by rfl) T.f_step_of.g T.f_step_of.F.kp T.f_step_of.b (fun σ => passAt tk σ) (pa_cons (pv 0) (pa_cons (pv 1) (pa_cons (pv 2) pa_nil)))) pa_nil)))))
    (.named (i := 3) nd rfl rfl ⟨rfl, by decide, Or.inl T.e_CourtError.g⟩ (fun a oe cls d pn hz hf => (pss_cons (ps_if (pt_val (pe_callB (Kit.call_isX T.x_BadOpening hz hf) (by rfl) T.z_isinstance (by decide +kernel) (pa_cons (pv 3) (pa_cons (pe_glob (v := .ref T.e_BadOpening.C) rfl T.e_BadOpening.g rfl) pa_nil))))
    (pss_one (ps_ret (pe_lst pa_nil)))
    pss_nil)
    (pss_one (ps_ret (pe_lst (pa_cons pe_non (pa_cons pe_non pa_nil))))))) .nil)))) rfl ?_
  refine Kit.m_tryL ?_
  walk_at "wp"
  refine ⟨g, pb, m, D, v, o.data, l, rfl, hd, hb, hl, m1, hv, op_few hn, .inr ⟨o, rfl, ok, openB_op ok, fun h H' l' k b x t1 t2 => ?_, fun h H' l' k b x => ?_⟩⟩
  · refine Kit.w_new (by decide) fun t H2 n e f => ?_
    exact q1 h t H2 l' (k.trans (.of e)) (b.exE e) x t1 t2 f
  · refine Kit.wh_as T.p_BadOpening_CourtError fun a na => ?_
    walk_at "wp"
    refine Kit.w_isX ?_
    walk_at "wp"
    rename_i t H2 n e f
    exact q2 h t H2 l' (k.trans (.of e)) (b.exE e) x f
/-! ### == of openings -/
theorem eqv_pD {p q : Int × List Int} (h : PyData.eqv (pD p) (pD q) = true) : p = q := by
  have h : PyData.eqvAll [.int p.1, .tuple (p.2.map PyData.int)] [.int q.1, .tuple (q.2.map PyData.int)] = true := by
    unfold pD at h
    rw [PyData.eqv] at h
    exact h
  rw [PyData.eqvAll, PyData.eqvAll, PyData.eqvAll, PyData.eqv, PyData.eqv, ← flat_int, ← flat_int, Kit.eqvAll_ints] at h
  simp only [Bool.and_true, Bool.and_eq_true, beq_iff_eq, decide_eq_true_eq] at h
  exact Prod.ext h.1 h.2
theorem eqvAll_pD : ∀ {ps qs : List (Int × List Int)}, PyData.eqvAll (ps.map pD) (qs.map pD) = true → ps = qs
  | [], [], _ => rfl
  | [], q :: qs, h => by
    rw [List.map_nil, List.map_cons, PyData.eqvAll] at h
    cases h
  | p :: ps, [], h => by
    rw [List.map_nil, List.map_cons, PyData.eqvAll] at h
    cases h
  | p :: ps, q :: qs, h => by
    rw [List.map_cons, List.map_cons, PyData.eqvAll, Bool.and_eq_true] at h
    rw [eqv_pD h.1, eqvAll_pD h.2]
theorem op_eqv {o o' : Op} (h : PyData.eqv o.data o'.data = true) : o = o' := by
  have h : PyData.eqvAll [.tuple (o.regs.map PyData.int), .int o.root, .tuple (o.ps.map pD)] [.tuple (o'.regs.map PyData.int), .int o'.root, .tuple (o'.ps.map pD)] = true := by
    unfold Op.data at h
    rw [PyData.eqv] at h
    exact h
  rw [PyData.eqvAll, PyData.eqvAll, PyData.eqvAll, PyData.eqvAll, PyData.eqv, PyData.eqv, PyData.eqv, ← flat_int, ← flat_int, Kit.eqvAll_ints] at h
  simp only [Bool.and_true, Bool.and_eq_true, beq_iff_eq, decide_eq_true_eq] at h
  exact op_ext h.1 h.2.1 (eqvAll_pD h.2.2)
theorem shA_map {α : Type} {n : Nat} (f : α → PyData) (h : ∀ a, Sh n (f a)) : ∀ l : List α, ShA n (l.map f)
  | [] => ShA.nil
  | a :: l => ShA.cons (h a) (shA_map f h l)
theorem sh_itup {n : Nat} (r : List Int) : Sh (n + 1) (.tuple (r.map PyData.int)) := Sh.tup (by rw [← flat_int]; exact ShA.ints r)
theorem sh_op {o : Op} : Sh 60 o.data := Sh.mono (n := 4) (Sh.tup (n := 3) (ShA.cons (Sh.mono (n := 1) (sh_itup _) (by decide)) (ShA.cons (Sh.int _) (ShA.cons (Sh.tup (n := 2) (shA_map pD (fun p => Sh.tup (n := 1) (ShA.cons (Sh.int _) (ShA.cons (sh_itup (n := 0) _) ShA.nil))) _)) ShA.nil)))) (by decide)
/-! ### the law's state -/
structure Inv21 (P : Program) (w : World) (K : PySem.W.Frag) (C CM CD CB : Addr) (H : Hp) (p g pb mp mp2 : Addr) (F F2 : List Addr) (m : Int) (s s2 : MSt) (l : List Tx) : Prop where
  b : Bag5 H p
  M : MacAt K C CM H mp F g m s
  M2 : MacAt K C CM H mp2 F2 g m s2
  ok : SOk m s
  ok2 : SOk m s2
  D : DigB CD H g pb m
  B : BkG P w CB H pb m l
  hm : ∀ t ∈ memX m s.mem, t ∈ l
  nF : p ∉ F
  nF2 : p ∉ F2
  dis : ∀ x ∈ F2, x ∉ F
section
variable {P : Program} {w : World} {K : PySem.W.Frag} {C CM CD CB : Addr} {H H' : Hp} {p g pb mp mp2 : Addr} {F F2 : List Addr} {m : Int} {s s2 : MSt} {l l' : List Tx}
theorem Bag5.lst (b : Bag5 H p) : ∃ xs, H p = some (.lst xs) := let ⟨_, _, _, _, _, h, _⟩ := b; ⟨_, h⟩
theorem Bag5.keep {m2 : Int} (b : Bag5 H p) (B : BkG P w CB H pb m2 l) (k : Kit.KeepE pb H H') : Bag5 H' p := let ⟨r, s, c0, c, cs, h1, h2, h3, h4⟩ := b; ⟨r, s, c0, c, cs, keep_lst B k h1, keep_lst B k h2, h3, h4⟩
theorem one_kind {a : Addr} {xs : List V} (h : H a = some (.lst xs)) : KindF [a] H := fun x hx => by rw [List.mem_singleton.mp hx]; exact .inl ⟨_, h⟩
theorem not_one {a : Addr} {F : List Addr} (h : a ∉ F) : ∀ x ∈ F, x ∉ [a] := fun x hx z => h (List.mem_singleton.mp z ▸ hx)
theorem Inv21.ex (I : Inv21 P w K C CM CD CB H p g pb mp mp2 F F2 m s s2 l) (e : Evl.Ex H H') : Inv21 P w K C CM CD CB H' p g pb mp mp2 F F2 m s s2 l :=
  ⟨I.b.ex e, I.M.exE e, I.M2.exE e, I.ok, I.ok2, I.D.keep (.of e), I.B.exE e, I.hm, I.nF, I.nF2, I.dis⟩
theorem Inv21.draw (I : Inv21 P w K C CM CD CB H p g pb mp mp2 F F2 m s s2 l) (e : Kit.ExBut p H H') (b : Bag5 H' p) : Inv21 P w K C CM CD CB H' p g pb mp mp2 F F2 m s s2 l := by
  obtain ⟨xs, hp⟩ := I.b.lst
  exact ⟨b, I.M.by (ExBy.len1 e (by simp)) (one_kind hp) (not_one I.nF), I.M2.by (ExBy.len1 e (by simp)) (one_kind hp) (not_one I.nF2), I.ok, I.ok2, I.D.but e hp, I.B.but e hp, I.hm, I.nF, I.nF2, I.dis⟩
theorem Inv21.keep (I : Inv21 P w K C CM CD CB H p g pb mp mp2 F F2 m s s2 l) (k : Kit.KeepE pb H H') (B : BkG P w CB H' pb m l') (x : ∀ t ∈ l, t ∈ l') : Inv21 P w K C CM CD CB H' p g pb mp mp2 F F2 m s s2 l' :=
  ⟨I.b.keep I.B k, I.M.keep I.B k, I.M2.keep I.B k, I.ok, I.ok2, I.D.keep k, B, fun t h => x t (I.hm t h), I.nF, I.nF2, I.dis⟩
theorem Inv21.step (I : Inv21 P w K C CM CD CB H p g pb mp mp2 F F2 m s s2 l) (m1 : 100 < m) (k : KeepF pb F H H') (M : MacAt K C CM H' mp F g m (s.stepM m)) (B : BkG P w CB H' pb m l') (hm : ∀ t ∈ memX m (s.stepM m).mem, t ∈ l') : Inv21 P w K C CM CD CB H' p g pb mp mp2 F F2 m (s.stepM m) s2 l' := by
  have kd := I.M.kind
  obtain ⟨_, _, _, hpb⟩ := I.B.pbI
  have lstK : ∀ {a : Addr} {xs : List V}, a ∉ F → H a = some (.lst xs) → H' a = some (.lst xs) := fun {a xs} n h => k.1 a _ (by rintro rfl; rw [hpb] at h; cases h) n h rfl
  have b' : Bag5 H' p := by
    obtain ⟨r, s0, c0, c, cs, h1, h2, h3, h4⟩ := I.b
    by_cases hc : c ∈ F
    · obtain ⟨ns', h⟩ := I.M.cells M c hc cs h2
      exact ⟨r, s0, c0, c, ns', lstK I.nF h1, h, h3, h4⟩
    · exact ⟨r, s0, c0, c, cs, lstK I.nF h1, lstK hc h2, h3, h4⟩
  have hdF := I.M.digB I.D
  have D' : DigB CD H' g pb m := let ⟨⟨dx, b, h⟩, a, c, n⟩ := I.D; ⟨⟨dx, b, k.1 g _ n hdF h rfl⟩, a, c, n⟩
  exact ⟨b', M, I.M2.keepF I.B k kd I.dis, I.ok.step m1, I.ok2, D', B, hm, I.nF, I.nF2, I.dis⟩
end
def bitsE : List Int := [61, 61, 31, 13, 7]
def msEV : List V := [.int (2 ^ (61 : Int).toNat - 1), .int (2 ^ (61 : Int).toNat - 1), .int (2 ^ (31 : Int).toNat - 1), .int (2 ^ (13 : Int).toNat - 1), .int (2 ^ (7 : Int).toNat - 1)]
theorem bitsE_ix {z : Int} (h : z ∈ bitsE) : IsBits z ∧ ∃ j : Nat, bitsE[j]? = some z ∧ (∀ m : Nat, m < j → bitsE[m]? ≠ some z) ∧ atI msEV (j : Int) = some (.int (2 ^ z.toNat - 1)) := by
  simp only [bitsE, List.mem_cons, List.not_mem_nil, or_false] at h
  rcases h with rfl | rfl | rfl | rfl | rfl
  · exact ⟨.b61, 0, rfl, fun m hm => absurd hm (Nat.not_lt_zero m), L2.atI_nat (j := 0) rfl⟩
  · exact ⟨.b61, 0, rfl, fun m hm => absurd hm (Nat.not_lt_zero m), L2.atI_nat (j := 0) rfl⟩
  · exact ⟨.b31, 2, rfl, fun m hm => (by decide : ∀ m : Fin 2, bitsE[m.1]? ≠ some 31) ⟨m, hm⟩, L2.atI_nat (j := 2) rfl⟩
  · exact ⟨.b13, 3, rfl, fun m hm => (by decide : ∀ m : Fin 3, bitsE[m.1]? ≠ some 13) ⟨m, hm⟩, L2.atI_nat (j := 3) rfl⟩
  · exact ⟨.b7, 4, rfl, fun m hm => (by decide : ∀ m : Fin 4, bitsE[m.1]? ≠ some 7) ⟨m, hm⟩, L2.atI_nat (j := 4) rfl⟩

theorem use_told {P : Program} {w : World} {K : PySem.W.Frag} {C CB : Addr} {H : Hp} {Q : VK} {E : XK} {g pb : Addr} {m D : Int} {v : V} {o : Op} {l : List Tx} (hd : DigB C H g pb m) (hb : BkG P w CB H pb m l) (hl : l.length ≤ 79000) (m1 : 100 < m) (hv : Dp K H v o.data) (ok : OpOk m o) (hn : o.ps.length ≤ 100)
    (q : ∀ t H' l' (tl : List Int), Kit.KeepE pb H H' → BkG P w CB H' pb m l' → Gr l l' 80 → tl.length ≤ 1 → ((stateI m (o.regs ++ [o.root]) = D ∧ o.good m) → tl = [o.next m D] ∧ Tx.st (o.regs ++ [o.root]) ∈ l' ∧ (o.mark = 0 → o.told m l')) → (¬ (stateI m (o.regs ++ [o.root]) = D ∧ o.good m) → tl = []) →
      H' t = some (.lst (tl.map V.int)) → Q (.ref t) H') : sp_told P w K C CB [.ref g, .int D, v] H Q E :=
  ⟨g, pb, m, D, v, o, l, rfl, hd, hb, hl, m1, hv, ok, hn, fun h t H' l' k b x t1 t2 f => q t H' l' [o.next m D] k b x (Nat.le_refl _) (fun _ => ⟨rfl, t1, t2⟩) (fun n => absurd h n) f,
   fun h t H' l' k b x f => q t H' l' [] k b x (Nat.zero_le _) (fun a => absurd a h) (fun _ => rfl) f⟩
def Lp21 (P : Program) (w : World) (K : PySem.W.Frag) (C CM CD CB : Addr) (a p : Addr) (b : Int) (g pb mp mp2 : Addr) (F F2 : List Addr) (m : Int) (s2 : MSt) (i : Nat) (σ : L2.St) (H : Hp) : Prop := ∃ (y8 : Option V) (s : MSt) (l : List Tx),
  σ = [some (.ref a), some (.ref p), some (.int b), some (.int m), some (.ref pb), some (.ref g), some (.ref mp), some (.ref mp2), y8, none, none, none, none, none] ∧ Inv21 P w K C CM CD CB H p g pb mp mp2 F F2 m s s2 l ∧ l.length ≤ 1100 + 20 * i
def Lq21 (P : Program) (w : World) (K : PySem.W.Frag) (C CM CD CB : Addr) (a p : Addr) (b : Int) (g pb mp mp2 : Addr) (F F2 : List Addr) (m : Int) (s s2 : MSt) (v0 v1 v2 : V) (la : Addr) (D : Int) (i : Nat) (σ : L2.St) (H : Hp) : Prop := ∃ (y8 y12 y13 : Option V) (l : List Tx),
  σ = [some (.ref a), some (.ref p), some (.int b), some (.int m), some (.ref pb), some (.ref g), some (.ref mp), some (.ref mp2), y8, some v0, some (.int D), some (.ref la), y12, y13] ∧ Inv21 P w K C CM CD CB H p g pb mp mp2 F F2 m (s.stepM m) s2 l ∧ l.length ≤ 4000 + 200 * i ∧ stX m s ∈ l ∧ (∀ t ∈ memX m s.mem, t ∈ l) ∧
  Dp K H v0 (openD m s) ∧ Dp K H v1 (openD m (s.stepM m)) ∧ Dp K H v2 (openD m s2) ∧ H la = some (.lst [v1, v2]) ∧ la ≠ p
local macro_rules | `(tactic| walk_at "wp1") => `(tactic| ((with_reducible show Kit.MakeOf _ (sp_Book_init _) _ _ _ _); refine use_Book (P := P) (w := w) ?_; intro _ _ _ _ _))
theorem ok_law (T : Txt K mg) : FnOk P w K mg base CX0 9 T.f_law.f T.f_law.fd ["script"] (sp_law K) := by
  have G_Book___init := ok_Book___init (P := P) (w := w) (base := base) T
  have G_Book_has_collision := ok_Book_has_collision (P := P) (w := w) (base := base) T
  have G_Digests___init := ok_Digests___init (P := P) (w := w) (base := base) T
  have G_Machine___init := ok_Machine___init (P := P) (w := w) (base := base) T
  have G_Machine_digest := ok_Machine_digest (P := P) (w := w) (base := base) T
  have G_Machine_step := ok_Machine_step (P := P) (w := w) (base := base) T
  have G_law_bag := ok_law_bag (P := P) (w := w) (base := base) T
  have G_law_draw := ok_law_draw (P := P) (w := w) (base := base) T
  have G_law_start := ok_law_start (P := P) (w := w) (base := base) T
  have G_law_told := ok_law_told (P := P) (w := w) (base := base) T
  have G_law_turned := ok_law_turned (P := P) (w := w) (base := base) T
  have G_law_words := ok_law_words (P := P) (w := w) (base := base) T
  have G_opened := ok_opened (P := P) (w := w) (base := base) T
  refine T.f_law.F.ok sc_law (fun vs H Q E h => ?_) (fun cdv A outer s H vs Q E hr h => ?_)
  · obtain ⟨a, ns, rfl, hS, hns, q⟩ := h
    rfl
  obtain ⟨a, ns, rfl, hS, hns, q⟩ := h
  have nd := sc_law.nd
  have hr1 : Room 1 _ := hr.mono (by decide)
  have hr2 : Room 2 _ := hr.mono (by decide)
  have hr3 : Room 3 _ := hr.mono (by decide)
  have hr4 : Room 4 _ := hr.mono (by decide)
  have hr6 : Room 6 _ := hr.mono (by decide)
  have hr7 : Room 7 _ := hr.mono (by decide)
  have hr8 : Room 8 _ := hr.mono (by decide)
  refine Kit.ok_body (σ := [some _, none, none, none, none, none, none, none, none, none, none, none, none, none]) ((pss_cons (ps_set (i := 1) nd rfl (Or.inl rfl) (pe_call G_law_bag hr1 (by rfl) T.f_law_bag.g T.f_law_bag.F.kp T.f_law_bag.b .nil pass0 (pa_cons (pv 0) pa_nil)))
    (pss_cons (ps_set (i := 2) nd rfl (Or.inl rfl) (pe_ix (Kit.ixL K) (pe_lst (pa_cons pe_int (pa_cons pe_int (pa_cons pe_int (pa_cons pe_int (pa_cons pe_int pa_nil)))))) (pe_call G_law_draw hr1 (by rfl) T.f_law_draw.g T.f_law_draw.F.kp T.f_law_draw.b .nil pass0 (pa_cons (pv 1) (pa_cons pe_int pa_nil))) (fun _ _ => rfl)))
    (pss_cons (ps_set (i := 3) nd rfl (Or.inl rfl) (pe_ix (Kit.ixL K) (pe_lst (pa_cons (pe_op op_sub (pe_op op_pow pe_int pe_int) pe_int) (pa_cons (pe_op op_sub (pe_op op_pow pe_int pe_int) pe_int) (pa_cons (pe_op op_sub (pe_op op_pow pe_int pe_int) pe_int) (pa_cons (pe_op op_sub (pe_op op_pow pe_int pe_int) pe_int) (pa_cons (pe_op op_sub (pe_op op_pow pe_int pe_int) pe_int) pa_nil)))))) (pe_bm PySem.F.plainAttrs_list PySem.F.slot_list_index PySem.F.type_list_index (kIndexL K) (pe_lst (pa_cons pe_int (pa_cons pe_int (pa_cons pe_int (pa_cons pe_int (pa_cons pe_int pa_nil)))))) (pa_cons (pv 2) pa_nil)) (fun _ _ => rfl)))
    (pss_cons (ps_set (i := 4) nd rfl (Or.inl rfl) (pe_make0 T.c_Book.M G_Book___init hr2 (by rfl) T.c_Book.g T.f_Book___init.b .nil pass0))
    (pss_cons (ps_set (i := 5) nd rfl (Or.inl rfl) (pe_make T.c_Digests.M G_Digests___init hr2 (by rfl) T.c_Digests.g T.f_Digests___init.b .nil pass0 (pa_cons (pv 2) (pa_cons (pv 4) pa_nil))))
    (pss_cons (ps_set (i := 6) nd rfl (Or.inl rfl) (pe_make T.c_Machine.M G_Machine___init hr8 (by rfl) T.c_Machine.g T.f_Machine___init.b .nil pass0 (pa_cons (pv 5) (pa_cons (pe_call G_law_start hr2 (by rfl) T.f_law_start.g T.f_law_start.F.kp T.f_law_start.b .nil pass0 (pa_cons (pv 1) (pa_cons (pv 3) pa_nil))) (pa_cons (pe_call G_law_words hr3 (by rfl) T.f_law_words.g T.f_law_words.F.kp T.f_law_words.b .nil pass0 (pa_cons (pv 1) pa_nil)) pa_nil)))))
    (pss_cons (ps_set (i := 7) nd rfl (Or.inl rfl) (pe_make T.c_Machine.M G_Machine___init hr8 (by rfl) T.c_Machine.g T.f_Machine___init.b .nil pass0 (pa_cons (pv 5) (pa_cons (pe_call G_law_start hr2 (by rfl) T.f_law_start.g T.f_law_start.F.kp T.f_law_start.b .nil pass0 (pa_cons (pv 1) (pa_cons (pv 3) pa_nil))) (pa_cons (pe_call G_law_words hr3 (by rfl) T.f_law_words.g T.f_law_words.F.kp T.f_law_words.b .nil pass0 (pa_cons (pv 1) pa_nil)) pa_nil)))))
    (pss_cons (ps_for PassesOwn.never rfl (pi_range1 (by rfl) T.z_range (pa_cons (pe_call G_law_draw hr1 (by rfl) T.f_law_draw.g T.f_law_draw.F.kp T.f_law_draw.b .nil pass0 (pa_cons (pv 1) (pa_cons pe_int pa_nil))) pa_nil)) (pg_name (i := 8) nd rfl (Or.inl rfl))
    (pss_one (ps_expr (pe_meth0 (pv 6) T.c_Machine.cl T.m_Machine_step G_Machine_step hr6 T.f_Machine_step.b .nil pass0))))
    (pss_cons (ps_set (i := 9) nd rfl (Or.inl rfl) (pe_call G_opened hr4 (by rfl) T.f_opened.g T.f_opened.F.kp T.f_opened.b .nil pass0 (pa_cons (pv 6) pa_nil)))
    (pss_cons (ps_set (i := 10) nd rfl (Or.inl rfl) (pe_meth0 (pv 6) T.c_Machine.cl T.m_Machine_digest G_Machine_digest hr4 T.f_Machine_digest.b .nil pass0))
    (pss_cons (ps_expr (pe_meth0 (pv 6) T.c_Machine.cl T.m_Machine_step G_Machine_step hr6 T.f_Machine_step.b .nil pass0))
    (pss_cons (ps_set (i := 11) nd rfl (Or.inl rfl) (pe_lst (pa_cons (pe_call G_opened hr4 (by rfl) T.f_opened.g T.f_opened.F.kp T.f_opened.b .nil pass0 (pa_cons (pv 6) pa_nil)) (pa_cons (pe_call G_opened hr4 (by rfl) T.f_opened.g T.f_opened.F.kp T.f_opened.b .nil pass0 (pa_cons (pv 7) pa_nil)) pa_nil))))
    (pss_cons (ps_if (pt_cmpR (Kit.kNeD K hr.units) (pe_call G_law_told hr8 (by rfl) T.f_law_told.g T.f_law_told.F.kp T.f_law_told.b .nil pass0 (pa_cons (pv 5) (pa_cons (pv 10) (pa_cons (pv 9) pa_nil)))) (pe_lst (pa_cons (pe_meth0 (pv 6) T.c_Machine.cl T.m_Machine_digest G_Machine_digest hr4 T.f_Machine_digest.b .nil pass0) pa_nil)) (nomark _))
    (pss_one (ps_ret pe_bl))
    pss_nil)
    (pss_cons (ps_for PassesOwn.never rfl (pi_range1 (by rfl) T.z_range (pa_cons (pe_op op_add pe_int (pe_call G_law_draw hr1 (by rfl) T.f_law_draw.g T.f_law_draw.F.kp T.f_law_draw.b .nil pass0 (pa_cons (pv 1) (pa_cons pe_int pa_nil)))) pa_nil)) (pg_name (i := 8) nd rfl (Or.inl rfl))
    (pss_cons (ps_set (i := 12) nd rfl (Or.inl rfl) (pe_call G_law_turned hr3 (by rfl) T.f_law_turned.g T.f_law_turned.F.kp T.f_law_turned.b .nil pass0 (pa_cons (pv 1) (pa_cons (pv 3) (pa_cons (pv 9) (pa_cons (pv 11) pa_nil))))))
    (pss_cons (ps_if (pt_cmpR op_eq (pe_call G_law_draw hr1 (by rfl) T.f_law_draw.g T.f_law_draw.F.kp T.f_law_draw.b .nil pass0 (pa_cons (pv 1) (pa_cons pe_int pa_nil))) pe_int (nomark _))
    (pss_one (ps_set (i := 12) nd rfl (Or.inl rfl) (pe_call G_law_turned hr3 (by rfl) T.f_law_turned.g T.f_law_turned.F.kp T.f_law_turned.b .nil pass0 (pa_cons (pv 1) (pa_cons (pv 3) (pa_cons (pv 12) (pa_cons (pv 11) pa_nil)))))))
    pss_nil)
    (pss_cons (ps_set (i := 13) nd rfl (Or.inl rfl) (pe_call G_law_told hr8 (by rfl) T.f_law_told.g T.f_law_told.F.kp T.f_law_told.b .nil pass0 (pa_cons (pv 5) (pa_cons (pv 10) (pa_cons (pv 12) pa_nil)))))
    (pss_cons (ps_if (PW.pt (pw_and (pt_cmpR (Kit.kNeD K hr.units) (pv 12) (pv 9) (nomark _)) (pw_and (pt_cmpR (Kit.kNeD K hr.units) (pv 13) (pe_lst pa_nil) (nomark _)) (pw_and1 (pt_not (pt_val (pe_meth0 (pv 4) T.c_Book.cl T.m_Book_has_collision G_Book_has_collision hr1 T.f_Book_has_collision.b .nil pass0)))))))
    (pss_one (ps_ret pe_bl))
    pss_nil)
    (pss_one (ps_if (PW.pt (pw_or (pt_cmpR op_gt (pe_callB (Kit.kLen K) (by rfl) T.z_len (by decide +kernel) (pa_cons (pv 13) pa_nil)) pe_int (nomark _)) (pw_or1 (PW.pt (pw_and (pt_cmpR (Kit.kEqD K hr.units) (pv 12) (pv 9) (nomark _)) (pw_and1 (pt_cmpR (Kit.kNeD K hr.units) (pv 13) (pe_lst (pa_cons (pe_meth0 (pv 6) T.c_Machine.cl T.m_Machine_digest G_Machine_digest hr4 T.f_Machine_digest.b .nil pass0) pa_nil)) (nomark _))))))))
    (pss_one (ps_ret pe_bl))
    pss_nil)))))))
    (pss_one (ps_ret pe_bl))))))))))))))))) rfl ?_
  try dsimp only [L2.cxOf, L2.Cx.nox]
  walk_at "wp"
  refine ⟨a, ns, rfl, hS, fun p H1 n1 e1 b1 => ?_⟩
  walk_at "wp"
  rename_i pl H2 n2 e2 f2
  show sp_law_draw _ _ _ _
  refine use_draw (b1.ex e2) (by decide) (by decide) fun i H3 i0 i1 m3 b3 => ?_
  refine w_pick bitsE (m3 _ _ (bagNe b1 n2) f2) rfl i0 i1 fun b hb => ?_
  obtain ⟨hB, j, hj, hlt, hm⟩ := bitsE_ix hb
  have hm0 := hB.m100
  have hm1 := hB.m.2
  walk_at "wp"
  rename_i pm H4 n4 e4 f4 pb5 H5 n5 e5 f5
  refine w_indexI (ss := bitsE) (Evl.sq_of f5) hj hlt ?_
  refine Kit.w_ixL (Evl.sq_of (e5 _ _ f4)) hm ?_
  generalize hM : (2 ^ b.toNat - 1 : Int) = m at *
  have b5 : Bag5 H5 p := (b3.ex e4).ex e5
  clear b1 f2 m3 b3 f4 f5 n1 n2 n4 n5 e1 e2 e4 e5 hj hlt hm i0 i1 hS
  walk_at "wp"
  rename_i pb H6 n6 e6 bk6 g dx7 H7 n7 e7 f7
  rw [hM] at f7
  have bk6' := bk6
  obtain ⟨_, _, _, _, hz6, _⟩ := bk6'
  have hgp : g ≠ pb := (ne_of_none hz6 n7).symm
  have d7 : DigB T.c_Digests.C H7 g pb m := ⟨⟨dx7, _, f7⟩, by omega, hm1, hgp⟩
  have B7 : BkG P w T.c_Book.C H7 pb m [] := ⟨⟨[], [], false, BookAt.ex e7 bk6, knows_nil⟩⟩
  have b7 : Bag5 H7 p := (b5.ex e6).ex e7
  clear bk6 hz6 f7 n6 n7 e6 e7 b5
  refine ⟨p, m, rfl, b7, hm0, hm1, fun r pc acc x mark out count H8 ok n8 m8 b8 f8 => ?_⟩
  obtain ⟨xs7, hp7⟩ := b7.lst
  have d8 := d7.but m8 hp7
  have B8 := B7.but m8 hp7
  walk_at "wp"
  refine ⟨p, rfl, b8, fun wt ws H9 n9 m9 b9 f9 hl9 hw9 => ?_⟩
  obtain ⟨xs8, hp8⟩ := b8.lst
  have d9 := d8.but m9 hp8
  have B9 := B8.but m9 hp8
  have hrp : r ≠ p := bagNe b7 n8
  have f8' : H9 r = some (.tup [.int pc, .int acc, .int x, .int mark, .int out, .int count]) := m9 _ _ hrp f8
  walk_at "wp"
  show Kit.MakeOf _ _ _ _ _ _
  refine use_Machine (pc := pc) (acc := acc) (x := x) (mark := mark) (out := out) (count := count) (ws := ws) d9 B9 (by decide) (Evl.st_of f8') (Evl.st_of f9) (by omega) fun mp F H10 l10 hF k10 mac B10 x10 => ?_
  rw [padW_whole hl9] at mac x10
  have OK : SOk m ⟨pc, acc, x, mark, out, count, ws, []⟩ := ⟨ok.pc, ok.acc, ok.x, ok.mark, ok.out, ok.count, ok.count.1, hl9, hw9⟩
  have hx10 : ∀ t ∈ memX m (⟨pc, acc, x, mark, out, count, ws, []⟩ : MSt).mem, t ∈ l10 := fun t h => (x10.mem t).mpr (.inr h)
  have hll10 : l10.length ≤ 512 := by have := x10.len; simpa using this
  generalize (⟨pc, acc, x, mark, out, count, ws, []⟩ : MSt) = s at *
  have d10 := d9.keep k10
  have b10 : Bag5 H10 p := b9.keep B9 k10
  have hpF : p ∉ F := fun z => by obtain ⟨xs, h⟩ := b9.lst; have := hF p z; rw [h] at this; cases this
  clear d7 d8 d9 B7 B8 B9 b7 b8 b9 f8 f8' f9 x10 k10 hF n8 n9 m8 m9 hp7 hp8 ok hl9 hw9 hrp xs7 xs8
  walk_at "wp"
  refine ⟨p, m, rfl, b10, hm0, hm1, fun r pc acc x mark out count H11 ok n11 m11 b11 f11 => ?_⟩
  obtain ⟨xs7, hp7⟩ := b10.lst
  have d11 := d10.but m11 hp7
  have B11 := B10.but m11 hp7
  have mac11 := mac.by (ExBy.len1 m11 (by simp)) (one_kind hp7) (not_one hpF)
  walk_at "wp"
  refine ⟨p, rfl, b11, fun wt ws H12 n12 m12 b12 f12 hl12 hw12 => ?_⟩
  obtain ⟨xs8, hp8⟩ := b11.lst
  have d12 := d11.but m12 hp8
  have B12 := B11.but m12 hp8
  have mac12 := mac11.by (ExBy.len1 m12 (by simp)) (one_kind hp8) (not_one hpF)
  have hrp : r ≠ p := bagNe b10 n11
  have f11' : H12 r = some (.tup [.int pc, .int acc, .int x, .int mark, .int out, .int count]) := m12 _ _ hrp f11
  walk_at "wp"
  show Kit.MakeOf _ _ _ _ _ _
  refine use_Machine (pc := pc) (acc := acc) (x := x) (mark := mark) (out := out) (count := count) (ws := ws) d12 B12 (by omega) (Evl.st_of f11') (Evl.st_of f12) (by omega) fun mp2 F2 H13 l13 hF2 k13 mac2 B13 x13 => ?_
  rw [padW_whole hl12] at mac2
  have OK2 : SOk m ⟨pc, acc, x, mark, out, count, ws, []⟩ := ⟨ok.pc, ok.acc, ok.x, ok.mark, ok.out, ok.count, ok.count.1, hl12, hw12⟩
  generalize (⟨pc, acc, x, mark, out, count, ws, []⟩ : MSt) = s2 at *
  have hll13 : l13.length ≤ 1100 := by have := x13.len; omega
  have I13 : Inv21 P w K T.c_Machine.C T.c_Memory.C T.c_Digests.C T.c_Book.C H13 p g pb mp mp2 F F2 m s s2 l13 :=
    ⟨b12.keep B12 k13, mac12.keep B12 k13, mac2, OK, OK2, d12.keep k13, B13, fun t h => (x13.mem t).mpr (.inl (hx10 t h)), hpF, (fun z => by obtain ⟨xs, h⟩ := b12.lst; have := hF2 p z; rw [h] at this; cases this),
     (fun y h2 h1 => by
      have hn := hF2 y h2
      rcases mac12.kind y h1 with ⟨ys, e⟩ | ⟨C, dx, fs, e⟩ <;> (rw [hn] at e; cases e))⟩
  clear d10 B10 b10 mac hx10 hll10 hpF d11 B11 b11 mac11 d12 B12 b12 mac12 hF2 k13 mac2 B13 x13 OK OK2 f11 f11' f12 n11 n12 m11 m12 hp7 hp8 ok hl12 hw12 hrp xs7 xs8
  walk_at "wp"
  show sp_law_draw _ _ _ _
  refine use_draw I13.b (by decide) (by decide) fun n H14 n0 n11 m14 b14 => ?_
  have I14 := I13.draw m14 b14
  clear I13 m14 b14
  walk_at "wp"
  refine Kit.f_rng1 (by omega) (by omega) (Lp21 P w K T.c_Machine.C T.c_Memory.C T.c_Digests.C T.c_Book.C a p b g pb mp mp2 F F2 m s2) ⟨_, s, l13, rfl, I14, by omega⟩ ?_ ?_
  · rintro i σ' H0 hi ⟨y8, s, l, rfl, I, hll⟩
    clear I14 hll13
    have hi11 : i < 11 := by omega
    have M0 := I.M
    walk_at "wp"
    refine ⟨mp, F, g, pb, m, s, l, rfl, I.M, I.D, I.B, by omega, hm0, I.ok, I.hm, fun H1 l1 k1 M1 B1 x1 hm1' => ?_⟩
    have hx1 := x1.2
    walk_at "wp"
    exact ⟨_, _, l1, rfl, I.step hm0 k1 M1 B1 hm1', by omega⟩
  rintro σ' H0 ⟨y8, s', l, rfl, I, hll⟩
  clear I14 hll13
  have hll : l.length ≤ 1400 := by omega
  generalize s' = s at *
  have M0 := I.M
  walk_at "wp"
  refine ⟨mp, F, g, m, s, rfl, I.M, I.ok, fun v0 H1 e1 dv0 => ?_⟩
  have I1 := I.ex e1
  clear M0 I e1
  have M0 := I1.M
  walk_at "wp"
  refine ⟨mp, F, g, pb, m, s, l, rfl, I1.M, I1.D, I1.B, by omega, hm0, I1.ok, fun H2 k2 B2 => ?_⟩
  have B2 : BkG P w T.c_Book.C H2 pb m (addX l (stX m s)) := B2
  have I2 := I1.keep k2 B2 (fun t => addX_sub)
  have dv0 := dpT (fun _ _ h => keep_sqT I1.B k2 h) _ _ noL_open dv0
  have hst : stX m s ∈ addX l (stX m s) := addX_mem
  have hms : ∀ t ∈ memX m s.mem, t ∈ addX l (stX m s) := I2.hm
  have hl2 : (addX l (stX m s)).length ≤ 1401 := by have := (Ext.add l (stX m s)).len; omega
  have okS := I1.ok
  generalize addX l (stX m s) = l2 at *
  clear M0 I1 k2 B2 hll
  have M0 := I2.M
  walk_at "wp"
  refine ⟨mp, F, g, pb, m, s, l2, rfl, I2.M, I2.D, I2.B, by omega, hm0, I2.ok, I2.hm, fun H3 l3 k3 M3 B3 x3 hm3 => ?_⟩
  have I3 := I2.step hm0 k3 M3 B3 hm3
  have dv0 := dpT (fun _ _ h => k3.sqT I2.B I2.M.kind h) _ _ noL_open dv0
  have hst := x3.1 _ hst
  have hms := fun t h => x3.1 t (hms t h)
  have hl3 : l3.length ≤ 1421 := by have := x3.2; omega
  clear M0 I2 k3 M3 B3 hm3 x3 hl2
  have M0 := I3.M
  walk_at "wp"
  refine ⟨mp, F, g, m, s.stepM m, rfl, I3.M, I3.ok, fun v1 H4 e4 dv1 => ?_⟩
  have I4 := I3.ex e4
  have dv0 := dpT (tk_ex e4) _ _ noL_open dv0
  clear M0 I3 e4
  have M0 := I4.M2
  walk_at "wp"
  refine ⟨mp2, F2, g, m, s2, rfl, I4.M2, I4.ok2, fun v2 H5 e5 dv2 => ?_⟩
  have I5 := I4.ex e5
  have dv0 := dpT (tk_ex e5) _ _ noL_open dv0
  have dv1 := dpT (tk_ex e5) _ _ noL_open dv1
  clear M0 I4 e5
  walk_at "wp"
  rename_i la H6 n6 e6 f6
  have hlap : la ≠ p := bagNe I5.b n6
  have I6 := I5.ex e6
  have dv0 := dpT (tk_ex e6) _ _ noL_open dv0
  have dv1 := dpT (tk_ex e6) _ _ noL_open dv1
  have dv2 := dpT (tk_ex e6) _ _ noL_open dv2
  clear I5 e6 n6
  have hop : ∀ (x : MSt), (opOf m x).ps.length ≤ 2 := fun x => by unfold opOf; rw [List.length_map]; exact plsI_len x
  refine ⟨g, pb, m, digestM m s, v0, opOf m s, l3, rfl, I6.D, I6.B, by omega, hm0, by rw [← openD_op]; exact dv0, opOf_ok I6.D.pos okS, by have := hop s; omega, fun _ t7 H7 l7 k7 B7 x7 _ _ f7 => ?_, fun h => absurd ⟨rfl, opOf_good okS⟩ h⟩
  rw [opOf_next okS] at f7
  have I7 := I6.keep k7 B7 x7.1
  have tk7 : TKeep K H6 H7 := fun _ _ h => keep_sqT I6.B k7 h
  have dv0 := dpT tk7 _ _ noL_open dv0
  have dv1 := dpT tk7 _ _ noL_open dv1
  have dv2 := dpT tk7 _ _ noL_open dv2
  have hst := x7.1 _ hst
  have hms := fun t h => x7.1 t (hms t h)
  have f6 := keep_lst I6.B k7 f6
  have hl7 : l7.length ≤ 1501 := by have := x7.2; omega
  clear I6 k7 B7 x7 tk7
  have M0 := I7.M
  walk_at "wp"
  refine ⟨mp, F, g, pb, m, s.stepM m, l7, rfl, I7.M, I7.D, I7.B, by omega, hm0, I7.ok, fun H8 k8 B8 => ?_⟩
  have I8 := I7.keep k8 B8 (fun t => addX_sub)
  have tk8 : TKeep K H7 H8 := fun _ _ h => keep_sqT I7.B k8 h
  have dv0 := dpT tk8 _ _ noL_open dv0
  have dv1 := dpT tk8 _ _ noL_open dv1
  have dv2 := dpT tk8 _ _ noL_open dv2
  have hst := addX_sub (t := Tx.st (regsI (s.stepM m) ++ [memRoot m (s.stepM m).mem])) hst
  have hms := fun t h => addX_sub (t := Tx.st (regsI (s.stepM m) ++ [memRoot m (s.stepM m).mem])) (hms t h)
  have f6 := keep_lst I7.B k8 f6
  have f7 := keep_lst I7.B k8 f7
  have hl8 := (Ext.add l7 (Tx.st (regsI (s.stepM m) ++ [memRoot m (s.stepM m).mem]))).len
  generalize addX l7 (Tx.st (regsI (s.stepM m) ++ [memRoot m (s.stepM m).mem])) = l8 at *
  clear M0 I7 k8 B8 tk8
  walk_at "wp"
  rename_i t9 H9 n9 e9 f9
  refine Kit.w_neLL (r := [digestM m (s.stepM m)]) (s := [digestM m (s.stepM m)]) (Evl.sq_of (e9 _ _ f7)) (Evl.sq_of f9) ?_
  have I9 := I8.ex e9
  have dv0 := dpT (tk_ex e9) _ _ noL_open dv0
  have dv1 := dpT (tk_ex e9) _ _ noL_open dv1
  have dv2 := dpT (tk_ex e9) _ _ noL_open dv2
  have f6 := e9 _ _ f6
  clear I8 e9 f7 f9 n9
  walk_at "wp"
  show sp_law_draw _ _ _ _
  refine use_draw I9.b (by decide) (by decide) fun n H10 n0 n30 m10 b10 => ?_
  have I10 := I9.draw m10 b10
  obtain ⟨xs9, hp9⟩ := I9.b.lst
  have dv0 := dpT (tk_but m10 hp9) _ _ noL_open dv0
  have dv1 := dpT (tk_but m10 hp9) _ _ noL_open dv1
  have dv2 := dpT (tk_but m10 hp9) _ _ noL_open dv2
  have f6 := m10 _ _ hlap f6
  clear I9 m10 b10 hp9
  walk_at "wp"
  refine Kit.f_rng1 (by omega) (by omega) (Lq21 P w K T.c_Machine.C T.c_Memory.C T.c_Digests.C T.c_Book.C a p b g pb mp mp2 F F2 m s s2 v0 v1 v2 la (digestM m s)) ⟨_, _, _, l8, rfl, I10, by omega, hst, hms, dv0, dv1, dv2, f6, hlap⟩ ?_ ?_
  · rintro i σ' H0 hi ⟨y8, y12, y13, l, rfl, I, hll, hst, hms, dv0, dv1, dv2, f6, _⟩
    clear I10
    have hi30 : i < 30 := by omega
    walk_at "wp"
    refine ⟨p, la, m, v0, v1, v2, opOf m s, opOf m (s.stepM m), opOf m s2, 2, rfl, I.b, hm0, hm1, by rw [← openD_op]; exact dv0, opOf_ok I.D.pos okS, hop s, by decide, by decide, f6, hlap, by rw [← openD_op]; exact dv1, opOf_ok I.D.pos I.ok, hop _, by rw [← openD_op]; exact dv2, opOf_ok I.D.pos I.ok2, hop s2, fun vT oT H1 mT bT dT okT hnT => ?_⟩
    have I1 := I.draw mT bT
    obtain ⟨xsT, hpT⟩ := I.b.lst
    have dv0 := dpT (tk_but mT hpT) _ _ noL_open dv0
    have dv1 := dpT (tk_but mT hpT) _ _ noL_open dv1
    have dv2 := dpT (tk_but mT hpT) _ _ noL_open dv2
    have f6 := mT _ _ hlap f6
    clear I mT bT hpT
    walk_at "wp"
    show sp_law_draw _ _ _ _
    refine use_draw I1.b (by decide) (by decide) fun z H2 z0 z4 mU bU => ?_
    have I2 := I1.draw mU bU
    obtain ⟨xsU, hpU⟩ := I1.b.lst
    have dv0 := dpT (tk_but mU hpU) _ _ noL_open dv0
    have dv1 := dpT (tk_but mU hpU) _ _ noL_open dv1
    have dv2 := dpT (tk_but mU hpU) _ _ noL_open dv2
    have dT := dpT (tk_but mU hpU) _ _ (noL_op oT) dT
    have f6 := mU _ _ hlap f6
    clear I1 mU bU hpU
    walk_at "wp"
    case' _ =>
      refine ⟨p, la, m, vT, v1, v2, oT, opOf m (s.stepM m), opOf m s2, 3, rfl, I2.b, hm0, hm1, dT, okT, hnT, by decide, by decide, f6, hlap, by rw [← openD_op]; exact dv1, opOf_ok I2.D.pos I2.ok, hop _, by rw [← openD_op]; exact dv2, opOf_ok I2.D.pos I2.ok2, hop s2, fun vT oT H1 mT bT dT okT hnT => ?_⟩
      have I3 := I2.draw mT bT
      obtain ⟨xsT, hpT⟩ := I2.b.lst
      have dv0 := dpT (tk_but mT hpT) _ _ noL_open dv0
      have dv1 := dpT (tk_but mT hpT) _ _ noL_open dv1
      have dv2 := dpT (tk_but mT hpT) _ _ noL_open dv2
      have f6 := mT _ _ hlap f6
      have hnT : oT.ps.length ≤ 4 := hnT
      clear I2 mT bT hpT
      walk_at "wp"
    rotate_left 1
    case' _ =>
      have I3 := I2
      have hnT : oT.ps.length ≤ 4 := by omega
      clear I2
    all_goals
      refine use_told I3.D I3.B (by omega) hm0 dT okT (by omega) fun t4 H4 l4 tl k4 B4 x4 htl hA hR f4 => ?_
      have I4 := I3.keep k4 B4 x4.1
      have tk4 := fun {a xs} (h : SqT K _ a xs) => keep_sqT I3.B k4 h
      have dv0 := dpT (fun _ _ h => tk4 h) _ _ noL_open dv0
      have dv1 := dpT (fun _ _ h => tk4 h) _ _ noL_open dv1
      have dv2 := dpT (fun _ _ h => tk4 h) _ _ noL_open dv2
      have dT := dpT (fun _ _ h => tk4 h) _ _ (noL_op oT) dT
      have hst := x4.1 _ hst
      have hms := fun t h => x4.1 t (hms t h)
      have f6 := keep_lst I3.B k4 f6
      have hl4 : l4.length ≤ 4080 + 200 * i := by have := x4.2; omega
      clear I3 k4 x4 tk4
      have hT : oT = opOf m s → tl = [digestM m (s.stepM m)] := by
        rintro rfl
        rw [(hA ⟨rfl, opOf_good okS⟩).1, opOf_next okS]
      have hN : oT ≠ opOf m s → tl = [] ∨ Coll m l4 := fun hne => by
        by_cases ha : stateI m (oT.regs ++ [oT.root]) = digestM m s ∧ oT.good m
        · obtain ⟨_, h1, h2⟩ := hA ha
          exact .inr ((open_only okS okT hst hms h1 h2 ha.1 ha.2).resolve_left hne)
        · exact .inl (hR ha)
      clear hA hR okT hnT
      have sT : SeqAt.shaped oT.data = true := sh_op.shaped (by decide)
      have s0 : SeqAt.shaped (opOf m s).data = true := sh_op.shaped (by decide)
      have dW : Dp K H4 v0 (opOf m s).data := by rw [← openD_op]; exact dv0
      have nlen : ¬ (1 : Int) < ((List.map V.int tl).length : Int) := by rw [List.length_map]; omega
      walk_at "wp"
      refine Kit.w_neD dT dW sT s0 ?_
      by_cases hE : oT = opOf m s
      · have hF : PyData.eqv oT.data (opOf m s).data = true := by rw [hE]; exact SeqAt.eqv_refl _ (sh_op (o := opOf m s)).1
        have hT := hT hE
        clear hN hE
        rw [hF]
        walk_at "wp"
        · exact absurd ‹_› nlen
        refine Kit.w_eqD dT dW sT s0 ?_
        rw [hF]
        have M0 := I4.M
        walk_at "wp"
        refine ⟨mp, F, g, pb, m, s.stepM m, l4, rfl, I4.M, I4.D, I4.B, by omega, hm0, I4.ok, fun H5 k5 B5 => ?_⟩
        have I5 := I4.keep k5 B5 (fun t => addX_sub)
        have tk5 : TKeep K H4 H5 := fun _ _ h => keep_sqT I4.B k5 h
        have dv0 := dpT tk5 _ _ noL_open dv0
        have dv1 := dpT tk5 _ _ noL_open dv1
        have dv2 := dpT tk5 _ _ noL_open dv2
        have hst := addX_sub (t := Tx.st (regsI (s.stepM m) ++ [memRoot m (s.stepM m).mem])) hst
        have hms := fun t h => addX_sub (t := Tx.st (regsI (s.stepM m) ++ [memRoot m (s.stepM m).mem])) (hms t h)
        have f6 := keep_lst I4.B k5 f6
        have f4 := keep_lst I4.B k5 f4
        have hl5 := (Ext.add l4 (Tx.st (regsI (s.stepM m) ++ [memRoot m (s.stepM m).mem]))).len
        generalize addX l4 (Tx.st (regsI (s.stepM m) ++ [memRoot m (s.stepM m).mem])) = l5 at *
        clear M0 I4 k5 B5 tk5 B4 dT dW
        walk_at "wp"
        rename_i t6 H6 n6 e6 f8
        refine Kit.w_neLL (r := tl) (s := [digestM m (s.stepM m)]) (Evl.sq_of (e6 _ _ f4)) (Evl.sq_of f8) ?_
        rw [hT, decide_eq_true rfl]
        have I6 := I5.ex e6
        have dv0 := dpT (tk_ex e6) _ _ noL_open dv0
        have dv1 := dpT (tk_ex e6) _ _ noL_open dv1
        have dv2 := dpT (tk_ex e6) _ _ noL_open dv2
        have f6 := e6 _ _ f6
        clear I5 e6 f4 f8 n6
        walk_at "wp"
        exact ⟨_, _, _, _, rfl, I6, by omega, hst, hms, dv0, dv1, dv2, f6, hlap⟩
      · have hF : PyData.eqv oT.data (opOf m s).data = false := Bool.eq_false_iff.mpr fun z => hE (op_eqv z)
        have hN := hN hE
        clear hT hE
        rw [hF]
        walk_at "wp"
        rename_i t5 H5 n5 e5 f5
        have I5 := I4.ex e5
        have dv0 := dpT (tk_ex e5) _ _ noL_open dv0
        have dv1 := dpT (tk_ex e5) _ _ noL_open dv1
        have dv2 := dpT (tk_ex e5) _ _ noL_open dv2
        have dT := dpT (tk_ex e5) _ _ (noL_op oT) dT
        have dW : Dp K H5 v0 (opOf m s).data := by rw [← openD_op]; exact dv0
        have f6 := e5 _ _ f6
        refine Kit.w_neLL (r := tl) (s := []) (Evl.sq_of (e5 _ _ f4)) (Evl.sq_of f5) ?_
        have f4 := e5 _ _ f4
        clear I4 B4 e5 f5 n5
        by_cases hz : tl = []
        · rw [decide_eq_true hz]
          walk_at "wp"
          · exact absurd ‹_› nlen
          refine Kit.w_eqD dT dW sT s0 ?_
          rw [hF]
          walk_at "wp"
          exact ⟨_, _, _, _, rfl, I5, by omega, hst, hms, dv0, dv1, dv2, f6, hlap⟩
        · obtain ⟨x, y, hx, hy, hxy, hk⟩ := hN.resolve_left hz
          rw [decide_eq_false hz]
          have B5 := I5.B
          walk_at "wp"
          refine I5.B.coll hx hy hxy hk ?_
          walk_at "wp"
          · exact absurd ‹_› nlen
          refine Kit.w_eqD dT dW sT s0 ?_
          rw [hF]
          walk_at "wp"
          exact ⟨_, _, _, _, rfl, I5, by omega, hst, hms, dv0, dv1, dv2, f6, hlap⟩
  · rintro σ' H0 ⟨y8, y12, y13, l, rfl, I, _⟩
    walk_at "wp"
    exact q _

end
theorem all_mk {l : PySem.W.OpenLaw} {w : World} {K : PySem.W.Frag} {h : Heap} {mg : Str → Option Value} {fa : Addr} (X : K.In h) (G : h.Ns mainGlobals mg) (hfa : mg "law" = some (.ref fa))
    {od0 an0 : Option Addr} {sl0 : Array (Option Value)} {oc0 kV0 dc0 pm0 cd0 ct0 : Value} {f0 : Addr}
    {od1 an1 : Option Addr} {sl1 : Array (Option Value)} {oc1 kV1 dc1 pm1 cd1 ct1 : Value} {f1 : Addr}
    {od2 an2 : Option Addr} {sl2 : Array (Option Value)} {oc2 kV2 dc2 pm2 cd2 ct2 : Value} {f2 : Addr}
    {od3 an3 : Option Addr} {sl3 : Array (Option Value)} {oc3 kV3 dc3 pm3 cd3 ct3 : Value} {f3 : Addr}
    {od4 an4 : Option Addr} {sl4 : Array (Option Value)} {oc4 kV4 dc4 pm4 cd4 ct4 : Value} {f4 : Addr}
    {od5 an5 : Option Addr} {sl5 : Array (Option Value)} {oc5 kV5 dc5 pm5 cd5 ct5 : Value} {f5 : Addr}
    {od6 an6 : Option Addr} {sl6 : Array (Option Value)} {oc6 kV6 dc6 pm6 cd6 ct6 : Value} {f6 : Addr}
    {od7 an7 : Option Addr} {sl7 : Array (Option Value)} {oc7 kV7 dc7 pm7 cd7 ct7 : Value} {f7 : Addr}
    {od8 an8 : Option Addr} {sl8 : Array (Option Value)} {oc8 kV8 dc8 pm8 cd8 ct8 : Value} {f8 : Addr}
    {od9 an9 : Option Addr} {sl9 : Array (Option Value)} {oc9 kV9 dc9 pm9 cd9 ct9 : Value} {f9 : Addr}
    {od10 an10 : Option Addr} {sl10 : Array (Option Value)} {oc10 kV10 dc10 pm10 cd10 ct10 : Value} {f10 : Addr}
    {od11 an11 : Option Addr} {sl11 : Array (Option Value)} {oc11 kV11 dc11 pm11 cd11 ct11 : Value} {f11 : Addr}
    {od12 an12 : Option Addr} {sl12 : Array (Option Value)} {oc12 kV12 dc12 pm12 cd12 ct12 : Value} {f12 : Addr}
    {od13 an13 : Option Addr} {sl13 : Array (Option Value)} {oc13 kV13 dc13 pm13 cd13 ct13 : Value} {f13 : Addr}
    {od14 an14 : Option Addr} {sl14 : Array (Option Value)} {oc14 kV14 dc14 pm14 cd14 ct14 : Value} {f14 : Addr}
    {od15 an15 : Option Addr} {sl15 : Array (Option Value)} {oc15 kV15 dc15 pm15 cd15 ct15 : Value} {f15 : Addr}
    {od16 an16 : Option Addr} {sl16 : Array (Option Value)} {oc16 kV16 dc16 pm16 cd16 ct16 : Value} {f16 : Addr}
    {od17 an17 : Option Addr} {sl17 : Array (Option Value)} {oc17 kV17 dc17 pm17 cd17 ct17 : Value} {f17 : Addr}
    {od18 an18 : Option Addr} {sl18 : Array (Option Value)} {oc18 kV18 dc18 pm18 cd18 ct18 : Value} {f18 : Addr}
    {od19 an19 : Option Addr} {sl19 : Array (Option Value)} {oc19 kV19 dc19 pm19 cd19 ct19 : Value} {f19 : Addr}
    {od20 an20 : Option Addr} {sl20 : Array (Option Value)} {oc20 kV20 dc20 pm20 cd20 ct20 : Value} {f20 : Addr}
    {od21 an21 : Option Addr} {sl21 : Array (Option Value)} {oc21 kV21 dc21 pm21 cd21 ct21 : Value} {f21 : Addr}
    {od22 an22 : Option Addr} {sl22 : Array (Option Value)} {oc22 kV22 dc22 pm22 cd22 ct22 : Value} {f22 : Addr}
    {od23 an23 : Option Addr} {sl23 : Array (Option Value)} {oc23 kV23 dc23 pm23 cd23 ct23 : Value} {f23 : Addr}
    {od24 an24 : Option Addr} {sl24 : Array (Option Value)} {oc24 kV24 dc24 pm24 cd24 ct24 : Value} {f24 : Addr}
    {od25 an25 : Option Addr} {sl25 : Array (Option Value)} {oc25 kV25 dc25 pm25 cd25 ct25 : Value} {f25 : Addr}
    {od26 an26 : Option Addr} {sl26 : Array (Option Value)} {oc26 kV26 dc26 pm26 cd26 ct26 : Value} {f26 : Addr}
    {od27 an27 : Option Addr} {sl27 : Array (Option Value)} {oc27 kV27 dc27 pm27 cd27 ct27 : Value} {f27 : Addr}
    {od28 an28 : Option Addr} {sl28 : Array (Option Value)} {oc28 kV28 dc28 pm28 cd28 ct28 : Value} {f28 : Addr}
    {od29 an29 : Option Addr} {sl29 : Array (Option Value)} {oc29 kV29 dc29 pm29 cd29 ct29 : Value} {f29 : Addr}
    {od30 an30 : Option Addr} {sl30 : Array (Option Value)} {oc30 kV30 dc30 pm30 cd30 ct30 : Value} {f30 : Addr}
    {od31 an31 : Option Addr} {sl31 : Array (Option Value)} {oc31 kV31 dc31 pm31 cd31 ct31 : Value} {f31 : Addr}
    {od32 an32 : Option Addr} {sl32 : Array (Option Value)} {oc32 kV32 dc32 pm32 cd32 ct32 : Value} {f32 : Addr}
    {od33 an33 : Option Addr} {sl33 : Array (Option Value)} {oc33 kV33 dc33 pm33 cd33 ct33 : Value} {f33 : Addr}
    {od34 an34 : Option Addr} {sl34 : Array (Option Value)} {oc34 kV34 dc34 pm34 cd34 ct34 : Value} {f34 : Addr}
    {od35 an35 : Option Addr} {sl35 : Array (Option Value)} {oc35 kV35 dc35 pm35 cd35 ct35 : Value} {f35 : Addr}
    {od36 an36 : Option Addr} {sl36 : Array (Option Value)} {oc36 kV36 dc36 pm36 cd36 ct36 : Value} {f36 : Addr}
    {od37 an37 : Option Addr} {sl37 : Array (Option Value)} {oc37 kV37 dc37 pm37 cd37 ct37 : Value} {f37 : Addr}
    {od38 an38 : Option Addr} {sl38 : Array (Option Value)} {oc38 kV38 dc38 pm38 cd38 ct38 : Value} {f38 : Addr}
    {od39 an39 : Option Addr} {sl39 : Array (Option Value)} {oc39 kV39 dc39 pm39 cd39 ct39 : Value} {f39 : Addr}
    {od40 an40 : Option Addr} {sl40 : Array (Option Value)} {oc40 kV40 dc40 pm40 cd40 ct40 : Value} {f40 : Addr}
    {od41 an41 : Option Addr} {sl41 : Array (Option Value)} {oc41 kV41 dc41 pm41 cd41 ct41 : Value} {f41 : Addr}
    {od42 an42 : Option Addr} {sl42 : Array (Option Value)} {oc42 kV42 dc42 pm42 cd42 ct42 : Value} {f42 : Addr}
    {od43 an43 : Option Addr} {sl43 : Array (Option Value)} {oc43 kV43 dc43 pm43 cd43 ct43 : Value} {f43 : Addr}
    {od44 an44 : Option Addr} {sl44 : Array (Option Value)} {oc44 kV44 dc44 pm44 cd44 ct44 : Value} {f44 : Addr}
    {od45 an45 : Option Addr} {sl45 : Array (Option Value)} {oc45 kV45 dc45 pm45 cd45 ct45 : Value} {f45 : Addr}
    {od46 an46 : Option Addr} {sl46 : Array (Option Value)} {oc46 kV46 dc46 pm46 cd46 ct46 : Value} {f46 : Addr}
    {od47 an47 : Option Addr} {sl47 : Array (Option Value)} {oc47 kV47 dc47 pm47 cd47 ct47 : Value} {f47 : Addr}
    {od48 an48 : Option Addr} {sl48 : Array (Option Value)} {oc48 kV48 dc48 pm48 cd48 ct48 : Value} {f48 : Addr}
    {od49 an49 : Option Addr} {sl49 : Array (Option Value)} {oc49 kV49 dc49 pm49 cd49 ct49 : Value} {f49 : Addr}
    {od50 an50 : Option Addr} {sl50 : Array (Option Value)} {oc50 kV50 dc50 pm50 cd50 ct50 : Value} {f50 : Addr}
    {od51 an51 : Option Addr} {sl51 : Array (Option Value)} {oc51 kV51 dc51 pm51 cd51 ct51 : Value} {f51 : Addr}
    {od52 an52 : Option Addr} {sl52 : Array (Option Value)} {oc52 kV52 dc52 pm52 cd52 ct52 : Value} {f52 : Addr}
    {od53 an53 : Option Addr} {sl53 : Array (Option Value)} {oc53 kV53 dc53 pm53 cd53 ct53 : Value} {f53 : Addr}
    {od54 an54 : Option Addr} {sl54 : Array (Option Value)} {oc54 kV54 dc54 pm54 cd54 ct54 : Value} {f54 : Addr}
    {od55 an55 : Option Addr} {sl55 : Array (Option Value)} {oc55 kV55 dc55 pm55 cd55 ct55 : Value} {f55 : Addr}
    {od56 an56 : Option Addr} {sl56 : Array (Option Value)} {oc56 kV56 dc56 pm56 cd56 ct56 : Value} {f56 : Addr}
    {od57 an57 : Option Addr} {sl57 : Array (Option Value)} {oc57 kV57 dc57 pm57 cd57 ct57 : Value} {f57 : Addr}
    {od58 an58 : Option Addr} {sl58 : Array (Option Value)} {oc58 kV58 dc58 pm58 cd58 ct58 : Value} {f58 : Addr}
    {od59 an59 : Option Addr} {sl59 : Array (Option Value)} {oc59 kV59 dc59 pm59 cd59 ct59 : Value} {f59 : Addr}
    {od60 an60 : Option Addr} {sl60 : Array (Option Value)} {oc60 kV60 dc60 pm60 cd60 ct60 : Value} {f60 : Addr}
    {od61 an61 : Option Addr} {sl61 : Array (Option Value)} {oc61 kV61 dc61 pm61 cd61 ct61 : Value} {f61 : Addr}
    {od62 an62 : Option Addr} {sl62 : Array (Option Value)} {oc62 kV62 dc62 pm62 cd62 ct62 : Value} {f62 : Addr}
    {C_Digests : Addr}
    {C_Book : Addr}
    {C_Memory : Addr}
    {C_Machine : Addr}
    {C_CourtError : Addr}
    {C_BadOpening : Addr}
    {t_DEPTH : Tok}
    {a_MARKS : Addr} {o_MARKS : Obj}
    {t_MOST_TOLD : Tok}
    {t_MOST_WORD : Tok}
    {a_NAMES : Addr} {o_NAMES : Obj}
    {t_PLACES : Tok}
    {a_SIGNS : Addr} {o_SIGNS : Obj}
    (aC_Machine : PySem.W.nsIn K mainGlobals "Machine" = some (some (.ref C_Machine)))
    (aC_Memory : PySem.W.nsIn K mainGlobals "Memory" = some (some (.ref C_Memory)))
    (aC_Book : PySem.W.nsIn K mainGlobals "Book" = some (some (.ref C_Book)))
    (aC_Digests : PySem.W.nsIn K mainGlobals "Digests" = some (some (.ref C_Digests)))
    (a0 : PySem.W.nsIn K mainGlobals "is_integer" = some (some (.ref f0)))
    (l0 : K.lookup f0 = some ⟨oc0, od0, .func (PySem.W.fnOf "is_integer" "is_integer" (defArgs s_is_integer) (defBody s_is_integer) (defScope s_is_integer) .none kV0 dc0 pm0 an0 cd0 ct0), sl0⟩)
    (c0 : PySem.W.codeIn K cd0 "is_integer" = true)
    (k0 : PySem.W.keepIn K (.ref f0) = true)
    (a1 : PySem.W.nsIn K mainGlobals "is_word" = some (some (.ref f1)))
    (l1 : K.lookup f1 = some ⟨oc1, od1, .func (PySem.W.fnOf "is_word" "is_word" (defArgs s_is_word) (defBody s_is_word) (defScope s_is_word) .none kV1 dc1 pm1 an1 cd1 ct1), sl1⟩)
    (c1 : PySem.W.codeIn K cd1 "is_word" = true)
    (k1 : PySem.W.keepIn K (.ref f1) = true)
    (a2 : PySem.W.findIn K (.ref C_Digests) "__init__" = some (some (.ref f2)))
    (i2 : PySem.W.isFn K (.ref f2) = true)
    (l2 : K.lookup f2 = some ⟨oc2, od2, .func (PySem.W.fnOf "__init__" "Digests.__init__" (defArgs s_Digests___init) (defBody s_Digests___init) (defScope s_Digests___init) .none kV2 dc2 pm2 an2 cd2 ct2), sl2⟩)
    (c2 : PySem.W.codeIn K cd2 "Digests.__init__" = true)
    (k2 : PySem.W.keepIn K (.ref f2) = true)
    (a3 : PySem.W.findIn K (.ref C_Digests) "leaf" = some (some (.ref f3)))
    (i3 : PySem.W.isFn K (.ref f3) = true)
    (l3 : K.lookup f3 = some ⟨oc3, od3, .func (PySem.W.fnOf "leaf" "Digests.leaf" (defArgs s_Digests_leaf) (defBody s_Digests_leaf) (defScope s_Digests_leaf) .none kV3 dc3 pm3 an3 cd3 ct3), sl3⟩)
    (c3 : PySem.W.codeIn K cd3 "Digests.leaf" = true)
    (k3 : PySem.W.keepIn K (.ref f3) = true)
    (a4 : PySem.W.findIn K (.ref C_Digests) "fold" = some (some (.ref f4)))
    (i4 : PySem.W.isFn K (.ref f4) = true)
    (l4 : K.lookup f4 = some ⟨oc4, od4, .func (PySem.W.fnOf "fold" "Digests.fold" (defArgs s_Digests_fold) (defBody s_Digests_fold) (defScope s_Digests_fold) .none kV4 dc4 pm4 an4 cd4 ct4), sl4⟩)
    (c4 : PySem.W.codeIn K cd4 "Digests.fold" = true)
    (k4 : PySem.W.keepIn K (.ref f4) = true)
    (a5 : PySem.W.findIn K (.ref C_Digests) "state" = some (some (.ref f5)))
    (i5 : PySem.W.isFn K (.ref f5) = true)
    (l5 : K.lookup f5 = some ⟨oc5, od5, .func (PySem.W.fnOf "state" "Digests.state" (defArgs s_Digests_state) (defBody s_Digests_state) (defScope s_Digests_state) .none kV5 dc5 pm5 an5 cd5 ct5), sl5⟩)
    (c5 : PySem.W.codeIn K cd5 "Digests.state" = true)
    (k5 : PySem.W.keepIn K (.ref f5) = true)
    (a6 : PySem.W.findIn K (.ref C_Digests) "is_digest" = some (some (.ref f6)))
    (i6 : PySem.W.isFn K (.ref f6) = true)
    (l6 : K.lookup f6 = some ⟨oc6, od6, .func (PySem.W.fnOf "is_digest" "Digests.is_digest" (defArgs s_Digests_is_digest) (defBody s_Digests_is_digest) (defScope s_Digests_is_digest) .none kV6 dc6 pm6 an6 cd6 ct6), sl6⟩)
    (c6 : PySem.W.codeIn K cd6 "Digests.is_digest" = true)
    (k6 : PySem.W.keepIn K (.ref f6) = true)
    (a7 : PySem.W.findIn K (.ref C_Digests) "_noted" = some (some (.ref f7)))
    (i7 : PySem.W.isFn K (.ref f7) = true)
    (l7 : K.lookup f7 = some ⟨oc7, od7, .func (PySem.W.fnOf "_noted" "Digests._noted" (defArgs s_Digests__noted) (defBody s_Digests__noted) (defScope s_Digests__noted) .none kV7 dc7 pm7 an7 cd7 ct7), sl7⟩)
    (c7 : PySem.W.codeIn K cd7 "Digests._noted" = true)
    (k7 : PySem.W.keepIn K (.ref f7) = true)
    (a8 : PySem.W.findIn K (.ref C_Book) "__init__" = some (some (.ref f8)))
    (i8 : PySem.W.isFn K (.ref f8) = true)
    (l8 : K.lookup f8 = some ⟨oc8, od8, .func (PySem.W.fnOf "__init__" "Book.__init__" (defArgs s_Book___init) (defBody s_Book___init) (defScope s_Book___init) .none kV8 dc8 pm8 an8 cd8 ct8), sl8⟩)
    (c8 : PySem.W.codeIn K cd8 "Book.__init__" = true)
    (k8 : PySem.W.keepIn K (.ref f8) = true)
    (a9 : PySem.W.findIn K (.ref C_Book) "add" = some (some (.ref f9)))
    (i9 : PySem.W.isFn K (.ref f9) = true)
    (l9 : K.lookup f9 = some ⟨oc9, od9, .func (PySem.W.fnOf "add" "Book.add" (defArgs s_Book_add) (defBody s_Book_add) (defScope s_Book_add) .none kV9 dc9 pm9 an9 cd9 ct9), sl9⟩)
    (c9 : PySem.W.codeIn K cd9 "Book.add" = true)
    (k9 : PySem.W.keepIn K (.ref f9) = true)
    (a10 : PySem.W.findIn K (.ref C_Book) "has_collision" = some (some (.ref f10)))
    (i10 : PySem.W.isFn K (.ref f10) = true)
    (l10 : K.lookup f10 = some ⟨oc10, od10, .func (PySem.W.fnOf "has_collision" "Book.has_collision" (defArgs s_Book_has_collision) (defBody s_Book_has_collision) (defScope s_Book_has_collision) .none kV10 dc10 pm10 an10 cd10 ct10), sl10⟩)
    (c10 : PySem.W.codeIn K cd10 "Book.has_collision" = true)
    (k10 : PySem.W.keepIn K (.ref f10) = true)
    (a11 : PySem.W.findIn K (.ref C_Book) "count" = some (some (.ref f11)))
    (i11 : PySem.W.isFn K (.ref f11) = true)
    (l11 : K.lookup f11 = some ⟨oc11, od11, .func (PySem.W.fnOf "count" "Book.count" (defArgs s_Book_count) (defBody s_Book_count) (defScope s_Book_count) .none kV11 dc11 pm11 an11 cd11 ct11), sl11⟩)
    (c11 : PySem.W.codeIn K cd11 "Book.count" = true)
    (k11 : PySem.W.keepIn K (.ref f11) = true)
    (a12 : PySem.W.nsIn K mainGlobals "root_by" = some (some (.ref f12)))
    (l12 : K.lookup f12 = some ⟨oc12, od12, .func (PySem.W.fnOf "root_by" "root_by" (defArgs s_root_by) (defBody s_root_by) (defScope s_root_by) .none kV12 dc12 pm12 an12 cd12 ct12), sl12⟩)
    (c12 : PySem.W.codeIn K cd12 "root_by" = true)
    (k12 : PySem.W.keepIn K (.ref f12) = true)
    (a13 : PySem.W.nsIn K mainGlobals "levels_of" = some (some (.ref f13)))
    (l13 : K.lookup f13 = some ⟨oc13, od13, .func (PySem.W.fnOf "levels_of" "levels_of" (defArgs s_levels_of) (defBody s_levels_of) (defScope s_levels_of) .none kV13 dc13 pm13 an13 cd13 ct13), sl13⟩)
    (c13 : PySem.W.codeIn K cd13 "levels_of" = true)
    (k13 : PySem.W.keepIn K (.ref f13) = true)
    (a14 : PySem.W.nsIn K mainGlobals "path_in" = some (some (.ref f14)))
    (l14 : K.lookup f14 = some ⟨oc14, od14, .func (PySem.W.fnOf "path_in" "path_in" (defArgs s_path_in) (defBody s_path_in) (defScope s_path_in) .none kV14 dc14 pm14 an14 cd14 ct14), sl14⟩)
    (c14 : PySem.W.codeIn K cd14 "path_in" = true)
    (k14 : PySem.W.keepIn K (.ref f14) = true)
    (a15 : PySem.W.findIn K (.ref C_Memory) "__init__" = some (some (.ref f15)))
    (i15 : PySem.W.isFn K (.ref f15) = true)
    (l15 : K.lookup f15 = some ⟨oc15, od15, .func (PySem.W.fnOf "__init__" "Memory.__init__" (defArgs s_Memory___init) (defBody s_Memory___init) (defScope s_Memory___init) .none kV15 dc15 pm15 an15 cd15 ct15), sl15⟩)
    (c15 : PySem.W.codeIn K cd15 "Memory.__init__" = true)
    (k15 : PySem.W.keepIn K (.ref f15) = true)
    (a16 : PySem.W.findIn K (.ref C_Memory) "word" = some (some (.ref f16)))
    (i16 : PySem.W.isFn K (.ref f16) = true)
    (l16 : K.lookup f16 = some ⟨oc16, od16, .func (PySem.W.fnOf "word" "Memory.word" (defArgs s_Memory_word) (defBody s_Memory_word) (defScope s_Memory_word) .none kV16 dc16 pm16 an16 cd16 ct16), sl16⟩)
    (c16 : PySem.W.codeIn K cd16 "Memory.word" = true)
    (k16 : PySem.W.keepIn K (.ref f16) = true)
    (a17 : PySem.W.findIn K (.ref C_Memory) "change" = some (some (.ref f17)))
    (i17 : PySem.W.isFn K (.ref f17) = true)
    (l17 : K.lookup f17 = some ⟨oc17, od17, .func (PySem.W.fnOf "change" "Memory.change" (defArgs s_Memory_change) (defBody s_Memory_change) (defScope s_Memory_change) .none kV17 dc17 pm17 an17 cd17 ct17), sl17⟩)
    (c17 : PySem.W.codeIn K cd17 "Memory.change" = true)
    (k17 : PySem.W.keepIn K (.ref f17) = true)
    (a18 : PySem.W.findIn K (.ref C_Memory) "words" = some (some (.ref f18)))
    (i18 : PySem.W.isFn K (.ref f18) = true)
    (l18 : K.lookup f18 = some ⟨oc18, od18, .func (PySem.W.fnOf "words" "Memory.words" (defArgs s_Memory_words) (defBody s_Memory_words) (defScope s_Memory_words) .none kV18 dc18 pm18 an18 cd18 ct18), sl18⟩)
    (c18 : PySem.W.codeIn K cd18 "Memory.words" = true)
    (k18 : PySem.W.keepIn K (.ref f18) = true)
    (a19 : PySem.W.findIn K (.ref C_Memory) "root" = some (some (.ref f19)))
    (i19 : PySem.W.isFn K (.ref f19) = true)
    (l19 : K.lookup f19 = some ⟨oc19, od19, .func (PySem.W.fnOf "root" "Memory.root" (defArgs s_Memory_root) (defBody s_Memory_root) (defScope s_Memory_root) .none kV19 dc19 pm19 an19 cd19 ct19), sl19⟩)
    (c19 : PySem.W.codeIn K cd19 "Memory.root" = true)
    (k19 : PySem.W.keepIn K (.ref f19) = true)
    (a20 : PySem.W.findIn K (.ref C_Memory) "path" = some (some (.ref f20)))
    (i20 : PySem.W.isFn K (.ref f20) = true)
    (l20 : K.lookup f20 = some ⟨oc20, od20, .func (PySem.W.fnOf "path" "Memory.path" (defArgs s_Memory_path) (defBody s_Memory_path) (defScope s_Memory_path) .none kV20 dc20 pm20 an20 cd20 ct20), sl20⟩)
    (c20 : PySem.W.codeIn K cd20 "Memory.path" = true)
    (k20 : PySem.W.keepIn K (.ref f20) = true)
    (a21 : PySem.W.nsIn K mainGlobals "op" = some (some (.ref f21)))
    (l21 : K.lookup f21 = some ⟨oc21, od21, .func (PySem.W.fnOf "op" "op" (defArgs s_op) (defBody s_op) (defScope s_op) .none kV21 dc21 pm21 an21 cd21 ct21), sl21⟩)
    (c21 : PySem.W.codeIn K cd21 "op" = true)
    (k21 : PySem.W.keepIn K (.ref f21) = true)
    (a22 : PySem.W.nsIn K mainGlobals "divided" = some (some (.ref f22)))
    (l22 : K.lookup f22 = some ⟨oc22, od22, .func (PySem.W.fnOf "divided" "divided" (defArgs s_divided) (defBody s_divided) (defScope s_divided) .none kV22 dc22 pm22 an22 cd22 ct22), sl22⟩)
    (c22 : PySem.W.codeIn K cd22 "divided" = true)
    (k22 : PySem.W.keepIn K (.ref f22) = true)
    (a23 : PySem.W.nsIn K mainGlobals "wrapped" = some (some (.ref f23)))
    (l23 : K.lookup f23 = some ⟨oc23, od23, .func (PySem.W.fnOf "wrapped" "wrapped" (defArgs s_wrapped) (defBody s_wrapped) (defScope s_wrapped) .none kV23 dc23 pm23 an23 cd23 ct23), sl23⟩)
    (c23 : PySem.W.codeIn K cd23 "wrapped" = true)
    (k23 : PySem.W.keepIn K (.ref f23) = true)
    (a24 : PySem.W.nsIn K mainGlobals "holds" = some (some (.ref f24)))
    (l24 : K.lookup f24 = some ⟨oc24, od24, .func (PySem.W.fnOf "holds" "holds" (defArgs s_holds) (defBody s_holds) (defScope s_holds) .none kV24 dc24 pm24 an24 cd24 ct24), sl24⟩)
    (c24 : PySem.W.codeIn K cd24 "holds" = true)
    (k24 : PySem.W.keepIn K (.ref f24) = true)
    (a25 : PySem.W.nsIn K mainGlobals "out_behind" = some (some (.ref f25)))
    (l25 : K.lookup f25 = some ⟨oc25, od25, .func (PySem.W.fnOf "out_behind" "out_behind" (defArgs s_out_behind) (defBody s_out_behind) (defScope s_out_behind) .none kV25 dc25 pm25 an25 cd25 ct25), sl25⟩)
    (c25 : PySem.W.codeIn K cd25 "out_behind" = true)
    (k25 : PySem.W.keepIn K (.ref f25) = true)
    (a26 : PySem.W.nsIn K mainGlobals "name_of" = some (some (.ref f26)))
    (l26 : K.lookup f26 = some ⟨oc26, od26, .func (PySem.W.fnOf "name_of" "name_of" (defArgs s_name_of) (defBody s_name_of) (defScope s_name_of) .none kV26 dc26 pm26 an26 cd26 ct26), sl26⟩)
    (c26 : PySem.W.codeIn K cd26 "name_of" = true)
    (k26 : PySem.W.keepIn K (.ref f26) = true)
    (a27 : PySem.W.nsIn K mainGlobals "behind" = some (some (.ref f27)))
    (l27 : K.lookup f27 = some ⟨oc27, od27, .func (PySem.W.fnOf "behind" "behind" (defArgs s_behind) (defBody s_behind) (defScope s_behind) .none kV27 dc27 pm27 an27 cd27 ct27), sl27⟩)
    (c27 : PySem.W.codeIn K cd27 "behind" = true)
    (k27 : PySem.W.keepIn K (.ref f27) = true)
    (a28 : PySem.W.nsIn K mainGlobals "data_of" = some (some (.ref f28)))
    (l28 : K.lookup f28 = some ⟨oc28, od28, .func (PySem.W.fnOf "data_of" "data_of" (defArgs s_data_of) (defBody s_data_of) (defScope s_data_of) .none kV28 dc28 pm28 an28 cd28 ct28), sl28⟩)
    (c28 : PySem.W.codeIn K cd28 "data_of" = true)
    (k28 : PySem.W.keepIn K (.ref f28) = true)
    (a29 : PySem.W.nsIn K mainGlobals "done_by" = some (some (.ref f29)))
    (l29 : K.lookup f29 = some ⟨oc29, od29, .func (PySem.W.fnOf "done_by" "done_by" (defArgs s_done_by) (defBody s_done_by) (defScope s_done_by) .none kV29 dc29 pm29 an29 cd29 ct29), sl29⟩)
    (c29 : PySem.W.codeIn K cd29 "done_by" = true)
    (k29 : PySem.W.keepIn K (.ref f29) = true)
    (a30 : PySem.W.nsIn K mainGlobals "halt_by" = some (some (.ref f30)))
    (l30 : K.lookup f30 = some ⟨oc30, od30, .func (PySem.W.fnOf "halt_by" "halt_by" (defArgs s_halt_by) (defBody s_halt_by) (defScope s_halt_by) .none kV30 dc30 pm30 an30 cd30 ct30), sl30⟩)
    (c30 : PySem.W.codeIn K cd30 "halt_by" = true)
    (k30 : PySem.W.keepIn K (.ref f30) = true)
    (a31 : PySem.W.nsIn K mainGlobals "pc_by" = some (some (.ref f31)))
    (l31 : K.lookup f31 = some ⟨oc31, od31, .func (PySem.W.fnOf "pc_by" "pc_by" (defArgs s_pc_by) (defBody s_pc_by) (defScope s_pc_by) .none kV31 dc31 pm31 an31 cd31 ct31), sl31⟩)
    (c31 : PySem.W.codeIn K cd31 "pc_by" = true)
    (k31 : PySem.W.keepIn K (.ref f31) = true)
    (a32 : PySem.W.nsIn K mainGlobals "acc_by" = some (some (.ref f32)))
    (l32 : K.lookup f32 = some ⟨oc32, od32, .func (PySem.W.fnOf "acc_by" "acc_by" (defArgs s_acc_by) (defBody s_acc_by) (defScope s_acc_by) .none kV32 dc32 pm32 an32 cd32 ct32), sl32⟩)
    (c32 : PySem.W.codeIn K cd32 "acc_by" = true)
    (k32 : PySem.W.keepIn K (.ref f32) = true)
    (a33 : PySem.W.nsIn K mainGlobals "x_by" = some (some (.ref f33)))
    (l33 : K.lookup f33 = some ⟨oc33, od33, .func (PySem.W.fnOf "x_by" "x_by" (defArgs s_x_by) (defBody s_x_by) (defScope s_x_by) .none kV33 dc33 pm33 an33 cd33 ct33), sl33⟩)
    (c33 : PySem.W.codeIn K cd33 "x_by" = true)
    (k33 : PySem.W.keepIn K (.ref f33) = true)
    (a34 : PySem.W.nsIn K mainGlobals "changed_by" = some (some (.ref f34)))
    (l34 : K.lookup f34 = some ⟨oc34, od34, .func (PySem.W.fnOf "changed_by" "changed_by" (defArgs s_changed_by) (defBody s_changed_by) (defScope s_changed_by) .none kV34 dc34 pm34 an34 cd34 ct34), sl34⟩)
    (c34 : PySem.W.codeIn K cd34 "changed_by" = true)
    (k34 : PySem.W.keepIn K (.ref f34) = true)
    (a35 : PySem.W.findIn K (.ref C_Machine) "__init__" = some (some (.ref f35)))
    (i35 : PySem.W.isFn K (.ref f35) = true)
    (l35 : K.lookup f35 = some ⟨oc35, od35, .func (PySem.W.fnOf "__init__" "Machine.__init__" (defArgs s_Machine___init) (defBody s_Machine___init) (defScope s_Machine___init) .none kV35 dc35 pm35 an35 cd35 ct35), sl35⟩)
    (c35 : PySem.W.codeIn K cd35 "Machine.__init__" = true)
    (k35 : PySem.W.keepIn K (.ref f35) = true)
    (a36 : PySem.W.findIn K (.ref C_Machine) "registers" = some (some (.ref f36)))
    (i36 : PySem.W.isFn K (.ref f36) = true)
    (l36 : K.lookup f36 = some ⟨oc36, od36, .func (PySem.W.fnOf "registers" "Machine.registers" (defArgs s_Machine_registers) (defBody s_Machine_registers) (defScope s_Machine_registers) .none kV36 dc36 pm36 an36 cd36 ct36), sl36⟩)
    (c36 : PySem.W.codeIn K cd36 "Machine.registers" = true)
    (k36 : PySem.W.keepIn K (.ref f36) = true)
    (a37 : PySem.W.findIn K (.ref C_Machine) "words" = some (some (.ref f37)))
    (i37 : PySem.W.isFn K (.ref f37) = true)
    (l37 : K.lookup f37 = some ⟨oc37, od37, .func (PySem.W.fnOf "words" "Machine.words" (defArgs s_Machine_words) (defBody s_Machine_words) (defScope s_Machine_words) .none kV37 dc37 pm37 an37 cd37 ct37), sl37⟩)
    (c37 : PySem.W.codeIn K cd37 "Machine.words" = true)
    (k37 : PySem.W.keepIn K (.ref f37) = true)
    (a38 : PySem.W.findIn K (.ref C_Machine) "word" = some (some (.ref f38)))
    (i38 : PySem.W.isFn K (.ref f38) = true)
    (l38 : K.lookup f38 = some ⟨oc38, od38, .func (PySem.W.fnOf "word" "Machine.word" (defArgs s_Machine_word) (defBody s_Machine_word) (defScope s_Machine_word) .none kV38 dc38 pm38 an38 cd38 ct38), sl38⟩)
    (c38 : PySem.W.codeIn K cd38 "Machine.word" = true)
    (k38 : PySem.W.keepIn K (.ref f38) = true)
    (a39 : PySem.W.findIn K (.ref C_Machine) "path" = some (some (.ref f39)))
    (i39 : PySem.W.isFn K (.ref f39) = true)
    (l39 : K.lookup f39 = some ⟨oc39, od39, .func (PySem.W.fnOf "path" "Machine.path" (defArgs s_Machine_path) (defBody s_Machine_path) (defScope s_Machine_path) .none kV39 dc39 pm39 an39 cd39 ct39), sl39⟩)
    (c39 : PySem.W.codeIn K cd39 "Machine.path" = true)
    (k39 : PySem.W.keepIn K (.ref f39) = true)
    (a40 : PySem.W.findIn K (.ref C_Machine) "root" = some (some (.ref f40)))
    (i40 : PySem.W.isFn K (.ref f40) = true)
    (l40 : K.lookup f40 = some ⟨oc40, od40, .func (PySem.W.fnOf "root" "Machine.root" (defArgs s_Machine_root) (defBody s_Machine_root) (defScope s_Machine_root) .none kV40 dc40 pm40 an40 cd40 ct40), sl40⟩)
    (c40 : PySem.W.codeIn K cd40 "Machine.root" = true)
    (k40 : PySem.W.keepIn K (.ref f40) = true)
    (a41 : PySem.W.findIn K (.ref C_Machine) "digest" = some (some (.ref f41)))
    (i41 : PySem.W.isFn K (.ref f41) = true)
    (l41 : K.lookup f41 = some ⟨oc41, od41, .func (PySem.W.fnOf "digest" "Machine.digest" (defArgs s_Machine_digest) (defBody s_Machine_digest) (defScope s_Machine_digest) .none kV41 dc41 pm41 an41 cd41 ct41), sl41⟩)
    (c41 : PySem.W.codeIn K cd41 "Machine.digest" = true)
    (k41 : PySem.W.keepIn K (.ref f41) = true)
    (a42 : PySem.W.findIn K (.ref C_Machine) "step" = some (some (.ref f42)))
    (i42 : PySem.W.isFn K (.ref f42) = true)
    (l42 : K.lookup f42 = some ⟨oc42, od42, .func (PySem.W.fnOf "step" "Machine.step" (defArgs s_Machine_step) (defBody s_Machine_step) (defScope s_Machine_step) .none kV42 dc42 pm42 an42 cd42 ct42), sl42⟩)
    (c42 : PySem.W.codeIn K cd42 "Machine.step" = true)
    (k42 : PySem.W.keepIn K (.ref f42) = true)
    (a43 : PySem.W.findIn K (.ref C_Machine) "told" = some (some (.ref f43)))
    (i43 : PySem.W.isFn K (.ref f43) = true)
    (l43 : K.lookup f43 = some ⟨oc43, od43, .func (PySem.W.fnOf "told" "Machine.told" (defArgs s_Machine_told) (defBody s_Machine_told) (defScope s_Machine_told) .none kV43 dc43 pm43 an43 cd43 ct43), sl43⟩)
    (c43 : PySem.W.codeIn K cd43 "Machine.told" = true)
    (k43 : PySem.W.keepIn K (.ref f43) = true)
    (a44 : PySem.W.nsIn K mainGlobals "opened" = some (some (.ref f44)))
    (l44 : K.lookup f44 = some ⟨oc44, od44, .func (PySem.W.fnOf "opened" "opened" (defArgs s_opened) (defBody s_opened) (defScope s_opened) .none kV44 dc44 pm44 an44 cd44 ct44), sl44⟩)
    (c44 : PySem.W.codeIn K cd44 "opened" = true)
    (k44 : PySem.W.keepIn K (.ref f44) = true)
    (a45 : PySem.W.nsIn K mainGlobals "places_of" = some (some (.ref f45)))
    (l45 : K.lookup f45 = some ⟨oc45, od45, .func (PySem.W.fnOf "places_of" "places_of" (defArgs s_places_of) (defBody s_places_of) (defScope s_places_of) .none kV45 dc45 pm45 an45 cd45 ct45), sl45⟩)
    (c45 : PySem.W.codeIn K cd45 "places_of" = true)
    (k45 : PySem.W.keepIn K (.ref f45) = true)
    (a46 : PySem.W.nsIn K mainGlobals "step_of" = some (some (.ref f46)))
    (l46 : K.lookup f46 = some ⟨oc46, od46, .func (PySem.W.fnOf "step_of" "step_of" (defArgs s_step_of) (defBody s_step_of) (defScope s_step_of) .none kV46 dc46 pm46 an46 cd46 ct46), sl46⟩)
    (c46 : PySem.W.codeIn K cd46 "step_of" = true)
    (k46 : PySem.W.keepIn K (.ref f46) = true)
    (a47 : PySem.W.nsIn K mainGlobals "step_by" = some (some (.ref f47)))
    (l47 : K.lookup f47 = some ⟨oc47, od47, .func (PySem.W.fnOf "step_by" "step_by" (defArgs s_step_by) (defBody s_step_by) (defScope s_step_by) .none kV47 dc47 pm47 an47 cd47 ct47), sl47⟩)
    (c47 : PySem.W.codeIn K cd47 "step_by" = true)
    (k47 : PySem.W.keepIn K (.ref f47) = true)
    (a48 : PySem.W.nsIn K mainGlobals "root_with" = some (some (.ref f48)))
    (l48 : K.lookup f48 = some ⟨oc48, od48, .func (PySem.W.fnOf "root_with" "root_with" (defArgs s_root_with) (defBody s_root_with) (defScope s_root_with) .none kV48 dc48 pm48 an48 cd48 ct48), sl48⟩)
    (c48 : PySem.W.codeIn K cd48 "root_with" = true)
    (k48 : PySem.W.keepIn K (.ref f48) = true)
    (a49 : PySem.W.nsIn K mainGlobals "is_opening" = some (some (.ref f49)))
    (l49 : K.lookup f49 = some ⟨oc49, od49, .func (PySem.W.fnOf "is_opening" "is_opening" (defArgs s_is_opening) (defBody s_is_opening) (defScope s_is_opening) .none kV49 dc49 pm49 an49 cd49 ct49), sl49⟩)
    (c49 : PySem.W.codeIn K cd49 "is_opening" = true)
    (k49 : PySem.W.keepIn K (.ref f49) = true)
    (a50 : PySem.W.nsIn K mainGlobals "is_part" = some (some (.ref f50)))
    (l50 : K.lookup f50 = some ⟨oc50, od50, .func (PySem.W.fnOf "is_part" "is_part" (defArgs s_is_part) (defBody s_is_part) (defScope s_is_part) .none kV50 dc50 pm50 an50 cd50 ct50), sl50⟩)
    (c50 : PySem.W.codeIn K cd50 "is_part" = true)
    (k50 : PySem.W.keepIn K (.ref f50) = true)
    (a51 : PySem.W.nsIn K mainGlobals "are_registers" = some (some (.ref f51)))
    (l51 : K.lookup f51 = some ⟨oc51, od51, .func (PySem.W.fnOf "are_registers" "are_registers" (defArgs s_are_registers) (defBody s_are_registers) (defScope s_are_registers) .none kV51 dc51 pm51 an51 cd51 ct51), sl51⟩)
    (c51 : PySem.W.codeIn K cd51 "are_registers" = true)
    (k51 : PySem.W.keepIn K (.ref f51) = true)
    (a52 : PySem.W.nsIn K mainGlobals "_law_bag" = some (some (.ref f52)))
    (l52 : K.lookup f52 = some ⟨oc52, od52, .func (PySem.W.fnOf "_law_bag" "_law_bag" (defArgs s_law_bag) (defBody s_law_bag) (defScope s_law_bag) .none kV52 dc52 pm52 an52 cd52 ct52), sl52⟩)
    (c52 : PySem.W.codeIn K cd52 "_law_bag" = true)
    (k52 : PySem.W.keepIn K (.ref f52) = true)
    (a53 : PySem.W.nsIn K mainGlobals "_law_draw" = some (some (.ref f53)))
    (l53 : K.lookup f53 = some ⟨oc53, od53, .func (PySem.W.fnOf "_law_draw" "_law_draw" (defArgs s_law_draw) (defBody s_law_draw) (defScope s_law_draw) .none kV53 dc53 pm53 an53 cd53 ct53), sl53⟩)
    (c53 : PySem.W.codeIn K cd53 "_law_draw" = true)
    (k53 : PySem.W.keepIn K (.ref f53) = true)
    (a54 : PySem.W.nsIn K mainGlobals "_law_word" = some (some (.ref f54)))
    (l54 : K.lookup f54 = some ⟨oc54, od54, .func (PySem.W.fnOf "_law_word" "_law_word" (defArgs s_law_word) (defBody s_law_word) (defScope s_law_word) .none kV54 dc54 pm54 an54 cd54 ct54), sl54⟩)
    (c54 : PySem.W.codeIn K cd54 "_law_word" = true)
    (k54 : PySem.W.keepIn K (.ref f54) = true)
    (a55 : PySem.W.nsIn K mainGlobals "_law_words" = some (some (.ref f55)))
    (l55 : K.lookup f55 = some ⟨oc55, od55, .func (PySem.W.fnOf "_law_words" "_law_words" (defArgs s_law_words) (defBody s_law_words) (defScope s_law_words) .none kV55 dc55 pm55 an55 cd55 ct55), sl55⟩)
    (c55 : PySem.W.codeIn K cd55 "_law_words" = true)
    (k55 : PySem.W.keepIn K (.ref f55) = true)
    (a56 : PySem.W.nsIn K mainGlobals "_law_start" = some (some (.ref f56)))
    (l56 : K.lookup f56 = some ⟨oc56, od56, .func (PySem.W.fnOf "_law_start" "_law_start" (defArgs s_law_start) (defBody s_law_start) (defScope s_law_start) .none kV56 dc56 pm56 an56 cd56 ct56), sl56⟩)
    (c56 : PySem.W.codeIn K cd56 "_law_start" = true)
    (k56 : PySem.W.keepIn K (.ref f56) = true)
    (a57 : PySem.W.nsIn K mainGlobals "_law_put" = some (some (.ref f57)))
    (l57 : K.lookup f57 = some ⟨oc57, od57, .func (PySem.W.fnOf "_law_put" "_law_put" (defArgs s_law_put) (defBody s_law_put) (defScope s_law_put) .none kV57 dc57 pm57 an57 cd57 ct57), sl57⟩)
    (c57 : PySem.W.codeIn K cd57 "_law_put" = true)
    (k57 : PySem.W.keepIn K (.ref f57) = true)
    (a58 : PySem.W.nsIn K mainGlobals "_law_registers_turned" = some (some (.ref f58)))
    (l58 : K.lookup f58 = some ⟨oc58, od58, .func (PySem.W.fnOf "_law_registers_turned" "_law_registers_turned" (defArgs s_law_registers_turned) (defBody s_law_registers_turned) (defScope s_law_registers_turned) .none kV58 dc58 pm58 an58 cd58 ct58), sl58⟩)
    (c58 : PySem.W.codeIn K cd58 "_law_registers_turned" = true)
    (k58 : PySem.W.keepIn K (.ref f58) = true)
    (a59 : PySem.W.nsIn K mainGlobals "_law_part_turned" = some (some (.ref f59)))
    (l59 : K.lookup f59 = some ⟨oc59, od59, .func (PySem.W.fnOf "_law_part_turned" "_law_part_turned" (defArgs s_law_part_turned) (defBody s_law_part_turned) (defScope s_law_part_turned) .none kV59 dc59 pm59 an59 cd59 ct59), sl59⟩)
    (c59 : PySem.W.codeIn K cd59 "_law_part_turned" = true)
    (k59 : PySem.W.keepIn K (.ref f59) = true)
    (a60 : PySem.W.nsIn K mainGlobals "_law_turned" = some (some (.ref f60)))
    (l60 : K.lookup f60 = some ⟨oc60, od60, .func (PySem.W.fnOf "_law_turned" "_law_turned" (defArgs s_law_turned) (defBody s_law_turned) (defScope s_law_turned) .none kV60 dc60 pm60 an60 cd60 ct60), sl60⟩)
    (c60 : PySem.W.codeIn K cd60 "_law_turned" = true)
    (k60 : PySem.W.keepIn K (.ref f60) = true)
    (a61 : PySem.W.nsIn K mainGlobals "_law_told" = some (some (.ref f61)))
    (l61 : K.lookup f61 = some ⟨oc61, od61, .func (PySem.W.fnOf "_law_told" "_law_told" (defArgs s_law_told) (defBody s_law_told) (defScope s_law_told) .none kV61 dc61 pm61 an61 cd61 ct61), sl61⟩)
    (c61 : PySem.W.codeIn K cd61 "_law_told" = true)
    (k61 : PySem.W.keepIn K (.ref f61) = true)
    (a62 : PySem.W.nsIn K mainGlobals "law" = some (some (.ref f62)))
    (l62 : K.lookup f62 = some ⟨oc62, od62, .func (PySem.W.fnOf "law" "law" (defArgs s_law) (defBody s_law) (defScope s_law) .none kV62 dc62 pm62 an62 cd62 ct62), sl62⟩)
    (c62 : PySem.W.codeIn K cd62 "law" = true)
    (k62 : PySem.W.keepIn K (.ref f62) = true)
    (pg_Digests : PySem.W.plainGet K C_Digests Str.empty = true)
    (hd_Digests : PySem.W.hasDictIn K C_Digests = true)
    (po_Digests : PySem.W.plainOver K C_Digests = true)
    (sa_Digests : PySem.W.findIn K (.ref C_Digests) "__setattr__" = some (some (.builtin "object.__setattr__")))
    (mk_Digests : PySem.W.makesIn K C_Digests = true)
    (kc_Digests : PySem.W.keepIn K (.ref C_Digests) = true)
    (n_Digests_bits : PySem.W.findIn K (.ref C_Digests) "_bits" = some none)
    (n_Digests_book : PySem.W.findIn K (.ref C_Digests) "_book" = some none)
    (n_Digests_modulus : PySem.W.findIn K (.ref C_Digests) "_modulus" = some none)
    (pg_Book : PySem.W.plainGet K C_Book Str.empty = true)
    (hd_Book : PySem.W.hasDictIn K C_Book = true)
    (po_Book : PySem.W.plainOver K C_Book = true)
    (sa_Book : PySem.W.findIn K (.ref C_Book) "__setattr__" = some (some (.builtin "object.__setattr__")))
    (mk_Book : PySem.W.makesIn K C_Book = true)
    (kc_Book : PySem.W.keepIn K (.ref C_Book) = true)
    (n_Book_texts : PySem.W.findIn K (.ref C_Book) "_texts" = some none)
    (n_Book_firsts : PySem.W.findIn K (.ref C_Book) "_firsts" = some none)
    (n_Book_collided : PySem.W.findIn K (.ref C_Book) "_collided" = some none)
    (pg_Memory : PySem.W.plainGet K C_Memory Str.empty = true)
    (hd_Memory : PySem.W.hasDictIn K C_Memory = true)
    (po_Memory : PySem.W.plainOver K C_Memory = true)
    (sa_Memory : PySem.W.findIn K (.ref C_Memory) "__setattr__" = some (some (.builtin "object.__setattr__")))
    (mk_Memory : PySem.W.makesIn K C_Memory = true)
    (kc_Memory : PySem.W.keepIn K (.ref C_Memory) = true)
    (n_Memory_digests : PySem.W.findIn K (.ref C_Memory) "_digests" = some none)
    (n_Memory_words : PySem.W.findIn K (.ref C_Memory) "_words" = some none)
    (n_Memory_levels : PySem.W.findIn K (.ref C_Memory) "_levels" = some none)
    (pg_Machine : PySem.W.plainGet K C_Machine Str.empty = true)
    (hd_Machine : PySem.W.hasDictIn K C_Machine = true)
    (po_Machine : PySem.W.plainOver K C_Machine = true)
    (sa_Machine : PySem.W.findIn K (.ref C_Machine) "__setattr__" = some (some (.builtin "object.__setattr__")))
    (mk_Machine : PySem.W.makesIn K C_Machine = true)
    (kc_Machine : PySem.W.keepIn K (.ref C_Machine) = true)
    (n_Machine_digests : PySem.W.findIn K (.ref C_Machine) "_digests" = some none)
    (n_Machine_registers : PySem.W.findIn K (.ref C_Machine) "_registers" = some none)
    (n_Machine_memory : PySem.W.findIn K (.ref C_Machine) "_memory" = some none)
    (n_Machine_told : PySem.W.findIn K (.ref C_Machine) "_told" = some none)
    (aX_CourtError : PySem.W.nsIn K mainGlobals "CourtError" = some (some (.ref C_CourtError)))
    (xX_CourtError : PySem.W.excIn K C_CourtError [.type "ValueError", .type "Exception", .type "BaseException", .type "object"] "ValueError.__new__" = true)
    (kX_CourtError : PySem.W.keepIn K (.ref C_CourtError) = true)
    (bX_CourtError : PySem.W.subIn K (.ref C_CourtError) (.type "BaseException") = some true)
    (tX_CourtError : PySem.W.typeIn K (.ref C_CourtError) = some (.type "type"))
    (iX_CourtError : PySem.W.isClsIn K C_CourtError = true)
    (sX_CourtError : PySem.W.subIn K (.ref C_CourtError) (.ref C_CourtError) = some true)
    (aX_BadOpening : PySem.W.nsIn K mainGlobals "BadOpening" = some (some (.ref C_BadOpening)))
    (xX_BadOpening : PySem.W.excIn K C_BadOpening [.type "ValueError", .type "Exception", .type "BaseException", .type "object"] "ValueError.__new__" = true)
    (kX_BadOpening : PySem.W.keepIn K (.ref C_BadOpening) = true)
    (bX_BadOpening : PySem.W.subIn K (.ref C_BadOpening) (.type "BaseException") = some true)
    (tX_BadOpening : PySem.W.typeIn K (.ref C_BadOpening) = some (.type "type"))
    (iX_BadOpening : PySem.W.isClsIn K C_BadOpening = true)
    (sX_BadOpening : PySem.W.subIn K (.ref C_BadOpening) (.ref C_BadOpening) = some true)
    (hgE_BadOpening : PySem.W.findIn K (.ref C_BadOpening) "__getattribute__" = some (some (.builtin "BaseException.__getattribute__")))
    (hkE_BadOpening : PySem.W.findIn K (.ref C_BadOpening) "__getattr__" = some none)
    (hdE_BadOpening : PySem.W.hasDictIn K C_BadOpening = true)
    (haE_BadOpening : PySem.W.findIn K (.ref C_BadOpening) "__class__" = some (some (.builtin "object.__class__")))
    (hmE_BadOpening : PySem.W.mroIn K C_BadOpening (.type "object") = some true)
    (hnE : PySem.W.specialIn K (.builtin "object.__class__") "__get__" = some (some (.builtin "getset_descriptor.__get__")))
    (htE : PySem.W.takesIn K (.builtin "object.__class__") = some true)
    (sX_BadOpening_CourtError : PySem.W.subIn K (.ref C_BadOpening) (.ref C_CourtError) = some true)
    (g_DEPTH : PySem.W.nsIn K mainGlobals "DEPTH" = some (some (.int 8 t_DEPTH)))
    (g_MARKS : PySem.W.nsIn K mainGlobals "MARKS" = some (some (.ref a_MARKS)))
    (w_MARKS : K.lookup a_MARKS = some o_MARKS)
    (v_MARKS : Kit.tupB o_MARKS [.str "long", .str "done", .str "divided", .str "place", .str "input", .str "full", .str "bad"] = true)
    (g_MOST_TOLD : PySem.W.nsIn K mainGlobals "MOST_TOLD" = some (some (.int 16 t_MOST_TOLD)))
    (g_MOST_WORD : PySem.W.nsIn K mainGlobals "MOST_WORD" = some (some (.int 65535 t_MOST_WORD)))
    (g_NAMES : PySem.W.nsIn K mainGlobals "NAMES" = some (some (.ref a_NAMES)))
    (w_NAMES : K.lookup a_NAMES = some o_NAMES)
    (v_NAMES : Kit.tupB o_NAMES [.str "bad", .str "halt", .str "lit", .str "load", .str "store", .str "loadx", .str "storex", .str "tox", .str "index", .str "bound", .str "within", .str "not", .str "+", .str "-", .str "*", .str "/", .str "mod", .str "==", .str "!=", .str "<", .str "<=", .str ">", .str ">=", .str "jump", .str "zero", .str "some", .str "call", .str "back", .str "tell"] = true)
    (g_PLACES : PySem.W.nsIn K mainGlobals "PLACES" = some (some (.int 256 t_PLACES)))
    (g_SIGNS : PySem.W.nsIn K mainGlobals "SIGNS" = some (some (.ref a_SIGNS)))
    (w_SIGNS : K.lookup a_SIGNS = some o_SIGNS)
    (v_SIGNS : Kit.tupB o_SIGNS [.str "+", .str "-", .str "*", .str "/", .str "mod", .str "==", .str "!=", .str "<", .str "<=", .str ">", .str ">="] = true)
    (v_cMARKS : o_MARKS.cls = .type "tuple")
    (v_dMARKS : o_MARKS.dict = none)
    (z_all : PySem.W.nsIn K mainGlobals "all" = some none)
    (z_bool : PySem.W.nsIn K mainGlobals "bool" = some none)
    (z_int : PySem.W.nsIn K mainGlobals "int" = some none)
    (z_isinstance : PySem.W.nsIn K mainGlobals "isinstance" = some none)
    (z_len : PySem.W.nsIn K mainGlobals "len" = some none)
    (z_list : PySem.W.nsIn K mainGlobals "list" = some none)
    (z_range : PySem.W.nsIn K mainGlobals "range" = some none)
    (z_tuple : PySem.W.nsIn K mainGlobals "tuple" = some none)
    (z_zip : PySem.W.nsIn K mainGlobals "zip" = some none)
    : ∃ fd : FuncData, (∀ (s : Shared) (v : Value), BindsTo s fd ⟨[v], []⟩ [("script", v)]) ∧ ∀ base : Heap, K.In base → base.Ns mainGlobals mg → FnOk l.prog w K mg base CX0 9 fa fd ["script"] (sp_law K) := by
  have e := hfa.symm.trans (PySem.W.mg_of X G a62)
  have e2 : f62 = fa := by
    injection e with e
    injection e with e
    exact e.symm
  subst e2
  have F0 := fun_mk (st := s_is_integer) l0 c0 k0
  have b0 := F0.binds (ps := ["value", "least", "greatest"]) fun _ _ _ _ _ _ us hl => match us, hl with | [_, _, _], _ => rfl
  have F1 := fun_mk (st := s_is_word) l1 c1 k1
  have b1 := F1.binds (ps := ["value"]) fun _ _ _ _ _ _ us hl => match us, hl with | [_], _ => rfl
  have F2 := fun_mk (st := s_Digests___init) l2 c2 k2
  have b2 := F2.binds (ps := ["self", "bits", "book"]) fun _ _ _ _ _ _ us hl => match us, hl with | [_, _, _], _ => rfl
  have F3 := fun_mk (st := s_Digests_leaf) l3 c3 k3
  have b3 := F3.binds (ps := ["self", "word"]) fun _ _ _ _ _ _ us hl => match us, hl with | [_, _], _ => rfl
  have F4 := fun_mk (st := s_Digests_fold) l4 c4 k4
  have b4 := F4.binds (ps := ["self", "left", "right"]) fun _ _ _ _ _ _ us hl => match us, hl with | [_, _, _], _ => rfl
  have F5 := fun_mk (st := s_Digests_state) l5 c5 k5
  have b5 := F5.binds (ps := ["self", "numbers"]) fun _ _ _ _ _ _ us hl => match us, hl with | [_, _], _ => rfl
  have F6 := fun_mk (st := s_Digests_is_digest) l6 c6 k6
  have b6 := F6.binds (ps := ["self", "value"]) fun _ _ _ _ _ _ us hl => match us, hl with | [_, _], _ => rfl
  have F7 := fun_mk (st := s_Digests__noted) l7 c7 k7
  have b7 := F7.binds (ps := ["self", "kind", "text", "digest"]) fun _ _ _ _ _ _ us hl => match us, hl with | [_, _, _, _], _ => rfl
  have F8 := fun_mk (st := s_Book___init) l8 c8 k8
  have b8 := F8.binds (ps := ["self"]) fun _ _ _ _ _ _ us hl => match us, hl with | [_], _ => rfl
  have F9 := fun_mk (st := s_Book_add) l9 c9 k9
  have b9 := F9.binds (ps := ["self", "kind", "text", "digest"]) fun _ _ _ _ _ _ us hl => match us, hl with | [_, _, _, _], _ => rfl
  have F10 := fun_mk (st := s_Book_has_collision) l10 c10 k10
  have b10 := F10.binds (ps := ["self"]) fun _ _ _ _ _ _ us hl => match us, hl with | [_], _ => rfl
  have F11 := fun_mk (st := s_Book_count) l11 c11 k11
  have b11 := F11.binds (ps := ["self"]) fun _ _ _ _ _ _ us hl => match us, hl with | [_], _ => rfl
  have F12 := fun_mk (st := s_root_by) l12 c12 k12
  have b12 := F12.binds (ps := ["digests", "place", "digest", "path"]) fun _ _ _ _ _ _ us hl => match us, hl with | [_, _, _, _], _ => rfl
  have F13 := fun_mk (st := s_levels_of) l13 c13 k13
  have b13 := F13.binds (ps := ["digests", "row"]) fun _ _ _ _ _ _ us hl => match us, hl with | [_, _], _ => rfl
  have F14 := fun_mk (st := s_path_in) l14 c14 k14
  have b14 := F14.binds (ps := ["levels", "place"]) fun _ _ _ _ _ _ us hl => match us, hl with | [_, _], _ => rfl
  have F15 := fun_mk (st := s_Memory___init) l15 c15 k15
  have b15 := F15.binds (ps := ["self", "digests", "words"]) fun _ _ _ _ _ _ us hl => match us, hl with | [_, _, _], _ => rfl
  have F16 := fun_mk (st := s_Memory_word) l16 c16 k16
  have b16 := F16.binds (ps := ["self", "place"]) fun _ _ _ _ _ _ us hl => match us, hl with | [_, _], _ => rfl
  have F17 := fun_mk (st := s_Memory_change) l17 c17 k17
  have b17 := F17.binds (ps := ["self", "place", "word"]) fun _ _ _ _ _ _ us hl => match us, hl with | [_, _, _], _ => rfl
  have F18 := fun_mk (st := s_Memory_words) l18 c18 k18
  have b18 := F18.binds (ps := ["self"]) fun _ _ _ _ _ _ us hl => match us, hl with | [_], _ => rfl
  have F19 := fun_mk (st := s_Memory_root) l19 c19 k19
  have b19 := F19.binds (ps := ["self"]) fun _ _ _ _ _ _ us hl => match us, hl with | [_], _ => rfl
  have F20 := fun_mk (st := s_Memory_path) l20 c20 k20
  have b20 := F20.binds (ps := ["self", "place"]) fun _ _ _ _ _ _ us hl => match us, hl with | [_, _], _ => rfl
  have F21 := fun_mk (st := s_op) l21 c21 k21
  have b21 := F21.binds (ps := ["sign", "a", "b"]) fun _ _ _ _ _ _ us hl => match us, hl with | [_, _, _], _ => rfl
  have F22 := fun_mk (st := s_divided) l22 c22 k22
  have b22 := F22.binds (ps := ["sign", "a", "b"]) fun _ _ _ _ _ _ us hl => match us, hl with | [_, _, _], _ => rfl
  have F23 := fun_mk (st := s_wrapped) l23 c23 k23
  have b23 := F23.binds (ps := ["sign", "a", "b"]) fun _ _ _ _ _ _ us hl => match us, hl with | [_, _, _], _ => rfl
  have F24 := fun_mk (st := s_holds) l24 c24 k24
  have b24 := F24.binds (ps := ["sign", "a", "b"]) fun _ _ _ _ _ _ us hl => match us, hl with | [_, _, _], _ => rfl
  have F25 := fun_mk (st := s_out_behind) l25 c25 k25
  have b25 := F25.binds (ps := ["digests", "out", "word"]) fun _ _ _ _ _ _ us hl => match us, hl with | [_, _, _], _ => rfl
  have F26 := fun_mk (st := s_name_of) l26 c26 k26
  have b26 := F26.binds (ps := ["word"]) fun _ _ _ _ _ _ us hl => match us, hl with | [_], _ => rfl
  have F27 := fun_mk (st := s_behind) l27 c27 k27
  have b27 := F27.binds (ps := ["place"]) fun _ _ _ _ _ _ us hl => match us, hl with | [_], _ => rfl
  have F28 := fun_mk (st := s_data_of) l28 c28 k28
  have b28 := F28.binds (ps := ["registers", "word"]) fun _ _ _ _ _ _ us hl => match us, hl with | [_, _], _ => rfl
  have F29 := fun_mk (st := s_done_by) l29 c29 k29
  have b29 := F29.binds (ps := ["digests", "registers", "word", "data"]) fun _ _ _ _ _ _ us hl => match us, hl with | [_, _, _, _], _ => rfl
  have F30 := fun_mk (st := s_halt_by) l30 c30 k30
  have b30 := F30.binds (ps := ["name", "registers", "word", "data"]) fun _ _ _ _ _ _ us hl => match us, hl with | [_, _, _, _], _ => rfl
  have F31 := fun_mk (st := s_pc_by) l31 c31 k31
  have b31 := F31.binds (ps := ["name", "registers", "word", "data"]) fun _ _ _ _ _ _ us hl => match us, hl with | [_, _, _, _], _ => rfl
  have F32 := fun_mk (st := s_acc_by) l32 c32 k32
  have b32 := F32.binds (ps := ["name", "registers", "word", "data"]) fun _ _ _ _ _ _ us hl => match us, hl with | [_, _, _, _], _ => rfl
  have F33 := fun_mk (st := s_x_by) l33 c33 k33
  have b33 := F33.binds (ps := ["name", "registers", "data"]) fun _ _ _ _ _ _ us hl => match us, hl with | [_, _, _], _ => rfl
  have F34 := fun_mk (st := s_changed_by) l34 c34 k34
  have b34 := F34.binds (ps := ["name", "registers"]) fun _ _ _ _ _ _ us hl => match us, hl with | [_, _], _ => rfl
  have F35 := fun_mk (st := s_Machine___init) l35 c35 k35
  have b35 := F35.binds (ps := ["self", "digests", "registers", "words"]) fun _ _ _ _ _ _ us hl => match us, hl with | [_, _, _, _], _ => rfl
  have F36 := fun_mk (st := s_Machine_registers) l36 c36 k36
  have b36 := F36.binds (ps := ["self"]) fun _ _ _ _ _ _ us hl => match us, hl with | [_], _ => rfl
  have F37 := fun_mk (st := s_Machine_words) l37 c37 k37
  have b37 := F37.binds (ps := ["self"]) fun _ _ _ _ _ _ us hl => match us, hl with | [_], _ => rfl
  have F38 := fun_mk (st := s_Machine_word) l38 c38 k38
  have b38 := F38.binds (ps := ["self", "place"]) fun _ _ _ _ _ _ us hl => match us, hl with | [_, _], _ => rfl
  have F39 := fun_mk (st := s_Machine_path) l39 c39 k39
  have b39 := F39.binds (ps := ["self", "place"]) fun _ _ _ _ _ _ us hl => match us, hl with | [_, _], _ => rfl
  have F40 := fun_mk (st := s_Machine_root) l40 c40 k40
  have b40 := F40.binds (ps := ["self"]) fun _ _ _ _ _ _ us hl => match us, hl with | [_], _ => rfl
  have F41 := fun_mk (st := s_Machine_digest) l41 c41 k41
  have b41 := F41.binds (ps := ["self"]) fun _ _ _ _ _ _ us hl => match us, hl with | [_], _ => rfl
  have F42 := fun_mk (st := s_Machine_step) l42 c42 k42
  have b42 := F42.binds (ps := ["self"]) fun _ _ _ _ _ _ us hl => match us, hl with | [_], _ => rfl
  have F43 := fun_mk (st := s_Machine_told) l43 c43 k43
  have b43 := F43.binds (ps := ["self"]) fun _ _ _ _ _ _ us hl => match us, hl with | [_], _ => rfl
  have F44 := fun_mk (st := s_opened) l44 c44 k44
  have b44 := F44.binds (ps := ["machine"]) fun _ _ _ _ _ _ us hl => match us, hl with | [_], _ => rfl
  have F45 := fun_mk (st := s_places_of) l45 c45 k45
  have b45 := F45.binds (ps := ["registers", "word"]) fun _ _ _ _ _ _ us hl => match us, hl with | [_, _], _ => rfl
  have F46 := fun_mk (st := s_step_of) l46 c46 k46
  have b46 := F46.binds (ps := ["digests", "digest", "opening"]) fun _ _ _ _ _ _ us hl => match us, hl with | [_, _, _], _ => rfl
  have F47 := fun_mk (st := s_step_by) l47 c47 k47
  have b47 := F47.binds (ps := ["digests", "registers", "root", "parts"]) fun _ _ _ _ _ _ us hl => match us, hl with | [_, _, _, _], _ => rfl
  have F48 := fun_mk (st := s_root_with) l48 c48 k48
  have b48 := F48.binds (ps := ["digests", "place", "word", "path"]) fun _ _ _ _ _ _ us hl => match us, hl with | [_, _, _, _], _ => rfl
  have F49 := fun_mk (st := s_is_opening) l49 c49 k49
  have b49 := F49.binds (ps := ["digests", "value"]) fun _ _ _ _ _ _ us hl => match us, hl with | [_, _], _ => rfl
  have F50 := fun_mk (st := s_is_part) l50 c50 k50
  have b50 := F50.binds (ps := ["digests", "value"]) fun _ _ _ _ _ _ us hl => match us, hl with | [_, _], _ => rfl
  have F51 := fun_mk (st := s_are_registers) l51 c51 k51
  have b51 := F51.binds (ps := ["digests", "value"]) fun _ _ _ _ _ _ us hl => match us, hl with | [_, _], _ => rfl
  have F52 := fun_mk (st := s_law_bag) l52 c52 k52
  have b52 := F52.binds (ps := ["script"]) fun _ _ _ _ _ _ us hl => match us, hl with | [_], _ => rfl
  have F53 := fun_mk (st := s_law_draw) l53 c53 k53
  have b53 := F53.binds (ps := ["bag", "many"]) fun _ _ _ _ _ _ us hl => match us, hl with | [_, _], _ => rfl
  have F54 := fun_mk (st := s_law_word) l54 c54 k54
  have b54 := F54.binds (ps := ["bag"]) fun _ _ _ _ _ _ us hl => match us, hl with | [_], _ => rfl
  have F55 := fun_mk (st := s_law_words) l55 c55 k55
  have b55 := F55.binds (ps := ["bag"]) fun _ _ _ _ _ _ us hl => match us, hl with | [_], _ => rfl
  have F56 := fun_mk (st := s_law_start) l56 c56 k56
  have b56 := F56.binds (ps := ["bag", "m"]) fun _ _ _ _ _ _ us hl => match us, hl with | [_, _], _ => rfl
  have F57 := fun_mk (st := s_law_put) l57 c57 k57
  have b57 := F57.binds (ps := ["row", "place", "value"]) fun _ _ _ _ _ _ us hl => match us, hl with | [_, _, _], _ => rfl
  have F58 := fun_mk (st := s_law_registers_turned) l58 c58 k58
  have b58 := F58.binds (ps := ["bag", "m", "registers"]) fun _ _ _ _ _ _ us hl => match us, hl with | [_, _, _], _ => rfl
  have F59 := fun_mk (st := s_law_part_turned) l59 c59 k59
  have b59 := F59.binds (ps := ["bag", "m", "part"]) fun _ _ _ _ _ _ us hl => match us, hl with | [_, _, _], _ => rfl
  have F60 := fun_mk (st := s_law_turned) l60 c60 k60
  have b60 := F60.binds (ps := ["bag", "m", "opening", "others"]) fun _ _ _ _ _ _ us hl => match us, hl with | [_, _, _, _], _ => rfl
  have F61 := fun_mk (st := s_law_told) l61 c61 k61
  have b61 := F61.binds (ps := ["digests", "digest", "opening"]) fun _ _ _ _ _ _ us hl => match us, hl with | [_, _, _], _ => rfl
  have F62 := fun_mk (st := s_law) l62 c62 k62
  have b62 := F62.binds (ps := ["script"]) fun _ _ _ _ _ _ us hl => match us, hl with | [_], _ => rfl
  let T : Txt K mg := {
    f_is_integer := ⟨⟨f0, _, F0, b0⟩, PySem.W.mg_of X G a0⟩
    f_is_word := ⟨⟨f1, _, F1, b1⟩, PySem.W.mg_of X G a1⟩
    f_Digests___init := ⟨f2, _, F2, b2⟩
    f_Digests_leaf := ⟨f3, _, F3, b3⟩
    f_Digests_fold := ⟨f4, _, F4, b4⟩
    f_Digests_state := ⟨f5, _, F5, b5⟩
    f_Digests_is_digest := ⟨f6, _, F6, b6⟩
    f_Digests__noted := ⟨f7, _, F7, b7⟩
    f_Book___init := ⟨f8, _, F8, b8⟩
    f_Book_add := ⟨f9, _, F9, b9⟩
    f_Book_has_collision := ⟨f10, _, F10, b10⟩
    f_Book_count := ⟨f11, _, F11, b11⟩
    f_root_by := ⟨⟨f12, _, F12, b12⟩, PySem.W.mg_of X G a12⟩
    f_levels_of := ⟨⟨f13, _, F13, b13⟩, PySem.W.mg_of X G a13⟩
    f_path_in := ⟨⟨f14, _, F14, b14⟩, PySem.W.mg_of X G a14⟩
    f_Memory___init := ⟨f15, _, F15, b15⟩
    f_Memory_word := ⟨f16, _, F16, b16⟩
    f_Memory_change := ⟨f17, _, F17, b17⟩
    f_Memory_words := ⟨f18, _, F18, b18⟩
    f_Memory_root := ⟨f19, _, F19, b19⟩
    f_Memory_path := ⟨f20, _, F20, b20⟩
    f_op := ⟨⟨f21, _, F21, b21⟩, PySem.W.mg_of X G a21⟩
    f_divided := ⟨⟨f22, _, F22, b22⟩, PySem.W.mg_of X G a22⟩
    f_wrapped := ⟨⟨f23, _, F23, b23⟩, PySem.W.mg_of X G a23⟩
    f_holds := ⟨⟨f24, _, F24, b24⟩, PySem.W.mg_of X G a24⟩
    f_out_behind := ⟨⟨f25, _, F25, b25⟩, PySem.W.mg_of X G a25⟩
    f_name_of := ⟨⟨f26, _, F26, b26⟩, PySem.W.mg_of X G a26⟩
    f_behind := ⟨⟨f27, _, F27, b27⟩, PySem.W.mg_of X G a27⟩
    f_data_of := ⟨⟨f28, _, F28, b28⟩, PySem.W.mg_of X G a28⟩
    f_done_by := ⟨⟨f29, _, F29, b29⟩, PySem.W.mg_of X G a29⟩
    f_halt_by := ⟨⟨f30, _, F30, b30⟩, PySem.W.mg_of X G a30⟩
    f_pc_by := ⟨⟨f31, _, F31, b31⟩, PySem.W.mg_of X G a31⟩
    f_acc_by := ⟨⟨f32, _, F32, b32⟩, PySem.W.mg_of X G a32⟩
    f_x_by := ⟨⟨f33, _, F33, b33⟩, PySem.W.mg_of X G a33⟩
    f_changed_by := ⟨⟨f34, _, F34, b34⟩, PySem.W.mg_of X G a34⟩
    f_Machine___init := ⟨f35, _, F35, b35⟩
    f_Machine_registers := ⟨f36, _, F36, b36⟩
    f_Machine_words := ⟨f37, _, F37, b37⟩
    f_Machine_word := ⟨f38, _, F38, b38⟩
    f_Machine_path := ⟨f39, _, F39, b39⟩
    f_Machine_root := ⟨f40, _, F40, b40⟩
    f_Machine_digest := ⟨f41, _, F41, b41⟩
    f_Machine_step := ⟨f42, _, F42, b42⟩
    f_Machine_told := ⟨f43, _, F43, b43⟩
    f_opened := ⟨⟨f44, _, F44, b44⟩, PySem.W.mg_of X G a44⟩
    f_places_of := ⟨⟨f45, _, F45, b45⟩, PySem.W.mg_of X G a45⟩
    f_step_of := ⟨⟨f46, _, F46, b46⟩, PySem.W.mg_of X G a46⟩
    f_step_by := ⟨⟨f47, _, F47, b47⟩, PySem.W.mg_of X G a47⟩
    f_root_with := ⟨⟨f48, _, F48, b48⟩, PySem.W.mg_of X G a48⟩
    f_is_opening := ⟨⟨f49, _, F49, b49⟩, PySem.W.mg_of X G a49⟩
    f_is_part := ⟨⟨f50, _, F50, b50⟩, PySem.W.mg_of X G a50⟩
    f_are_registers := ⟨⟨f51, _, F51, b51⟩, PySem.W.mg_of X G a51⟩
    f_law_bag := ⟨⟨f52, _, F52, b52⟩, PySem.W.mg_of X G a52⟩
    f_law_draw := ⟨⟨f53, _, F53, b53⟩, PySem.W.mg_of X G a53⟩
    f_law_word := ⟨⟨f54, _, F54, b54⟩, PySem.W.mg_of X G a54⟩
    f_law_words := ⟨⟨f55, _, F55, b55⟩, PySem.W.mg_of X G a55⟩
    f_law_start := ⟨⟨f56, _, F56, b56⟩, PySem.W.mg_of X G a56⟩
    f_law_put := ⟨⟨f57, _, F57, b57⟩, PySem.W.mg_of X G a57⟩
    f_law_registers_turned := ⟨⟨f58, _, F58, b58⟩, PySem.W.mg_of X G a58⟩
    f_law_part_turned := ⟨⟨f59, _, F59, b59⟩, PySem.W.mg_of X G a59⟩
    f_law_turned := ⟨⟨f60, _, F60, b60⟩, PySem.W.mg_of X G a60⟩
    f_law_told := ⟨⟨f61, _, F61, b61⟩, PySem.W.mg_of X G a61⟩
    f_law := ⟨⟨f62, _, F62, b62⟩, PySem.W.mg_of X G a62⟩
    c_Digests := ⟨C_Digests, ⟨pg_Digests, hd_Digests, po_Digests, sa_Digests⟩, ⟨mk_Digests, a2, i2, kc_Digests⟩, PySem.W.mg_of X G aC_Digests⟩
    m_Digests_leaf := ⟨a3, i3, k3⟩
    m_Digests_fold := ⟨a4, i4, k4⟩
    m_Digests_state := ⟨a5, i5, k5⟩
    m_Digests_is_digest := ⟨a6, i6, k6⟩
    m_Digests__noted := ⟨a7, i7, k7⟩
    n_Digests_bits := n_Digests_bits
    n_Digests_book := n_Digests_book
    n_Digests_modulus := n_Digests_modulus
    c_Book := ⟨C_Book, ⟨pg_Book, hd_Book, po_Book, sa_Book⟩, ⟨mk_Book, a8, i8, kc_Book⟩, PySem.W.mg_of X G aC_Book⟩
    m_Book_add := ⟨a9, i9, k9⟩
    m_Book_has_collision := ⟨a10, i10, k10⟩
    m_Book_count := ⟨a11, i11, k11⟩
    n_Book_texts := n_Book_texts
    n_Book_firsts := n_Book_firsts
    n_Book_collided := n_Book_collided
    c_Memory := ⟨C_Memory, ⟨pg_Memory, hd_Memory, po_Memory, sa_Memory⟩, ⟨mk_Memory, a15, i15, kc_Memory⟩, PySem.W.mg_of X G aC_Memory⟩
    m_Memory_word := ⟨a16, i16, k16⟩
    m_Memory_change := ⟨a17, i17, k17⟩
    m_Memory_words := ⟨a18, i18, k18⟩
    m_Memory_root := ⟨a19, i19, k19⟩
    m_Memory_path := ⟨a20, i20, k20⟩
    n_Memory_digests := n_Memory_digests
    n_Memory_words := n_Memory_words
    n_Memory_levels := n_Memory_levels
    c_Machine := ⟨C_Machine, ⟨pg_Machine, hd_Machine, po_Machine, sa_Machine⟩, ⟨mk_Machine, a35, i35, kc_Machine⟩, PySem.W.mg_of X G aC_Machine⟩
    m_Machine_registers := ⟨a36, i36, k36⟩
    m_Machine_words := ⟨a37, i37, k37⟩
    m_Machine_word := ⟨a38, i38, k38⟩
    m_Machine_path := ⟨a39, i39, k39⟩
    m_Machine_root := ⟨a40, i40, k40⟩
    m_Machine_digest := ⟨a41, i41, k41⟩
    m_Machine_step := ⟨a42, i42, k42⟩
    m_Machine_told := ⟨a43, i43, k43⟩
    n_Machine_digests := n_Machine_digests
    n_Machine_registers := n_Machine_registers
    n_Machine_memory := n_Machine_memory
    n_Machine_told := n_Machine_told
    t_DEPTH := t_DEPTH
    g_DEPTH := PySem.W.mg_of X G g_DEPTH
    a_MARKS := a_MARKS
    g_MARKS := PySem.W.mg_of X G g_MARKS
    w_MARKS := Kit.ktup_of w_MARKS v_MARKS
    t_MOST_TOLD := t_MOST_TOLD
    g_MOST_TOLD := PySem.W.mg_of X G g_MOST_TOLD
    t_MOST_WORD := t_MOST_WORD
    g_MOST_WORD := PySem.W.mg_of X G g_MOST_WORD
    a_NAMES := a_NAMES
    g_NAMES := PySem.W.mg_of X G g_NAMES
    w_NAMES := Kit.ktup_of w_NAMES v_NAMES
    t_PLACES := t_PLACES
    g_PLACES := PySem.W.mg_of X G g_PLACES
    a_SIGNS := a_SIGNS
    g_SIGNS := PySem.W.mg_of X G g_SIGNS
    w_SIGNS := Kit.ktup_of w_SIGNS v_SIGNS
    e_CourtError := ⟨C_CourtError, PySem.W.mg_of X G aX_CourtError, xX_CourtError, kX_CourtError, bX_CourtError, tX_CourtError, Kit.exm_own bX_CourtError iX_CourtError tX_CourtError sX_CourtError⟩
    e_BadOpening := ⟨C_BadOpening, PySem.W.mg_of X G aX_BadOpening, xX_BadOpening, kX_BadOpening, bX_BadOpening, tX_BadOpening, Kit.exm_own bX_BadOpening iX_BadOpening tX_BadOpening sX_BadOpening⟩
    x_BadOpening := ⟨hgE_BadOpening, hkE_BadOpening, bX_BadOpening, hdE_BadOpening, haE_BadOpening, hnE, htE, hmE_BadOpening⟩
    p_BadOpening_CourtError := Kit.exm_pair bX_CourtError iX_CourtError tX_CourtError sX_BadOpening_CourtError
    y_MARKS := ⟨o_MARKS, w_MARKS, v_cMARKS, v_dMARKS⟩
    z_all := PySem.W.mg_none_of X G z_all
    z_bool := PySem.W.mg_none_of X G z_bool
    z_int := PySem.W.mg_none_of X G z_int
    z_isinstance := PySem.W.mg_none_of X G z_isinstance
    z_len := PySem.W.mg_none_of X G z_len
    z_list := PySem.W.mg_none_of X G z_list
    z_range := PySem.W.mg_none_of X G z_range
    z_tuple := PySem.W.mg_none_of X G z_tuple
    z_zip := PySem.W.mg_none_of X G z_zip }
  exact ⟨PySem.W.fnOf "law" "law" (defArgs s_law) (defBody s_law) (defScope s_law) .none kV62 dc62 pm62 an62 cd62 ct62, fun s v => .of_eq rfl, fun base _ _ => ok_law T⟩
end My
open PySem PySem.W PyProof.Rows
set_option maxHeartbeats 0 in
theorem PySem.Challenge.cw_onestepcourt_k21_whole_no_other_opening_holds : PySem.Challenge.rw_onestepcourt_k21_whole_no_other_opening.Holds := by
  w_on; o_law; k_head; (case hw => w_witness2)
  k_fill
  refine L2.walk_of (l := PySem.Challenge.rw_onestepcourt_k21_whole_no_other_opening) (n := 63) (k := 9) (x := "script") (CX := fun _ => L2.CX0) (sp := fun w => My.sp_law _) rfl (by decide) rfl ⟨rfl, by decide, by decide⟩ (fun w h Y => PySem.W.kIn_of Y) ?F (fun _ _ a ns hl _ hS => My.sp_law_of hl hS) (fun _ _ _ _ _ h => h)
  case F =>
    intro w mg fa h KX G hmg
    refine' My.all_mk KX G hmg ?aC_Machine ?aC_Memory ?aC_Book ?aC_Digests ?a0 ?l0 ?c0 ?k0 ?a1 ?l1 ?c1 ?k1 ?a2 ?i2 ?l2 ?c2 ?k2 ?a3 ?i3 ?l3 ?c3 ?k3 ?a4 ?i4 ?l4 ?c4 ?k4 ?a5 ?i5 ?l5 ?c5 ?k5 ?a6 ?i6 ?l6 ?c6 ?k6 ?a7 ?i7 ?l7 ?c7 ?k7 ?a8 ?i8 ?l8 ?c8 ?k8 ?a9 ?i9 ?l9 ?c9 ?k9 ?a10 ?i10 ?l10 ?c10 ?k10 ?a11 ?i11 ?l11 ?c11 ?k11 ?a12 ?l12 ?c12 ?k12 ?a13 ?l13 ?c13 ?k13 ?a14 ?l14 ?c14 ?k14 ?a15 ?i15 ?l15 ?c15 ?k15 ?a16 ?i16 ?l16 ?c16 ?k16 ?a17 ?i17 ?l17 ?c17 ?k17 ?a18 ?i18 ?l18 ?c18 ?k18 ?a19 ?i19 ?l19 ?c19 ?k19 ?a20 ?i20 ?l20 ?c20 ?k20 ?a21 ?l21 ?c21 ?k21 ?a22 ?l22 ?c22 ?k22 ?a23 ?l23 ?c23 ?k23 ?a24 ?l24 ?c24 ?k24 ?a25 ?l25 ?c25 ?k25 ?a26 ?l26 ?c26 ?k26 ?a27 ?l27 ?c27 ?k27 ?a28 ?l28 ?c28 ?k28 ?a29 ?l29 ?c29 ?k29 ?a30 ?l30 ?c30 ?k30 ?a31 ?l31 ?c31 ?k31 ?a32 ?l32 ?c32 ?k32 ?a33 ?l33 ?c33 ?k33 ?a34 ?l34 ?c34 ?k34 ?a35 ?i35 ?l35 ?c35 ?k35 ?a36 ?i36 ?l36 ?c36 ?k36 ?a37 ?i37 ?l37 ?c37 ?k37 ?a38 ?i38 ?l38 ?c38 ?k38 ?a39 ?i39 ?l39 ?c39 ?k39 ?a40 ?i40 ?l40 ?c40 ?k40 ?a41 ?i41 ?l41 ?c41 ?k41 ?a42 ?i42 ?l42 ?c42 ?k42 ?a43 ?i43 ?l43 ?c43 ?k43 ?a44 ?l44 ?c44 ?k44 ?a45 ?l45 ?c45 ?k45 ?a46 ?l46 ?c46 ?k46 ?a47 ?l47 ?c47 ?k47 ?a48 ?l48 ?c48 ?k48 ?a49 ?l49 ?c49 ?k49 ?a50 ?l50 ?c50 ?k50 ?a51 ?l51 ?c51 ?k51 ?a52 ?l52 ?c52 ?k52 ?a53 ?l53 ?c53 ?k53 ?a54 ?l54 ?c54 ?k54 ?a55 ?l55 ?c55 ?k55 ?a56 ?l56 ?c56 ?k56 ?a57 ?l57 ?c57 ?k57 ?a58 ?l58 ?c58 ?k58 ?a59 ?l59 ?c59 ?k59 ?a60 ?l60 ?c60 ?k60 ?a61 ?l61 ?c61 ?k61 ?a62 ?l62 ?c62 ?k62 ?pg_Digests ?hd_Digests ?po_Digests ?sa_Digests ?mk_Digests ?kc_Digests ?n_Digests_bits ?n_Digests_book ?n_Digests_modulus ?pg_Book ?hd_Book ?po_Book ?sa_Book ?mk_Book ?kc_Book ?n_Book_texts ?n_Book_firsts ?n_Book_collided ?pg_Memory ?hd_Memory ?po_Memory ?sa_Memory ?mk_Memory ?kc_Memory ?n_Memory_digests ?n_Memory_words ?n_Memory_levels ?pg_Machine ?hd_Machine ?po_Machine ?sa_Machine ?mk_Machine ?kc_Machine ?n_Machine_digests ?n_Machine_registers ?n_Machine_memory ?n_Machine_told ?aX_CourtError ?xX_CourtError ?kX_CourtError ?bX_CourtError ?tX_CourtError ?iX_CourtError ?sX_CourtError ?aX_BadOpening ?xX_BadOpening ?kX_BadOpening ?bX_BadOpening ?tX_BadOpening ?iX_BadOpening ?sX_BadOpening ?hgE_BadOpening ?hkE_BadOpening ?hdE_BadOpening ?haE_BadOpening ?hmE_BadOpening ?hnE ?htE ?sX_BadOpening_CourtError ?g_DEPTH ?g_MARKS ?w_MARKS ?v_MARKS ?g_MOST_TOLD ?g_MOST_WORD ?g_NAMES ?w_NAMES ?v_NAMES ?g_PLACES ?g_SIGNS ?w_SIGNS ?v_SIGNS ?v_cMARKS ?v_dMARKS ?z_all ?z_bool ?z_int ?z_isinstance ?z_len ?z_list ?z_range ?z_tuple ?z_zip
    (case aC_Machine => k_is)
    (case aC_Memory => k_is)
    (case aC_Book => k_is)
    (case aC_Digests => k_is)
    (case a0 => k_is)
    (case l0 => k_is)
    (case c0 => k_is)
    (case k0 => k_is)
    (case a1 => k_is)
    (case l1 => k_is)
    (case c1 => k_is)
    (case k1 => k_is)
    (case a2 => k_is)
    (case i2 => k_is)
    (case l2 => k_is)
    (case c2 => k_is)
    (case k2 => k_is)
    (case a3 => k_is)
    (case i3 => k_is)
    (case l3 => k_is)
    (case c3 => k_is)
    (case k3 => k_is)
    (case a4 => k_is)
    (case i4 => k_is)
    (case l4 => k_is)
    (case c4 => k_is)
    (case k4 => k_is)
    (case a5 => k_is)
    (case i5 => k_is)
    (case l5 => k_is)
    (case c5 => k_is)
    (case k5 => k_is)
    (case a6 => k_is)
    (case i6 => k_is)
    (case l6 => k_is)
    (case c6 => k_is)
    (case k6 => k_is)
    (case a7 => k_is)
    (case i7 => k_is)
    (case l7 => k_is)
    (case c7 => k_is)
    (case k7 => k_is)
    (case a8 => k_is)
    (case i8 => k_is)
    (case l8 => k_is)
    (case c8 => k_is)
    (case k8 => k_is)
    (case a9 => k_is)
    (case i9 => k_is)
    (case l9 => k_is)
    (case c9 => k_is)
    (case k9 => k_is)
    (case a10 => k_is)
    (case i10 => k_is)
    (case l10 => k_is)
    (case c10 => k_is)
    (case k10 => k_is)
    (case a11 => k_is)
    (case i11 => k_is)
    (case l11 => k_is)
    (case c11 => k_is)
    (case k11 => k_is)
    (case a12 => k_is)
    (case l12 => k_is)
    (case c12 => k_is)
    (case k12 => k_is)
    (case a13 => k_is)
    (case l13 => k_is)
    (case c13 => k_is)
    (case k13 => k_is)
    (case a14 => k_is)
    (case l14 => k_is)
    (case c14 => k_is)
    (case k14 => k_is)
    (case a15 => k_is)
    (case i15 => k_is)
    (case l15 => k_is)
    (case c15 => k_is)
    (case k15 => k_is)
    (case a16 => k_is)
    (case i16 => k_is)
    (case l16 => k_is)
    (case c16 => k_is)
    (case k16 => k_is)
    (case a17 => k_is)
    (case i17 => k_is)
    (case l17 => k_is)
    (case c17 => k_is)
    (case k17 => k_is)
    (case a18 => k_is)
    (case i18 => k_is)
    (case l18 => k_is)
    (case c18 => k_is)
    (case k18 => k_is)
    (case a19 => k_is)
    (case i19 => k_is)
    (case l19 => k_is)
    (case c19 => k_is)
    (case k19 => k_is)
    (case a20 => k_is)
    (case i20 => k_is)
    (case l20 => k_is)
    (case c20 => k_is)
    (case k20 => k_is)
    (case a21 => k_is)
    (case l21 => k_is)
    (case c21 => k_is)
    (case k21 => k_is)
    (case a22 => k_is)
    (case l22 => k_is)
    (case c22 => k_is)
    (case k22 => k_is)
    (case a23 => k_is)
    (case l23 => k_is)
    (case c23 => k_is)
    (case k23 => k_is)
    (case a24 => k_is)
    (case l24 => k_is)
    (case c24 => k_is)
    (case k24 => k_is)
    (case a25 => k_is)
    (case l25 => k_is)
    (case c25 => k_is)
    (case k25 => k_is)
    (case a26 => k_is)
    (case l26 => k_is)
    (case c26 => k_is)
    (case k26 => k_is)
    (case a27 => k_is)
    (case l27 => k_is)
    (case c27 => k_is)
    (case k27 => k_is)
    (case a28 => k_is)
    (case l28 => k_is)
    (case c28 => k_is)
    (case k28 => k_is)
    (case a29 => k_is)
    (case l29 => k_is)
    (case c29 => k_is)
    (case k29 => k_is)
    (case a30 => k_is)
    (case l30 => k_is)
    (case c30 => k_is)
    (case k30 => k_is)
    (case a31 => k_is)
    (case l31 => k_is)
    (case c31 => k_is)
    (case k31 => k_is)
    (case a32 => k_is)
    (case l32 => k_is)
    (case c32 => k_is)
    (case k32 => k_is)
    (case a33 => k_is)
    (case l33 => k_is)
    (case c33 => k_is)
    (case k33 => k_is)
    (case a34 => k_is)
    (case l34 => k_is)
    (case c34 => k_is)
    (case k34 => k_is)
    (case a35 => k_is)
    (case i35 => k_is)
    (case l35 => k_is)
    (case c35 => k_is)
    (case k35 => k_is)
    (case a36 => k_is)
    (case i36 => k_is)
    (case l36 => k_is)
    (case c36 => k_is)
    (case k36 => k_is)
    (case a37 => k_is)
    (case i37 => k_is)
    (case l37 => k_is)
    (case c37 => k_is)
    (case k37 => k_is)
    (case a38 => k_is)
    (case i38 => k_is)
    (case l38 => k_is)
    (case c38 => k_is)
    (case k38 => k_is)
    (case a39 => k_is)
    (case i39 => k_is)
    (case l39 => k_is)
    (case c39 => k_is)
    (case k39 => k_is)
    (case a40 => k_is)
    (case i40 => k_is)
    (case l40 => k_is)
    (case c40 => k_is)
    (case k40 => k_is)
    (case a41 => k_is)
    (case i41 => k_is)
    (case l41 => k_is)
    (case c41 => k_is)
    (case k41 => k_is)
    (case a42 => k_is)
    (case i42 => k_is)
    (case l42 => k_is)
    (case c42 => k_is)
    (case k42 => k_is)
    (case a43 => k_is)
    (case i43 => k_is)
    (case l43 => k_is)
    (case c43 => k_is)
    (case k43 => k_is)
    (case a44 => k_is)
    (case l44 => k_is)
    (case c44 => k_is)
    (case k44 => k_is)
    (case a45 => k_is)
    (case l45 => k_is)
    (case c45 => k_is)
    (case k45 => k_is)
    (case a46 => k_is)
    (case l46 => k_is)
    (case c46 => k_is)
    (case k46 => k_is)
    (case a47 => k_is)
    (case l47 => k_is)
    (case c47 => k_is)
    (case k47 => k_is)
    (case a48 => k_is)
    (case l48 => k_is)
    (case c48 => k_is)
    (case k48 => k_is)
    (case a49 => k_is)
    (case l49 => k_is)
    (case c49 => k_is)
    (case k49 => k_is)
    (case a50 => k_is)
    (case l50 => k_is)
    (case c50 => k_is)
    (case k50 => k_is)
    (case a51 => k_is)
    (case l51 => k_is)
    (case c51 => k_is)
    (case k51 => k_is)
    (case a52 => k_is)
    (case l52 => k_is)
    (case c52 => k_is)
    (case k52 => k_is)
    (case a53 => k_is)
    (case l53 => k_is)
    (case c53 => k_is)
    (case k53 => k_is)
    (case a54 => k_is)
    (case l54 => k_is)
    (case c54 => k_is)
    (case k54 => k_is)
    (case a55 => k_is)
    (case l55 => k_is)
    (case c55 => k_is)
    (case k55 => k_is)
    (case a56 => k_is)
    (case l56 => k_is)
    (case c56 => k_is)
    (case k56 => k_is)
    (case a57 => k_is)
    (case l57 => k_is)
    (case c57 => k_is)
    (case k57 => k_is)
    (case a58 => k_is)
    (case l58 => k_is)
    (case c58 => k_is)
    (case k58 => k_is)
    (case a59 => k_is)
    (case l59 => k_is)
    (case c59 => k_is)
    (case k59 => k_is)
    (case a60 => k_is)
    (case l60 => k_is)
    (case c60 => k_is)
    (case k60 => k_is)
    (case a61 => k_is)
    (case l61 => k_is)
    (case c61 => k_is)
    (case k61 => k_is)
    (case a62 => k_is)
    (case l62 => k_is)
    (case c62 => k_is)
    (case k62 => k_is)
    (case pg_Digests => k_is)
    (case hd_Digests => k_is)
    (case po_Digests => k_is)
    (case sa_Digests => k_is)
    (case mk_Digests => k_is)
    (case kc_Digests => k_is)
    (case n_Digests_bits => k_is)
    (case n_Digests_book => k_is)
    (case n_Digests_modulus => k_is)
    (case pg_Book => k_is)
    (case hd_Book => k_is)
    (case po_Book => k_is)
    (case sa_Book => k_is)
    (case mk_Book => k_is)
    (case kc_Book => k_is)
    (case n_Book_texts => k_is)
    (case n_Book_firsts => k_is)
    (case n_Book_collided => k_is)
    (case pg_Memory => k_is)
    (case hd_Memory => k_is)
    (case po_Memory => k_is)
    (case sa_Memory => k_is)
    (case mk_Memory => k_is)
    (case kc_Memory => k_is)
    (case n_Memory_digests => k_is)
    (case n_Memory_words => k_is)
    (case n_Memory_levels => k_is)
    (case pg_Machine => k_is)
    (case hd_Machine => k_is)
    (case po_Machine => k_is)
    (case sa_Machine => k_is)
    (case mk_Machine => k_is)
    (case kc_Machine => k_is)
    (case n_Machine_digests => k_is)
    (case n_Machine_registers => k_is)
    (case n_Machine_memory => k_is)
    (case n_Machine_told => k_is)
    (case aX_CourtError => k_is)
    (case xX_CourtError => k_exc)
    (case kX_CourtError => k_is)
    (case bX_CourtError => k_is)
    (case tX_CourtError => k_is)
    (case iX_CourtError => k_is)
    (case sX_CourtError => first | rfl | k_is)
    (case aX_BadOpening => k_is)
    (case xX_BadOpening => k_exc)
    (case kX_BadOpening => k_is)
    (case bX_BadOpening => k_is)
    (case tX_BadOpening => k_is)
    (case iX_BadOpening => k_is)
    (case sX_BadOpening => first | rfl | k_is)
    (case hgE_BadOpening => k_is)
    (case hkE_BadOpening => k_is)
    (case hdE_BadOpening => k_is)
    (case haE_BadOpening => k_is)
    (case hmE_BadOpening => k_is)
    (case hnE => k_is)
    (case htE => k_is)
    (case sX_BadOpening_CourtError => first | rfl | k_is)
    (case g_DEPTH => k_is)
    (case g_MARKS => k_is)
    (case w_MARKS => k_is)
    (case v_MARKS => first | rfl | with_unfolding_all rfl | kernel_rfl)
    (case g_MOST_TOLD => k_is)
    (case g_MOST_WORD => k_is)
    (case g_NAMES => k_is)
    (case w_NAMES => k_is)
    (case v_NAMES => first | rfl | with_unfolding_all rfl | kernel_rfl)
    (case g_PLACES => k_is)
    (case g_SIGNS => k_is)
    (case w_SIGNS => k_is)
    (case v_SIGNS => first | rfl | with_unfolding_all rfl | kernel_rfl)
    (case v_cMARKS => first | rfl | with_unfolding_all rfl | kernel_rfl)
    (case v_dMARKS => first | rfl | with_unfolding_all rfl | kernel_rfl)
    (case z_all => k_is)
    (case z_bool => k_is)
    (case z_int => k_is)
    (case z_isinstance => k_is)
    (case z_len => k_is)
    (case z_list => k_is)
    (case z_range => k_is)
    (case z_tuple => k_is)
    (case z_zip => k_is)


